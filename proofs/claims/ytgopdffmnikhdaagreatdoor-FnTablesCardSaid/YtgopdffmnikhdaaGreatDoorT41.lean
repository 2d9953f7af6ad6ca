import Derived.Test.YtgopdffmnikhdaaGreatDoorT33
import Derived.Test.YtgopdffmnikhdaaGreatDoorT31
import Derived.Test.YtgopdffmnikhdaaGreatDoorT32
import Derived.Test.YtgopdffmnikhdaaGreatDoorT34
import Derived.Test.YtgopdffmnikhdaaGreatDoorT40
import Derived.Test.YtgopdffmnikhdaaGreatDoorT29
import Derived.Test.YtgopdffmnikhdaaGreatDoorT25
import Derived.Test.YtgopdffmnikhdaaGreatDoorT23
namespace Go.Proofs.YtgopdffmnikhdaaGreatDoor
open Go.RowKit Go.Deep
noncomputable def pcSS:Code:=pathC [1,1,1,1] (Tryz.f253.body.getD .skip)
def stepR (ps:List Pd) (n:Nd) (i:Nat) (s:St) (c:Cf):Except (Nat × Nat) Cf:=match stepI ps n i s with | .bad k=>.error (k,i) | .go y=>followF c y
theorem stepR_go {ps:List Pd} {n:Nd} {i:Nat} {s:St} {c:Cf} {rd:Rd} {opN:Nat} {rs:List Nat} (hop:n.op.toNat=opN) (hfo:formOf opN=rs) (hrd:rdsI rs n.fs ⟨s.types,[],[]⟩=some rd) (hub:upsBoxedB s.types (fnUps ps n)=true) (hgf:gfitB n s.guards=true) :
  stepR ps n i s c=if stayB (maxKeep s.guards) rd.taken s.types (wrsI rs n.fs rd.types) then followF c (folF n i s (wrsI rs n.fs rd.types) (gbehF n s.guards)) else .error (12,i):=by
 subst hop hfo
 unfold stepR stepI
 rw [hrd]
 dsimp only [Option.map,Rd.two]
 rw [hub,if_pos rfl,hgf,if_pos rfl]
 by_cases hst:stayB (maxKeep s.guards) rd.taken s.types (wrsI (formOf n.op.toNat) n.fs rd.types)=true
 ·rw [if_pos hst,if_pos hst]
 ·rw [if_neg hst,if_neg hst]
theorem rdsI_lens:∀{rs:List Nat} {xs:List Int} {s s':Rd},rdsI rs xs s=some s'→s'.types.length=s.types.length∧s'.taken.length≤s.taken.length+rs.length
 | [],_,s,s',h=>by unfold rdsI at h;obtain rfl:=Option.some.inj h;simp
 | _::_,[],s,s',h=>by unfold rdsI at h;obtain rfl:=Option.some.inj h;simp
 | r::rs,x::xs,s,s',h=>by
  unfold rdsI at h
  cases h1:rdI r x s with
  | none=>rw [h1] at h;cases h
  | some s1=>
   rw [h1] at h
   obtain⟨a1,a2⟩:=rdsI_lens (rs:=rs) (xs:=xs) h
   obtain⟨b1,b2,b3⟩:=rdI_len h1
   exact⟨a1.trans b1,by simp;omega⟩
set_option maxRecDepth 1000000 in
set_option maxHeartbeats 8000000 in
theorem stp_sw (w0:World) (B L vb sb db:Nat) (cao:Option Addr) (ccap:Nat) (ps:List Pd) (p:Pd) (h:Ph) (c:Cf) (l i m:Nat) (op na nb nc nd:Int) (s:St) (ao ago:Option Addr) (ac agc b0 x5 x6 x7:Nat) (t0 t1' t2 t3:TypeId) (v0 v1 v2 v3:Value) (wS w3:World) (x8 r0 r1 r2 r3 opN:Nat) (ro:Option Addr) (rc:Nat) (vr vk:Value) (W:World) (c2 c3 c9 c10 c11 c12 c13 c14 c15 c16 c17 c18 c19 c20 c21 c22 c23 c24 c25 c26 c27 c28 c29 c30 c31 c32 c33 c34 c35 c36 c37 c38 c39 c40 c41 c42 c43 c44 c45 c46 c47 c48 c49 c50 c51 c52 c53 c54 c55 c56 c57 c58 c59 c60 c61 c62 c63 c64 c65 c66 c67 c68 c69 c70 c71 c72 c73 c74 c75 c76 c77 c78 c79 c80 c81 c82 c83 c84 c85 c86 c87 c88 c89 c90 c91 c92 c93 c94 c95 c96 c97 c98 c99 c100:Value) (Q:Exit→Act→World→Prop) (hq:∀a' w',bodyPost Tryz.prog Tryz.f253 (FwPost B L vb sb db cao ccap ps p h wS (stepR ps ⟨op,na,nb,nc,nd⟩ i s c)) .ret a' w'→Q .ret a' w')
  (D:SpAt w0 B L vb sb db cao ccap ps p h c l i m op na nb nc nd s ao ago ac agc b0 x5 x6 x7 t0 t1' t2 t3 v0 v1 v2 v3 wS w3) (hB3:Below w3.heap.size w3 W) (R8:RgAt w3.heap.size x8 m W ⟨s.types,[],[]⟩ (.slice ro m rc) vr vk) (hopN:op.toNat=opN) (hfo:formOf opN=[r0,r1,r2,r3]) (hv:ProtosAt 0 w0 cao ps) (hu:∀u ∈ fnUps ps ⟨op,na,nb,nc,nd⟩,u.loc=true→0≤u.idx∧u.idx<p.regs) (hul:(fnUps ps ⟨op,na,nb,nc,nd⟩).length≤1048576) (e0:fieldVal ps.length p r0 na=.iface t0 v0) (g0:r0≤23) (f0:fitsR ps.length p (convR r0) na=true) (e1:fieldVal ps.length p r1 nb=.iface t1' v1) (g1:r1≤23) (f1:fitsR ps.length p (convR r1) nb=true) (e2:fieldVal ps.length p r2 nc=.iface t2 v2) (g2:r2≤23) (f2:fitsR ps.length p (convR r2) nc=true) (e3:fieldVal ps.length p r3 nd=.iface t3 v3) (g3:r3≤23) (f3:fitsR ps.length p (convR r3) nd=true) :
  Code.wp Tryz.prog pcSS Q ⟨List.toArray (.pointer (some ⟨vb,0,none⟩)::.int .i64 i::c2::c3::.pointer (some ⟨b0,0,none⟩)::.pointer (some ⟨x5,0,none⟩)::.pointer (some ⟨x6,0,none⟩)::.pointer (some ⟨x7,0,none⟩)::.pointer (some ⟨x8,0,none⟩)::c9::c10::c11::c12::c13::c14::c15::c16::c17::c18::c19::c20::c21::c22::c23::c24::c25::c26::c27::c28::c29::c30::c31::c32::c33::c34::c35::c36::c37::c38::c39::c40::c41::c42::c43::c44::c45::c46::c47::c48::c49::c50::c51::c52::c53::c54::c55::c56::c57::c58::c59::c60::c61::c62::c63::c64::c65::c66::c67::c68::c69::c70::c71::c72::c73::c74::c75::c76::c77::c78::c79::c80::c81::c82::c83::c84::c85::c86::c87::c88::c89::c90::c91::c92::c93::c94::c95::c96::c97::c98::c99::c100::[]),[]⟩ W:=by
 conv=>arg 2;whnf
 have HQ:Hid _:=hq
 clear hq
 obtain⟨hm2,hmr⟩:=D.m2
 have hBW:B≤wS.heap.size:=Nat.le_trans D.X.hBL D.hL
 have hOff:∀w',Below w3.heap.size w3 w'→Off B L wS w':=fun w' hb=>D.off.trans (Off.of_below hb (Nat.le_trans hBW D.off.size))
 have hWd:Below W.heap.size W W.drew:=(Below.refl _ _).drew
 have hB3d:=hB3.trans (hWd.mono hB3.size)
 have hall:=all_any ps.length p w3.heap.size x8 m r0 r1 r2 r3 na nb nc nd s.types ro rc vr vk W.drew (R8.later hWd) hB3d.size D.hm hm2 hmr g0 g1 g2 g3 f0 f1 f2 f3
 rw [e0,e1,e2,e3] at hall
 have hS:∀w',Below w3.heap.size w3 w'→w'.cell? ⟨x7,0,none⟩=some (.iface t0 v0)∧w'.cell? ⟨x7,1,none⟩=some (.iface t1' v1)∧w'.cell? ⟨x7,2,none⟩=some (.iface t2 v2)∧w'.cell? ⟨x7,3,none⟩=some (.iface t3 v3)∧w'.cell? ⟨x5,0,none⟩=some (.int .i64 op)∧w'.cell? ⟨x5,2,none⟩=some (.int .i64 nb):=fun w' hb=>⟨(D.F.later hb).cell 0,(D.F.later hb).cell 1,(D.F.later hb).cell 2,(D.F.later hb).cell 3,(D.N.later hb).cell 0,(D.N.later hb).cell 2⟩
 refine wp_seq_k ?_
 intro K1 hK1
 have HK1:Hid _:=hK1
 clear hK1
 refine wp_block ?_
 refine wp_seq_k ?_
 intro K2 hK2
 have HK2:Hid _:=hK2
 clear hK2
 unfold RdPost at hall
 cases hrd:rdsI [r0,r1,r2,r3] [na,nb,nc,nd] ⟨s.types,[],[]⟩ with
 | none=>
  rw [hrd] at hall
  refine stp_r4a vb x5 x6 x7 x8 op nb t0 t1' t2 t3 v0 v1 v2 v3 W _ _ _ _ _ _ _ _ _ _ _ _ _ _ _ _ _ _ _ _ _ _ _ _ _ _ _ _ _ _ _ _ _ _ _ _ _ _ _ _ _ _ _ _ _ _ _ _ _ _ _ _ _ _ _ _ _ _ _ _ _ _ _ _ _ _ _ _ _ _ _ _ _ _ _ _ _ _ _ _ _ _ _ _ _ _ _ _ _ _ _ _ _ _ _ _ _ (fun w'=>Below w3.heap.size w3 w') ?_ (hall.mono fun e w' hh=>⟨hh.1,hB3d.trans hh.2,hS w' (hB3d.trans hh.2)⟩) (hS _ hB3d)
  intro u40 u41 u42 u43 u44 u45 u46 u47 u48 u49 u50 u51 u52 u53 u54 u55 u56 u57 u58 u59 u60 u61 u62 u63 wx hbx
  refine HK2.out _ _ ?_
  clear HK2
  have HRE:Hid (stepR ps ⟨op,na,nb,nc,nd⟩ i s c=.error (10,i)):=by show _=_;unfold stepR stepI;dsimp only;rw [hopN,hfo];dsimp only [Nd.fs];rw [hrd];rfl
  have HR0:Hid (Blk wx b0 #[.int .i64 0,.int .i64 0,.int .i64 0] 143):=D.R0.later hbx
  have HO:Hid (Off B L wS wx):=hOff wx hbx
  clear hall hrd
  have r9:=HR0.out.cell
  have f9:=HR0.out.frozen
  go_wp2_with fail
  have c9:=(HR0.out.three (x':=.int .i64 10) (y':=.int .i64 0) (z':=.int .i64 i)).cell
  refine HQ.out _ _ (bodyPost_ret (v:=.agg #[.int .i64 10,.int .i64 0,.int .i64 i]) ?_ rfl ⟨?_,off3 HO.out hBW D.hb _ _ _⟩)
  ·simp [results,Tryz.results253,go_sem,c9]
  ·rw [HRE.out]
   try rfl
 | some rd=>
  rw [hrd] at hall
  dsimp only at hall
  have hrl:rd.types.length=m∧rd.taken.length≤1000:=by
   have:=rdsI_lens hrd
   have h1:=D.hm
   dsimp only at this
   simp at this
   exact⟨by rw [this.1,h1],by omega⟩
  by_cases h11:op=11
  ·have hnf:=(fit_tab (D.X.fit.fit i _ D.hi)).2.2.2.2.2 h11
   dsimp only at hnf
   obtain⟨bN,hbN⟩:=Int.eq_ofNat_of_zero_le hnf.1
   obtain⟨q,hq⟩:=some_of_lt (show bN<ps.length by omega)
   have hfu:fnUps ps ⟨op,na,nb,nc,nd⟩=q.ups:=by unfold fnUps;rw [if_pos h11];dsimp only;rw [hbN,Int.toNat_natCast,hq]
   rw [hfu] at hu hul
   obtain⟨pb,pof,hcao,_,_,hh,NN,PI⟩:=hv bN q hq
   have hN5:∀w',Below w3.heap.size w3 w'→w'.cell? ⟨pb,pof+bN*9+5,none⟩=some (.slice hh.uo q.ups.length hh.uc)∧UpsAt 0 w' hh.uo q.ups:=by
    intro w' hb
    have hb0:=D.hb0.trans (hb.mono D.hb0.size)
    obtain⟨pb',pof',hc',_,_,h2,N2,P2⟩:=(hv.later (Keeps.of_below hb0)) bN q hq
    rw [hcao] at hc'
    obtain⟨rfl,rfl⟩:pb=pb'∧pof=pof':=by simpa using hc'
    have e1:=NN.2.2.2.2.2.1
    have e2:w'.cell? ⟨pb,pof+bN*9+5,none⟩=some (.slice hh.uo q.ups.length hh.uc):=(hb0.cell (p:=⟨pb,pof+bN*9+5,none⟩) (World.block_lt_of_cell? _ _ e1)).trans e1
    exact⟨e2,PI.ups.later (Keeps.of_below hb0)⟩
   have hSC:∀w',Below w3.heap.size w3 w'→w'.cell? ⟨x7,0,none⟩=some (.iface t0 v0)∧w'.cell? ⟨x7,1,none⟩=some (.iface t1' v1)∧w'.cell? ⟨x7,2,none⟩=some (.iface t2 v2)∧w'.cell? ⟨x7,3,none⟩=some (.iface t3 v3)∧w'.cell? ⟨x5,0,none⟩=some (.int .i64 11)∧w'.cell? ⟨x5,2,none⟩=some (.int .i64 bN)∧w'.cell? ⟨x6,1,none⟩=some (.slice ao m ac)∧w'.cell? ⟨vb,0,none⟩=some (.slice (some ⟨pb,pof,none⟩) ps.length ccap)∧w'.cell? ⟨pb,pof+bN*9+5,none⟩=some (.slice hh.uo q.ups.length hh.uc):=fun w' hb=>⟨(D.F.later hb).cell 0,(D.F.later hb).cell 1,(D.F.later hb).cell 2,(D.F.later hb).cell 3,by have:=(D.N.later hb).cell 0;rw [h11] at this;exact this,by have:=(D.N.later hb).cell 2;rw [hbN] at this;exact this,(D.A.later hb).cell 1,by have:=(D.H.below hb).blk.cell 0;rw [hcao] at this;exact this,(hN5 w' hb).1⟩
   refine stp_r4c vb x5 x6 x7 x8 bN pb pof m ac ccap hh.uc (upsBoxedB s.types q.ups) ao hh.uo ps q.ups t0 t1' t2 t3 v0 v1 v2 v3 W _ _ _ _ _ _ _ _ _ _ _ _ _ _ _ _ _ _ _ _ _ _ _ _ _ _ _ _ _ _ _ _ _ _ _ _ _ _ _ _ _ _ _ _ _ _ _ _ _ _ _ _ _ _ _ _ _ _ _ _ _ _ _ _ _ _ _ _ _ _ _ _ _ _ _ _ _ _ _ _ _ _ _ _ _ _ _ _ _ _ _ _ _ _ _ _ _ (fun w'=>Below w3.heap.size w3 w'∧∃vr vk,RgAt w3.heap.size x8 m w' rd (.slice ro m rc) vr vk) ?_ (hall.mono fun e w' hh2=>⟨hh2.1.1,⟨hB3d.trans hh2.2,hh2.1.2⟩,hSC w' (hB3d.trans hh2.2)⟩) ?_ (by omega) (hSC _ hB3d)
   ·intro u40 u41 u42 u43 u44 u45 u46 u47 u48 u49 u50 u51 u52 u53 u54 u55 u56 u57 u58 u59 u60 u61 u62 u63 wx hbx
    refine HK2.out _ _ ?_
    clear HK2
    obtain⟨hbx,vr2,vk2,RX⟩:=hbx
    have HH11:Hid _:=h11
    have HHbN:Hid _:=hbN
    clear hall h11 hbN hnf hSC hN5 NN PI hcao
    cases hub0:upsBoxedB s.types q.ups
    ·have HRE:Hid (stepR ps ⟨op,na,nb,nc,nd⟩ i s c=.error (10,i)):=by show _=_;unfold stepR stepI;dsimp only;rw [hopN,hfo];dsimp only [Nd.fs];rw [hrd];dsimp only [Option.map,Rd.two];rw [hfu,hub0];rfl
     have HR0:Hid (Blk wx b0 #[.int .i64 0,.int .i64 0,.int .i64 0] 143):=D.R0.later hbx
     have HO:Hid (Off B L wS wx):=hOff wx hbx
     clear hub0 hrd RX
     have r9:=HR0.out.cell
     have f9:=HR0.out.frozen
     go_wp2_with fail
     have c9:=(HR0.out.three (x':=.int .i64 10) (y':=.int .i64 0) (z':=.int .i64 i)).cell
     refine HQ.out _ _ (bodyPost_ret (v:=.agg #[.int .i64 10,.int .i64 0,.int .i64 i]) ?_ rfl ⟨?_,off3 HO.out hBW D.hb _ _ _⟩)
     ·simp [results,Tryz.results253,go_sem,c9]
     ·rw [HRE.out]
      try rfl
    ·have hub:upsBoxedB s.types (fnUps ps ⟨op,na,nb,nc,nd⟩)=true:=by rw [hfu];exact hub0
     clear hub0
     have HGF:Hid (∀_:Unit,_):=fun _=>guardsFit_any ⟨op,na,nb,nc,nd⟩ ago agc s.guards.length s.guards wx rfl D.hs.few (AllAt.lower (D.RG.later (Keeps.of_below hbx)).at_ (Nat.zero_le _))
     unfold Nd.val at HGF
     have n6:=(D.N.later hbx).cell
     have a6:=(D.A.later hbx).cell
     go_wp2_with fail
     refine (HGF.out ()).mono ?_
     rintro e w7 ⟨rfl,hw7⟩
     have hB7:=(hbx).trans (hw7.mono (hbx).size)
     have R7:=(RX).later hw7
     clear n6 a6 HGF
     cases hgf:gfitB ⟨op,na,nb,nc,nd⟩ s.guards
     ·have HRE:Hid (stepR ps ⟨op,na,nb,nc,nd⟩ i s c=.error (11,i)):=by show _=_;unfold stepR stepI;dsimp only;rw [hopN,hfo];dsimp only [Nd.fs];rw [hrd];dsimp only [Option.map,Rd.two];rw [hub,if_pos rfl,hgf];rfl
      have HR0:Hid (Blk w7 b0 #[.int .i64 0,.int .i64 0,.int .i64 0] 143):=D.R0.later hB7
      have HO:Hid (Off B L wS w7):=hOff w7 hB7
      clear hgf R7
      have r9:=HR0.out.cell
      have f9:=HR0.out.frozen
      go_wp2_with fail
      have c9:=(HR0.out.three (x':=.int .i64 11) (y':=.int .i64 0) (z':=.int .i64 i)).cell
      refine HQ.out _ _ (bodyPost_ret (v:=.agg #[.int .i64 11,.int .i64 0,.int .i64 i]) ?_ rfl ⟨?_,off3 HO.out hBW D.hb _ _ _⟩)
      ·simp [results,Tryz.results253,go_sem,c9]
      ·rw [HRE.out]
       try rfl
     ·have HRE:Hid (stepR ps ⟨op,na,nb,nc,nd⟩ i s c=if stayB (maxKeep s.guards) rd.taken s.types (wrsI [r0,r1,r2,r3] [na,nb,nc,nd] rd.types) then followF c (folF ⟨op,na,nb,nc,nd⟩ i s (wrsI [r0,r1,r2,r3] [na,nb,nc,nd] rd.types) (gbehF ⟨op,na,nb,nc,nd⟩ s.guards)) else .error (12,i)):=by
       exact stepR_go (n:=⟨op,na,nb,nc,nd⟩) hopN hfo hrd hub hgf
      obtain⟨ko,kc,hko⟩:=owns_slice R7.taken
      rw [hko] at R7
      go_wp2_with fail
      refine HK1.out _ _ ?_
      exact stp_8 w0 B L vb sb db cao ccap ps p h c l i m op na nb nc nd s ao ago ac agc b0 x5 x6 x7 t0 t1' t2 t3 v0 v1 v2 v3 wS w3 x8 r0 r1 r2 r3 ro ko rc kc _ rd w7 _ _ _ _ _ _ _ _ _ _ _ _ _ _ _ _ _ _ _ _ _ _ _ _ _ _ _ _ _ _ _ _ _ _ _ _ _ _ _ _ _ _ _ _ _ _ _ _ _ _ _ _ _ _ _ _ _ _ _ _ _ _ _ _ _ _ _ _ _ _ _ _ _ _ _ _ _ _ _ _ _ _ _ _ _ _ _ _ _ _ _ _ _ _ _ (fun a' w' hb=>HQ.out a' w' (by rw [HRE.out];exact hb)) D hB7 R7 hrl.1 hrl.2 hgf e0 g0 f0 e1 g1 f1 e2 g2 f2 e3 g3 f3
   ·rintro W2 ⟨hb2,vr2,vk2,RX2⟩ hS2
    have:=upsBoxed_any ao hh.uo ac hh.uc s.types q.ups W2 hul (fun u hu2 hl2=>by have:=hu u hu2 hl2;have h1:=D.hm;omega) (AllAt.lower (D.RT.later (Keeps.of_below hb2)).at_ (Nat.zero_le _)) (hN5 W2 hb2).2
    rw [D.hm] at this
    exact this.mono fun e w' hh2=>⟨hh2.1,⟨hb2.trans (hh2.2.mono hb2.size),vr2,vk2,RX2.later hh2.2⟩,hSC w' (hb2.trans (hh2.2.mono hb2.size))⟩
  ·have hub:upsBoxedB s.types (fnUps ps ⟨op,na,nb,nc,nd⟩)=true:=by unfold fnUps;rw [if_neg h11];rfl
   refine stp_r4b vb x5 x6 x7 x8 op nb t0 t1' t2 t3 v0 v1 v2 v3 W _ _ _ _ _ _ _ _ _ _ _ _ _ _ _ _ _ _ _ _ _ _ _ _ _ _ _ _ _ _ _ _ _ _ _ _ _ _ _ _ _ _ _ _ _ _ _ _ _ _ _ _ _ _ _ _ _ _ _ _ _ _ _ _ _ _ _ _ _ _ _ _ _ _ _ _ _ _ _ _ _ _ _ _ _ _ _ _ _ _ _ _ _ _ _ _ _ (fun w'=>Below w3.heap.size w3 w'∧∃vr vk,RgAt w3.heap.size x8 m w' rd (.slice ro m rc) vr vk) ?_ (hall.mono fun e w' hh=>⟨hh.1.1,⟨hB3d.trans hh.2,hh.1.2⟩,hS w' (hB3d.trans hh.2)⟩) (by simpa using h11) (hS _ hB3d)
   intro u40 u41 u42 u43 u44 u45 u46 u47 u48 u49 u50 u51 u52 u53 u54 u55 u56 u57 u58 u59 u60 u61 u62 u63 wx hbx
   refine HK2.out _ _ ?_
   clear HK2
   obtain⟨hbx,vr2,vk2,RX⟩:=hbx
   clear hall
   have HGF:Hid (∀_:Unit,_):=fun _=>guardsFit_any ⟨op,na,nb,nc,nd⟩ ago agc s.guards.length s.guards wx rfl D.hs.few (AllAt.lower (D.RG.later (Keeps.of_below hbx)).at_ (Nat.zero_le _))
   unfold Nd.val at HGF
   have n6:=(D.N.later hbx).cell
   have a6:=(D.A.later hbx).cell
   go_wp2_with fail
   refine (HGF.out ()).mono ?_
   rintro e w7 ⟨rfl,hw7⟩
   have hB7:=(hbx).trans (hw7.mono (hbx).size)
   have R7:=(RX).later hw7
   clear n6 a6 HGF
   cases hgf:gfitB ⟨op,na,nb,nc,nd⟩ s.guards
   ·have HRE:Hid (stepR ps ⟨op,na,nb,nc,nd⟩ i s c=.error (11,i)):=by show _=_;unfold stepR stepI;dsimp only;rw [hopN,hfo];dsimp only [Nd.fs];rw [hrd];dsimp only [Option.map,Rd.two];rw [hub,if_pos rfl,hgf];rfl
    have HR0:Hid (Blk w7 b0 #[.int .i64 0,.int .i64 0,.int .i64 0] 143):=D.R0.later hB7
    have HO:Hid (Off B L wS w7):=hOff w7 hB7
    clear hgf R7
    have r9:=HR0.out.cell
    have f9:=HR0.out.frozen
    go_wp2_with fail
    have c9:=(HR0.out.three (x':=.int .i64 11) (y':=.int .i64 0) (z':=.int .i64 i)).cell
    refine HQ.out _ _ (bodyPost_ret (v:=.agg #[.int .i64 11,.int .i64 0,.int .i64 i]) ?_ rfl ⟨?_,off3 HO.out hBW D.hb _ _ _⟩)
    ·simp [results,Tryz.results253,go_sem,c9]
    ·rw [HRE.out]
     try rfl
   ·have HRE:Hid (stepR ps ⟨op,na,nb,nc,nd⟩ i s c=if stayB (maxKeep s.guards) rd.taken s.types (wrsI [r0,r1,r2,r3] [na,nb,nc,nd] rd.types) then followF c (folF ⟨op,na,nb,nc,nd⟩ i s (wrsI [r0,r1,r2,r3] [na,nb,nc,nd] rd.types) (gbehF ⟨op,na,nb,nc,nd⟩ s.guards)) else .error (12,i)):=by
     exact stepR_go (n:=⟨op,na,nb,nc,nd⟩) hopN hfo hrd hub hgf
    obtain⟨ko,kc,hko⟩:=owns_slice R7.taken
    rw [hko] at R7
    go_wp2_with fail
    refine HK1.out _ _ ?_
    exact stp_8 w0 B L vb sb db cao ccap ps p h c l i m op na nb nc nd s ao ago ac agc b0 x5 x6 x7 t0 t1' t2 t3 v0 v1 v2 v3 wS w3 x8 r0 r1 r2 r3 ro ko rc kc _ rd w7 _ _ _ _ _ _ _ _ _ _ _ _ _ _ _ _ _ _ _ _ _ _ _ _ _ _ _ _ _ _ _ _ _ _ _ _ _ _ _ _ _ _ _ _ _ _ _ _ _ _ _ _ _ _ _ _ _ _ _ _ _ _ _ _ _ _ _ _ _ _ _ _ _ _ _ _ _ _ _ _ _ _ _ _ _ _ _ _ _ _ _ _ _ _ _ (fun a' w' hb=>HQ.out a' w' (by rw [HRE.out];exact hb)) D hB7 R7 hrl.1 hrl.2 hgf e0 g0 f0 e1 g1 f1 e2 g2 f2 e3 g3 f3
theorem vf_cells {L vb sb db:Nat} {cao:Option Addr} {ccap:Nat} {ps:List Pd} {p:Pd} {h:Ph} {w:World} {c:Cf} {l nb':Nat} {op na nb nc nd:Int} (H:VfAt L vb sb db cao ccap ps p h w c l) (N:Blk w nb' #[.int .i64 op,.int .i64 na,.int .i64 nb,.int .i64 nc,.int .i64 nd] 48):w.cell? ⟨vb,0,none⟩=some (.slice cao ps.length ccap)∧w.cell? ⟨vb,1,none⟩=some (.string p.name)∧w.cell? ⟨vb,2,none⟩=some (.int .i64 p.line)∧w.cell? ⟨vb,3,none⟩=some (.int .i64 p.params)∧w.cell? ⟨vb,4,none⟩=some (.bool p.rest)∧w.cell? ⟨vb,5,none⟩=some (.int .i64 p.regs)∧w.cell? ⟨vb,6,none⟩=some (.slice h.uo p.ups.length h.uc)∧w.cell? ⟨vb,7,none⟩=some (.slice h.co p.consts.length h.cc)∧w.cell? ⟨vb,8,none⟩=some (.slice h.io p.ins.length h.ic)∧w.cell? ⟨vb,9,none⟩=some (.slice h.no p.named.length h.nc)∧w.cell? ⟨nb',0,none⟩=some (.int .i64 op)∧w.cell? ⟨nb',1,none⟩=some (.int .i64 na)∧w.cell? ⟨nb',2,none⟩=some (.int .i64 nb)∧w.cell? ⟨nb',3,none⟩=some (.int .i64 nc)∧w.cell? ⟨nb',4,none⟩=some (.int .i64 nd):=
 ⟨H.blk.cell 0,H.blk.cell 1,H.blk.cell 2,H.blk.cell 3,H.blk.cell 4,H.blk.cell 5,H.blk.cell 6,H.blk.cell 7,H.blk.cell 8,H.blk.cell 9,N.cell 0,N.cell 1,N.cell 2,N.cell 3,N.cell 4⟩
theorem owns_nil (w:World) (B e:Nat):w.ownsRow B e 1 (.slice none 0 0) 0 (ints []):=⟨by simp [ints],.inl ⟨rfl,rfl⟩⟩
set_option maxRecDepth 1000000 in
set_option maxHeartbeats 8000000 in
theorem step_any (w0:World) (B L vb sb db:Nat) (cao:Option Addr) (ccap:Nat) (ps:List Pd) (p:Pd) (h:Ph) (c:Cf) (l:Nat) (w:World) (i:Nat) (n:Nd) (s:St)
  (X:Vctx w0 B L vb sb db ps p h) (H0:VfAt L vb sb db cao ccap ps p h w c l) (hl:l≤p.ins.length) (hL:L≤w.heap.size) (hb0:Below w0.heap.size w0 w) (hok:CfOk p c) (hi:p.ins[i]?=some n) (hs:c.st i=some s) (hv:ProtosAt 0 w0 cao ps) (hu:∀u ∈ fnUps ps n,u.loc=true→0≤u.idx∧u.idx<p.regs) (hul:(fnUps ps n).length≤1048576) :
  Calls Tryz.prog 253 #[.pointer (some ⟨vb,0,none⟩),.int .i64 i] w (FwPost B L vb sb db cao ccap ps p h w (stepR ps n i s c)):=by
 have hNF:=X.fit.fit i n hi
 have hso:=hok.ok i s hs
 have hil:i<p.ins.length:=(List.getElem?_eq_some_iff.1 hi).1
 have hsx:c.sts[i]?=some (some s):=by
  have hl2:i<c.sts.length:=by rw [hok.lenS];exact hil
  have:=hs
  unfold Cf.st at this
  rw [List.getD_eq_getElem?_getD,List.getElem?_eq_getElem hl2] at this
  rw [List.getElem?_eq_getElem hl2]
  simpa using this
 have hBw:B≤w.heap.size:=Nat.le_trans X.hBL hL
 obtain⟨op,na,nb,nc,nd⟩:=n
 have hoplo:=hNF.lo
 have hophi:=hNF.hi
 dsimp only at hoplo hophi
 obtain⟨opN,hopn⟩:=Int.eq_ofNat_of_zero_le (show 0≤op by omega)
 obtain⟨r0,r1,r2,r3,hfo,g0,g1,g2,g3⟩:=form_four (show opN≤42 by omega)
 have hfit:=hNF.fit
 dsimp only at hfit
 rw [hopn,Int.toNat_natCast,←conv_forms opN (by omega) (by omega),hfo] at hfit
 simp only [List.map_cons,List.map_nil,Nd.fs,fitAll,Bool.and_eq_true] at hfit
 obtain⟨f0,f1,f2,f3,_⟩:=hfit
 have hfl:=fun W hF=>fieldsOf_any cao ccap ps.length p h ⟨op,na,nb,nc,nd⟩ opN r0 r1 r2 r3 W hopn (by omega) hfo g0 g1 g2 g3 X.few X.hpl X.fit.regs hF
 obtain⟨t0,v0,e0⟩:=fieldVal_iface ps.length p r0 na
 obtain⟨t1',v1,e1⟩:=fieldVal_iface ps.length p r1 nb
 obtain⟨t2,v2,e2⟩:=fieldVal_iface ps.length p r2 nc
 obtain⟨t3,v3,e3⟩:=fieldVal_iface ps.length p r3 nd
 dsimp only at hfl
 rw [e0,e1,e2,e3] at hfl
 unfold Pd.cells Nd.val at hfl
 have BR:=below_al (Below.refl w.heap.size w) (.cells #[.int .i64 0,.int .i64 0,.int .i64 0] 143)
 have HR:=H0.below BR
 have R0:=Blk.new w #[.int .i64 0,.int .i64 0,.int .i64 0] 143
 go_enter Tryz.func253,Tryz.ntmps253
 refine wp_seq_k ?_
 intro K0 hK0
 have HK0:Hid _:=hK0
 clear hK0
 go_wp2_with fail
 refine HK0.out _ _ ?_
 clear HK0
 generalize w.alloc (.cells #[.int .i64 0,.int .i64 0,.int .i64 0] 143)=wR at *
 obtain⟨ib,iof,hio,_,hibl,q0,q1,q2,q3,q4⟩:=(X.ins.later (Keeps.of_below (hb0.trans (BR.mono hb0.size)))) i _ hi
 obtain⟨ao,ac,ago,agc,z0,z1,z2,RT,RG⟩:=HR.sts.at_ i (some s) hsx
 dsimp only [stT,stG,Option.isSome] at z0 z1 z2 RT RG
 have v8:=HR.blk.cell 8
 simp only [List.getElem?_toArray,List.getElem?_cons_succ,List.getElem?_cons_zero] at v8
 rw [hio] at v8
 refine wp_seq_k ?_
 intro K1 hK1
 refine stp_r1 vb sb ib iof i p h op na nb nc nd s ao ago ac agc wR _ _ _ _ _ _ _ _ _ _ _ _ _ _ _ _ _ _ _ _ _ _ _ _ _ _ _ _ _ _ _ _ _ _ _ _ _ _ _ _ _ _ _ _ _ _ _ _ _ _ _ _ _ _ _ _ _ _ _ _ _ _ _ _ _ _ _ _ _ _ _ _ _ _ _ _ _ _ _ _ _ _ _ _ _ _ _ _ _ _ _ _ _ _ _ _ _ _ _ _ ?_ (by omega) HR.blk.lt HR.sts.own.lt hibl v8 (HR.blk.cell 10) q0 q1 q2 q3 q4 z0 z1 z2
 intro u10 u11 u12 u13 u14 u15 u16 u17 u18 u19 u20 u21 u22 u23 u24 x5 x6 wx hne h5 h6 N5 A6 bx
 refine hK1 _ _ ?_
 clear hK1
 refine wp_seq_k ?_
 intro K2 hK2
 have Bx:Below w.heap.size w wx:=BR.trans (bx.mono BR.size)
 refine stp_r2 vb x5 cao ccap ps p h op na nb nc nd t0 t1' t2 t3 v0 v1 v2 v3 wx _ _ _ _ _ _ _ _ _ _ _ _ _ _ _ _ _ _ _ _ _ _ _ _ _ _ _ _ _ _ _ _ _ _ _ _ _ _ _ _ _ _ _ _ _ _ _ _ _ _ _ _ _ _ _ _ _ _ _ _ _ _ _ _ _ _ _ _ _ _ _ _ _ _ _ _ _ _ _ _ _ _ _ _ _ _ _ _ _ _ _ _ _ _ _ _ _ _ _ _ ?_ ?_ ?_
 ·intro y25 y26 y27 y28 y29 y30 y31 y32 y33 y34 x7 wy h7 F7 bY
  refine hK2 _ _ ?_
  clear hK2
  have Bxy:Below wR.heap.size wR wy:=bx.trans (bY.mono bx.size)
  have By:Below w.heap.size w wy:=BR.trans (Bxy.mono BR.size)
  have D:SpAt w0 B L vb sb db cao ccap ps p h c l i s.types.length op na nb nc nd s ao ago ac agc w.heap.size x5 x6 x7 t0 t1' t2 t3 v0 v1 v2 v3 w wy:=⟨X,H0.below By,hl,hL,hb0.trans (By.mono hb0.size),Off.of_below By hBw,hok,hi,hso,rfl,R0.later Bxy,N5.later bY,A6.later bY,F7,Nat.le_refl _,RT.later (Keeps.of_below Bxy),RG.later (Keeps.of_below Bxy)⟩
  obtain⟨hm2,hmr⟩:=D.m2
  have HCL:Hid (∀_:Unit,_):=fun _=>cloneInt_any ao ac s.types.length s.types wy rfl (by omega) RT.nil (AllAt.lower D.RT.at_ (Nat.zero_le _)) RT.form
  have a6:=D.A.cell
  have HD:Hid _:=D
  clear D BR HR R0 q0 q1 q2 q3 q4 z0 z1 z2 v8 N5 A6 F7 bx bY Bx Bxy hfl
  refine wp_seq_k ?_
  intro K3 hK3
  have HK3:Hid _:=hK3
  clear hK3
  go_wp2_with fail
  refine (HCL.out ()).mono ?_
  rintro e w8 ⟨vv,rfl,T8,hw8⟩
  obtain⟨ro,rc,rfl⟩:=owns_slice T8
  clear a6 HCL
  go_wp2_with fail
  refine HK3.out _ _ ?_
  have hal:=(Below.refl w8.heap.size w8).alloc (Nat.le_refl _) (.cells #[.slice ro s.types.length rc,.slice none 0 0,.slice none 0 0] 380)
  have RX:RgAt wy.heap.size w8.heap.size s.types.length (w8.alloc (.cells #[.slice ro s.types.length rc,.slice none 0 0,.slice none 0 0] 380)) ⟨s.types,[],[]⟩ (.slice ro s.types.length rc) (.slice none 0 0) (.slice none 0 0):=
   ⟨Blk.new w8 #[.slice ro s.types.length rc,.slice none 0 0,.slice none 0 0] 380,hw8.size,T8.alloc _,owns_nil _ _ _,owns_nil _ _ _,fun e=>by have:=(T8.lt _ e).2;omega,(by simp [Value.ownBlock]),(by simp [Value.ownBlock]),(by simp [Value.ownBlock]),(by simp [Value.ownBlock]),(by simp [Value.ownBlock])⟩
  exact stp_sw w0 B L vb sb db cao ccap ps p h c l i s.types.length op na nb nc nd s ao ago ac agc w.heap.size x5 x6 x7 t0 t1' t2 t3 v0 v1 v2 v3 w wy w8.heap.size r0 r1 r2 r3 opN ro rc _ _ _ _ _ _ _ _ _ _ _ _ _ _ _ _ _ _ _ _ _ _ _ _ _ _ _ _ _ _ _ _ _ _ _ _ _ _ _ _ _ _ _ _ _ _ _ _ _ _ _ _ _ _ _ _ _ _ _ _ _ _ _ _ _ _ _ _ _ _ _ _ _ _ _ _ _ _ _ _ _ _ _ _ _ _ _ _ _ _ _ _ _ _ _ _ _ _ (fun a' w' hb=>hb) HD.out (hw8.trans (hal.mono hw8.size)) RX (by rw [hopn];rfl) hfo hv hu hul e0 g0 f0 e1 g1 f1 e2 g2 f2 e3 g3 f3
 ·intro W2 hb2
  have hbw:=Bx.trans (hb2.mono Bx.size)
  exact (hfl W2 (X.forms.later (hb0.trans (hbw.mono hb0.size)))).mono fun e w' hh=>⟨hh.1,hb2.trans (hh.2.mono hb2.size),hh.2⟩
 ·intro W2 hb2
  have hbw:=Bx.trans (hb2.mono Bx.size)
  exact vf_cells (H0.below hbw) (N5.later hb2)
theorem made_nat (w:World) (n:Nat):Blk (w.alloc (.cells (madeCells #[.int .i64 0] n) 3)) w.heap.size (natArr (List.replicate n 0)) 3:=by
 have h:madeCells #[.int .i64 0] n=natArr (List.replicate n 0):=by
  apply Array.toList_inj.1
  rw [toList_madeCells_one]
  simp [natArr,zs,ints]
 rw [h]
 exact Blk.new _ _ _
theorem opn_none (N:Nat):opnL N (fun v=>decide (v ∈ ([]:List Nat)))=List.replicate N false:=by
 apply List.ext_getElem?
 intro j
 unfold opnL
 by_cases hj:j<N
 ·simp [hj]
 ·simp [hj]
set_option maxRecDepth 100000 in
set_option maxHeartbeats 8000000 in
theorem leastOnCircle_any (N gb lo:Nat) (F:Nat→List Nat) (w:World) (hN:N≤6000) (S:SsAt lo w gb N fun j=>zs (F j)) (hF:∀j,j<N→(F j).length≤2∧∀z ∈ F j,z<N) :
  Calls Tryz.prog 254 #[.slice (some ⟨gb,0,none⟩) N N] w fun e w'=>(∃m:Nat,LeastC (fun x y=>y ∈ F x) N m∧e=.returned (.int .i64 (if m=N then -1 else (m:Int))))∧Below w.heap.size w w':=by
 have hmb:=run_make_k (P:=Tryz.prog) 235 4 _ 1 1 Tryz.underlying235 Tryz.info_bool .i64 .i64 N (by omega) (by omega)
 have hmi:=run_make_k (P:=Tryz.prog) 55 3 _ 1 8 Tryz.underlying55 Tryz.info_int .i64 .i64 N (by omega) (by omega)
 simp only [Nat.mul_one] at hmb hmi
 have HS:Hid _:=S
 have HF:Hid _:=hF
 clear S hF
 go_enter Tryz.func254,Tryz.ntmps254
 go_wp2_with fail
 go_cut [3] from 5 (fun v3 wx=>∃cb ob qb:Nat,v3=.pointer (some ⟨cb,0,none⟩)∧Hid (CcIn w.heap.size cb ob qb)∧Hid (CcAt w.heap.size cb gb ob qb N wx ⟨0,List.replicate N 0,[],N⟩ (.slice none 0 0))∧Hid (Below w.heap.size w wx)∧Hid (w.heap.size+3≤wx.heap.size))
 case first=>
  go_region_held3 (fun _=>True) (trivial) (fail)
  ·go_wp2_with fail
   go_meet
   case rel=>
    refine⟨w.heap.size+1+1,w.heap.size,w.heap.size+1,rfl,⟨by omega,by omega,by omega,by omega,by omega,by omega,by omega,by omega,by omega⟩,⟨?_,?_,?_,owns_nil _ _ _⟩,?_,?_⟩
    ·have:=Blk.new ((w.alloc (.cells (madeCells #[.int .i64 0] N) 3)).alloc (.cells (madeCells #[.bool false] N) 4)) #[.slice (some ⟨gb,0,none⟩) N N,.int .i64 0,.slice (some ⟨w.heap.size,0,none⟩) N N,.slice none 0 0,.slice (some ⟨w.heap.size+1,0,none⟩) N N,.int .i64 N] 391
     simp only [nblk_alloc] at this
     exact this
    ·exact ((made_nat w N).alloc _).alloc _
    ·rw [opn_none];have:=(made_blk (w.alloc (.cells (madeCells #[.int .i64 0] N) 3)) N).alloc (.cells #[.slice (some ⟨gb,0,none⟩) N N,.int .i64 0,.slice (some ⟨w.heap.size,0,none⟩) N N,.slice none 0 0,.slice (some ⟨w.heap.size+1,0,none⟩) N N,.int .i64 N] 391);simp only [nblk_alloc] at this;exact this
    ·exact (below_al (below_al (below_al (Below.refl _ _) _) _) _).drew
    ·show _≤_;simp
  ·go_wp2_with fail
   go_meet
   case rel=>
    refine⟨w.heap.size+1+1,w.heap.size+1,w.heap.size,rfl,⟨by omega,by omega,by omega,by omega,by omega,by omega,by omega,by omega,by omega⟩,⟨?_,?_,?_,owns_nil _ _ _⟩,?_,?_⟩
    ·have:=Blk.new ((w.alloc (.cells (madeCells #[.bool false] N) 4)).alloc (.cells (madeCells #[.int .i64 0] N) 3)) #[.slice (some ⟨gb,0,none⟩) N N,.int .i64 0,.slice (some ⟨w.heap.size+1,0,none⟩) N N,.slice none 0 0,.slice (some ⟨w.heap.size,0,none⟩) N N,.int .i64 N] 391
     simp only [nblk_alloc] at this
     exact this
    ·have:=(made_nat (w.alloc (.cells (madeCells #[.bool false] N) 4)) N).alloc (.cells #[.slice (some ⟨gb,0,none⟩) N N,.int .i64 0,.slice (some ⟨w.heap.size+1,0,none⟩) N N,.slice none 0 0,.slice (some ⟨w.heap.size,0,none⟩) N N,.int .i64 N] 391);simp only [nblk_alloc] at this;exact this
    ·rw [opn_none];exact ((made_blk w N).alloc _).alloc _
    ·exact (below_al (below_al (below_al (Below.refl _ _) _) _) _).drew
    ·show _≤_;simp
 case rest=>
  obtain⟨cb,ob,qb,rfl,HI,HC,HB,HS3⟩:=hcut
  clear hmb hmi
  go_wp2_with fail
  have HJ0:Hid (Jt (fun x y=>y ∈ F x) N ⟨0,List.replicate N 0,[],N⟩ fun _=>False):=jt_start _ _
  have HU0:Hid ((0:Nat)+unv (List.replicate N 0)≤N):=by show _≤_;unfold unv;exact Nat.le_trans (by rw [Nat.zero_add];exact List.length_filter_le _ _) (by simp)
  go_loopg [18] (N+1) (fun g y wr=>∃(k:Nat) (T:Tj) (vp:Value),k≤N∧y=.int .i64 k∧Hid (Jt (fun x y=>y ∈ F x) N T fun _=>False)∧Hid (CcAt w.heap.size cb gb ob qb N wr T vp)∧Hid (T.count+unv T.order≤N)∧Hid (∀j,j<k→T.ord j≠0)∧Hid (Below w.heap.size w wr)∧Hid (w.heap.size+3≤wr.heap.size)∧Hid (N+1 - k≤g))
  case atStart=>exact ⟨0,⟨0,List.replicate N 0,[],N⟩,_,Nat.zero_le _,rfl,HJ0.out,HC.out,HU0.out,fun j hj=>absurd hj (Nat.not_lt_zero _),HB.out,HS3.out,Nat.le_refl _⟩
  case round=>
   obtain⟨k,T,vp,hk,rfl,HJ,HCk,HU,HSN,HBk,HSk,HG⟩:=hrel
   clear HC HB HS3 HJ0 HU0
   have hck:=HCk.out.blk.cell
   by_cases hkl:k<N
   ·have ock:=(HCk.out.order.cell k).trans (natArr_get (by rw [HJ.out.lenO];exact hkl))
    have HG2:Hid (N+1 - (k+1)≤gk - 1∧gk - 1<gk):=by have:=HG.out;show _∧_;omega
    have kk:(k:Int)<N:=by omega
    clear HG
    by_cases hok:T.order.getD k 0=0
    ·rw [hok] at ock
     have HOK:Hid (T.ord k=0):=hok
     have HVI:Hid (∀_:Unit,_):=fun _=>visit_any w.heap.size cb gb ob qb N lo F w HI.out hN rfl HS.out HF.out (unv T.order) T (fun _=>False) k vp wr (Nat.le_refl _) HU.out HCk.out HBk.out HSk.out HJ.out (fun x hx=>by rw [path_nil HJ.out] at hx;simp at hx) hkl HOK.out
     clear hok
     go_wp2_with fail
     refine (HVI.out ()).mono ?_
     rintro e w6 ⟨T6,v6,l6,rfl,C6,V6,hcu6,hb6⟩
     have HJ6:Hid (Jt (fun x y=>y ∈ F x) N T6 fun _=>False):=V6.j
     have HC6:Hid (CcAt w.heap.size cb gb ob qb N w6 T6 v6):=C6
     have HU6:Hid (T6.count+unv T6.order≤N):=hcu6
     have HSN6:Hid (∀j,j<k+1→T6.ord j≠0):=by
      intro j hj
      by_cases hjk:j=k
      ·rw [hjk];exact V6.seen
      ·have h1:=HSN.out j (by omega)
       rw [V6.same j h1]
       exact h1
     have HB6:Hid (Below w.heap.size w w6):=HBk.out.trans hb6
     have HS6:Hid (w.heap.size+3≤w6.heap.size):=Nat.le_trans HSk.out hb6.size
     clear C6 V6 hcu6 hb6 HVI HJ HCk HU HSN HBk HSk hck ock
     go_wp2_with fail
     go_roundg (gk - 1)
     case measure=>exact HG2.out.2
     case rel=>exact ⟨k+1,T6,v6,by omega,by go_num,HJ6.out,HC6.out,HU6.out,HSN6.out,HB6.out,HS6.out,HG2.out.1⟩
    ·obtain⟨o2,ho2⟩:∃x,x=T.order.getD k 0:=⟨_,rfl⟩
     have e0:((o2:Int) == 0)=false:=by rw [ho2];simpa using hok
     rw [←ho2] at ock
     have HSN6:Hid (∀j,j<k+1→T.ord j≠0):=by
      intro j hj
      by_cases hjk:j=k
      ·rw [hjk];exact hok
      ·exact HSN.out j (by omega)
     clear hok ho2 HSN
     go_wp2_with fail
     go_roundg (gk - 1)
     case measure=>exact HG2.out.2
     case rel=>exact ⟨k+1,T,vp,by omega,by go_num,HJ.out,HCk.out,HU.out,HSN6.out,HBk.out,HSk.out,HG2.out.1⟩
   ·obtain rfl:k=N:=by omega
    have kk:¬(k:Int)<k:=by omega
    have HLC:Hid (LeastC (fun x y=>y ∈ F x) k T.least):=least_of HJ.out HSN.out
    clear HG HSN HJ
    by_cases hl:T.least=k
    ·have e0:((T.least:Int) == (k:Int))=true:=by simp [hl]
     have HLL:Hid _:=hl
     clear hl
     go_wp2_with fail
     go_ret
     exact⟨⟨T.least,HLC.out,by rw [if_pos HLL.out];rfl⟩,HBk.out⟩
    ·have e0:((T.least:Int) == (k:Int))=false:=by simp;omega
     have HLL:Hid _:=hl
     clear hl
     go_wp2_with fail
     go_ret
     exact⟨⟨T.least,HLC.out,by rw [if_neg HLL.out];rfl⟩,HBk.out⟩
def silR (p:Pd) (c:Cf) (j:Nat):List Nat:=match p.ins[j]?,c.st j with | some n,some _=>silI n j | _,_=>[]
theorem Tryz.info_ints:(Tryz.prog.info? 55).map (fun i=>(i.zero,i.size,i.bytes))=some (some (.slice none 0 0),1,24):=by kernel_rfl
structure SiAt (gb N k:Nat) (wr W:World) (nb:Array Value) (v:Value) (e:List Int):Prop where
 blk:∀b,b≠gb→b<wr.heap.size→W.heap[b]?=wr.heap[b]?
 oth:∀j,j≠k→W.cell? ⟨gb,j,none⟩=wr.cell? ⟨gb,j,none⟩
 cur:W.cell? ⟨gb,k,none⟩=some v
 own:Own W gb 55 N
 row:W.ownsRow (wr.heap.size+1) 3 1 v e.length (ints e)
 ins:Blk W wr.heap.size nb 48
 size:wr.heap.size<W.heap.size
 kN:k<N
theorem SiAt.later {gb N k:Nat} {wr W W':World} {nb:Array Value} {v:Value} {e:List Int} (h:SiAt gb N k wr W nb v e) (hb:Below W.heap.size W W'):SiAt gb N k wr W' nb v e:=
 ⟨fun b h1 h2=>(hb.block b (Nat.lt_trans h2 h.size)).trans (h.blk b h1 h2),fun j hj=>(hb.cell (p:=⟨gb,j,none⟩) h.own.lt).trans (h.oth j hj),(hb.cell (p:=⟨gb,k,none⟩) h.own.lt).trans h.cur,h.own.later hb,owns_below h.row hb,h.ins.later hb,Nat.lt_of_lt_of_le h.size hb.size,h.kN⟩
theorem SiAt.app {gb N k:Nat} {wr W w2:World} {nb:Array Value} {v v':Value} {e:List Int} {x:Int} {o:Obj} (h:SiAt gb N k wr W nb v e) (h1:w2.ownsRow (wr.heap.size+1) 3 1 v' (e.length+1) (ints (e ++ [x]))) (h2:(W.alloc o).grownBy w2 v.ownBlock) (hg:gb<wr.heap.size) :
  SiAt gb N k wr (w2.setCell ⟨gb,k,none⟩ v') nb v' (e ++ [x])∧w2.cell? ⟨gb,k,none⟩=some v∧w2.frozen? ⟨gb,k,none⟩=false∧Below gb W (w2.setCell ⟨gb,k,none⟩ v'):=by
 have hv:∀b,b<wr.heap.size+1→some b≠v.ownBlock:=fun b hb e=>by have:=(h.row.lt b e.symm).1;omega
 have hbk:∀b,b<wr.heap.size+1→w2.heap[b]?=W.heap[b]?:=fun b hb=>(h2.block b (by simp;have:=h.size;omega) (hv b hb)).trans (blk_alloc_lt _ _ _ (by have:=h.size;omega))
 have hgb2:=hbk gb (by omega)
 have ho2:Own w2 gb 55 N:=h.own.of_block hgb2
 have hc2:∀j,w2.cell? ⟨gb,j,none⟩=W.cell? ⟨gb,j,none⟩:=fun j=>World.cell?_of_block (w:=W) (a:=⟨gb,j,none⟩) hgb2
 have hs2:W.heap.size≤w2.heap.size:=Nat.le_trans (by simp) h2.size
 refine⟨⟨?_,?_,own_set_cell ho2 h.kN,ho2.set k v',?_,?_,?_,h.kN⟩,(hc2 k).trans h.cur,ho2.frozen k,?_⟩
 ·intro b hb hl
  exact (Below.heap_setCell _ _ _ _ hb).trans ((hbk b (by omega)).trans (h.blk b hb hl))
 ·intro j hj
  rw [cell_set_ne (fun e=>hj e.symm)]
  exact (hc2 j).trans (h.oth j hj)
 ·rw [List.length_append]
  exact owns_other h1 (fun b hb=>Below.heap_setCell _ _ _ _ (by have:=(h1.lt b hb).1;dsimp only;omega))
 ·exact (Below.heap_setCell _ _ _ _ (by dsimp only;omega)).trans ((hbk _ (by omega)).trans h.ins)
 ·rw [size_set];exact Nat.lt_of_lt_of_le h.size hs2
 ·exact (((Below.refl gb W).alloc (by have:=h.size;omega) o).grown h2 (by simp;have:=h.size;omega) (fun b hb=>by have:=(h.row.lt b hb).1;omega)).setCell (by dsimp only;exact Nat.le_refl _) _
def rowsTo (p:Pd) (c:Cf) (k j:Nat):List Int:=if j<k then zs (silR p c j) else []
theorem ss_next {p:Pd} {c:Cf} {gb N k:Nat} {wr W:World} {nb:Array Value} {v:Value} {e:List Int} (h:SsAt (gb+1) wr gb N (rowsTo p c k)) (hk:k<N) (s:SiAt gb N k wr W nb v e) (he:zs (silR p c k)=e):SsAt (gb+1) W gb N (rowsTo p c (k+1)):=by
 refine⟨s.own,fun j hj=>?_⟩
 have _:=hk
 by_cases hjk:j=k
 ·subst hjk
  have e1:rowsTo p c (j+1) j=e:=by unfold rowsTo;rw [if_pos (by omega)];exact he
  rw [e1]
  obtain⟨ao,cap,hv⟩:=owns_slice s.row
  have hr:=s.row
  have hc:=s.cur
  rw [hv] at hr hc
  exact⟨ao,cap,hc,AllAt.lower (owns_ints hr).1 (by have:=h.own.lt;omega)⟩
 ·have e1:rowsTo p c (k+1) j=rowsTo p c k j:=by
   unfold rowsTo
   by_cases h1:j<k
   ·rw [if_pos h1,if_pos (by omega)]
   ·rw [if_neg h1,if_neg (by omega)]
  rw [e1]
  obtain⟨ao,cap,hc,hr⟩:=h.at_ j hj
  refine⟨ao,cap,(s.oth j hjk).trans hc,fun i x hx=>?_⟩
  obtain⟨b,off,e2,h1,h2,h3⟩:=hr i x hx
  exact⟨b,off,e2,h1,Nat.lt_trans h2 s.size,(World.cell?_of_block (w:=wr) (a:=⟨b,off+i*1,none⟩) (s.blk b (by omega) h2)).trans h3⟩
set_option maxRecDepth 100000 in
set_option maxHeartbeats 16000000 in
theorem silentSteps_any (w0:World) (B L vb sb db:Nat) (cao:Option Addr) (ccap:Nat) (ps:List Pd) (p:Pd) (h:Ph) (c:Cf) (l:Nat) (w:World) (X:Vctx w0 B L vb sb db ps p h) (H0:VfAt L vb sb db cao ccap ps p h w c l) (hb0:Below w0.heap.size w0 w) :
  Calls Tryz.prog 255 #[.pointer (some ⟨vb,0,none⟩)] w fun e w'=>(∃gb,e=.returned (.slice (some ⟨gb,0,none⟩) p.ins.length p.ins.length)∧SsAt (gb+1) w' gb p.ins.length fun j=>zs (silR p c j))∧Below w.heap.size w w':=by
 have hz:=X.hz
 have hmk:=run_make_k (P:=Tryz.prog) 321 55 _ 1 24 Tryz.underlying321 Tryz.info_ints .i64 .i64 p.ins.length (by omega) (by omega)
 simp only [Nat.mul_one] at hmk
 have A0:=below_al (Below.refl w.heap.size w) (.cells (madeCells #[.slice none 0 0] p.ins.length) 55)
 have S0:SsAt (w.heap.size+1) (w.alloc (.cells (madeCells #[.slice none 0 0] p.ins.length) 55)) w.heap.size p.ins.length (rowsTo p c 0):=by
  refine⟨Own.made w #[.slice none 0 0] p.ins.length 55,fun j hj=>⟨none,0,?_,fun i x hx=>by simp [rowsTo] at hx⟩⟩
  have hb:=blk_alloc_new w (.cells (madeCells #[.slice none 0 0] p.ins.length) 55)
  have:=made_cell (z:=#[.slice none 0 0]) (n:=p.ins.length) (j:=j) (i:=0) (by simp) (by simp;omega)
  simp only [World.cell?,hb]
  simpa [rowsTo] using this
 obtain⟨nz,hnz⟩:=some_of_lt X.fit.some
 obtain⟨ib,iof,hio,_⟩:=X.ins 0 nz hnz
 have v0:=H0.blk.cell 8
 have v1:=(H0.below A0).blk.cell 8
 simp only [List.getElem?_toArray,List.getElem?_cons_succ,List.getElem?_cons_zero] at v0 v1
 rw [hio] at v0 v1
 have Z0:∀j,0≤j→j<p.ins.length→(w.alloc (.cells (madeCells #[.slice none 0 0] p.ins.length) 55)).cell? ⟨w.heap.size,j,none⟩=some (.slice none 0 0):=by
  intro j _ hj
  have hb:=blk_alloc_new w (.cells (madeCells #[.slice none 0 0] p.ins.length) 55)
  have:=made_cell (z:=#[.slice none 0 0]) (n:=p.ins.length) (j:=j) (i:=0) (by simp) (by simp;omega)
  simp only [World.cell?,hb]
  simpa using this
 have HIO:Hid (h.io=some ⟨ib,iof,none⟩):=hio
 clear hio hnz
 go_enter Tryz.func255,Tryz.ntmps255
 go_wp2_with fail
 clear hmk v0 v1
 generalize w.alloc (.cells (madeCells #[.slice none 0 0] p.ins.length) 55)=w1 at *
 go_loopg [20] (p.ins.length+1) (fun g y wr=>∃k:Nat,k≤p.ins.length∧y=.int .i64 k∧Hid (SsAt (w.heap.size+1) wr w.heap.size p.ins.length (rowsTo p c k))∧Hid (∀j,k≤j→j<p.ins.length→wr.cell? ⟨w.heap.size,j,none⟩=some (.slice none 0 0))∧Hid (Below w.heap.size w wr)∧Hid (p.ins.length+1 - k≤g))
 case atStart=>exact ⟨0,Nat.zero_le _,rfl,S0,Z0,A0,Nat.le_refl _⟩
 case round=>
  obtain⟨k,hk,rfl,HS,HZ,HB,HG⟩:=hrel
  clear S0 A0 Z0
  by_cases hkl:k<p.ins.length
  ·obtain⟨n,hn⟩:=some_of_lt hkl
   have HNF:Hid (InsFit ps.length p n):=X.fit.fit k n hn
   obtain⟨ib',iof',hio',_,hibl,q0,q1,q2,q3,q4⟩:=(X.ins.later (Keeps.of_below (hb0.trans (HB.out.mono hb0.size)))) k n hn
   rw [HIO.out] at hio'
   obtain⟨rfl,rfl⟩:ib=ib'∧iof=iof':=by simpa using hio'
   have HSR:Hid (silR p c k=match c.st k with | some _=>silI n k | none=>[]):=by show _=_;unfold silR;rw [hn];cases c.st k <;> rfl
   obtain⟨op,na,nb,nc,nd⟩:=n
   dsimp only at q0 q1 q2 q3 q4
   have HG2:Hid (p.ins.length+1 - (k+1)≤gk - 1∧gk - 1<gk):=by have:=HG.out;show _∧_;omega
   have hgr:w.heap.size<wr.heap.size:=HS.out.own.lt
   have AW:=below_al (Below.refl wr.heap.size wr) (.cells #[.int .i64 op,.int .i64 na,.int .i64 nb,.int .i64 nc,.int .i64 nd] 48)
   have HB1:Hid (Below w.heap.size w (wr.alloc (.cells #[.int .i64 op,.int .i64 na,.int .i64 nb,.int .i64 nc,.int .i64 nd] 48))):=HB.out.trans (AW.mono HB.out.size)
   have S1:SiAt w.heap.size p.ins.length k wr (wr.alloc (.cells #[.int .i64 op,.int .i64 na,.int .i64 nb,.int .i64 nc,.int .i64 nd] 48)) #[.int .i64 op,.int .i64 na,.int .i64 nb,.int .i64 nc,.int .i64 nd] (.slice none 0 0) ([]:List Int):=
    ⟨fun b _ hl=>AW.block b hl,fun j _=>AW.cell (p:=⟨w.heap.size,j,none⟩) hgr,(AW.cell (p:=⟨w.heap.size,k,none⟩) hgr).trans (HZ.out k (Nat.le_refl _) hkl),HS.out.own.later AW,owns_nil _ _ _,Blk.new wr #[.int .i64 op,.int .i64 na,.int .i64 nb,.int .i64 nc,.int .i64 nd] 48,by simp,hkl⟩
   have HH1:=H0.below HB1.out
   have u10:=HH1.blk.cell 10
   obtain⟨o,ho⟩:=some_of_lt (show k<c.sts.length by rw [H0.lenS];exact hkl)
   have HO:Hid (c.st k=o):=by show _=_;unfold Cf.st;rw [List.getD_eq_getElem?_getD,ho];rfl
   obtain⟨_,_,_,_,z0,_,_,_,_⟩:=HH1.sts.at_ k o ho
   have kk:(k:Int)<p.ins.length:=by omega
   have k6:(k:Int)<6000:=by omega
   have HS1:Hid (SiAt w.heap.size p.ins.length k wr (wr.alloc (.cells #[.int .i64 op,.int .i64 na,.int .i64 nb,.int .i64 nc,.int .i64 nd] 48)) #[.int .i64 op,.int .i64 na,.int .i64 nb,.int .i64 nc,.int .i64 nd] (.slice none 0 0) ([]:List Int)):=S1
   clear hn hio' ho HH1 HG AW S1
   cases o with
   | none=>
    have HRD:Hid (zs (silR p c k)=([]:List Int)):=by show _=_;rw [HSR.out,HO.out];rfl
    go_wp2_with fail
    go_roundg (gk - 1)
    case measure=>exact HG2.out.2
    case rel=>exact ⟨k+1,by omega,by go_num,ss_next HS.out hkl HS1.out HRD.out,fun j h1 h2=>((HS1.out).oth j (by omega)).trans (HZ.out j (by omega) h2),HB1.out,HG2.out.1⟩
   | some st=>
    have HSR2:Hid (silR p c k=silI ⟨op,na,nb,nc,nd⟩ k):=by show _=_;rw [HSR.out,HO.out]
    have HTI:Hid (∀W,Calls Tryz.prog 314 #[.agg #[.int .i64 op,.int .i64 na,.int .i64 nb,.int .i64 nc,.int .i64 nd]] W fun e w'=>e=.returned (.bool (ticksB ⟨op,na,nb,nc,nd⟩))∧Below W.heap.size W w'):=fun W=>ticks_any ⟨op,na,nb,nc,nd⟩ W
    have HHN:Hid (∀W,Calls Tryz.prog 298 #[.agg #[.int .i64 op,.int .i64 na,.int .i64 nb,.int .i64 nc,.int .i64 nd]] W fun e w'=>e=.returned (.bool (nextB ⟨op,na,nb,nc,nd⟩))∧Below W.heap.size W w'):=fun W=>hasNext_any ⟨op,na,nb,nc,nd⟩ W
    clear HSR HO
    dsimp only [Option.isSome] at z0
    go_wp2_with fail
    refine (HTI.out _).mono ?_
    rintro e w2 ⟨rfl,hw2⟩
    have S2:=HS1.out.later hw2
    have HB2:Hid (Below w.heap.size w w2):=HB1.out.trans (hw2.mono HB1.out.size)
    clear HTI u10 z0 q0 q1 q2 q3 q4 hibl HS1 HB1 hw2
    cases hti:ticksB ⟨op,na,nb,nc,nd⟩
    ·have n2:=S2.ins.cell
     have HS2:Hid (SiAt w.heap.size p.ins.length k wr w2 #[.int .i64 op,.int .i64 na,.int .i64 nb,.int .i64 nc,.int .i64 nd] (.slice none 0 0) ([]:List Int)):=S2
     go_wp2_with fail
     refine (HHN.out _).mono ?_
     rintro e w3 ⟨rfl,hw3⟩
     have S3:=HS2.out.later hw3
     have HB3:Hid (Below w.heap.size w w3):=HB2.out.trans (hw3.mono HB2.out.size)
     clear n2 HHN hw3 S2 HS2 HB2
     by_cases hnx:nextB ⟨op,na,nb,nc,nd⟩=true∧op≠41
     ·have HRW:Hid (zs (silR p c k)=([] ++ [((k:Int)+1:Int)]) ++ zs ((tgtF ⟨op,na,nb,nc,nd⟩).toList)):=by show _=_;rw [HSR2.out];unfold silI;rw [hti];simp [hnx.1,hnx.2,zs]
      have e41:(op != 41)=true:=by simpa using hnx.2
      rw [hnx.1]
      have n3:=S3.ins.cell
      clear hnx hti
      have HSa:Hid (SiAt w.heap.size p.ins.length k wr w3 #[.int .i64 op,.int .i64 na,.int .i64 nb,.int .i64 nc,.int .i64 nd] (.slice none 0 0) ([]:List Int)):=S3
      have cu:=HSa.out.cur
      have cf:=HSa.out.own.frozen k
      have hsw:=HSa.out.size
      have hgw:=HSa.out.own.lt
      go_wp2_with (at_builtin;refine app_int rfl _ _ rfl (wr.heap.size+1) _ ([]:List Int).length ([]:List Int) (((k:Int)+1)) _ rfl (HSa.out.row.alloc _) rfl ?c1 (by simp) ?c3 ?_)
      case c1=>exact (Blk.new w3 #[.int .i64 (((k:Int)+1))] 3).cell 0
      case c3=>exact Nat.le_trans HSa.out.size (by simp)
      intro v' w' H1 H2 _
      have H1b:w'.ownsRow (wr.heap.size+1) 3 1 v' 1 (ints (([]:List Int) ++ [(((k:Int)+1):Int)])):=H1
      obtain⟨vo',vc',rfl⟩:=owns_slice H1b
      obtain⟨HSb,cu',cf',hbb⟩:=HSa.out.app H1 H2 hgr
      have HSb2:Hid (SiAt w.heap.size p.ins.length k wr (w'.setCell ⟨w.heap.size,k,none⟩ (.slice vo' 1 vc')) #[.int .i64 op,.int .i64 na,.int .i64 nb,.int .i64 nc,.int .i64 nd] (.slice vo' 1 vc') (([]:List Int) ++ [(((k:Int)+1):Int)])):=HSb
      have HBb:Hid (Below w.heap.size w (w'.setCell ⟨w.heap.size,k,none⟩ (.slice vo' 1 vc'))):=HB3.out.trans hbb
      clear HSb hbb H1 H1b H2 cu cf HSa
      have HGA:Hid (∀_:Unit,_):=fun _=>goesOnAt_any ps.length p ⟨op,na,nb,nc,nd⟩ (w'.setCell ⟨w.heap.size,k,none⟩ (.slice vo' 1 vc')) HNF.out (X.forms.later (hb0.trans ((HBb.out).mono hb0.size)))
      unfold Nd.val at HGA
      have n8:=(HSb2.out).ins.cell
      go_wp2_with fail
      refine (HGA.out ()).mono ?_
      rintro e w8 ⟨rfl,hw8⟩
      have S8:=(HSb2.out).later hw8
      have HB8:Hid (Below w.heap.size w w8):=(HBb.out).trans (hw8.mono (HBb.out).size)
      clear n8 HGA hw8
      cases htg:tgtF ⟨op,na,nb,nc,nd⟩ with
      | none=>
       have HTV:Hid (tgV ⟨op,na,nb,nc,nd⟩ = -1):=by show _=_;unfold tgV;rw [htg]
       rw [HTV.out]
       have HS8:Hid (SiAt w.heap.size p.ins.length k wr w8 #[.int .i64 op,.int .i64 na,.int .i64 nb,.int .i64 nc,.int .i64 nd] (.slice vo' 1 vc') ([] ++ [((k:Int)+1:Int)])):=S8
       have HRD:Hid (zs (silR p c k)=([] ++ [((k:Int)+1:Int)])):=by have:=HRW.out;rw [htg] at this;show _=_;rw [this];simp [zs]
       clear htg HTV S8
       go_wp2_with fail
       go_roundg (gk - 1)
       case measure=>exact HG2.out.2
       case rel=>exact ⟨k+1,by omega,by go_num,ss_next HS.out hkl HS8.out HRD.out,fun j h1 h2=>((HS8.out).oth j (by omega)).trans (HZ.out j (by omega) h2),HB8.out,HG2.out.1⟩
      | some t=>
       have HTV:Hid (tgV ⟨op,na,nb,nc,nd⟩=(t:Int)):=by show _=_;unfold tgV;rw [htg]
       rw [HTV.out]
       have HRD:Hid (zs (silR p c k)=([] ++ [((k:Int)+1:Int)]) ++ [(t:Int)]):=by have:=HRW.out;rw [htg] at this;show _=_;rw [this];simp [zs]
       have kt:(0:Int)≤t:=by omega
       clear htg HTV
       have HSa:Hid (SiAt w.heap.size p.ins.length k wr w8 #[.int .i64 op,.int .i64 na,.int .i64 nb,.int .i64 nc,.int .i64 nd] (.slice vo' 1 vc') ([] ++ [((k:Int)+1:Int)])):=S8
       have cu:=HSa.out.cur
       have cf:=HSa.out.own.frozen k
       have hsw:=HSa.out.size
       have hgw:=HSa.out.own.lt
       go_wp2_with (at_builtin;refine app_int rfl _ _ rfl (wr.heap.size+1) _ ([] ++ [((k:Int)+1:Int)]).length ([] ++ [((k:Int)+1:Int)]) ((t:Int)) _ rfl (HSa.out.row.alloc _) rfl ?c1 (by simp) ?c3 ?_)
       case c1=>exact (Blk.new w8 #[.int .i64 ((t:Int))] 3).cell 0
       case c3=>exact Nat.le_trans HSa.out.size (by simp)
       intro v' w' H1 H2 _
       have H1b:w'.ownsRow (wr.heap.size+1) 3 1 v' 2 (ints (([] ++ [((k:Int)+1:Int)]) ++ [((t:Int):Int)])):=H1
       obtain⟨vo',vc',rfl⟩:=owns_slice H1b
       obtain⟨HSb,cu',cf',hbb⟩:=HSa.out.app H1 H2 hgr
       have HSb2:Hid (SiAt w.heap.size p.ins.length k wr (w'.setCell ⟨w.heap.size,k,none⟩ (.slice vo' 2 vc')) #[.int .i64 op,.int .i64 na,.int .i64 nb,.int .i64 nc,.int .i64 nd] (.slice vo' 2 vc') (([] ++ [((k:Int)+1:Int)]) ++ [((t:Int):Int)])):=HSb
       have HBb:Hid (Below w.heap.size w (w'.setCell ⟨w.heap.size,k,none⟩ (.slice vo' 2 vc'))):=HB8.out.trans hbb
       clear HSb hbb H1 H1b H2 cu cf HSa
       go_wp2_with fail
       go_roundg (gk - 1)
       case measure=>exact HG2.out.2
       case rel=>exact ⟨k+1,by omega,by go_num,ss_next HS.out hkl HSb2.out HRD.out,fun j h1 h2=>((HSb2.out).oth j (by omega)).trans (HZ.out j (by omega) h2),HBb.out,HG2.out.1⟩
     ·have hnf:(nextB ⟨op,na,nb,nc,nd⟩ && op != 41)=false:=by
       rw [Bool.and_eq_false_iff]
       by_cases h1:nextB ⟨op,na,nb,nc,nd⟩=true
       ·right
        have:¬op≠41:=fun h2=>hnx ⟨h1,h2⟩
        simpa using this
       ·left;simpa using h1
      have HRW:Hid (zs (silR p c k)=([]:List Int) ++ zs ((tgtF ⟨op,na,nb,nc,nd⟩).toList)):=by show _=_;rw [HSR2.out];unfold silI;rw [hti];dsimp only;rw [hnf];rfl
      have n3:=S3.ins.cell
      cases hb:nextB ⟨op,na,nb,nc,nd⟩
      ·clear hnx hti hnf hb
       have HGA:Hid (∀_:Unit,_):=fun _=>goesOnAt_any ps.length p ⟨op,na,nb,nc,nd⟩ w3 HNF.out (X.forms.later (hb0.trans ((HB3.out).mono hb0.size)))
       unfold Nd.val at HGA
       have n8:=(S3).ins.cell
       go_wp2_with fail
       refine (HGA.out ()).mono ?_
       rintro e w8 ⟨rfl,hw8⟩
       have S8:=(S3).later hw8
       have HB8:Hid (Below w.heap.size w w8):=(HB3.out).trans (hw8.mono (HB3.out).size)
       clear n8 HGA hw8
       cases htg:tgtF ⟨op,na,nb,nc,nd⟩ with
       | none=>
        have HTV:Hid (tgV ⟨op,na,nb,nc,nd⟩ = -1):=by show _=_;unfold tgV;rw [htg]
        rw [HTV.out]
        have HS8:Hid (SiAt w.heap.size p.ins.length k wr w8 #[.int .i64 op,.int .i64 na,.int .i64 nb,.int .i64 nc,.int .i64 nd] (.slice none 0 0) ([]:List Int)):=S8
        have HRD:Hid (zs (silR p c k)=([]:List Int)):=by have:=HRW.out;rw [htg] at this;show _=_;rw [this];simp [zs]
        clear htg HTV S8
        go_wp2_with fail
        go_roundg (gk - 1)
        case measure=>exact HG2.out.2
        case rel=>exact ⟨k+1,by omega,by go_num,ss_next HS.out hkl HS8.out HRD.out,fun j h1 h2=>((HS8.out).oth j (by omega)).trans (HZ.out j (by omega) h2),HB8.out,HG2.out.1⟩
       | some t=>
        have HTV:Hid (tgV ⟨op,na,nb,nc,nd⟩=(t:Int)):=by show _=_;unfold tgV;rw [htg]
        rw [HTV.out]
        have HRD:Hid (zs (silR p c k)=([]:List Int) ++ [(t:Int)]):=by have:=HRW.out;rw [htg] at this;show _=_;rw [this];simp [zs]
        have kt:(0:Int)≤t:=by omega
        clear htg HTV
        have HSa:Hid (SiAt w.heap.size p.ins.length k wr w8 #[.int .i64 op,.int .i64 na,.int .i64 nb,.int .i64 nc,.int .i64 nd] (.slice none 0 0) ([]:List Int)):=S8
        have cu:=HSa.out.cur
        have cf:=HSa.out.own.frozen k
        have hsw:=HSa.out.size
        have hgw:=HSa.out.own.lt
        go_wp2_with (at_builtin;refine app_int rfl _ _ rfl (wr.heap.size+1) _ ([]:List Int).length ([]:List Int) ((t:Int)) _ rfl (HSa.out.row.alloc _) rfl ?c1 (by simp) ?c3 ?_)
        case c1=>exact (Blk.new w8 #[.int .i64 ((t:Int))] 3).cell 0
        case c3=>exact Nat.le_trans HSa.out.size (by simp)
        intro v' w' H1 H2 _
        have H1b:w'.ownsRow (wr.heap.size+1) 3 1 v' 1 (ints (([]:List Int) ++ [((t:Int):Int)])):=H1
        obtain⟨vo',vc',rfl⟩:=owns_slice H1b
        obtain⟨HSb,cu',cf',hbb⟩:=HSa.out.app H1 H2 hgr
        have HSb2:Hid (SiAt w.heap.size p.ins.length k wr (w'.setCell ⟨w.heap.size,k,none⟩ (.slice vo' 1 vc')) #[.int .i64 op,.int .i64 na,.int .i64 nb,.int .i64 nc,.int .i64 nd] (.slice vo' 1 vc') (([]:List Int) ++ [((t:Int):Int)])):=HSb
        have HBb:Hid (Below w.heap.size w (w'.setCell ⟨w.heap.size,k,none⟩ (.slice vo' 1 vc'))):=HB8.out.trans hbb
        clear HSb hbb H1 H1b H2 cu cf HSa
        go_wp2_with fail
        go_roundg (gk - 1)
        case measure=>exact HG2.out.2
        case rel=>exact ⟨k+1,by omega,by go_num,ss_next HS.out hkl HSb2.out HRD.out,fun j h1 h2=>((HSb2.out).oth j (by omega)).trans (HZ.out j (by omega) h2),HBb.out,HG2.out.1⟩
      ·have e41:(op != 41)=false:=by rw [hb] at hnf;simpa using hnf
       clear hnx hti hnf hb
       have HGA:Hid (∀_:Unit,_):=fun _=>goesOnAt_any ps.length p ⟨op,na,nb,nc,nd⟩ w3 HNF.out (X.forms.later (hb0.trans ((HB3.out).mono hb0.size)))
       unfold Nd.val at HGA
       have n8:=(S3).ins.cell
       go_wp2_with fail
       refine (HGA.out ()).mono ?_
       rintro e w8 ⟨rfl,hw8⟩
       have S8:=(S3).later hw8
       have HB8:Hid (Below w.heap.size w w8):=(HB3.out).trans (hw8.mono (HB3.out).size)
       clear n8 HGA hw8
       cases htg:tgtF ⟨op,na,nb,nc,nd⟩ with
       | none=>
        have HTV:Hid (tgV ⟨op,na,nb,nc,nd⟩ = -1):=by show _=_;unfold tgV;rw [htg]
        rw [HTV.out]
        have HS8:Hid (SiAt w.heap.size p.ins.length k wr w8 #[.int .i64 op,.int .i64 na,.int .i64 nb,.int .i64 nc,.int .i64 nd] (.slice none 0 0) ([]:List Int)):=S8
        have HRD:Hid (zs (silR p c k)=([]:List Int)):=by have:=HRW.out;rw [htg] at this;show _=_;rw [this];simp [zs]
        clear htg HTV S8
        go_wp2_with fail
        go_roundg (gk - 1)
        case measure=>exact HG2.out.2
        case rel=>exact ⟨k+1,by omega,by go_num,ss_next HS.out hkl HS8.out HRD.out,fun j h1 h2=>((HS8.out).oth j (by omega)).trans (HZ.out j (by omega) h2),HB8.out,HG2.out.1⟩
       | some t=>
        have HTV:Hid (tgV ⟨op,na,nb,nc,nd⟩=(t:Int)):=by show _=_;unfold tgV;rw [htg]
        rw [HTV.out]
        have HRD:Hid (zs (silR p c k)=([]:List Int) ++ [(t:Int)]):=by have:=HRW.out;rw [htg] at this;show _=_;rw [this];simp [zs]
        have kt:(0:Int)≤t:=by omega
        clear htg HTV
        have HSa:Hid (SiAt w.heap.size p.ins.length k wr w8 #[.int .i64 op,.int .i64 na,.int .i64 nb,.int .i64 nc,.int .i64 nd] (.slice none 0 0) ([]:List Int)):=S8
        have cu:=HSa.out.cur
        have cf:=HSa.out.own.frozen k
        have hsw:=HSa.out.size
        have hgw:=HSa.out.own.lt
        go_wp2_with (at_builtin;refine app_int rfl _ _ rfl (wr.heap.size+1) _ ([]:List Int).length ([]:List Int) ((t:Int)) _ rfl (HSa.out.row.alloc _) rfl ?c1 (by simp) ?c3 ?_)
        case c1=>exact (Blk.new w8 #[.int .i64 ((t:Int))] 3).cell 0
        case c3=>exact Nat.le_trans HSa.out.size (by simp)
        intro v' w' H1 H2 _
        have H1b:w'.ownsRow (wr.heap.size+1) 3 1 v' 1 (ints (([]:List Int) ++ [((t:Int):Int)])):=H1
        obtain⟨vo',vc',rfl⟩:=owns_slice H1b
        obtain⟨HSb,cu',cf',hbb⟩:=HSa.out.app H1 H2 hgr
        have HSb2:Hid (SiAt w.heap.size p.ins.length k wr (w'.setCell ⟨w.heap.size,k,none⟩ (.slice vo' 1 vc')) #[.int .i64 op,.int .i64 na,.int .i64 nb,.int .i64 nc,.int .i64 nd] (.slice vo' 1 vc') (([]:List Int) ++ [((t:Int):Int)])):=HSb
        have HBb:Hid (Below w.heap.size w (w'.setCell ⟨w.heap.size,k,none⟩ (.slice vo' 1 vc'))):=HB8.out.trans hbb
        clear HSb hbb H1 H1b H2 cu cf HSa
        go_wp2_with fail
        go_roundg (gk - 1)
        case measure=>exact HG2.out.2
        case rel=>exact ⟨k+1,by omega,by go_num,ss_next HS.out hkl HSb2.out HRD.out,fun j h1 h2=>((HSb2.out).oth j (by omega)).trans (HZ.out j (by omega) h2),HBb.out,HG2.out.1⟩
    ·have HRD:Hid (zs (silR p c k)=([]:List Int)):=by show _=_;rw [HSR2.out];unfold silI;rw [hti];rfl
     have HS2:Hid (SiAt w.heap.size p.ins.length k wr w2 #[.int .i64 op,.int .i64 na,.int .i64 nb,.int .i64 nc,.int .i64 nd] (.slice none 0 0) ([]:List Int)):=S2
     clear hti S2
     go_wp2_with fail
     go_roundg (gk - 1)
     case measure=>exact HG2.out.2
     case rel=>exact ⟨k+1,by omega,by go_num,ss_next HS.out hkl HS2.out HRD.out,fun j h1 h2=>((HS2.out).oth j (by omega)).trans (HZ.out j (by omega) h2),HB2.out,HG2.out.1⟩
  ·obtain rfl:k=p.ins.length:=by omega
   have kk:¬(p.ins.length:Int)<p.ins.length:=by omega
   clear HG
   go_wp2_with fail
   go_ret
   refine⟨⟨w.heap.size,rfl,HS.out.own,fun j hj=>?_⟩,HB.out⟩
   have:=HS.out.at_ j hj
   unfold rowsTo at this
   rw [if_pos hj] at this
   exact this
theorem silR_E {p:Pd} {c:Cf} {x y:Nat} : y ∈ silR p c x ↔ c.E p x y:=by
 unfold silR Cf.E Sil
 cases hn:p.ins[x]? with
 | none=>simp
 | some n=>
  cases hs:c.st x with
  | none=>simp
  | some s=>
   simp only [Option.isSome_some,true_and]
   constructor
   ·intro h;exact ⟨n,rfl,(sil_eq n x y).1 h⟩
   ·rintro⟨n',e,h⟩
    obtain rfl:=Option.some.inj e
    exact (sil_eq n x y).2 h
theorem silR_few {np:Nat} {p:Pd} {c:Cf} (hp:PFit np p) (j:Nat):(silR p c j).length≤2∧∀z ∈ silR p c j,z<p.ins.length:=by
 refine⟨?_,?_⟩
 ·unfold silR
  split
  ·unfold silI
   split
   ·simp
   ·rename_i n _ _ _ _
    rw [List.length_append]
    have h1:(if (nextB n && n.op != 41)=true then [j+1] else []).length≤1:=by split <;> simp
    have h2:(tgtF n).toList.length≤1:=by cases tgtF n <;> simp
    omega
  ·simp
 ·intro z hz
  obtain⟨_,n,hn,hy⟩:=silR_E.1 hz
  exact sil_lt hp hn hy
theorem leastC_congr {E F:Nat→Nat→Prop} (h:∀a b,E a b ↔ F a b) {N m:Nat} (hl:LeastC E N m):LeastC F N m:=by
 have e:E=F:=by funext a b;exact propext (h a b)
 rw [←e]
 exact hl
noncomputable def pcVe:Code:=pathC [1,1,1,1,1] (Tryz.f191.body.getD .skip)
set_option maxRecDepth 1000000 in
set_option maxHeartbeats 8000000 in
theorem vf_end (w0:World) (B L vb sb db:Nat) (cao:Option Addr) (ccap:Nat) (ps:List Pd) (p:Pd) (h:Ph) (c:Cf) (l pi:Nat) (w W:World) (c0 c2 c3 c4 c6 c8 c9 c10 c11 c12 c13 c14 c15 c16 c17 c18 c19 c20 c21 c22 c23 c24 c25 c26 c27 c28 c29 c30 c31 c32 c33 c34 c35 c36 c37 c38 c39 c40 c41 c42 c43 c44 c45 c46 c47 c48 c49 c50 c51 c52 c53 c54 c55 c56 c57 c58 c59 c60:Value) (Q:Exit→Act→World→Prop) (hq:∀a' w',bodyPost Tryz.prog Tryz.f191 (WkPost w ps p pi) .ret a' w'→Q .ret a' w')
  (X:Vctx w0 B L vb sb db ps p h) (H0:VfAt L vb sb db cao ccap ps p h W c l) (hb0:Below w0.heap.size w0 W) (hbw:Below w.heap.size w W) (FL:Blk W (w.heap.size+1) #[.int .i64 0,.int .i64 0,.int .i64 0] 143) (hwo:walkF ps p (2 * p.ins.length+2) (startC p)=.ok c) :
  Code.wp Tryz.prog pcVe Q ⟨List.toArray (c0::.int .i64 pi::c2::c3::c4::.pointer (some ⟨w.heap.size+1,0,none⟩)::c6::.pointer (some ⟨vb,0,none⟩)::c8::c9::c10::c11::c12::c13::c14::c15::c16::c17::c18::c19::c20::c21::c22::c23::c24::c25::c26::c27::c28::c29::c30::c31::c32::c33::c34::c35::c36::c37::c38::c39::c40::c41::c42::c43::c44::c45::c46::c47::c48::c49::c50::c51::c52::c53::c54::c55::c56::c57::c58::c59::c60::[]),[]⟩ W:=by
 conv=>arg 2;whnf
 have HQ:Hid _:=hq
 have HSS:Hid (∀_:Unit,_):=fun _=>silentSteps_any w0 B L vb sb db cao ccap ps p h c l W X H0 hb0
 have HWO:Hid _:=hwo
 clear hq hwo
 go_wp2_with fail
 refine (HSS.out ()).mono ?_
 rintro e w1 ⟨⟨gb,rfl,S1⟩,hw1⟩
 have HLC:Hid (∀_:Unit,_):=fun _=>leastOnCircle_any p.ins.length gb (gb+1) (silR p c) w1 X.hz S1 (fun j _=>silR_few X.fit j)
 clear HSS S1
 go_wp2_with fail
 refine (HLC.out ()).mono ?_
 rintro e w2 ⟨⟨m,hm,rfl⟩,hw2⟩
 have hb2:Below W.heap.size W w2:=hw1.trans (hw2.mono hw1.size)
 have HM:Hid (LeastC (c.E p) p.ins.length m):=leastC_congr (fun a b=>silR_E) hm
 have F2:=FL.later hb2
 have H2:=H0.below hb2
 have f2:=F2.cell
 have z2:=F2.frozen
 have v2:=H2.blk.cell
 have HB2:Hid (Below w.heap.size w w2):=hbw.trans (hb2.mono hbw.size)
 clear HLC hm hw1 hw2 hb2 FL
 by_cases hmN:m=p.ins.length
 ·rw [if_pos hmN]
  have HVF:Hid (verF ps p pi=(0,0,0)):=verF_none HWO.out (by have:=HM.out;rw [hmN] at this;exact this)
  clear hmN
  go_wp2_with fail
  refine HQ.out _ _ (bodyPost_ret (v:=.tuple #[.slice (some ⟨sb,0,none⟩) p.ins.length p.ins.length,.agg #[.int .i64 0,.int .i64 0,.int .i64 0]]) ?_ rfl ⟨⟨.slice (some ⟨sb,0,none⟩) p.ins.length p.ins.length,?_⟩,?_⟩)
  ·simp [results,Tryz.results191,go_sem,f2]
  ·rw [HVF.out];rfl
  ·iterate 3 (refine Below.setCell ?_ (by simp) _)
   exact HB2.out
 ·rw [if_neg hmN]
  have HVF:Hid (verF ps p pi=(14,(pi:Int),(m:Int))):=verF_circ HWO.out HM.out (by have:=HM.out.1;omega)
  have km:(0:Int)≤m:=by omega
  clear hmN
  go_wp2_with fail
  refine HQ.out _ _ (bodyPost_ret (v:=.tuple #[.slice none 0 0,.agg #[.int .i64 14,.int .i64 pi,.int .i64 m]]) ?_ rfl ⟨⟨.slice none 0 0,?_⟩,?_⟩)
  ·simp [results,Tryz.results191,go_sem,f2]
  ·rw [HVF.out];rfl
  ·iterate 3 (refine Below.setCell ?_ (by simp) _)
   exact HB2.out
theorem mkIns_ok {ps:List Pd} {pi:Nat} {p:Pd} : ∀{l:List Nd} {k:Nat} {m m':List Bool},mkIns ps pi p k l m=(none,m')→∀n ∈ l,n.op=11→upsB p ((ps[n.b.toNat]?.map Pd.ups).getD [])=true
 | [],_,_,_,_,n,hn,_=>by simp at hn
 | x::r,k,m,m',h,n,hn,ho=>by
  unfold mkIns at h
  by_cases hx:x.op=11
  ·rw [if_pos (by simpa using hx)] at h
   cases hb:fnBad ps pi p m x with
   | true=>rw [hb] at h;simp at h
   | false=>
    rw [hb] at h
    rcases List.mem_cons.1 hn with rfl | hn
    ·unfold fnBad at hb
     simp only [Bool.or_eq_false_iff,Bool.not_eq_false'] at hb
     exact hb.2.2
    ·exact mkIns_ok (by simpa using h) n hn ho
  ·rw [if_neg (by simpa using hx)] at h
   rcases List.mem_cons.1 hn with rfl | hn
   ·exact absurd ho hx
   ·exact mkIns_ok h n hn ho
theorem mkAll_ok {ps:List Pd} : ∀{l:List Pd} {pi:Nat} {m m':List Bool},mkAll ps pi l m=(none,m')→∀p ∈ l,∀n ∈ p.ins,n.op=11→upsB p ((ps[n.b.toNat]?.map Pd.ups).getD [])=true
 | [],_,_,_,_,p,hp=>by simp at hp
 | x::r,pi,m,m',h,p,hp=>by
  unfold mkAll at h
  cases hi:mkIns ps pi x 0 x.ins m with
  | mk o m2=>
   rw [hi] at h
   cases o with
   | some k=>simp at h
   | none=>
    dsimp only at h
    rcases List.mem_cons.1 hp with rfl | hp
    ·exact mkIns_ok hi
    ·exact mkAll_ok h p hp
structure Fits (ps:List Pd) (p:Pd):Prop where
 fit:PFit ps.length p
 few:p.ins.length≤6000
 ups:∀n ∈ p.ins,∀u ∈ fnUps ps n,u.loc=true→0≤u.idx∧u.idx<p.regs
theorem shape_parts {ps:List Pd} (h:(shapeF ps).1=0):sizeB ps=true∧firstP headP 0 ps=none∧firstP (insP ps.length) 0 ps=none∧∃m,mkAll ps 0 ps (List.replicate ps.length false)=(none,m):=by
 unfold shapeF at h
 cases hs:sizeB ps with
 | false=>rw [hs] at h;simp at h
 | true=>
  rw [hs,if_pos rfl] at h
  cases h1:firstP headP 0 ps with
  | some x=>rw [h1] at h;simp at h
  | none=>
   rw [h1] at h
   dsimp only at h
   cases h2:firstP constP 0 ps with
   | some x=>rw [h2] at h;simp at h
   | none=>
    rw [h2] at h
    dsimp only at h
    cases h3:firstP namedP 0 ps with
    | some x=>rw [h3] at h;simp at h
    | none=>
     rw [h3] at h
     dsimp only at h
     cases h4:firstP (insP ps.length) 0 ps with
     | some x=>rw [h4] at h;simp at h
     | none=>
      rw [h4] at h
      dsimp only at h
      refine⟨rfl,rfl,rfl,?_⟩
      unfold mkFault at h
      cases h5:mkAll ps 0 ps (List.replicate ps.length false) with
      | mk o m=>
       rw [h5] at h
       cases o with
       | some x=>simp at h
       | none=>exact ⟨m,rfl⟩
theorem shape_fits {ps:List Pd} (h:(shapeF ps).1=0):∀p ∈ ps,Fits ps p:=by
 obtain⟨hs,hh,hi,m,hm⟩:=shape_parts h
 intro p hp
 obtain⟨k,hk⟩:=List.getElem?_of_mem hp
 have h1:=firstP_none hh k p hk
 have h2:=firstP_none hi k p hk
 have hreg:=regs_of_heads hh p hp
 have hhead:headOk p (0+k)=true:=by
  unfold headP at h1
  split at h1
  ·assumption
  ·cases h1
 unfold insP insBad at h2
 cases h3:firstBad (formsG ps.length p) 0 p.ins with
 | some x=>rw [h3] at h2;cases h2
 | none=>
  rw [h3] at h2
  dsimp only at h2
  cases hl:p.ins.getLast? with
  | none=>rw [hl] at h2;cases h2
  | some n=>
   rw [hl] at h2
   dsimp only at h2
   have hnx:nextB n=false:=by
    cases hb:nextB n with
    | true=>rw [hb] at h2;simp at h2
    | false=>rfl
   have hpos:0<p.ins.length:=by
    cases hh2:p.ins with
    | nil=>rw [hh2] at hl;simp at hl
    | cons a r=>simp
   rw [List.getLast?_eq_getElem?] at hl
   refine⟨⟨hreg,?_,?_,hpos,?_⟩,?_,?_⟩
   ·intro i x hx
    have:=firstBad_none h3 i x hx
    unfold formsG formsB inR at this
    simp only [Bool.and_eq_true,decide_eq_true_iff] at this
    exact⟨this.1.1,this.1.2,this.2⟩
   ·intro i x hx hb
    have hil:=(List.getElem?_eq_some_iff.1 hx).1
    refine Classical.byContradiction fun hn=>?_
    have:i=p.ins.length - 1:=by omega
    subst this
    rw [hx] at hl
    obtain rfl:=Option.some.inj hl
    rw [hb] at hnx
    cases hnx
   ·unfold headOk at hhead
    simp only [Bool.and_eq_true,decide_eq_true_iff] at hhead
    have hpar:=hhead.1.1.1.2
    unfold inR most wrap64 at hpar
    cases hre:p.rest with
    | false=>rw [hre] at hpar;simp at hpar;exact ⟨by omega,by omega,by simp⟩
    | true=>rw [hre] at hpar;simp at hpar;exact ⟨by omega,by omega,fun _=>by omega⟩
   ·unfold sizeB at hs
    simp only [Bool.and_eq_true,decide_eq_true_iff] at hs
    have h1:=sumL_mem (f:=fun p:Pd=>p.ins.length) hp
    have h2:=hs.2
    unfold insSum at h2
    omega
   ·intro x hx u hu hloc
    unfold fnUps at hu
    split at hu
    ·rename_i ho
     have:=mkAll_ok hm p hp x hx ho
     cases hq:ps[x.b.toNat]? with
     | none=>rw [hq] at hu;simp at hu
     | some q=>
      rw [hq] at hu this
      simp at this
      unfold upsB at this
      have:=List.all_eq_true.1 this u hu
      unfold upB inR at this
      rw [hloc] at this
      simp at this
      omega
    ·simp at hu
theorem fnUps_few {ps:List Pd} (hfi:∀p ∈ ps,PFew p) (n:Nd):(fnUps ps n).length≤1048576:=by
 unfold fnUps
 split
 ·split
  ·rename_i q hq;exact (hfi q (List.mem_of_getElem? hq)).ups
  ·simp
 ·simp
noncomputable def verL (ps:List Pd):Nat→List Pd→Int × Int × Int
 | _,[]=>(0,0,0)
 | k,p::r=>if (verF ps p k).1=0 then verL ps (k+1) r else verF ps p k
theorem verL_drop {ps l:List Pd} {k:Nat} {p:Pd} (h:l[k]?=some p):verL ps k (l.drop k)=if (verF ps p k).1=0 then verL ps (k+1) (l.drop (k+1)) else verF ps p k:=by
 rw [drop_some h];rfl
noncomputable def checkF (ps:List Pd):Int × Int × Int:=if (shapeF ps).1=0 then verL ps 0 ps else shapeF ps
end Go.Proofs.YtgopdffmnikhdaaGreatDoor
