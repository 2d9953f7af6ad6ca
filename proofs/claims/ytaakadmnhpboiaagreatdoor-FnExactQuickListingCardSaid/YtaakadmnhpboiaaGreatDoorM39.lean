import Derived.Test.YtaakadmnhpboiaaGreatDoorM27
import Derived.Test.YtaakadmnhpboiaaGreatDoorM19
import Derived.Test.YtaakadmnhpboiaaGreatDoorM20
import Derived.Test.YtaakadmnhpboiaaGreatDoorM32
import Derived.Deep.MidRow
import Derived.Test.YtaakadmnhpboiaaGreatDoorM23
import Derived.Test.YtaakadmnhpboiaaGreatDoorM30
import Derived.Test.YtaakadmnhpboiaaGreatDoorM35
import Derived.Test.YtaakadmnhpboiaaGreatDoorM29
import Derived.Test.YtaakadmnhpboiaaGreatDoorM36
import Derived.Test.YtaakadmnhpboiaaGreatDoorM37
import Derived.Test.YtaakadmnhpboiaaGreatDoorM38
import Derived.Test.YtaakadmnhpboiaaGreatDoorM34
import Derived.Test.YtaakadmnhpboiaaGreatDoorM12
import Derived.Test.YtaakadmnhpboiaaGreatDoorM22
import Derived.ArgAppend
import Derived.Deep.Cut
import Derived.Deep.RegionLaw
namespace Go.Proofs.YtaakadmnhpboiaaGreatDoor
open Go.RowKit Go.Deep
structure SpAt (w0:World) (B L vb sb db:Nat) (cao:Option Addr) (ccap:Nat) (ps:List Pd) (p:Pd) (h:Ph) (c:Cf) (l i m:Nat) (op na nb nc nd:Int) (s:St) (ao ago:Option Addr) (ac agc b0 x5 x6 x7:Nat) (t0 t1 t2 t3:TypeId) (v0 v1 v2 v3:Value) (wS w3:World):Prop where
 X:Vctx w0 B L vb sb db ps p h
 H:VfAt L vb sb db cao ccap ps p h w3 c l
 hl:l≤p.ins.length
 hL:L≤wS.heap.size
 hb0:Below w0.heap.size w0 w3
 off:Off B L wS w3
 hok:CfOk p c
 hi:p.ins[i]?=some ⟨op,na,nb,nc,nd⟩
 hs:StOk p s
 hm:s.types.length=m
 R0:Blk w3 b0 #[.int .i64 0,.int .i64 0,.int .i64 0] 27
 N:Blk w3 x5 #[.int .i64 op,.int .i64 na,.int .i64 nb,.int .i64 nc,.int .i64 nd] 93
 A:Blk w3 x6 #[.bool true,.slice ao m ac,.slice ago s.guards.length agc] 98
 F:Blk w3 x7 #[.iface t0 v0,.iface t1 v1,.iface t2 v2,.iface t3 v3] 179
 hb:wS.heap.size≤b0
 RT:RowI L w3 ao ac s.types
 RG:RowG L w3 ago agc s.guards
theorem SpAt.m2 {w0:World} {B L vb sb db:Nat} {cao:Option Addr} {ccap:Nat} {ps:List Pd} {p:Pd} {h:Ph} {c:Cf} {l i m:Nat} {op na nb nc nd:Int} {s:St} {ao ago:Option Addr} {ac agc b0 x5 x6 x7:Nat} {t0 t1 t2 t3:TypeId} {v0 v1 v2 v3:Value} {wS w3:World} (x:SpAt w0 B L vb sb db cao ccap ps p h c l i m op na nb nc nd s ao ago ac agc b0 x5 x6 x7 t0 t1 t2 t3 v0 v1 v2 v3 wS w3):m≤250∧(m:Int)=p.regs:=by
 have h1:=x.hs.len
 have h2:=x.X.fit.regs
 have h3:=x.hm
 omega
theorem off3 {B L b0:Nat} {a b:World} (h:Off B L a b) (hB:B≤a.heap.size) (hb:a.heap.size≤b0) (v1 v2 v3:Value):Off B L a (((b.setCell ⟨b0,0,none⟩ v1).setCell ⟨b0,1,none⟩ v2).setCell ⟨b0,2,none⟩ v3):=
 ((h.setNew hB v1 (by dsimp only;omega)).setNew hB v2 (by dsimp only;omega)).setNew hB v3 (by dsimp only;omega)
noncomputable def pcSE:Code:=pathC [1,1,1,1,1,1,1] (Tryz.f64.body.getD .skip)
set_option maxRecDepth 1000000 in
set_option maxHeartbeats 8000000 in
theorem stp_end (w0:World) (B L vb sb db:Nat) (cao:Option Addr) (ccap:Nat) (ps:List Pd) (p:Pd) (h:Ph) (c:Cf) (l i m:Nat) (op na nb nc nd:Int) (s:St) (ao ago:Option Addr) (ac agc b0 x5 x6 x7:Nat) (t0 t1 t2 t3:TypeId) (v0 v1 v2 v3:Value) (wS w3:World) (x8 x9:Nat) (ko bo bgo:Option Addr) (kc bc bgc:Nat) (vt vr:Value) (tk ts2:List Int) (gs2:List Gd) (W:World) (c2 c3 c5 c7 c10 c11 c12 c13 c14 c15 c16 c17 c18 c19 c20 c21 c22 c23 c24 c25 c26 c27 c28 c29 c30 c31 c32 c33 c34 c35 c36 c37 c38 c39 c40 c41 c42 c43 c44 c45 c46 c47 c48 c49 c50 c51 c52 c53 c54 c55 c56 c57 c58 c59 c60 c61 c62 c63 c64 c65 c66 c67 c68 c69 c70 c71 c72 c73 c74 c75 c76 c77 c78 c79 c80 c81 c82 c83 c84 c85 c86 c87 c88 c89 c90 c91 c92 c93 c94 c95 c96 c97 c98 c99 c100:Value) (Q:Exit→Act→World→Prop) (hq:∀a' w',bodyPost Tryz.prog Tryz.f64 (FwPost B L vb sb db cao ccap ps p h wS (if stayB (maxKeep s.guards) tk s.types ts2 then followF c (folF ⟨op,na,nb,nc,nd⟩ i s ts2 gs2) else .error (12,i))) .ret a' w'→Q .ret a' w')
  (D:SpAt w0 B L vb sb db cao ccap ps p h c l i m op na nb nc nd s ao ago ac agc b0 x5 x6 x7 t0 t1 t2 t3 v0 v1 v2 v3 wS w3) (hB3:Below w3.heap.size w3 W) (R8:Blk W x8 #[vt,vr,.slice ko tk.length kc] 182) (hk:IntsAt 0 W ko tk) (htk:tk.length≤1000) (R9:Blk W x9 #[.bool false,.slice bo m bc,.slice bgo gs2.length bgc] 98) (RT2:RowI L W bo bc ts2) (RG2:RowG L W bgo bgc gs2) (ht2:ts2.length=m) (hso2:StOk p ⟨ts2,gs2⟩) (hfk:∀y ∈ goF ⟨op,na,nb,nc,nd⟩ s ts2 gs2,y.1<p.ins.length) :
  Code.wp Tryz.prog pcSE Q ⟨List.toArray (.pointer (some ⟨vb,0,none⟩)::.int .i64 i::c2::c3::.pointer (some ⟨b0,0,none⟩)::c5::.pointer (some ⟨x6,0,none⟩)::c7::.pointer (some ⟨x8,0,none⟩)::.pointer (some ⟨x9,0,none⟩)::c10::c11::c12::c13::c14::c15::c16::c17::c18::c19::c20::c21::c22::c23::c24::c25::c26::c27::c28::c29::c30::c31::c32::c33::c34::c35::c36::c37::c38::c39::c40::c41::c42::c43::c44::c45::c46::c47::c48::c49::c50::c51::c52::c53::c54::c55::c56::c57::c58::c59::c60::c61::c62::c63::c64::c65::c66::c67::c68::c69::c70::c71::c72::c73::c74::c75::c76::c77::c78::c79::c80::c81::c82::c83::c84::c85::c86::c87::c88::c89::c90::c91::c92::c93::c94::c95::c96::c97::c98::c99::c100::[]),[]⟩ W:=by
 conv=>arg 2;whnf
 have HQ:Hid _:=hq
 clear hq
 obtain⟨hm2,hmr⟩:=D.m2
 have hOW:Off B L wS W:=D.off.trans (Off.of_below hB3 (Nat.le_trans (Nat.le_trans D.X.hBL D.hL) D.off.size))
 have hBW:B≤wS.heap.size:=Nat.le_trans D.X.hBL D.hL
 obtain⟨mk,hmk⟩:∃mk:Nat,maxKeep s.guards=mk:=Int.eq_ofNat_of_zero_le (maxKeep_in s.guards).1
 have hmkm:mk≤m:=by
  rcases (maxKeep_in s.guards).2 with h0 | ⟨g,hg,_,hg2⟩
  ·omega
  ·have:=(D.hs.keep g hg).2;omega
 refine wp_seq_k ?_
 intro K1 hK1
 have HK1:Hid _:=hK1
 clear hK1
 refine wp_seq_k ?_
 intro K2 hK2
 have HK2:Hid _:=hK2
 clear hK2
 refine stp_r9 x6 x8 x9 m mk (stayB mk tk s.types ts2) ao ago ko bo ac agc kc bc s tk W _ _ _ _ _ _ _ _ _ _ _ _ _ _ _ _ _ _ _ _ _ _ _ _ _ _ _ _ _ _ _ _ _ _ _ _ _ _ _ _ _ _ _ _ _ _ _ _ _ _ _ _ _ _ _ _ _ _ _ _ _ _ _ _ _ _ _ _ _ _ _ _ _ _ _ _ _ _ _ _ _ _ _ _ _ _ _ _ _ _ _ _ _ _ _ _ _ _ _ ?_ ?_ ?_ ?_
 ·intro u83 u84 u85 u86 u87 u88 u89 u90 u91 u92 wx hbx
  refine HK2.out _ _ ?_
  clear HK2
  have hB4:=hB3.trans (hbx.mono hB3.size)
  have HR0:Hid (Blk wx b0 #[.int .i64 0,.int .i64 0,.int .i64 0] 27):=D.R0.later hB4
  have HO:Hid (Off B L wS wx):=hOW.trans (Off.of_below hbx (Nat.le_trans hBW hOW.size))
  cases hst:stayB mk tk s.types ts2
  ·have HRE:Hid ((if stayB (maxKeep s.guards) tk s.types ts2 then followF c (folF ⟨op,na,nb,nc,nd⟩ i s ts2 gs2) else .error (12,i):Except (Nat × Nat) Cf)=.error (12,i)):=by show _=_;rw [hmk,hst];rfl
   clear hst
   have r9:=HR0.out.cell
   have f9:=HR0.out.frozen
   go_wp2_with fail
   have c9:=(HR0.out.three (x':=.int .i64 12) (y':=.int .i64 0) (z':=.int .i64 i)).cell
   refine HQ.out _ _ (bodyPost_ret (v:=.agg #[.int .i64 12,.int .i64 0,.int .i64 i]) ?_ rfl ⟨?_,off3 HO.out hBW D.hb _ _ _⟩)
   ·simp [results,Tryz.results64,go_sem,c9]
   ·rw [HRE.out]
    try rfl
  ·have HRE:Hid ((if stayB (maxKeep s.guards) tk s.types ts2 then followF c (folF ⟨op,na,nb,nc,nd⟩ i s ts2 gs2) else .error (12,i):Except (Nat × Nat) Cf)=followF c (folF ⟨op,na,nb,nc,nd⟩ i s ts2 gs2)):=by show _=_;rw [hmk,hst];rfl
   clear hst
   have HFW:Hid (∀_:Unit,_):=fun _=>follow_any w0 B L vb sb db cao ccap ps p h c l wx i m ⟨op,na,nb,nc,nd⟩ true false ao ago bo bgo ac agc bc bgc s ts2 gs2 D.X (D.H.below hB4) D.hl (Nat.le_trans D.hL HO.out.size) (D.hb0.trans (hB4.mono D.hb0.size)) D.hok D.hi hso2 hfk D.hm ht2 hm2 hmr (D.RT.later (Keeps.of_below hB4)) (D.RG.later (Keeps.of_below hB4)) (RT2.later (Keeps.of_below hbx)) (RG2.later (Keeps.of_below hbx))
   rw [D.hm,ht2] at HFW
   have a6:=(D.A.later hB4).cell
   have a9:=(R9.later hbx).cell
   go_wp2_with fail
   refine HK1.out _ _ ?_
   clear HK1
   go_wp2_with fail
   refine (HFW.out ()).mono ?_
   unfold FwPost
   cases hfo:followF c (folF ⟨op,na,nb,nc,nd⟩ i s ts2 gs2) with
   | error kx=>
    obtain⟨k,x⟩:=kx
    rintro e w6 ⟨rfl,hO6⟩
    have HRE2:Hid ((if stayB (maxKeep s.guards) tk s.types ts2 then followF c (folF ⟨op,na,nb,nc,nd⟩ i s ts2 gs2) else .error (12,i):Except (Nat × Nat) Cf)=.error (k,x)):=HRE.out.trans hfo
    have HR0b:=hO6.blk HR0.out (Nat.le_trans D.hL D.hb)
    have HO6:Hid (Off B L wS w6):=HO.out.trans hO6
    clear HR0
    have HR0:Hid (Blk w6 b0 #[.int .i64 0,.int .i64 0,.int .i64 0] 27):=HR0b
    clear hfo HFW HRE a6 a9 HR0b
    have r9:=HR0.out.cell
    have f9:=HR0.out.frozen
    go_wp2_with fail
    have c9:=(HR0.out.three (x':=.int .i64 k) (y':=.int .i64 0) (z':=.int .i64 x)).cell
    refine HQ.out _ _ (bodyPost_ret (v:=.agg #[.int .i64 k,.int .i64 0,.int .i64 x]) ?_ rfl ⟨?_,off3 HO6.out hBW D.hb _ _ _⟩)
    ·simp [results,Tryz.results64,go_sem,c9]
    ·rw [HRE2.out]
     try rfl
   | ok c2=>
    rintro e w6 ⟨⟨rfl,l2,hl2,H6⟩,hO6⟩
    have HRE2:Hid ((if stayB (maxKeep s.guards) tk s.types ts2 then followF c (folF ⟨op,na,nb,nc,nd⟩ i s ts2 gs2) else .error (12,i):Except (Nat × Nat) Cf)=.ok c2):=HRE.out.trans hfo
    have HR0b:=hO6.blk HR0.out (Nat.le_trans D.hL D.hb)
    have HO6:Hid (Off B L wS w6):=HO.out.trans hO6
    clear HR0
    have HR0:Hid (Blk w6 b0 #[.int .i64 0,.int .i64 0,.int .i64 0] 27):=HR0b
    have HH6:Hid (VfAt L vb sb db cao ccap ps p h w6 c2 l2):=H6
    clear hfo HFW HRE a6 a9 HR0b H6
    have r9:=HR0.out.cell
    have f9:=HR0.out.frozen
    go_wp2_with fail
    have c9:=(HR0.out.three (x':=.int .i64 0) (y':=.int .i64 0) (z':=.int .i64 0)).cell
    refine HQ.out _ _ (bodyPost_ret (v:=.agg #[.int .i64 0,.int .i64 0,.int .i64 0]) ?_ rfl ⟨?_,off3 HO6.out hBW D.hb _ _ _⟩)
    ·simp [results,Tryz.results64,go_sem,c9]
    ·rw [HRE2.out]
     exact⟨rfl,_,hl2,HH6.out.fault D.X.V HR0.out (Nat.le_trans D.hL D.hb) _ _ _⟩
 ·intro W2 hb2
  have:=keptBelow_any ago agc s.guards W2 (by have:=D.hs.few;omega) (AllAt.lower (D.RG.later (Keeps.of_below (hB3.trans (hb2.mono hB3.size)))).at_ (Nat.zero_le _))
  rw [hmk] at this
  exact this.mono fun e w' hh=>⟨hh.1,hb2.trans (hh.2.mono hb2.size)⟩
 ·intro W2 hb2
  have hr1:=D.RT.later (Keeps.of_below (hB3.trans (hb2.mono hB3.size)))
  have hr2:=RT2.later (Keeps.of_below hb2)
  have:=keptStay_any mk ko ao bo kc ac bc tk s.types ts2 W2 htk (by rw [D.hm];exact hmkm) (by rw [ht2];exact hmkm) (by rw [D.hm];exact hm2) (Nat.le_trans (by rw [D.hm];exact hmkm) hr1.cap) (Nat.le_trans (by rw [ht2];exact hmkm) hr2.cap) (hk.later (Keeps.of_below hb2)) (AllAt.lower hr1.at_ (Nat.zero_le _)) (AllAt.lower hr2.at_ (Nat.zero_le _))
  rw [D.hm,ht2] at this
  exact this.mono fun e w' hh=>⟨hh.1,hb2.trans (hh.2.mono hb2.size)⟩
 ·intro W2 hb2
  have hB4:=hB3.trans (hb2.mono hB3.size)
  exact⟨(D.A.later hB4).cell 1,(D.A.later hB4).cell 2,(R8.later hb2).cell 2,(R9.later hb2).cell 1⟩
noncomputable def pcSF:Code:=pathC [1,1,1,1,1] (Tryz.f64.body.getD .skip)
theorem goF_lt {np:Nat} {p:Pd} {n:Nd} (hn:InsFit np p n) (s:St) (ts:List Int) (gs:List Gd):∀y ∈ goF n s ts gs,y.1<p.ins.length:=by
 obtain⟨f1,f2,f3,f4,f5,f6⟩:=fit_tab hn
 intro y hy
 unfold goF at hy
 split at hy
 ·rename_i ho;have:=f3 ho;simp at hy;subst hy;dsimp only;omega
 split at hy
 ·rename_i ho;have:=f4 (by omega);simp at hy;subst hy;dsimp only;omega
 split at hy
 ·rename_i ho;have:=f4 (by omega);simp at hy;subst hy;dsimp only;omega
 split at hy
 ·rename_i ho;have:=(f1 ho).1;simp at hy;subst hy;dsimp only;omega
 ·simp at hy
theorem wrsI_len:∀(rs:List Nat) (xs:List Int) (ts:List Int),(wrsI rs xs ts).length=ts.length
 | [],_,_=>by unfold wrsI;rfl
 | _::_,[],_=>by unfold wrsI;rfl
 | r::rs,x::xs,ts=>by unfold wrsI;rw [wrsI_len rs xs,wrI_len]
theorem gfit_some {n:Nd} {gs:List Gd} (h:gfitB n gs=true) (ho:n.op=32∨n.op=34∨n.op=36):gs.length≠0:=by
 intro h0
 have:gs=[]:=List.length_eq_zero_iff.1 h0
 subst this
 unfold gfitB lastTr at h
 rcases ho with ho | ho | ho <;> simp [ho] at h
set_option maxRecDepth 1000000 in
set_option maxHeartbeats 8000000 in
theorem stp_8 (w0:World) (B L vb sb db:Nat) (cao:Option Addr) (ccap:Nat) (ps:List Pd) (p:Pd) (h:Ph) (c:Cf) (l i m:Nat) (op na nb nc nd:Int) (s:St) (ao ago:Option Addr) (ac agc b0 x5 x6 x7:Nat) (t0 t1' t2 t3:TypeId) (v0 v1 v2 v3:Value) (wS w3:World) (x8 r0 r1 r2 r3:Nat) (ro ko:Option Addr) (rc kc:Nat) (vr:Value) (rd:Rd) (W:World) (c2 c3 c9 c10 c11 c12 c13 c14 c15 c16 c17 c18 c19 c20 c21 c22 c23 c24 c25 c26 c27 c28 c29 c30 c31 c32 c33 c34 c35 c36 c37 c38 c39 c40 c41 c42 c43 c44 c45 c46 c47 c48 c49 c50 c51 c52 c53 c54 c55 c56 c57 c58 c59 c60 c61 c62 c63 c64 c65 c66 c67 c68 c69 c70 c71 c72 c73 c74 c75 c76 c77 c78 c79 c80 c81 c82 c83 c84 c85 c86 c87 c88 c89 c90 c91 c92 c93 c94 c95 c96 c97 c98 c99 c100:Value) (Q:Exit→Act→World→Prop) (hq:∀a' w',bodyPost Tryz.prog Tryz.f64 (FwPost B L vb sb db cao ccap ps p h wS (if stayB (maxKeep s.guards) rd.taken s.types (wrsI [r0,r1,r2,r3] [na,nb,nc,nd] rd.types) then followF c (folF ⟨op,na,nb,nc,nd⟩ i s (wrsI [r0,r1,r2,r3] [na,nb,nc,nd] rd.types) (gbehF ⟨op,na,nb,nc,nd⟩ s.guards)) else .error (12,i))) .ret a' w'→Q .ret a' w')
  (D:SpAt w0 B L vb sb db cao ccap ps p h c l i m op na nb nc nd s ao ago ac agc b0 x5 x6 x7 t0 t1' t2 t3 v0 v1 v2 v3 wS w3) (hB3:Below w3.heap.size w3 W) (R8:RgAt w3.heap.size x8 m W rd (.slice ro m rc) vr (.slice ko rd.taken.length kc)) (ht1:rd.types.length=m) (htk:rd.taken.length≤1000) (hgf:gfitB ⟨op,na,nb,nc,nd⟩ s.guards=true) (e0:fieldVal ps.length p r0 na=.iface t0 v0) (g0:r0≤23) (f0:fitsR ps.length p (convR r0) na=true) (e1:fieldVal ps.length p r1 nb=.iface t1' v1) (g1:r1≤23) (f1:fitsR ps.length p (convR r1) nb=true) (e2:fieldVal ps.length p r2 nc=.iface t2 v2) (g2:r2≤23) (f2:fitsR ps.length p (convR r2) nc=true) (e3:fieldVal ps.length p r3 nd=.iface t3 v3) (g3:r3≤23) (f3:fitsR ps.length p (convR r3) nd=true) :
  Code.wp Tryz.prog pcSF Q ⟨List.toArray (.pointer (some ⟨vb,0,none⟩)::.int .i64 i::c2::c3::.pointer (some ⟨b0,0,none⟩)::.pointer (some ⟨x5,0,none⟩)::.pointer (some ⟨x6,0,none⟩)::.pointer (some ⟨x7,0,none⟩)::.pointer (some ⟨x8,0,none⟩)::c9::c10::c11::c12::c13::c14::c15::c16::c17::c18::c19::c20::c21::c22::c23::c24::c25::c26::c27::c28::c29::c30::c31::c32::c33::c34::c35::c36::c37::c38::c39::c40::c41::c42::c43::c44::c45::c46::c47::c48::c49::c50::c51::c52::c53::c54::c55::c56::c57::c58::c59::c60::c61::c62::c63::c64::c65::c66::c67::c68::c69::c70::c71::c72::c73::c74::c75::c76::c77::c78::c79::c80::c81::c82::c83::c84::c85::c86::c87::c88::c89::c90::c91::c92::c93::c94::c95::c96::c97::c98::c99::c100::[]),[]⟩ W:=by
 conv=>arg 2;whnf
 obtain⟨hm2,hmr⟩:=D.m2
 have hNF:=D.X.fit.fit i _ D.hi
 have hL3:L≤w3.heap.size:=Nat.le_trans D.hL D.off.size
 have hso2:StOk p ⟨(wrsI [r0,r1,r2,r3] [na,nb,nc,nd] rd.types),(gbehF ⟨op,na,nb,nc,nd⟩ s.guards)⟩:=by
  have hc:=change_eq hNF s.guards
  rw [hgf,if_pos rfl] at hc
  obtain⟨h1,h2⟩:=changeF_ok hNF D.hs.few D.hs.keep hc
  refine⟨?_,h1,h2⟩
  dsimp only
  rw [wrsI_len,ht1]
  exact hmr
 have HPUT:Hid (∀_:Unit,_):=fun _=>put_any ps.length p w3.heap.size x8 m r0 r1 r2 r3 na nb nc nd t0 t1' t2 t3 v0 v1 v2 v3 rd ro rc vr (.slice ko rd.taken.length kc) W R8 ht1 hm2 hmr g0 g1 g2 g3 f0 f1 f2 f3 e0 e1 e2 e3
 have HQ:Hid _:=hq
 have f8:=(D.F.later hB3).cell
 refine wp_seq_k ?_
 intro K1 hK1
 have HK1:Hid _:=hK1
 clear hK1 hq R8
 go_wp2_with fail
 refine (HPUT.out ()).mono ?_
 rintro e w8 ⟨rfl,R8',hb8⟩
 have hB8:=hB3.trans hb8
 clear f8 HPUT
 have hrt:=(RowI.of_owns R8'.types).lower hL3
 have hk8:IntsAt 0 w8 ko rd.taken:=AllAt.lower (owns_ints R8'.taken).1 (Nat.zero_le _)
 have HR8:Hid _:=R8'
 have HRT:Hid _:=hrt
 clear hrt R8'
 go_wp2_with fail
 refine HK1.out _ _ ?_
 clear HK1
 have R8':=HR8.out
 refine wp_seq_k ?_
 intro K2 hK2
 refine stp_r8 x5 x6 x7 x8 L m ro ago rc agc op na nb nc nd s (wrsI [r0,r1,r2,r3] [na,nb,nc,nd] rd.types) (gbehF ⟨op,na,nb,nc,nd⟩ s.guards) w8 _ _ _ _ _ _ _ _ _ _ _ _ _ _ _ _ _ _ _ _ _ _ _ _ _ _ _ _ _ _ _ _ _ _ _ _ _ _ _ _ _ _ _ _ _ _ _ _ _ _ _ _ _ _ _ _ _ _ _ _ _ _ _ _ _ _ _ _ _ _ _ _ _ _ _ _ _ _ _ _ _ _ _ _ _ _ _ _ _ _ _ _ _ _ _ _ _ _ ?_ HRT.out (Nat.le_trans hL3 hB8.size) ?_ ?_
 ·intro u76 u77 u78 u79 u80 u81 u82 x9 wx bgo bgc hx9 R9 RT2 RG2 hbx
  refine hK2 _ _ ?_
  exact stp_end w0 B L vb sb db cao ccap ps p h c l i m op na nb nc nd s ao ago ac agc b0 x5 x6 x7 t0 t1' t2 t3 v0 v1 v2 v3 wS w3 x8 x9 ko ro bgo kc rc bgc _ vr rd.taken (wrsI [r0,r1,r2,r3] [na,nb,nc,nd] rd.types) (gbehF ⟨op,na,nb,nc,nd⟩ s.guards) wx _ _ _ _ _ _ _ _ _ _ _ _ _ _ _ _ _ _ _ _ _ _ _ _ _ _ _ _ _ _ _ _ _ _ _ _ _ _ _ _ _ _ _ _ _ _ _ _ _ _ _ _ _ _ _ _ _ _ _ _ _ _ _ _ _ _ _ _ _ _ _ _ _ _ _ _ _ _ _ _ _ _ _ _ _ _ _ _ _ _ _ _ _ _ _ _ HQ.out D (hB8.trans (hbx.mono hB8.size)) (R8'.blk.later hbx) (hk8.later (Keeps.of_below hbx)) htk R9 RT2 RG2 (by rw [wrsI_len,ht1]) hso2 (goF_lt hNF _ _ _)
 ·intro W2 hb2
  have hL2:L≤W2.heap.size:=Nat.le_trans (Nat.le_trans hL3 hB8.size) hb2.size
  have hRG:=D.RG.later (Keeps.of_below (hB8.trans (hb2.mono hB8.size)))
  have hc:=guardsBehind_any L ⟨op,na,nb,nc,nd⟩ ago agc s.guards.length s.guards W2 rfl D.hs.few hL2 hRG (gfit_some hgf)
  refine hc.mono ?_
  rintro e w' ⟨⟨bgo,bgc,rfl,h1⟩,hb⟩
  exact⟨⟨bgo,bgc,rfl,h1⟩,hb2.trans (hb.mono hb2.size),hb⟩
 ·intro W2 hb2
  have hB4:=hB8.trans (hb2.mono hB8.size)
  have hN:=D.N.later hB4
  exact⟨(R8'.blk.later hb2).cell 0,hN.cell 0,hN.cell 1,hN.cell 2,hN.cell 3,hN.cell 4,(D.A.later hB4).cell 2⟩
noncomputable def pcSS:Code:=pathC [1,1,1,1] (Tryz.f64.body.getD .skip)
def stepR (ps:List Pd) (n:Nd) (i:Nat) (s:St) (c:Cf):Except (Nat × Nat) Cf:=match stepI ps n i s with | .bad k=>.error (k,i) | .go y=>followF c y
theorem stepR_go {ps:List Pd} {n:Nd} {i:Nat} {s:St} {c:Cf} {rd:Rd} {opN:Nat} {rs:List Nat} (hop:n.op.toNat=opN) (hfo:formOf opN=rs) (hrd:rdsI rs n.fs ⟨s.types,[],[]⟩=some rd) (hub:upsBoxedB s.types (fnUps ps n)=true) (hgf:gfitB n s.guards=true) :
  stepR ps n i s c=if stayB (maxKeep s.guards) rd.taken s.types (wrsI rs n.fs rd.types) then followF c (folF n i s (wrsI rs n.fs rd.types) (gbehF n s.guards)) else .error (12,i):=by
 subst hop hfo
 unfold stepR stepI
 rw [hrd]
 dsimp only [Option.map,Rd.two]
 rw [hub,if_pos rfl,hgf,if_pos rfl]
 by_cases hst:stayB (maxKeep s.guards) rd.taken s.types (wrsI (formOf n.op.toNat) n.fs rd.types)=true
 ·rw [if_pos hst,if_pos hst]
 ·rw [if_neg hst,if_neg hst]
theorem rdsI_lens:∀{rs:List Nat} {xs:List Int} {s s':Rd},rdsI rs xs s=some s'→s'.types.length=s.types.length∧s'.taken.length≤s.taken.length+rs.length
 | [],_,s,s',h=>by unfold rdsI at h;obtain rfl:=Option.some.inj h;simp
 | _::_,[],s,s',h=>by unfold rdsI at h;obtain rfl:=Option.some.inj h;simp
 | r::rs,x::xs,s,s',h=>by
  unfold rdsI at h
  cases h1:rdI r x s with
  | none=>rw [h1] at h;cases h
  | some s1=>
   rw [h1] at h
   obtain⟨a1,a2⟩:=rdsI_lens (rs:=rs) (xs:=xs) h
   obtain⟨b1,b2,b3⟩:=rdI_len h1
   exact⟨a1.trans b1,by simp;omega⟩
set_option maxRecDepth 1000000 in
set_option maxHeartbeats 8000000 in
theorem stp_sw (w0:World) (B L vb sb db:Nat) (cao:Option Addr) (ccap:Nat) (ps:List Pd) (p:Pd) (h:Ph) (c:Cf) (l i m:Nat) (op na nb nc nd:Int) (s:St) (ao ago:Option Addr) (ac agc b0 x5 x6 x7:Nat) (t0 t1' t2 t3:TypeId) (v0 v1 v2 v3:Value) (wS w3:World) (x8 r0 r1 r2 r3 opN:Nat) (ro:Option Addr) (rc:Nat) (vr vk:Value) (W:World) (c2 c3 c9 c10 c11 c12 c13 c14 c15 c16 c17 c18 c19 c20 c21 c22 c23 c24 c25 c26 c27 c28 c29 c30 c31 c32 c33 c34 c35 c36 c37 c38 c39 c40 c41 c42 c43 c44 c45 c46 c47 c48 c49 c50 c51 c52 c53 c54 c55 c56 c57 c58 c59 c60 c61 c62 c63 c64 c65 c66 c67 c68 c69 c70 c71 c72 c73 c74 c75 c76 c77 c78 c79 c80 c81 c82 c83 c84 c85 c86 c87 c88 c89 c90 c91 c92 c93 c94 c95 c96 c97 c98 c99 c100:Value) (Q:Exit→Act→World→Prop) (hq:∀a' w',bodyPost Tryz.prog Tryz.f64 (FwPost B L vb sb db cao ccap ps p h wS (stepR ps ⟨op,na,nb,nc,nd⟩ i s c)) .ret a' w'→Q .ret a' w')
  (D:SpAt w0 B L vb sb db cao ccap ps p h c l i m op na nb nc nd s ao ago ac agc b0 x5 x6 x7 t0 t1' t2 t3 v0 v1 v2 v3 wS w3) (hB3:Below w3.heap.size w3 W) (R8:RgAt w3.heap.size x8 m W ⟨s.types,[],[]⟩ (.slice ro m rc) vr vk) (hopN:op.toNat=opN) (hfo:formOf opN=[r0,r1,r2,r3]) (hv:ProtosAt 0 w0 cao ps) (hu:∀u ∈ fnUps ps ⟨op,na,nb,nc,nd⟩,u.loc=true→0≤u.idx∧u.idx<p.regs) (hul:(fnUps ps ⟨op,na,nb,nc,nd⟩).length≤1048576) (e0:fieldVal ps.length p r0 na=.iface t0 v0) (g0:r0≤23) (f0:fitsR ps.length p (convR r0) na=true) (e1:fieldVal ps.length p r1 nb=.iface t1' v1) (g1:r1≤23) (f1:fitsR ps.length p (convR r1) nb=true) (e2:fieldVal ps.length p r2 nc=.iface t2 v2) (g2:r2≤23) (f2:fitsR ps.length p (convR r2) nc=true) (e3:fieldVal ps.length p r3 nd=.iface t3 v3) (g3:r3≤23) (f3:fitsR ps.length p (convR r3) nd=true) :
  Code.wp Tryz.prog pcSS Q ⟨List.toArray (.pointer (some ⟨vb,0,none⟩)::.int .i64 i::c2::c3::.pointer (some ⟨b0,0,none⟩)::.pointer (some ⟨x5,0,none⟩)::.pointer (some ⟨x6,0,none⟩)::.pointer (some ⟨x7,0,none⟩)::.pointer (some ⟨x8,0,none⟩)::c9::c10::c11::c12::c13::c14::c15::c16::c17::c18::c19::c20::c21::c22::c23::c24::c25::c26::c27::c28::c29::c30::c31::c32::c33::c34::c35::c36::c37::c38::c39::c40::c41::c42::c43::c44::c45::c46::c47::c48::c49::c50::c51::c52::c53::c54::c55::c56::c57::c58::c59::c60::c61::c62::c63::c64::c65::c66::c67::c68::c69::c70::c71::c72::c73::c74::c75::c76::c77::c78::c79::c80::c81::c82::c83::c84::c85::c86::c87::c88::c89::c90::c91::c92::c93::c94::c95::c96::c97::c98::c99::c100::[]),[]⟩ W:=by
 conv=>arg 2;whnf
 have HQ:Hid _:=hq
 clear hq
 obtain⟨hm2,hmr⟩:=D.m2
 have hBW:B≤wS.heap.size:=Nat.le_trans D.X.hBL D.hL
 have hOff:∀w',Below w3.heap.size w3 w'→Off B L wS w':=fun w' hb=>D.off.trans (Off.of_below hb (Nat.le_trans hBW D.off.size))
 have hWd:Below W.heap.size W W.drew:=(Below.refl _ _).drew
 have hB3d:=hB3.trans (hWd.mono hB3.size)
 have hall:=all_any ps.length p w3.heap.size x8 m r0 r1 r2 r3 na nb nc nd s.types ro rc vr vk W.drew (R8.later hWd) hB3d.size D.hm hm2 hmr g0 g1 g2 g3 f0 f1 f2 f3
 rw [e0,e1,e2,e3] at hall
 have hS:∀w',Below w3.heap.size w3 w'→w'.cell? ⟨x7,0,none⟩=some (.iface t0 v0)∧w'.cell? ⟨x7,1,none⟩=some (.iface t1' v1)∧w'.cell? ⟨x7,2,none⟩=some (.iface t2 v2)∧w'.cell? ⟨x7,3,none⟩=some (.iface t3 v3)∧w'.cell? ⟨x5,0,none⟩=some (.int .i64 op)∧w'.cell? ⟨x5,2,none⟩=some (.int .i64 nb):=fun w' hb=>⟨(D.F.later hb).cell 0,(D.F.later hb).cell 1,(D.F.later hb).cell 2,(D.F.later hb).cell 3,(D.N.later hb).cell 0,(D.N.later hb).cell 2⟩
 refine wp_seq_k ?_
 intro K1 hK1
 have HK1:Hid _:=hK1
 clear hK1
 refine wp_block ?_
 refine wp_seq_k ?_
 intro K2 hK2
 have HK2:Hid _:=hK2
 clear hK2
 unfold RdPost at hall
 cases hrd:rdsI [r0,r1,r2,r3] [na,nb,nc,nd] ⟨s.types,[],[]⟩ with
 | none=>
  rw [hrd] at hall
  refine stp_r4a vb x5 x6 x7 x8 op nb t0 t1' t2 t3 v0 v1 v2 v3 W _ _ _ _ _ _ _ _ _ _ _ _ _ _ _ _ _ _ _ _ _ _ _ _ _ _ _ _ _ _ _ _ _ _ _ _ _ _ _ _ _ _ _ _ _ _ _ _ _ _ _ _ _ _ _ _ _ _ _ _ _ _ _ _ _ _ _ _ _ _ _ _ _ _ _ _ _ _ _ _ _ _ _ _ _ _ _ _ _ _ _ _ _ _ _ _ _ (fun w'=>Below w3.heap.size w3 w') ?_ (hall.mono fun e w' hh=>⟨hh.1,hB3d.trans hh.2,hS w' (hB3d.trans hh.2)⟩) (hS _ hB3d)
  intro u40 u41 u42 u43 u44 u45 u46 u47 u48 u49 u50 u51 u52 u53 u54 u55 u56 u57 u58 u59 u60 u61 u62 u63 wx hbx
  refine HK2.out _ _ ?_
  clear HK2
  have HRE:Hid (stepR ps ⟨op,na,nb,nc,nd⟩ i s c=.error (10,i)):=by show _=_;unfold stepR stepI;dsimp only;rw [hopN,hfo];dsimp only [Nd.fs];rw [hrd];rfl
  have HR0:Hid (Blk wx b0 #[.int .i64 0,.int .i64 0,.int .i64 0] 27):=D.R0.later hbx
  have HO:Hid (Off B L wS wx):=hOff wx hbx
  clear hall hrd
  have r9:=HR0.out.cell
  have f9:=HR0.out.frozen
  go_wp2_with fail
  have c9:=(HR0.out.three (x':=.int .i64 10) (y':=.int .i64 0) (z':=.int .i64 i)).cell
  refine HQ.out _ _ (bodyPost_ret (v:=.agg #[.int .i64 10,.int .i64 0,.int .i64 i]) ?_ rfl ⟨?_,off3 HO.out hBW D.hb _ _ _⟩)
  ·simp [results,Tryz.results64,go_sem,c9]
  ·rw [HRE.out]
   try rfl
 | some rd=>
  rw [hrd] at hall
  dsimp only at hall
  have hrl:rd.types.length=m∧rd.taken.length≤1000:=by
   have:=rdsI_lens hrd
   have h1:=D.hm
   dsimp only at this
   simp at this
   exact⟨by rw [this.1,h1],by omega⟩
  by_cases h11:op=11
  ·have hnf:=(fit_tab (D.X.fit.fit i _ D.hi)).2.2.2.2.2 h11
   dsimp only at hnf
   obtain⟨bN,hbN⟩:=Int.eq_ofNat_of_zero_le hnf.1
   obtain⟨q,hq⟩:=some_of_lt (show bN<ps.length by omega)
   have hfu:fnUps ps ⟨op,na,nb,nc,nd⟩=q.ups:=by unfold fnUps;rw [if_pos h11];dsimp only;rw [hbN,Int.toNat_natCast,hq]
   rw [hfu] at hu hul
   obtain⟨pb,pof,hcao,_,_,hh,NN,PI⟩:=hv bN q hq
   have hN5:∀w',Below w3.heap.size w3 w'→w'.cell? ⟨pb,pof+bN*9+5,none⟩=some (.slice hh.uo q.ups.length hh.uc)∧UpsAt 0 w' hh.uo q.ups:=by
    intro w' hb
    have hb0:=D.hb0.trans (hb.mono D.hb0.size)
    obtain⟨pb',pof',hc',_,_,h2,N2,P2⟩:=(hv.later (Keeps.of_below hb0)) bN q hq
    rw [hcao] at hc'
    obtain⟨rfl,rfl⟩:pb=pb'∧pof=pof':=by simpa using hc'
    have e1:=NN.2.2.2.2.2.1
    have e2:w'.cell? ⟨pb,pof+bN*9+5,none⟩=some (.slice hh.uo q.ups.length hh.uc):=(hb0.cell (p:=⟨pb,pof+bN*9+5,none⟩) (World.block_lt_of_cell? _ _ e1)).trans e1
    exact⟨e2,PI.ups.later (Keeps.of_below hb0)⟩
   have hSC:∀w',Below w3.heap.size w3 w'→w'.cell? ⟨x7,0,none⟩=some (.iface t0 v0)∧w'.cell? ⟨x7,1,none⟩=some (.iface t1' v1)∧w'.cell? ⟨x7,2,none⟩=some (.iface t2 v2)∧w'.cell? ⟨x7,3,none⟩=some (.iface t3 v3)∧w'.cell? ⟨x5,0,none⟩=some (.int .i64 11)∧w'.cell? ⟨x5,2,none⟩=some (.int .i64 bN)∧w'.cell? ⟨x6,1,none⟩=some (.slice ao m ac)∧w'.cell? ⟨vb,0,none⟩=some (.slice (some ⟨pb,pof,none⟩) ps.length ccap)∧w'.cell? ⟨pb,pof+bN*9+5,none⟩=some (.slice hh.uo q.ups.length hh.uc):=fun w' hb=>⟨(D.F.later hb).cell 0,(D.F.later hb).cell 1,(D.F.later hb).cell 2,(D.F.later hb).cell 3,by have:=(D.N.later hb).cell 0;rw [h11] at this;exact this,by have:=(D.N.later hb).cell 2;rw [hbN] at this;exact this,(D.A.later hb).cell 1,by have:=(D.H.below hb).blk.cell 0;rw [hcao] at this;exact this,(hN5 w' hb).1⟩
   refine stp_r4c vb x5 x6 x7 x8 bN pb pof m ac ccap hh.uc (upsBoxedB s.types q.ups) ao hh.uo ps q.ups t0 t1' t2 t3 v0 v1 v2 v3 W _ _ _ _ _ _ _ _ _ _ _ _ _ _ _ _ _ _ _ _ _ _ _ _ _ _ _ _ _ _ _ _ _ _ _ _ _ _ _ _ _ _ _ _ _ _ _ _ _ _ _ _ _ _ _ _ _ _ _ _ _ _ _ _ _ _ _ _ _ _ _ _ _ _ _ _ _ _ _ _ _ _ _ _ _ _ _ _ _ _ _ _ _ _ _ _ _ (fun w'=>Below w3.heap.size w3 w'∧∃vr vk,RgAt w3.heap.size x8 m w' rd (.slice ro m rc) vr vk) ?_ (hall.mono fun e w' hh2=>⟨hh2.1.1,⟨hB3d.trans hh2.2,hh2.1.2⟩,hSC w' (hB3d.trans hh2.2)⟩) ?_ (by omega) (hSC _ hB3d)
   ·intro u40 u41 u42 u43 u44 u45 u46 u47 u48 u49 u50 u51 u52 u53 u54 u55 u56 u57 u58 u59 u60 u61 u62 u63 wx hbx
    refine HK2.out _ _ ?_
    clear HK2
    obtain⟨hbx,vr2,vk2,RX⟩:=hbx
    have HH11:Hid _:=h11
    have HHbN:Hid _:=hbN
    clear hall h11 hbN hnf hSC hN5 NN PI hcao
    cases hub0:upsBoxedB s.types q.ups
    ·have HRE:Hid (stepR ps ⟨op,na,nb,nc,nd⟩ i s c=.error (10,i)):=by show _=_;unfold stepR stepI;dsimp only;rw [hopN,hfo];dsimp only [Nd.fs];rw [hrd];dsimp only [Option.map,Rd.two];rw [hfu,hub0];rfl
     have HR0:Hid (Blk wx b0 #[.int .i64 0,.int .i64 0,.int .i64 0] 27):=D.R0.later hbx
     have HO:Hid (Off B L wS wx):=hOff wx hbx
     clear hub0 hrd RX
     have r9:=HR0.out.cell
     have f9:=HR0.out.frozen
     go_wp2_with fail
     have c9:=(HR0.out.three (x':=.int .i64 10) (y':=.int .i64 0) (z':=.int .i64 i)).cell
     refine HQ.out _ _ (bodyPost_ret (v:=.agg #[.int .i64 10,.int .i64 0,.int .i64 i]) ?_ rfl ⟨?_,off3 HO.out hBW D.hb _ _ _⟩)
     ·simp [results,Tryz.results64,go_sem,c9]
     ·rw [HRE.out]
      try rfl
    ·have hub:upsBoxedB s.types (fnUps ps ⟨op,na,nb,nc,nd⟩)=true:=by rw [hfu];exact hub0
     clear hub0
     have HGF:Hid (∀_:Unit,_):=fun _=>guardsFit_any ⟨op,na,nb,nc,nd⟩ ago agc s.guards.length s.guards wx rfl D.hs.few (AllAt.lower (D.RG.later (Keeps.of_below hbx)).at_ (Nat.zero_le _))
     unfold Nd.val at HGF
     have n6:=(D.N.later hbx).cell
     have a6:=(D.A.later hbx).cell
     go_wp2_with fail
     refine (HGF.out ()).mono ?_
     rintro e w7 ⟨rfl,hw7⟩
     have hB7:=(hbx).trans (hw7.mono (hbx).size)
     have R7:=(RX).later hw7
     clear n6 a6 HGF
     cases hgf:gfitB ⟨op,na,nb,nc,nd⟩ s.guards
     ·have HRE:Hid (stepR ps ⟨op,na,nb,nc,nd⟩ i s c=.error (11,i)):=by show _=_;unfold stepR stepI;dsimp only;rw [hopN,hfo];dsimp only [Nd.fs];rw [hrd];dsimp only [Option.map,Rd.two];rw [hub,if_pos rfl,hgf];rfl
      have HR0:Hid (Blk w7 b0 #[.int .i64 0,.int .i64 0,.int .i64 0] 27):=D.R0.later hB7
      have HO:Hid (Off B L wS w7):=hOff w7 hB7
      clear hgf R7
      have r9:=HR0.out.cell
      have f9:=HR0.out.frozen
      go_wp2_with fail
      have c9:=(HR0.out.three (x':=.int .i64 11) (y':=.int .i64 0) (z':=.int .i64 i)).cell
      refine HQ.out _ _ (bodyPost_ret (v:=.agg #[.int .i64 11,.int .i64 0,.int .i64 i]) ?_ rfl ⟨?_,off3 HO.out hBW D.hb _ _ _⟩)
      ·simp [results,Tryz.results64,go_sem,c9]
      ·rw [HRE.out]
       try rfl
     ·have HRE:Hid (stepR ps ⟨op,na,nb,nc,nd⟩ i s c=if stayB (maxKeep s.guards) rd.taken s.types (wrsI [r0,r1,r2,r3] [na,nb,nc,nd] rd.types) then followF c (folF ⟨op,na,nb,nc,nd⟩ i s (wrsI [r0,r1,r2,r3] [na,nb,nc,nd] rd.types) (gbehF ⟨op,na,nb,nc,nd⟩ s.guards)) else .error (12,i)):=by
       exact stepR_go (n:=⟨op,na,nb,nc,nd⟩) hopN hfo hrd hub hgf
      obtain⟨ko,kc,hko⟩:=owns_slice R7.taken
      rw [hko] at R7
      go_wp2_with fail
      refine HK1.out _ _ ?_
      exact stp_8 w0 B L vb sb db cao ccap ps p h c l i m op na nb nc nd s ao ago ac agc b0 x5 x6 x7 t0 t1' t2 t3 v0 v1 v2 v3 wS w3 x8 r0 r1 r2 r3 ro ko rc kc _ rd w7 _ _ _ _ _ _ _ _ _ _ _ _ _ _ _ _ _ _ _ _ _ _ _ _ _ _ _ _ _ _ _ _ _ _ _ _ _ _ _ _ _ _ _ _ _ _ _ _ _ _ _ _ _ _ _ _ _ _ _ _ _ _ _ _ _ _ _ _ _ _ _ _ _ _ _ _ _ _ _ _ _ _ _ _ _ _ _ _ _ _ _ _ _ _ _ (fun a' w' hb=>HQ.out a' w' (by rw [HRE.out];exact hb)) D hB7 R7 hrl.1 hrl.2 hgf e0 g0 f0 e1 g1 f1 e2 g2 f2 e3 g3 f3
   ·rintro W2 ⟨hb2,vr2,vk2,RX2⟩ hS2
    have:=upsBoxed_any ao hh.uo ac hh.uc s.types q.ups W2 hul (fun u hu2 hl2=>by have:=hu u hu2 hl2;have h1:=D.hm;omega) (AllAt.lower (D.RT.later (Keeps.of_below hb2)).at_ (Nat.zero_le _)) (hN5 W2 hb2).2
    rw [D.hm] at this
    exact this.mono fun e w' hh2=>⟨hh2.1,⟨hb2.trans (hh2.2.mono hb2.size),vr2,vk2,RX2.later hh2.2⟩,hSC w' (hb2.trans (hh2.2.mono hb2.size))⟩
  ·have hub:upsBoxedB s.types (fnUps ps ⟨op,na,nb,nc,nd⟩)=true:=by unfold fnUps;rw [if_neg h11];rfl
   refine stp_r4b vb x5 x6 x7 x8 op nb t0 t1' t2 t3 v0 v1 v2 v3 W _ _ _ _ _ _ _ _ _ _ _ _ _ _ _ _ _ _ _ _ _ _ _ _ _ _ _ _ _ _ _ _ _ _ _ _ _ _ _ _ _ _ _ _ _ _ _ _ _ _ _ _ _ _ _ _ _ _ _ _ _ _ _ _ _ _ _ _ _ _ _ _ _ _ _ _ _ _ _ _ _ _ _ _ _ _ _ _ _ _ _ _ _ _ _ _ _ (fun w'=>Below w3.heap.size w3 w'∧∃vr vk,RgAt w3.heap.size x8 m w' rd (.slice ro m rc) vr vk) ?_ (hall.mono fun e w' hh=>⟨hh.1.1,⟨hB3d.trans hh.2,hh.1.2⟩,hS w' (hB3d.trans hh.2)⟩) (by simpa using h11) (hS _ hB3d)
   intro u40 u41 u42 u43 u44 u45 u46 u47 u48 u49 u50 u51 u52 u53 u54 u55 u56 u57 u58 u59 u60 u61 u62 u63 wx hbx
   refine HK2.out _ _ ?_
   clear HK2
   obtain⟨hbx,vr2,vk2,RX⟩:=hbx
   clear hall
   have HGF:Hid (∀_:Unit,_):=fun _=>guardsFit_any ⟨op,na,nb,nc,nd⟩ ago agc s.guards.length s.guards wx rfl D.hs.few (AllAt.lower (D.RG.later (Keeps.of_below hbx)).at_ (Nat.zero_le _))
   unfold Nd.val at HGF
   have n6:=(D.N.later hbx).cell
   have a6:=(D.A.later hbx).cell
   go_wp2_with fail
   refine (HGF.out ()).mono ?_
   rintro e w7 ⟨rfl,hw7⟩
   have hB7:=(hbx).trans (hw7.mono (hbx).size)
   have R7:=(RX).later hw7
   clear n6 a6 HGF
   cases hgf:gfitB ⟨op,na,nb,nc,nd⟩ s.guards
   ·have HRE:Hid (stepR ps ⟨op,na,nb,nc,nd⟩ i s c=.error (11,i)):=by show _=_;unfold stepR stepI;dsimp only;rw [hopN,hfo];dsimp only [Nd.fs];rw [hrd];dsimp only [Option.map,Rd.two];rw [hub,if_pos rfl,hgf];rfl
    have HR0:Hid (Blk w7 b0 #[.int .i64 0,.int .i64 0,.int .i64 0] 27):=D.R0.later hB7
    have HO:Hid (Off B L wS w7):=hOff w7 hB7
    clear hgf R7
    have r9:=HR0.out.cell
    have f9:=HR0.out.frozen
    go_wp2_with fail
    have c9:=(HR0.out.three (x':=.int .i64 11) (y':=.int .i64 0) (z':=.int .i64 i)).cell
    refine HQ.out _ _ (bodyPost_ret (v:=.agg #[.int .i64 11,.int .i64 0,.int .i64 i]) ?_ rfl ⟨?_,off3 HO.out hBW D.hb _ _ _⟩)
    ·simp [results,Tryz.results64,go_sem,c9]
    ·rw [HRE.out]
     try rfl
   ·have HRE:Hid (stepR ps ⟨op,na,nb,nc,nd⟩ i s c=if stayB (maxKeep s.guards) rd.taken s.types (wrsI [r0,r1,r2,r3] [na,nb,nc,nd] rd.types) then followF c (folF ⟨op,na,nb,nc,nd⟩ i s (wrsI [r0,r1,r2,r3] [na,nb,nc,nd] rd.types) (gbehF ⟨op,na,nb,nc,nd⟩ s.guards)) else .error (12,i)):=by
     exact stepR_go (n:=⟨op,na,nb,nc,nd⟩) hopN hfo hrd hub hgf
    obtain⟨ko,kc,hko⟩:=owns_slice R7.taken
    rw [hko] at R7
    go_wp2_with fail
    refine HK1.out _ _ ?_
    exact stp_8 w0 B L vb sb db cao ccap ps p h c l i m op na nb nc nd s ao ago ac agc b0 x5 x6 x7 t0 t1' t2 t3 v0 v1 v2 v3 wS w3 x8 r0 r1 r2 r3 ro ko rc kc _ rd w7 _ _ _ _ _ _ _ _ _ _ _ _ _ _ _ _ _ _ _ _ _ _ _ _ _ _ _ _ _ _ _ _ _ _ _ _ _ _ _ _ _ _ _ _ _ _ _ _ _ _ _ _ _ _ _ _ _ _ _ _ _ _ _ _ _ _ _ _ _ _ _ _ _ _ _ _ _ _ _ _ _ _ _ _ _ _ _ _ _ _ _ _ _ _ _ (fun a' w' hb=>HQ.out a' w' (by rw [HRE.out];exact hb)) D hB7 R7 hrl.1 hrl.2 hgf e0 g0 f0 e1 g1 f1 e2 g2 f2 e3 g3 f3
theorem vf_cells {L vb sb db:Nat} {cao:Option Addr} {ccap:Nat} {ps:List Pd} {p:Pd} {h:Ph} {w:World} {c:Cf} {l nb':Nat} {op na nb nc nd:Int} (H:VfAt L vb sb db cao ccap ps p h w c l) (N:Blk w nb' #[.int .i64 op,.int .i64 na,.int .i64 nb,.int .i64 nc,.int .i64 nd] 93):w.cell? ⟨vb,0,none⟩=some (.slice cao ps.length ccap)∧w.cell? ⟨vb,1,none⟩=some (.string p.name)∧w.cell? ⟨vb,2,none⟩=some (.int .i64 p.line)∧w.cell? ⟨vb,3,none⟩=some (.int .i64 p.params)∧w.cell? ⟨vb,4,none⟩=some (.bool p.rest)∧w.cell? ⟨vb,5,none⟩=some (.int .i64 p.regs)∧w.cell? ⟨vb,6,none⟩=some (.slice h.uo p.ups.length h.uc)∧w.cell? ⟨vb,7,none⟩=some (.slice h.co p.consts.length h.cc)∧w.cell? ⟨vb,8,none⟩=some (.slice h.io p.ins.length h.ic)∧w.cell? ⟨vb,9,none⟩=some (.slice h.no p.named.length h.nc)∧w.cell? ⟨nb',0,none⟩=some (.int .i64 op)∧w.cell? ⟨nb',1,none⟩=some (.int .i64 na)∧w.cell? ⟨nb',2,none⟩=some (.int .i64 nb)∧w.cell? ⟨nb',3,none⟩=some (.int .i64 nc)∧w.cell? ⟨nb',4,none⟩=some (.int .i64 nd):=
 ⟨H.blk.cell 0,H.blk.cell 1,H.blk.cell 2,H.blk.cell 3,H.blk.cell 4,H.blk.cell 5,H.blk.cell 6,H.blk.cell 7,H.blk.cell 8,H.blk.cell 9,N.cell 0,N.cell 1,N.cell 2,N.cell 3,N.cell 4⟩
theorem owns_nil (w:World) (B e:Nat):w.ownsRow B e 1 (.slice none 0 0) 0 (ints []):=⟨by simp [ints],.inl ⟨rfl,rfl⟩⟩
set_option maxRecDepth 1000000 in
set_option maxHeartbeats 8000000 in
theorem step_any (w0:World) (B L vb sb db:Nat) (cao:Option Addr) (ccap:Nat) (ps:List Pd) (p:Pd) (h:Ph) (c:Cf) (l:Nat) (w:World) (i:Nat) (n:Nd) (s:St)
  (X:Vctx w0 B L vb sb db ps p h) (H0:VfAt L vb sb db cao ccap ps p h w c l) (hl:l≤p.ins.length) (hL:L≤w.heap.size) (hb0:Below w0.heap.size w0 w) (hok:CfOk p c) (hi:p.ins[i]?=some n) (hs:c.st i=some s) (hv:ProtosAt 0 w0 cao ps) (hu:∀u ∈ fnUps ps n,u.loc=true→0≤u.idx∧u.idx<p.regs) (hul:(fnUps ps n).length≤1048576) :
  Calls Tryz.prog 64 #[.pointer (some ⟨vb,0,none⟩),.int .i64 i] w (FwPost B L vb sb db cao ccap ps p h w (stepR ps n i s c)):=by
 have hNF:=X.fit.fit i n hi
 have hso:=hok.ok i s hs
 have hil:i<p.ins.length:=(List.getElem?_eq_some_iff.1 hi).1
 have hsx:c.sts[i]?=some (some s):=by
  have hl2:i<c.sts.length:=by rw [hok.lenS];exact hil
  have:=hs
  unfold Cf.st at this
  rw [List.getD_eq_getElem?_getD,List.getElem?_eq_getElem hl2] at this
  rw [List.getElem?_eq_getElem hl2]
  simpa using this
 have hBw:B≤w.heap.size:=Nat.le_trans X.hBL hL
 obtain⟨op,na,nb,nc,nd⟩:=n
 have hoplo:=hNF.lo
 have hophi:=hNF.hi
 dsimp only at hoplo hophi
 obtain⟨opN,hopn⟩:=Int.eq_ofNat_of_zero_le (show 0≤op by omega)
 obtain⟨r0,r1,r2,r3,hfo,g0,g1,g2,g3⟩:=form_four (show opN≤42 by omega)
 have hfit:=hNF.fit
 dsimp only at hfit
 rw [hopn,Int.toNat_natCast,←conv_forms opN (by omega) (by omega),hfo] at hfit
 simp only [List.map_cons,List.map_nil,Nd.fs,fitAll,Bool.and_eq_true] at hfit
 obtain⟨f0,f1,f2,f3,_⟩:=hfit
 have hfl:=fun W hF=>fieldsOf_any cao ccap ps.length p h ⟨op,na,nb,nc,nd⟩ opN r0 r1 r2 r3 W hopn (by omega) hfo g0 g1 g2 g3 X.few X.hpl X.fit.regs hF
 obtain⟨t0,v0,e0⟩:=fieldVal_iface ps.length p r0 na
 obtain⟨t1',v1,e1⟩:=fieldVal_iface ps.length p r1 nb
 obtain⟨t2,v2,e2⟩:=fieldVal_iface ps.length p r2 nc
 obtain⟨t3,v3,e3⟩:=fieldVal_iface ps.length p r3 nd
 dsimp only at hfl
 rw [e0,e1,e2,e3] at hfl
 unfold Pd.cells Nd.val at hfl
 have BR:=below_al (Below.refl w.heap.size w) (.cells #[.int .i64 0,.int .i64 0,.int .i64 0] 27)
 have HR:=H0.below BR
 have R0:=Blk.new w #[.int .i64 0,.int .i64 0,.int .i64 0] 27
 go_enter Tryz.func64,Tryz.ntmps64
 refine wp_seq_k ?_
 intro K0 hK0
 have HK0:Hid _:=hK0
 clear hK0
 go_wp2_with fail
 refine HK0.out _ _ ?_
 clear HK0
 generalize w.alloc (.cells #[.int .i64 0,.int .i64 0,.int .i64 0] 27)=wR at *
 obtain⟨ib,iof,hio,_,hibl,q0,q1,q2,q3,q4⟩:=(X.ins.later (Keeps.of_below (hb0.trans (BR.mono hb0.size)))) i _ hi
 obtain⟨ao,ac,ago,agc,z0,z1,z2,RT,RG⟩:=HR.sts.at_ i (some s) hsx
 dsimp only [stT,stG,Option.isSome] at z0 z1 z2 RT RG
 have v8:=HR.blk.cell 8
 simp only [List.getElem?_toArray,List.getElem?_cons_succ,List.getElem?_cons_zero] at v8
 rw [hio] at v8
 refine wp_seq_k ?_
 intro K1 hK1
 refine stp_r1 vb sb ib iof i p h op na nb nc nd s ao ago ac agc wR _ _ _ _ _ _ _ _ _ _ _ _ _ _ _ _ _ _ _ _ _ _ _ _ _ _ _ _ _ _ _ _ _ _ _ _ _ _ _ _ _ _ _ _ _ _ _ _ _ _ _ _ _ _ _ _ _ _ _ _ _ _ _ _ _ _ _ _ _ _ _ _ _ _ _ _ _ _ _ _ _ _ _ _ _ _ _ _ _ _ _ _ _ _ _ _ _ _ _ _ ?_ (by omega) HR.blk.lt HR.sts.own.lt hibl v8 (HR.blk.cell 10) q0 q1 q2 q3 q4 z0 z1 z2
 intro u10 u11 u12 u13 u14 u15 u16 u17 u18 u19 u20 u21 u22 u23 u24 x5 x6 wx hne h5 h6 N5 A6 bx
 refine hK1 _ _ ?_
 clear hK1
 refine wp_seq_k ?_
 intro K2 hK2
 have Bx:Below w.heap.size w wx:=BR.trans (bx.mono BR.size)
 refine stp_r2 vb x5 cao ccap ps p h op na nb nc nd t0 t1' t2 t3 v0 v1 v2 v3 wx _ _ _ _ _ _ _ _ _ _ _ _ _ _ _ _ _ _ _ _ _ _ _ _ _ _ _ _ _ _ _ _ _ _ _ _ _ _ _ _ _ _ _ _ _ _ _ _ _ _ _ _ _ _ _ _ _ _ _ _ _ _ _ _ _ _ _ _ _ _ _ _ _ _ _ _ _ _ _ _ _ _ _ _ _ _ _ _ _ _ _ _ _ _ _ _ _ _ _ _ ?_ ?_ ?_
 ·intro y25 y26 y27 y28 y29 y30 y31 y32 y33 y34 x7 wy h7 F7 bY
  refine hK2 _ _ ?_
  clear hK2
  have Bxy:Below wR.heap.size wR wy:=bx.trans (bY.mono bx.size)
  have By:Below w.heap.size w wy:=BR.trans (Bxy.mono BR.size)
  have D:SpAt w0 B L vb sb db cao ccap ps p h c l i s.types.length op na nb nc nd s ao ago ac agc w.heap.size x5 x6 x7 t0 t1' t2 t3 v0 v1 v2 v3 w wy:=⟨X,H0.below By,hl,hL,hb0.trans (By.mono hb0.size),Off.of_below By hBw,hok,hi,hso,rfl,R0.later Bxy,N5.later bY,A6.later bY,F7,Nat.le_refl _,RT.later (Keeps.of_below Bxy),RG.later (Keeps.of_below Bxy)⟩
  obtain⟨hm2,hmr⟩:=D.m2
  have HCL:Hid (∀_:Unit,_):=fun _=>cloneInt_any ao ac s.types.length s.types wy rfl (by omega) RT.nil (AllAt.lower D.RT.at_ (Nat.zero_le _)) RT.form
  have a6:=D.A.cell
  have HD:Hid _:=D
  clear D BR HR R0 q0 q1 q2 q3 q4 z0 z1 z2 v8 N5 A6 F7 bx bY Bx Bxy hfl
  refine wp_seq_k ?_
  intro K3 hK3
  have HK3:Hid _:=hK3
  clear hK3
  go_wp2_with fail
  refine (HCL.out ()).mono ?_
  rintro e w8 ⟨vv,rfl,T8,hw8⟩
  obtain⟨ro,rc,rfl⟩:=owns_slice T8
  clear a6 HCL
  go_wp2_with fail
  refine HK3.out _ _ ?_
  have hal:=(Below.refl w8.heap.size w8).alloc (Nat.le_refl _) (.cells #[.slice ro s.types.length rc,.slice none 0 0,.slice none 0 0] 182)
  have RX:RgAt wy.heap.size w8.heap.size s.types.length (w8.alloc (.cells #[.slice ro s.types.length rc,.slice none 0 0,.slice none 0 0] 182)) ⟨s.types,[],[]⟩ (.slice ro s.types.length rc) (.slice none 0 0) (.slice none 0 0):=
   ⟨Blk.new w8 #[.slice ro s.types.length rc,.slice none 0 0,.slice none 0 0] 182,hw8.size,T8.alloc _,owns_nil _ _ _,owns_nil _ _ _,fun e=>by have:=(T8.lt _ e).2;omega,(by simp [Value.ownBlock]),(by simp [Value.ownBlock]),(by simp [Value.ownBlock]),(by simp [Value.ownBlock]),(by simp [Value.ownBlock])⟩
  exact stp_sw w0 B L vb sb db cao ccap ps p h c l i s.types.length op na nb nc nd s ao ago ac agc w.heap.size x5 x6 x7 t0 t1' t2 t3 v0 v1 v2 v3 w wy w8.heap.size r0 r1 r2 r3 opN ro rc _ _ _ _ _ _ _ _ _ _ _ _ _ _ _ _ _ _ _ _ _ _ _ _ _ _ _ _ _ _ _ _ _ _ _ _ _ _ _ _ _ _ _ _ _ _ _ _ _ _ _ _ _ _ _ _ _ _ _ _ _ _ _ _ _ _ _ _ _ _ _ _ _ _ _ _ _ _ _ _ _ _ _ _ _ _ _ _ _ _ _ _ _ _ _ _ _ _ (fun a' w' hb=>hb) HD.out (hw8.trans (hal.mono hw8.size)) RX (by rw [hopn];rfl) hfo hv hu hul e0 g0 f0 e1 g1 f1 e2 g2 f2 e3 g3 f3
 ·intro W2 hb2
  have hbw:=Bx.trans (hb2.mono Bx.size)
  exact (hfl W2 (X.forms.later (hb0.trans (hbw.mono hb0.size)))).mono fun e w' hh=>⟨hh.1,hb2.trans (hh.2.mono hb2.size),hh.2⟩
 ·intro W2 hb2
  have hbw:=Bx.trans (hb2.mono Bx.size)
  exact vf_cells (H0.below hbw) (N5.later hb2)
def zs (l:List Nat):List Int:=l.map (fun x:Nat=>(x:Int))
theorem zs_len (l:List Nat):(zs l).length=l.length:=by simp [zs]
theorem zs_get {l:List Nat} {k x:Nat} (h:l[k]?=some x):(zs l)[k]?=some (x:Int):=by simp [zs,h]
def natArr (l:List Nat):Array Value:=(ints (zs l)).toArray
theorem natArr_get {l:List Nat} {k:Nat} (h:k<l.length):(natArr l)[k]?=some (.int .i64 (l.getD k 0)):=by
 unfold natArr zs ints
 simp [h]
theorem natArr_set (l:List Nat) (k v:Nat):(natArr l).setIfInBounds k (.int .i64 v)=natArr (l.set k v):=by
 unfold natArr zs ints
 rw [List.setIfInBounds_toArray]
 simp [List.map_set]
def opnL (N:Nat) (P:Nat→Bool):List Bool:=(List.range N).map P
theorem opnL_len (N:Nat) (P:Nat→Bool):(opnL N P).length=N:=by simp [opnL]
theorem opnL_get {N:Nat} {P:Nat→Bool} {v:Nat} (h:v<N):(opnL N P).getD v false=P v:=by simp [opnL,h]
theorem opnL_set (N:Nat) (P:Nat→Bool) (v:Nat) (b:Bool):(opnL N P).set v b=opnL N (fun x=>if x=v then b else P x):=by
 apply List.ext_getElem?
 intro j
 unfold opnL
 rw [List.getElem?_set]
 by_cases hj:j<N
 ·by_cases hv:v=j
  ·subst hv;simp [hj]
  ·simp [hj,hv,Ne.symm hv]
 ·by_cases hv:v=j
  ·subst hv;simp [hj]
  ·simp [hj,hv]
theorem opnL_congr {N:Nat} {P Q:Nat→Bool} (h:∀v,v<N→P v=Q v):opnL N P=opnL N Q:=by
 unfold opnL
 apply List.map_congr_left
 intro v hv
 exact h v (by simpa using hv)
structure SsAt (lo:Nat) (w:World) (gb N:Nat) (f:Nat→List Int):Prop where
 own:Own w gb 72 N
 at_:∀j,j<N→∃ao cap,w.cell? ⟨gb,j,none⟩=some (.slice ao (f j).length cap)∧IntsAt lo w ao (f j)
theorem SsAt.later {lo:Nat} {w w':World} {gb N:Nat} {f:Nat→List Int} (h:SsAt lo w gb N f) (hb:Below w.heap.size w w'):SsAt lo w' gb N f:=
 ⟨h.own.later hb,fun j hj=>by obtain ⟨ao,cap,h1,h2⟩:=h.at_ j hj;exact ⟨ao,cap,(hb.cell (p:=⟨gb,j,none⟩) h.own.lt).trans h1,h2.later (Keeps.of_below hb)⟩⟩
structure CcAt (s cb gb ob qb N:Nat) (w:World) (T:Tj) (vp:Value):Prop where
 blk:Blk w cb #[.slice (some ⟨gb,0,none⟩) N N,.int .i64 T.count,.slice (some ⟨ob,0,none⟩) N N,vp,.slice (some ⟨qb,0,none⟩) N N,.int .i64 T.least] 193
 order:Blk w ob (natArr T.order) 3
 opn:Blk w qb (boolArr (opnL N fun v=>decide (v ∈ T.path))) 4
 path:w.ownsRow (s+3) 3 1 vp T.path.length (ints (zs T.path))
structure CcIn (s cb ob qb:Nat):Prop where
 c1:s≤cb
 c2:cb<s+3
 o1:s≤ob
 o2:ob<s+3
 q1:s≤qb
 q2:qb<s+3
 co:cb≠ob
 cq:cb≠qb
 oq:ob≠qb
theorem CcAt.later {s cb gb ob qb N:Nat} {w w':World} {T:Tj} {vp:Value} (h:CcAt s cb gb ob qb N w T vp) (hb:Below w.heap.size w w'):CcAt s cb gb ob qb N w' T vp:=⟨h.blk.later hb,h.order.later hb,h.opn.later hb,owns_below h.path hb⟩
theorem owns_take {w:World} {base e n k:Nat} {ao:Option Addr} {cap:Nat} {xs:List Value} (h:w.ownsRow base e 1 (.slice ao n cap) n xs) (hk:k≤n) (hao:ao≠none):w.ownsRow base e 1 (.slice ao k cap) k (xs.take k):=by
 obtain⟨h1,⟨h2,h3⟩ | ⟨g,c,cur,h3,hg,hh,hc1,hc2,hc3,hc4⟩⟩:=h
 ·simp at h2;exact absurd h2.1 hao
 ·simp at h3
  obtain⟨rfl,rfl⟩:=h3
  refine⟨by simp;omega,.inr ⟨g,cap,cur,rfl,hg,hh,by omega,hc2,hc3,?_⟩⟩
  rw [←hc4,List.take_take]
  simp
  omega
def clsLeast (f:Nat→List Int) (a:Nat) (ext:List Nat) (least:Int):Int:=if ext≠[]∨(a:Int) ∈ f a then min least (minI (a:Int) (zs ext)) else least
noncomputable def pcCl:Code:=pathC [1,1,1] (Tryz.f150.body.getD .skip)
def opk (pre ext:List Nat) (a k v:Nat):Bool:=decide (v ∈ pre) || (decide (v ∈ a::ext) && !decide (v ∈ (a::ext).take k))
theorem opk_start (pre ext:List Nat) (a v:Nat):decide (v ∈ pre ++ a::ext)=opk pre ext a 0 v:=by
 unfold opk
 simp [List.mem_append]
theorem opk_next {pre ext:List Nat} {a k y:Nat} (hy:(a::ext)[k]?=some y) (hnd:∀z ∈ a::ext,z ∉ pre) (v:Nat):(if v=y then false else opk pre ext a k v)=opk pre ext a (k+1) v:=by
 unfold opk
 have ht:(a::ext).take (k+1)=(a::ext).take k ++ [y]:=by
  obtain⟨hl,he⟩:=List.getElem?_eq_some_iff.1 hy
  rw [List.take_add_one,hy]
  rfl
 rw [ht]
 have hym:y ∈ a::ext:=List.mem_of_getElem? hy
 by_cases h:v=y
 ·subst h
  have:=hnd v hym
  simp [this]
 ·rw [if_neg h]
  simp [h]
theorem opk_end {pre ext:List Nat} {a:Nat} (v:Nat):opk pre ext a (ext.length+1) v=decide (v ∈ pre):=by
 unfold opk
 rw [List.take_of_length_le (by simp)]
 cases decide (v ∈ a::ext) <;> simp
set_option maxRecDepth 1000000 in
set_option maxHeartbeats 8000000 in
theorem close_rest (s cb gb ob qb N cnt least a g pc:Nat) (ord pre ext:List Nat) (W:World) (c1 c2 c3 c5 c6 c7 c8 c9 c10 c11 c12 c13 c14 c15 c16 c17 c18 c19 c20 c21 c22 c23 c24 c25 c26 c27 c28 c29 c30 c31 c32 c33 c34 c35 c36 c37 c38 c39 c40 c41 c42 c43 c44 c45 c46 c47 c48 c49 c50 c51 c52 c53 c54 c55 c56 c57 c58 c59 c60 c61 c62:Value) (Q:Exit→Act→World→Prop)
  (hq:∀(u6 u50 u51 u52 u53 u54 u55 u56 u57 u58 u59 u60 u61 u62:Value) (w':World),CcAt s cb gb ob qb N w' ⟨cnt,ord,pre,least⟩ (.slice (some ⟨g,0,none⟩) pre.length pc)→Below s W w'→Q .normal ⟨List.toArray (.pointer (some ⟨cb,0,none⟩)::c1::c2::c3::.slice (some ⟨g,pre.length,none⟩) (ext.length+1) (pc - pre.length)::c5::u6::c7::c8::c9::c10::c11::c12::c13::c14::c15::c16::c17::c18::c19::c20::c21::c22::c23::c24::c25::c26::c27::c28::c29::c30::c31::c32::c33::c34::c35::c36::c37::c38::c39::c40::c41::c42::c43::c44::c45::c46::c47::c48::c49::u50::u51::u52::u53::u54::u55::u56::u57::u58::u59::u60::u61::u62::[]),[]⟩ w')
  (I:CcIn s cb ob qb) (_hN:N≤6000) (hel:ext.length≤6000) (hin:∀y ∈ a::ext,y<N) (hnd:∀y ∈ a::ext,y ∉ pre) (hg:s+3≤g)
  (B1:Blk W cb #[.slice (some ⟨gb,0,none⟩) N N,.int .i64 cnt,.slice (some ⟨ob,0,none⟩) N N,.slice (some ⟨g,0,none⟩) pre.length pc,.slice (some ⟨qb,0,none⟩) N N,.int .i64 least] 193) (O1:Blk W ob (natArr ord) 3) (Q1:Blk W qb (boolArr (opnL N fun v=>decide (v ∈ pre ++ a::ext))) 4) (T1:W.ownsRow (s+3) 3 1 (.slice (some ⟨g,0,none⟩) pre.length pc) pre.length (ints (zs pre))) (G1:∀j y:Nat,(a::ext)[j]?=some y→W.cell? ⟨g,pre.length+j,none⟩=some (.int .i64 y)) :
  Code.wp Tryz.prog pcCl Q ⟨List.toArray (.pointer (some ⟨cb,0,none⟩)::c1::c2::c3::.slice (some ⟨g,pre.length,none⟩) (ext.length+1) (pc - pre.length)::c5::c6::c7::c8::c9::c10::c11::c12::c13::c14::c15::c16::c17::c18::c19::c20::c21::c22::c23::c24::c25::c26::c27::c28::c29::c30::c31::c32::c33::c34::c35::c36::c37::c38::c39::c40::c41::c42::c43::c44::c45::c46::c47::c48::c49::c50::c51::c52::c53::c54::c55::c56::c57::c58::c59::c60::c61::c62::[]),[]⟩ W:=by
 conv=>arg 2;whnf
 have HQ:Hid _:=hq
 have HIN:Hid _:=hin
 have HND:Hid _:=hnd
 have HG1:Hid _:=G1
 have hgq:¬g=qb:=by have:=I.q2;omega
 have hcq:¬cb=qb:=I.cq
 rw [opnL_congr (Q:=opk pre ext a 0) (fun v _=>opk_start pre ext a v)] at Q1
 clear hq hin hnd G1
 go_wp2_with fail
 go_loopg [52] (ext.length+2) (fun gk y wr=>∃k:Nat,k≤ext.length+1∧y=.int .i64 k∧Hid (ext.length+2 - k≤gk)∧Hid (∀b,b≠qb→wr.heap[b]?=W.heap[b]?)∧Hid (Below s W wr)∧Blk wr qb (boolArr (opnL N (opk pre ext a k))) 4)
 case atStart=>exact ⟨0,Nat.zero_le _,rfl,Nat.le_refl _,fun b _=>rfl,Below.refl _ _,Q1⟩
 case round=>
  obtain⟨k,hk,rfl,HG,HB,HS,Q2⟩:=hrel
  clear Q1
  have B2:Blk wr cb #[.slice (some ⟨gb,0,none⟩) N N,.int .i64 cnt,.slice (some ⟨ob,0,none⟩) N N,.slice (some ⟨g,0,none⟩) pre.length pc,.slice (some ⟨qb,0,none⟩) N N,.int .i64 least] 193:=(HB.out cb hcq).trans B1
  by_cases hkl:k<ext.length+1
  ·obtain⟨y,hy⟩:=some_of_lt (show k<(a::ext).length by simp;omega)
   have g2:wr.cell? ⟨g,pre.length+k,none⟩=some (.int .i64 y):=(World.cell?_of_block (w:=W) (a:=⟨g,pre.length+k,none⟩) (HB.out g hgq)).trans (HG1.out k y hy)
   have hyN:=HIN.out y (List.mem_of_getElem? hy)
   have b2:=B2.cell
   have q2:=(Q2.cell y).trans (boolArr_get (by rw [opnL_len];exact hyN))
   have qf:=Q2.frozen y
   have Q3:=Q2.set y (.bool false)
   rw [boolArr_set,opnL_set,opnL_congr (fun v _=>opk_next hy HND.out v)] at Q3
   have HG2:Hid (ext.length+2 - (k+1)≤gk - 1∧gk - 1<gk):=by have:=HG.out;show _∧_;omega
   have HB3:Hid (∀b,b≠qb→(wr.setCell ⟨qb,y,none⟩ (.bool false)).heap[b]?=W.heap[b]?):=fun b hb=>(Below.heap_setCell _ _ _ _ hb).trans (HB.out b hb)
   have HS3:Hid (Below s W (wr.setCell ⟨qb,y,none⟩ (.bool false))):=HS.out.setCell (by dsimp only;exact I.q1) _
   have HQ3:Hid (Blk (wr.setCell ⟨qb,y,none⟩ (.bool false)) qb (boolArr (opnL N (opk pre ext a (k+1)))) 4):=Q3
   have k1:(k:Int)<(ext.length:Int)+1:=by omega
   have k2:(y:Int)<N:=by omega
   clear HG HB Q2 Q3 hy B2
   go_wp2_with fail
   go_roundg (gk - 1)
   case measure=>exact HG2.out.2
   case rel=>exact ⟨k+1,by omega,by go_num,HG2.out.1,HB3.out,HS3.out,HQ3.out⟩
  ·obtain rfl:k=ext.length+1:=by omega
   have k1:¬((ext.length:Int)+1)<(ext.length:Int)+1:=by omega
   rw [opnL_congr (fun v _=>opk_end v)] at Q2
   have HC:Hid (CcAt s cb gb ob qb N wr ⟨cnt,ord,pre,least⟩ (.slice (some ⟨g,0,none⟩) pre.length pc)):=⟨B2,(HB.out ob I.oq).trans O1,Q2,owns_other T1 (fun b hb=>HB.out b (fun e2=>hgq (by have e:b=g:=(by simpa [Value.ownBlock] using hb.symm);omega)))⟩
   have HBl:Hid (Below s W wr):=HS.out
   clear HG
   go_wp2_with fail
   exact HQ.out _ _ _ _ _ _ _ _ _ _ _ _ _ _ _ HC.out HBl.out
end Go.Proofs.YtaakadmnhpboiaaGreatDoor
