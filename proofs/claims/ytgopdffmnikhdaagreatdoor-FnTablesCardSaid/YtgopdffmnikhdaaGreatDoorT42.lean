import Derived.Test.YtgopdffmnikhdaaGreatDoorT25
import Derived.Test.YtgopdffmnikhdaaGreatDoorT41
import Derived.Test.YtgopdffmnikhdaaGreatDoorT24
namespace Go.Proofs.YtgopdffmnikhdaaGreatDoor
open Go.RowKit Go.Deep
set_option maxRecDepth 100000 in
set_option maxHeartbeats 8000000 in
theorem next_any (B L vb sb db:Nat) (cao:Option Addr) (ccap:Nat) (ps:List Pd) (p:Pd) (h:Ph) (c:Cf) (l0:Nat) (w:World) (V:VfIn B L vb sb db) (hz:p.ins.length≤6000) (H0:VfAt L vb sb db cao ccap ps p h w c l0) (hl0:l0≤p.ins.length) :
  Calls Tryz.prog 252 #[.pointer (some ⟨vb,0,none⟩)] w fun e w'=>(∃l:Nat,l≤p.ins.length∧((leastDue c.due=none∧e=.returned (.int .i64 (-1))∧VfAt L vb sb db cao ccap ps p h w' c l)∨(leastDue c.due=some l∧e=.returned (.int .i64 l)∧VfAt L vb sb db cao ccap ps p h w' ⟨c.sts,c.due.set l false⟩ l)))∧Off B L w w':=by
 have HVI:Hid _:=V
 have hneV:¬vb=db:=V.vd
 have hneD:¬db=vb:=V.vd.symm
 clear V
 go_enter Tryz.func252,Tryz.ntmps252
 go_wp2_with fail
 go_loopg [] (p.ins.length+1) (fun g wr=>∃l:Nat,l≤p.ins.length∧Hid (p.ins.length+1 - l≤g)∧VfAt L vb sb db cao ccap ps p h wr c l∧Off B L w wr)
 case atStart=>exact ⟨l0,hl0,(by show _≤_;omega),H0,Off.refl _ _ _⟩
 case round=>
  obtain⟨l,hl,HG,H1,O1⟩:=hrel
  clear H0
  have v1:=H1.blk.cell
  have HB1:Hid (B≤wr.heap.size):=Nat.le_trans HVI.out.v1 (Nat.le_of_lt H1.blk.lt)
  have HD1:Hid (∀n,Below wr.heap.size wr (wr.drewN n)):=fun n=>below_drewN (Below.refl _ _) n
  by_cases hll:l<p.ins.length
  ·have k1:(l:Int)<p.ins.length:=by omega
   have HH1:Hid _:=H1
   have HO1:Hid _:=O1
   clear H1 O1
   go_wp2_with fail
   go_quiet (fail)
   have H2:=HH1.out.below (HD1.out nq)
   have O2:=HO1.out.trans (Off.of_below (L:=L) (HD1.out nq) HB1.out)
   have HB2:Hid (B≤(wr.drewN nq).heap.size):=Nat.le_trans HB1.out (HD1.out nq).size
   generalize wr.drewN nq=w2 at *
   clear v1 HH1 HO1 HB1 HD1
   have v2:=H2.blk.cell
   have d2:=(H2.due.cell l).trans (boolArr_get (by rw [H2.lenD];exact hll))
   obtain⟨b,hb⟩:∃b,b=c.due.getD l false:=⟨_,rfl⟩
   rw [←hb] at d2
   have HB:Hid (c.due.getD l false=b):=hb.symm
   have HH2:Hid _:=H2
   have HO2:Hid _:=O2
   have HD2:Hid (∀n,Below w2.heap.size w2 (w2.drewN n)):=fun n=>below_drewN (Below.refl _ _) n
   clear hb H2 O2
   go_wp2_with fail
   go_quiet (fail)
   have H3:=HH2.out.below (HD2.out nq)
   have O3:=HO2.out.trans (Off.of_below (L:=L) (HD2.out nq) HB2.out)
   have HB3:Hid (B≤(w2.drewN nq).heap.size):=Nat.le_trans HB2.out (HD2.out nq).size
   generalize w2.drewN nq=w3 at *
   clear v2 d2 HH2 HO2 HB2 HD2
   cases b
   ·have HG2:Hid (p.ins.length+1 - (l+1)≤gk - 1∧gk - 1<gk):=by have:=HG.out;show _∧_;omega
    have HLW:Hid (∀j,j<l+1→c.due.getD j false=false):=by
     intro j hj
     by_cases hjl:j=l
     ·rw [hjl];exact HB.out
     ·exact H3.low j (by omega)
    have v3:=H3.blk.cell
    have f3:=H3.blk.frozen 12
    clear HG HB
    go_wp2_with fail
    go_roundg (gk - 1)
    case measure=>exact HG2.out.2
    case rel=>exact ⟨l+1,by omega,HG2.out.1,H3.move HVI.out (l+1) HLW.out,O3.set _ HVI.out.v1 HVI.out.v2⟩
   ·have HLD:Hid (leastDue c.due=some l):=leastDue_at H3.low HB.out
    have v311:=H3.blk.cell 11
    have v312:=H3.blk.cell 12
    have d3:=(H3.due.cell l).trans (boolArr_get (by rw [H3.lenD];exact hll))
    have f3:=H3.due.frozen l
    have HKP:Hid ((w3.setCell ⟨db,l,none⟩ (.bool false)).drew.cell? ⟨vb,11,none⟩=some (.slice (some ⟨db,0,none⟩) p.ins.length p.ins.length)∧(w3.setCell ⟨db,l,none⟩ (.bool false)).drew.cell? ⟨vb,12,none⟩=some (.int .i64 l)):=
     ⟨(World.cell?_setCell_far _ _ _ _ hneD).trans v311,(World.cell?_setCell_far _ _ _ _ hneD).trans v312⟩
    clear HG HB
    go_wp2_with fail
    go_region_held3 (fun w'=>w'.cell? ⟨vb,11,none⟩=some (.slice (some ⟨db,0,none⟩) p.ins.length p.ins.length)∧w'.cell? ⟨vb,12,none⟩=some (.int .i64 l)) (first | exact HKP.out | (go_keep;done)) (fail)
    have H4:=(H3.take HVI.out l).below (w':=(w3.setCell ⟨db,l,none⟩ (.bool false)).drew) (Below.refl _ _).drew
    have O4:=(O3.set (.bool false) (p:=⟨db,l,none⟩) HVI.out.d1 HVI.out.d2).trans (Off.of_below (L:=L) (w':=(w3.setCell ⟨db,l,none⟩ (.bool false)).drew) (Below.refl _ _).drew (by rw [size_set];exact HB3.out))
    have x12:=HKP.out.2
    have H4b:Hid _:=H4
    have O4b:Hid _:=O4
    clear HKP v311 v312 d3 f3 H3 O3 H4 O4
    generalize (w3.setCell ⟨db,l,none⟩ (.bool false)).drew=w4 at *
    go_wp2_with fail
    go_ret
    exact⟨⟨l,hl,.inr ⟨HLD.out,rfl,H4b.out⟩⟩,O4b.out⟩
  ·have HLD:Hid (leastDue c.due=none):=leastDue_all (fun j hj=>H1.low j (by rw [H1.lenD] at hj;omega))
   have k1:¬(l:Int)<p.ins.length:=by omega
   have kd:decide ((l:Int)<p.ins.length)=false:=by simpa using k1
   have HH1:Hid _:=H1
   have HO1:Hid _:=O1
   clear H1 O1 HG
   go_wp2_with fail
   go_quiet (fail)
   have H2:=HH1.out.below (HD1.out nq)
   have O2:=HO1.out.trans (Off.of_below (L:=L) (HD1.out nq) HB1.out)
   have H2b:Hid _:=H2
   have O2b:Hid _:=O2
   clear v1 HH1 HO1 HB1 HD1 H2 O2
   generalize wr.drewN nq=w2 at *
   go_wp2_with fail
   go_ret
   exact⟨⟨l,hl,.inl ⟨HLD.out,rfl,H2b.out⟩⟩,O2b.out⟩
def NxSt (L vb sb db:Nat) (cao:Option Addr) (ccap:Nat) (ps:List Pd) (p:Pd) (h:Ph) (c:Cf) (y:Value) (w:World):Prop:=
 ∃l:Nat,l≤p.ins.length∧((leastDue c.due=none∧y=.int .i64 (-1)∧VfAt L vb sb db cao ccap ps p h w c l)∨(leastDue c.due=some l∧y=.int .i64 l∧VfAt L vb sb db cao ccap ps p h w ⟨c.sts,c.due.set l false⟩ l))
theorem round_step {ps:List Pd} {p:Pd} {c:Cf} {i:Nat} {n:Nd} {s:St} {np:Nat} (hn:InsFit np p n) (hi:p.ins[i]?=some n) (hs:c.st i=some s):stepR ps n i s ⟨c.sts,c.due.set i false⟩=roundF ps p c i:=by
 unfold stepR roundF
 rw [hi,hs,step_eq hn]
 dsimp only
 cases stepF ps n i s <;> rfl
theorem round_code {ps:List Pd} {n:Nd} {i:Nat} {s:St} {c:Cf} {k x:Nat} (h:stepR ps n i s c=.error (k,x)):k≠0∧k≤13:=by
 have hf:∀(l:List (Nat × St)) (c:Cf),followF c l=.error (k,x)→k=13:=by
  intro l
  induction l with
  | nil=>intro c h;cases h
  | cons a r ih=>
   intro c h
   obtain⟨y,t⟩:=a
   rw [follow_cons] at h
   cases hr:reachF c y t with
   | none=>rw [hr] at h;simp at h;omega
   | some c2=>rw [hr] at h;exact ih c2 h
 unfold stepR at h
 cases hs:stepI ps n i s with
 | bad k2=>
  rw [hs] at h
  simp at h
  unfold stepI at hs
  split at hs
  ·cases hs;omega
  ·split at hs
   ·split at hs
    ·split at hs
     ·cases hs
     ·cases hs;omega
    ·cases hs;omega
   ·cases hs;omega
 | go l=>rw [hs] at h;have:=hf l c h;omega
noncomputable def pcVl:Code:=pathC [1,1,1,1,0,1,0] (Tryz.f191.body.getD .skip)
set_option maxRecDepth 1000000 in
set_option maxHeartbeats 8000000 in
theorem vf_loop (w0:World) (B L vb sb db:Nat) (cao:Option Addr) (ccap:Nat) (ps:List Pd) (p:Pd) (h:Ph) (pi:Nat) (w W:World) (c0 c2 c3 c4 c6 c8 c9 c10 c11 c12 c13 c14 c15 c16 c17 c18 c19 c20 c21 c22 c23 c24 c25 c26 c27 c28 c29 c30 c31 c32 c33 c34 c35 c36 c37 c38 c39 c40 c41 c42 c43 c44 c45 c46 c47 c48 c49 c50 c51 c52 c53 c54 c55 c56 c57 c58 c59 c60:Value) (Q:Exit→Act→World→Prop) (hq:∀a' w',bodyPost Tryz.prog Tryz.f191 (WkPost w ps p pi) .ret a' w'→Q .ret a' w')
  (hx:∀(u4 u8 u9 u35 u36 u37 u38 u39 u40 u41 u42 u43 u44 u45 u46 u47:Value) (c:Cf) (l:Nat) (w':World),walkF ps p (2 * p.ins.length+2) (startC p)=.ok c→VfAt L vb sb db cao ccap ps p h w' c l→Below w0.heap.size w0 w'→Q (.exit 0) ⟨List.toArray (c0::.int .i64 pi::c2::c3::u4::.pointer (some ⟨w.heap.size+1,0,none⟩)::c6::.pointer (some ⟨vb,0,none⟩)::u8::u9::c10::c11::c12::c13::c14::c15::c16::c17::c18::c19::c20::c21::c22::c23::c24::c25::c26::c27::c28::c29::c30::c31::c32::c33::c34::u35::u36::u37::u38::u39::u40::u41::u42::u43::u44::u45::u46::u47::c48::c49::c50::c51::c52::c53::c54::c55::c56::c57::c58::c59::c60::[]),[]⟩ w')
  (X:Vctx w0 B L vb sb db ps p h) (_hL0:L=w0.heap.size+3) (hLW:L≤W.heap.size) (N0:NxSt L vb sb db cao ccap ps p h (startC p) c8 W) (hb0:Below w0.heap.size w0 W) (hw0:Below w.heap.size w w0) (FL:Blk w0 (w.heap.size+1) #[.int .i64 0,.int .i64 0,.int .i64 0] 143) (hv:ProtosAt 0 w0 cao ps) (hu:∀n ∈ p.ins,∀u ∈ fnUps ps n,u.loc=true→0≤u.idx∧u.idx<p.regs) (hul:∀n,(fnUps ps n).length≤1048576) :
  Code.wp Tryz.prog pcVl Q ⟨List.toArray (c0::.int .i64 pi::c2::c3::c4::.pointer (some ⟨w.heap.size+1,0,none⟩)::c6::.pointer (some ⟨vb,0,none⟩)::c8::c9::c10::c11::c12::c13::c14::c15::c16::c17::c18::c19::c20::c21::c22::c23::c24::c25::c26::c27::c28::c29::c30::c31::c32::c33::c34::c35::c36::c37::c38::c39::c40::c41::c42::c43::c44::c45::c46::c47::c48::c49::c50::c51::c52::c53::c54::c55::c56::c57::c58::c59::c60::[]),[]⟩ W:=by
 conv=>arg 2;whnf
 have HQ:Hid _:=hq
 have HX:Hid _:=hx
 have HST:=start_ok X.fit
 have HV:Hid (ProtosAt 0 w0 cao ps):=hv
 have HU:Hid _:=hu
 have HUL:Hid _:=hul
 clear hq hx hv hu hul
 go_loopg [8] (2 * p.ins.length+2) (fun gk y wr=>∃c:Cf,Hid (CfOk p c)∧Hid (Closed p c none)∧Hid (walkF ps p gk c=walkF ps p (2 * p.ins.length+2) (startC p))∧Hid (c.meas<gk)∧Hid (NxSt L vb sb db cao ccap ps p h c y wr)∧Hid (Below w0.heap.size w0 wr)∧Hid (L≤wr.heap.size))
 case atStart=>exact ⟨startC p,HST.1,HST.2.1,rfl,HST.2.2,N0,hb0,hLW⟩
 case round=>
  obtain⟨c,HOK,HCL,HWK,HME,HN,HB,HLr⟩:=hrel
  clear HST N0
  have HFR:Hid (Blk wr (w.heap.size+1) #[.int .i64 0,.int .i64 0,.int .i64 0] 143):=FL.later HB.out
  obtain⟨l,hl,hN⟩:=HN.out
  rcases hN with ⟨hd,rfl,H1⟩ | ⟨hd,rfl,H1⟩
  ·have HWO:Hid (walkF ps p (2 * p.ins.length+2) (startC p)=.ok c):=HWK.out.symm.trans (walk_end (Nat.lt_of_le_of_lt (Nat.zero_le _) HME.out) hd)
   have HH1:Hid (VfAt L vb sb db cao ccap ps p h wr c l):=H1
   clear hd H1 HN HWK HME HCL HOK
   go_wp2_with fail
   exact HX.out _ _ _ _ _ _ _ _ _ _ _ _ _ _ _ _ c l wr HWO.out HH1.out HB.out
  ·obtain⟨hd1,hd2,_⟩:=leastDue_some hd
   obtain⟨s,hs⟩:=Option.isSome_iff_exists.1 (HOK.out.due l hd2)
   have hll:l<p.ins.length:=by rw [←HOK.out.lenD];exact hd1
   obtain⟨n,hn⟩:=some_of_lt hll
   have hNF:=X.fit.fit l n hn
   have HSP:Hid (∀_:Unit,_):=fun _=>step_any w0 B L vb sb db cao ccap ps p h ⟨c.sts,c.due.set l false⟩ l wr l n s X H1 hl HLr.out HB.out (cleared_ok HOK.out HCL.out).1 hn hs HV.out (HU.out n (List.mem_of_getElem? hn)) (HUL.out n)
   have HRS:Hid (stepR ps n l s ⟨c.sts,c.due.set l false⟩=roundF ps p c l):=round_step hNF hn hs
   have HLD:Hid (leastDue c.due=some l):=hd
   have HRC:Hid (∀k x,stepR ps n l s ⟨c.sts,c.due.set l false⟩=.error (k,x)→k≠0∧k≤13):=fun k x hh=>round_code hh
   have k0:(0:Int)≤l:=by omega
   clear hd hd1 hd2 hs hn hNF H1 HN
   go_wp2_with fail
   refine (HSP.out ()).mono ?_
   unfold FwPost
   cases hst:stepR ps n l s ⟨c.sts,c.due.set l false⟩ with
   | error kx=>
    obtain⟨k,x⟩:=kx
    rintro e w2 ⟨rfl,hO2⟩
    have HVF:Hid (verF ps p pi=((k:Int),(pi:Int),(x:Int))):=verF_error (HWK.out.symm.trans (walk_bad (Nat.lt_of_le_of_lt (Nat.zero_le _) HME.out) HLD.out (HRS.out.symm.trans hst)))
    have hkk:=HRC.out k x hst
    have hBe:=X.hB
    have hb2:Below w0.heap.size wr w2:=by have:=hO2.below;rw [hBe] at this;exact this
    have HB2:Hid (Below w0.heap.size w0 w2):=HB.out.trans hb2
    have FL2:=FL.later HB2.out
    have ek:((k:Int) != 0)=true:=by simp;omega
    have hfw:w.heap.size+1<w2.heap.size:=FL2.lt
    have hne:¬w2.heap.size=w.heap.size+1:=by omega
    have P3:=Blk.new w2 #[.int .i64 k,.int .i64 pi,.int .i64 x] 143
    have A3:=below_al (Below.refl w2.heap.size w2) (.cells #[.int .i64 k,.int .i64 pi,.int .i64 x] 143)
    have F3:=FL2.later A3
    have HBW:Hid (Below w.heap.size w (w2.alloc (.cells #[.int .i64 k,.int .i64 pi,.int .i64 x] 143))):=(hw0.trans (HB2.out.mono hw0.size)).trans (A3.mono (Nat.le_trans hw0.size HB2.out.size))
    clear hst HSP HRS HOK HCL HWK HME HRC HLD hO2 hBe HB HLr HFR hb2 HB2 hkk FL2 A3
    go_wp2_with fail
    have p30:=P3.cell 0
    have p31:=P3.cell 1
    have p32:=P3.cell 2
    have f3:=F3.cell
    have z3:=F3.frozen
    generalize w2.alloc (.cells #[.int .i64 k,.int .i64 pi,.int .i64 x] 143)=w3 at *
    have hne2:¬w.heap.size+1=w2.heap.size:=fun e=>hne e.symm
    go_region_held3 (fun w'=>w'.cell? ⟨w2.heap.size,0,none⟩=some (.int .i64 k)∧w'.cell? ⟨w2.heap.size,1,none⟩=some (.int .i64 pi)∧w'.cell? ⟨w2.heap.size,2,none⟩=some (.int .i64 x)) (first | exact ⟨p30,p31,p32⟩ | (exact ⟨((World.cell?_setCell_far _ _ _ _ hne2).trans ((World.cell?_setCell_far _ _ _ _ hne2).trans (World.cell?_setCell_far _ _ _ _ hne2))).trans p30,((World.cell?_setCell_far _ _ _ _ hne2).trans ((World.cell?_setCell_far _ _ _ _ hne2).trans (World.cell?_setCell_far _ _ _ _ hne2))).trans p31,((World.cell?_setCell_far _ _ _ _ hne2).trans ((World.cell?_setCell_far _ _ _ _ hne2).trans (World.cell?_setCell_far _ _ _ _ hne2))).trans p32⟩) | (go_keep;done)) (fail)
    all_goals
     go_wp2_with fail
     have c9:=(F3.three (x':=.int .i64 k) (y':=.int .i64 pi) (z':=.int .i64 x)).cell
     refine HQ.out _ _ (bodyPost_ret (v:=.tuple #[.slice none 0 0,.agg #[.int .i64 k,.int .i64 pi,.int .i64 x]]) ?_ rfl ⟨⟨.slice none 0 0,?_⟩,?_⟩)
     ·simp [results,Tryz.results191,go_sem,c9]
     ·rw [HVF.out];rfl
     ·first
      | exact (((HBW.out.setCell (by dsimp only;omega) _).setCell (by dsimp only;omega) _).setCell (by dsimp only;omega) _).drew
      | exact ((HBW.out.drew.setCell (by dsimp only;omega) _).setCell (by dsimp only;omega) _).setCell (by dsimp only;omega) _
   | ok c2=>
    rintro e w2 ⟨⟨rfl,l2,hl2,H2⟩,hO2⟩
    have HRN:Hid (roundF ps p c l=.ok c2):=HRS.out.symm.trans hst
    have HRO:Hid _:=round_ok X.fit HOK.out HCL.out HLD.out HRN.out
    have HWN:Hid (walkF ps p (gk - 1) c2=walkF ps p (2 * p.ins.length+2) (startC p)):=(walk_on (Nat.lt_of_le_of_lt (Nat.zero_le _) HME.out) HLD.out HRN.out).symm.trans HWK.out
    have HMN:Hid (c2.meas<gk - 1∧gk - 1<gk):=by have h1:=HRO.out.2.2;have h2:=HME.out;show _∧_;omega
    have A2:=below_al (Below.refl w2.heap.size w2) (.cells #[.int .i64 0,.int .i64 0,.int .i64 0] 143)
    have HNX:Hid (∀_:Unit,_):=fun _=>next_any B L vb sb db cao ccap ps p h c2 l2 (w2.alloc (.cells #[.int .i64 0,.int .i64 0,.int .i64 0] 143)) X.V X.hz (H2.below A2) hl2
    have hBe:=X.hB
    have HB2:Hid (Below w0.heap.size w0 (w2.alloc (.cells #[.int .i64 0,.int .i64 0,.int .i64 0] 143))):=HB.out.trans ((by have:=hO2.below;rw [hBe] at this;exact this:Below w0.heap.size wr w2).trans (A2.mono (Nat.le_trans HB.out.size hO2.size)))
    have HL2:Hid (L≤(w2.alloc (.cells #[.int .i64 0,.int .i64 0,.int .i64 0] 143)).heap.size):=Nat.le_trans HLr.out (Nat.le_trans hO2.size A2.size)
    clear hst HSP HRS HOK HCL HWK HME HRC HRN HLD H2 hO2 A2 hBe HB HLr HFR
    go_wp2_with fail
    refine (HNX.out ()).mono ?_
    rintro e w4 ⟨⟨l4,hl4,hN4⟩,hO4⟩
    have HB4:Hid (Below w0.heap.size w0 w4):=HB2.out.trans (by have:=hO4.below;rw [X.hB] at this;exact this)
    have HL4:Hid (L≤w4.heap.size):=Nat.le_trans HL2.out hO4.size
    clear HNX HB2 HL2 hO4
    rcases hN4 with ⟨h1,rfl,h3⟩ | ⟨h1,rfl,h3⟩
    ·have HNS:Hid (NxSt L vb sb db cao ccap ps p h c2 (.int .i64 (-1)) w4):=⟨l4,hl4,.inl ⟨h1,rfl,h3⟩⟩
     clear h1 h3
     go_wp2_with fail
     go_roundg (gk - 1)
     case measure=>exact HMN.out.2
     case rel=>exact ⟨c2,HRO.out.1,HRO.out.2.1,HWN.out,HMN.out.1,HNS.out,HB4.out,HL4.out⟩
    ·have HNS:Hid (NxSt L vb sb db cao ccap ps p h c2 (.int .i64 l4) w4):=⟨l4,hl4,.inr ⟨h1,rfl,h3⟩⟩
     clear h1 h3
     go_wp2_with fail
     go_roundg (gk - 1)
     case measure=>exact HMN.out.2
     case rel=>exact ⟨c2,HRO.out.1,HRO.out.2.1,HWN.out,HMN.out.1,HNS.out,HB4.out,HL4.out⟩
theorem ints_made (w:World) (n:Nat) (hn:n≤maxLen):(w.alloc (.cells (madeCells #[.int .i64 0] n) 3)).ownsRow w.heap.size 3 1 (.slice (some ⟨w.heap.size,0,none⟩) n n) n (ints (List.replicate n 0)):=by
 have h:=World.ownsRow_lit (base:=w.heap.size) (e:=3) (size:=1) w (madeCells #[.int .i64 0] n) n (Nat.le_refl _) hn (by rw [size_madeCells];omega)
 rw [toList_madeCells_one] at h
 simpa [ints] using h
def firstR (p:Pd) (r:Nat):List Int:=List.replicate r 1 ++ List.replicate (p.regs.toNat - r) 0
theorem firstR_set {p:Pd} {r:Nat} (h:r<p.regs.toNat):(firstR p r).set r 1=firstR p (r+1):=by
 unfold firstR
 rw [List.set_append_right _ _ (by simp),show p.regs.toNat - r=(p.regs.toNat - (r+1))+1 by omega,List.replicate_succ (n:=p.regs.toNat - (r+1))]
 simp only [List.length_replicate,Nat.sub_self,List.set_cons_zero]
 rw [List.replicate_succ',List.append_assoc]
 rfl
theorem firstR_len {p:Pd} {r:Nat} (h:r≤p.regs.toNat):(firstR p r).length=p.regs.toNat:=by unfold firstR;simp;omega
set_option maxRecDepth 100000 in
set_option maxHeartbeats 1600000 in
theorem firstTypes_any (p:Pd) (h:Ph) (np:Nat) (w:World) (hp:PFit np p) :
  Calls Tryz.prog 251 #[.agg (p.cells h)] w fun e w'=>∃v,e=.returned v∧w'.ownsRow w.heap.size 3 1 v (firstT p).length (ints (firstT p))∧Below w.heap.size w w':=by
 have hrg:=hp.regs
 have hpa:=hp.params
 have HP:Hid _:=hp
 obtain⟨rg,hrgN⟩:=Int.eq_ofNat_of_zero_le hrg.1
 obtain⟨pa,hpaN⟩:=Int.eq_ofNat_of_zero_le hpa.1
 have hmi:=run_make_k (P:=Tryz.prog) 55 3 _ 1 8 Tryz.underlying55 Tryz.info_int .i64 .i64 rg (by omega) (by omega)
 simp only [Nat.mul_one] at hmi
 rw [←hrgN] at hmi
 have HPA:Hid _:=hpaN
 have HRG:Hid _:=hrgN
 have T1:=ints_made (w.alloc (.cells #[.string p.name,.int .i64 p.line,.int .i64 p.params,.bool p.rest,.int .i64 p.regs,.slice h.uo p.ups.length h.uc,.slice h.co p.consts.length h.cc,.slice h.io p.ins.length h.ic,.slice h.no p.named.length h.nc] 54)) rg (by unfold maxLen;omega)
 have P1:=(Blk.new w #[.string p.name,.int .i64 p.line,.int .i64 p.params,.bool p.rest,.int .i64 p.regs,.slice h.uo p.ups.length h.uc,.slice h.co p.consts.length h.cc,.slice h.io p.ins.length h.ic,.slice h.no p.named.length h.nc] 54).alloc (.cells (madeCells #[.int .i64 0] rg) 3)
 have B1:Below w.heap.size w ((w.alloc (.cells #[.string p.name,.int .i64 p.line,.int .i64 p.params,.bool p.rest,.int .i64 p.regs,.slice h.uo p.ups.length h.uc,.slice h.co p.consts.length h.cc,.slice h.io p.ins.length h.ic,.slice h.no p.named.length h.nc] 54)).alloc (.cells (madeCells #[.int .i64 0] rg) 3)):=((Below.refl _ _).alloc (Nat.le_refl _) _).alloc (by simp) _
 simp only [nblk_alloc] at T1
 have hT0:ints (List.replicate rg 0)=ints (firstR p 0):=by unfold firstR;rw [hrgN];simp
 rw [hT0] at T1
 clear hT0 hp hpaN hrgN
 unfold Pd.cells
 go_enter Tryz.func251,Tryz.ntmps251
 go_wp2_with fail
 clear hmi
 generalize (w.alloc (.cells #[.string p.name,.int .i64 p.line,.int .i64 p.params,.bool p.rest,.int .i64 p.regs,.slice h.uo p.ups.length h.uc,.slice h.co p.consts.length h.cc,.slice h.io p.ins.length h.ic,.slice h.no p.named.length h.nc] 54)).alloc (.cells (madeCells #[.int .i64 0] rg) 3)=w1 at *
 go_loopw [10] (fun y wr=>∃r:Nat,y=.int .i64 r∧r≤pa∧wr.ownsRow (w.heap.size+1) 3 1 (.slice (some ⟨w.heap.size+1,0,none⟩) rg rg) rg (ints (firstR p r))∧Blk wr w.heap.size #[.string p.name,.int .i64 p.line,.int .i64 p.params,.bool p.rest,.int .i64 p.regs,.slice h.uo p.ups.length h.uc,.slice h.co p.consts.length h.cc,.slice h.io p.ins.length h.ic,.slice h.no p.named.length h.nc] 54∧Below w.heap.size w wr) (fun y _=>pa - (intOf y).toNat)
 case atStart=>exact ⟨0,rfl,Nat.zero_le _,T1,P1,B1⟩
 case round=>
  obtain⟨r,rfl,hr,T2,P2,B2⟩:=hrel
  clear T1 P1 B1
  have hrr:pa≤rg:=by have:=HPA.out;have:=HRG.out;omega
  have hrN:p.regs.toNat=rg:=by have:=HRG.out;omega
  by_cases hrp:r<pa
  ·have t2:=(T2.cellAt r (by omega)).trans (ints_get (by rw [firstR_len (by omega)];omega))
   have f2:=T2.frozenAt r
   have T3:=(T2.stored r (.int .i64 1)).1
   rw [ints_set,firstR_set (by omega)] at T3
   have k2:(r:Int)<p.params:=by have:=HPA.out;omega
   have k3:(r:Int)<rg:=by omega
   have P3:=P2.setOther (p:=⟨w.heap.size+1,r,none⟩) (by dsimp only;omega) (.int .i64 1)
   have B3:=B2.setCell (p:=⟨w.heap.size+1,r,none⟩) (by dsimp only;omega) (.int .i64 1)
   clear hrN
   go_wp2_with fail
   go_roundw
   case rel=>exact ⟨r+1,by go_num,by omega,T3,P3,B3⟩
   case measure=>simp [intOf];omega
  ·obtain rfl:r=pa:=by omega
   have k2:¬(r:Int)<p.params:=by have:=HPA.out;omega
   have hlen:(firstT p).length=rg:=by have:=firstT_len HP.out;have:=HRG.out;omega
   have HLEN:Hid _:=hlen
   have hpr:=HPA.out
   have hwk:∀{W:World} {v:Value} {n:Nat} {xs:List Value},W.ownsRow (w.heap.size+1) 3 1 v n xs→W.ownsRow w.heap.size 3 1 v n xs:=by
    rintro W v n xs ⟨r1,r2 | ⟨g',c',cur,r3,r4,r5⟩⟩
    ·exact⟨r1,.inl r2⟩
    ·exact⟨r1,.inr ⟨g',c',cur,r3,by omega,r5⟩⟩
   have HWK:Hid _:=@hwk
   clear hwk
   cases hre:p.rest
   ·have hft:firstR p r=firstT p:=by unfold firstT firstR;rw [hre,hpr];simp
    have P3:=P2
    rw [hre] at P3
    have p3:=P3.cell
    rw [hft] at T2
    clear hft hlen hpr hrN hre
    go_wp2_with fail
    go_ret
    exact⟨_,rfl,by rw [HLEN.out];exact HWK.out T2,B2⟩
   ·have hrl:r<rg:=by have:=hpa.2.2 hre;have:=HRG.out;omega
    have k6:(r:Int)<rg:=by omega
    have t2:=(T2.cellAt r (by omega)).trans (ints_get (by rw [firstR_len (by omega)];omega))
    have f2:=T2.frozenAt r
    have T5:=(T2.stored r (.int .i64 3)).1
    rw [ints_set] at T5
    have hft:(firstR p r).set r 3=firstT p:=by unfold firstT firstR;rw [hre,hpr];simp
    rw [hft] at T5
    have B5:=B2.setCell (p:=⟨w.heap.size+1,r,none⟩) (by dsimp only;omega) (.int .i64 3)
    have P3:=P2
    rw [hre,hpr] at P3
    have p3:=P3.cell
    clear hft hlen hpr hrN hre P2
    go_wp2_with fail
    go_ret
    exact⟨_,rfl,by rw [HLEN.out];exact HWK.out T5,B5⟩
theorem sti_made (w:World) (n:Nat):∀lo,StsI lo (w.alloc (.cells (madeCells #[.bool false,.slice none 0 0,.slice none 0 0] (n*3)) 318)) w.heap.size (List.replicate n none):=by
 intro lo
 refine⟨by simpa using Own.made w #[.bool false,.slice none 0 0,.slice none 0 0] (n*3) 318,?_⟩
 intro j o hj
 rw [List.getElem?_replicate] at hj
 split at hj
 ·rename_i hjn
  obtain rfl:=(Option.some.inj hj).symm
  have hb:=blk_alloc_new w (.cells (madeCells #[.bool false,.slice none 0 0,.slice none 0 0] (n*3)) 318)
  have hc:∀i,i<3→(w.alloc (.cells (madeCells #[.bool false,.slice none 0 0,.slice none 0 0] (n*3)) 318)).cell? ⟨w.heap.size,j*3+i,none⟩=(#[.bool false,.slice none 0 0,.slice none 0 0]:Array Value)[i]?:=by
   intro i hi
   have:=made_cell (z:=#[.bool false,.slice none 0 0,.slice none 0 0]) (n:=n*3) (j:=j) (i:=i) (by simpa using hi) (by simp;omega)
   simp only [World.cell?,hb]
   simpa using this
  exact⟨none,0,none,0,hc 0 (by omega),hc 1 (by omega),hc 2 (by omega),⟨Nat.le_refl _,fun _=>rfl,fun a e=>(by cases e),fun i x hx=>(by simp [stT] at hx),fun b o e=>(by cases e)⟩,⟨Nat.le_refl _,fun _=>rfl,fun a e=>(by cases e),fun i x hx=>(by simp [stG] at hx),fun b o e=>(by cases e)⟩⟩
 ·cases hj
theorem inb_exit {id:Nat} {Q:Exit→Act→World→Prop} {a:Act} {w:World} (h:Q .normal a w):Exit.inBlock id Q (.exit id) a w:=by simpa [Exit.inBlock] using h
theorem sti_later2 {w w':World} {sb:Nat} {n:Nat} (h:∀lo,StsI lo w sb (List.replicate n none)) (hb:Below w.heap.size w w'):∀lo,StsI lo w' sb (List.replicate n none):=fun lo=>(h lo).later (Keeps.of_below hb) (hb.block sb (h lo).own.lt)
theorem fresh_st (p:Pd) (i:Nat):Cf.st ⟨List.replicate p.ins.length none,List.replicate p.ins.length false⟩ i=none:=by
 unfold Cf.st
 rw [List.getD_eq_getElem?_getD,List.getElem?_replicate]
 split <;> rfl
noncomputable def pcVr:Code:=pathC [1,1,1] (Tryz.f191.body.getD .skip)
set_option maxRecDepth 1000000 in
set_option maxHeartbeats 8000000 in
theorem vf_rest (w0:World) (B L vb sb db:Nat) (cao:Option Addr) (ccap:Nat) (ps:List Pd) (p:Pd) (h:Ph) (pi:Nat) (w W:World) (c0 c2 c3 c4 c8 c9 c10 c11 c12 c13 c14 c15 c16 c17 c18 c19 c20 c21 c22 c23 c24 c25 c26 c27 c28 c29 c30 c31 c32 c33 c34 c35 c36 c37 c38 c39 c40 c41 c42 c43 c44 c45 c46 c47 c48 c49 c50 c51 c52 c53 c54 c55 c56 c57 c58 c59 c60:Value) (Q:Exit→Act→World→Prop) (hq:∀a' w',bodyPost Tryz.prog Tryz.f191 (WkPost w ps p pi) .ret a' w'→Q .ret a' w')
  (X:Vctx w0 B L vb sb db ps p h) (hL0:L=w0.heap.size+3) (hLW:L≤W.heap.size) (V0:VfAt L vb sb db cao ccap ps p h W ⟨List.replicate p.ins.length none,List.replicate p.ins.length false⟩ 0) (hb0:Below w0.heap.size w0 W) (hw0:Below w.heap.size w w0) (FL:Blk w0 (w.heap.size+1) #[.int .i64 0,.int .i64 0,.int .i64 0] 143) (PB:Blk W (w.heap.size+1+1) #[.string p.name,.int .i64 p.line,.int .i64 p.params,.bool p.rest,.int .i64 p.regs,.slice h.uo p.ups.length h.uc,.slice h.co p.consts.length h.cc,.slice h.io p.ins.length h.ic,.slice h.no p.named.length h.nc] 54) (hv:ProtosAt 0 w0 cao ps) (hu:∀n ∈ p.ins,∀u ∈ fnUps ps n,u.loc=true→0≤u.idx∧u.idx<p.regs) (hul:∀n,(fnUps ps n).length≤1048576) :
  Code.wp Tryz.prog pcVr Q ⟨List.toArray (c0::.int .i64 pi::c2::c3::c4::.pointer (some ⟨w.heap.size+1,0,none⟩)::.pointer (some ⟨w.heap.size+1+1,0,none⟩)::.pointer (some ⟨vb,0,none⟩)::c8::c9::c10::c11::c12::c13::c14::c15::c16::c17::c18::c19::c20::c21::c22::c23::c24::c25::c26::c27::c28::c29::c30::c31::c32::c33::c34::c35::c36::c37::c38::c39::c40::c41::c42::c43::c44::c45::c46::c47::c48::c49::c50::c51::c52::c53::c54::c55::c56::c57::c58::c59::c60::[]),[]⟩ W:=by
 conv=>arg 2;whnf
 have hft:=firstTypes_any p h ps.length W X.fit
 unfold Pd.cells at hft
 have HFT:Hid (∀_:Unit,_):=fun _=>hft
 have HV:Hid (ProtosAt 0 w0 cao ps):=hv
 have HU:Hid _:=hu
 have HUL:Hid _:=hul
 have HQ:Hid _:=hq
 have HV0:Hid _:=V0
 clear hft hv hu hul hq V0
 refine wp_seq_k ?_
 intro K3 hK3
 have HK3:Hid _:=hK3
 clear hK3
 have p0:=PB.cell
 go_wp2_with fail
 refine (HFT.out ()).mono ?_
 rintro e w1 ⟨vv,rfl,T1,hb1⟩
 obtain⟨ro,rc,rfl⟩:=owns_slice T1
 have hLB:Hid (L≤w1.heap.size):=Nat.le_trans hLW hb1.size
 have hrc:=reach_any B L vb sb db cao ccap ps p h ⟨List.replicate p.ins.length none,List.replicate p.ins.length false⟩ 0 w1 0 false ⟨firstT p,[]⟩ ro none rc 0 X.V X.hz (HV0.out.below hb1) (Nat.zero_le _) hLB.out X.fit.some ((RowI.of_owns T1).lower hLW) ⟨Nat.le_refl _,fun _=>rfl,fun a e=>(by cases e),fun i x hx=>(by simp at hx),fun b o e=>(by cases e)⟩ X.hBL (fun t ht=>by rw [fresh_st] at ht;cases ht)
 have hre:reachF ⟨List.replicate p.ins.length none,List.replicate p.ins.length false⟩ 0 ⟨firstT p,[]⟩=some (startC p):=by unfold reachF;rw [fresh_st];rfl
 rw [hre] at hrc
 unfold ReachPost at hrc
 dsimp only [List.length_nil] at hrc
 rw [show ((0:Nat):Int)=0 from rfl] at hrc
 have HRC:Hid (∀_:Unit,_):=fun _=>hrc
 have HB1:Hid (Below w0.heap.size w0 w1):=hb0.trans (hb1.mono hb0.size)
 clear hrc hre p0 PB HFT T1 hb1 HV0 hb0 hLW
 go_wp2_with fail
 refine (HRC.out ()).mono ?_
 rintro e w2 ⟨⟨rfl,l2,hl2,H2⟩,hO2⟩
 have HB2:Hid (Below w0.heap.size w0 w2):=HB1.out.trans (by have:=hO2.below;rw [X.hB] at this;exact this)
 have hL2:Hid (L≤w2.heap.size):=Nat.le_trans hLB.out hO2.size
 have HNX:Hid (∀_:Unit,_):=fun _=>next_any B L vb sb db cao ccap ps p h (startC p) l2 w2 X.V X.hz H2 hl2
 clear HRC HB1 hLB hO2 H2
 go_wp2_with fail
 refine HK3.out _ _ ?_
 clear HK3
 refine wp_seq_k ?_
 intro K4 hK4
 have HK4:Hid _:=hK4
 clear hK4
 refine wp_seq_k ?_
 intro K5 hK5
 have HK5:Hid _:=hK5
 clear hK5
 go_wp2_with fail
 refine (HNX.out ()).mono ?_
 rintro e w4 ⟨⟨l4,hl4,hN4⟩,hO4⟩
 have HB4:Hid (Below w0.heap.size w0 w4):=HB2.out.trans (by have:=hO4.below;rw [X.hB] at this;exact this)
 have HL4:Hid (L≤w4.heap.size):=Nat.le_trans hL2.out hO4.size
 clear HNX HB2 hL2 hO4
 rcases hN4 with ⟨h1,rfl,h3⟩ | ⟨h1,rfl,h3⟩
 all_goals
  have HNS:Hid (∃y,y=_∧NxSt L vb sb db cao ccap ps p h (startC p) y w4):=⟨_,rfl,l4,hl4,by first | exact .inl ⟨h1,rfl,h3⟩ | exact .inr ⟨h1,rfl,h3⟩⟩
  clear h1 h3
  go_wp2_with fail
  refine HK5.out _ _ ?_
  clear HK5
  refine wp_block ?_
  obtain⟨_,rfl,hns⟩:=HNS.out
  refine vf_loop w0 B L vb sb db cao ccap ps p h pi w w4 _ _ _ _ _ _ _ _ _ _ _ _ _ _ _ _ _ _ _ _ _ _ _ _ _ _ _ _ _ _ _ _ _ _ _ _ _ _ _ _ _ _ _ _ _ _ _ _ _ _ _ _ _ _ _ _ _ _ _ (fun a' w' hb=>HQ.out a' w' hb) ?_ X hL0 HL4.out hns HB4.out hw0 FL HV.out HU.out HUL.out
  intro u4 u8 u9 u35 u36 u37 u38 u39 u40 u41 u42 u43 u44 u45 u46 u47 c l w5 hwo H5 hb5
  refine inb_exit ?_
  refine HK4.out _ _ ?_
  exact vf_end w0 B L vb sb db cao ccap ps p h c l pi w w5 _ _ _ _ _ _ _ _ _ _ _ _ _ _ _ _ _ _ _ _ _ _ _ _ _ _ _ _ _ _ _ _ _ _ _ _ _ _ _ _ _ _ _ _ _ _ _ _ _ _ _ _ _ _ _ _ _ _ _ (fun a' w' hb=>HQ.out a' w' hb) X H5 hb5 (hw0.trans (hb5.mono hw0.size)) (FL.later hb5) hwo
set_option maxRecDepth 1000000 in
set_option maxHeartbeats 8000000 in
theorem verify_any (cao:Option Addr) (ccap:Nat) (ps:List Pd) (pi:Nat) (p:Pd) (w:World) (hpk:ps[pi]?=some p) (hp:PFit ps.length p) (hz:p.ins.length≤6000) (hpl:ps.length≤1048576)
  (hu:∀n ∈ p.ins,∀u ∈ fnUps ps n,u.loc=true→0≤u.idx∧u.idx<p.regs) (hfi:Fine ps) (hF:Forms w) (hv:ProtosAt 0 w cao ps) :
  Calls Tryz.prog 191 #[.agg #[.slice cao ps.length ccap],.int .i64 pi] w (WkPost w ps p pi):=by
 have hlt:pi<ps.length:=(List.getElem?_eq_some_iff.1 hpk).1
 have HV:Hid (ProtosAt 0 w cao ps):=hv
 obtain⟨cb,co,rfl,_,hcl,h,NN,PI⟩:=hv pi p hpk
 obtain⟨N1,N2,N3,N4,N5,N6,N7,N8,N9⟩:=NN
 have hmk:=run_make_k (P:=Tryz.prog) 261 318 _ 3 56 Tryz.underlying261 Tryz.info_State .i64 .i64 p.ins.length (by omega) (by omega)
 have hmb:=run_make_k (P:=Tryz.prog) 235 4 _ 1 1 Tryz.underlying235 Tryz.info_bool .i64 .i64 p.ins.length (by omega) (by omega)
 simp only [Nat.mul_one] at hmb
 have HP:Hid _:=hp
 have HU:Hid _:=hu
 have HFM0:Hid _:=hF
 have HPK:Hid _:=hpk
 have k1:(pi:Int)<ps.length:=by omega
 have C0:=((Blk.new w #[.slice (some ⟨cb,co,none⟩) ps.length ccap] 26).alloc (.cells #[.int .i64 0,.int .i64 0,.int .i64 0] 143))
 have CB:=C0.alloc (.cells #[.string p.name,.int .i64 p.line,.int .i64 p.params,.bool p.rest,.int .i64 p.regs,.slice h.uo p.ups.length h.uc,.slice h.co p.consts.length h.cc,.slice h.io p.ins.length h.ic,.slice h.no p.named.length h.nc] 54)
 have FL:=(Blk.new (w.alloc (.cells #[.slice (some ⟨cb,co,none⟩) ps.length ccap] 26)) #[.int .i64 0,.int .i64 0,.int .i64 0] 143).alloc (.cells #[.string p.name,.int .i64 p.line,.int .i64 p.params,.bool p.rest,.int .i64 p.regs,.slice h.uo p.ups.length h.uc,.slice h.co p.consts.length h.cc,.slice h.io p.ins.length h.ic,.slice h.no p.named.length h.nc] 54)
 have PB:=Blk.new ((w.alloc (.cells #[.slice (some ⟨cb,co,none⟩) ps.length ccap] 26)).alloc (.cells #[.int .i64 0,.int .i64 0,.int .i64 0] 143)) #[.string p.name,.int .i64 p.line,.int .i64 p.params,.bool p.rest,.int .i64 p.regs,.slice h.uo p.ups.length h.uc,.slice h.co p.consts.length h.cc,.slice h.io p.ins.length h.ic,.slice h.no p.named.length h.nc] 54
 have hw0:Below w.heap.size w (((w.alloc (.cells #[.slice (some ⟨cb,co,none⟩) ps.length ccap] 26)).alloc (.cells #[.int .i64 0,.int .i64 0,.int .i64 0] 143)).alloc (.cells #[.string p.name,.int .i64 p.line,.int .i64 p.params,.bool p.rest,.int .i64 p.regs,.slice h.uo p.ups.length h.uc,.slice h.co p.consts.length h.cc,.slice h.io p.ins.length h.ic,.slice h.no p.named.length h.nc] 54)):=below_al (below_al (below_al (Below.refl _ _) _) _) _
 simp only [nblk_alloc] at FL PB
 have HIN:Hid (InssAt 0 (((w.alloc (.cells #[.slice (some ⟨cb,co,none⟩) ps.length ccap] 26)).alloc (.cells #[.int .i64 0,.int .i64 0,.int .i64 0] 143)).alloc (.cells #[.string p.name,.int .i64 p.line,.int .i64 p.params,.bool p.rest,.int .i64 p.regs,.slice h.uo p.ups.length h.uc,.slice h.co p.consts.length h.cc,.slice h.io p.ins.length h.ic,.slice h.no p.named.length h.nc] 54)) h.io p.ins):=PI.ins.later (Keeps.of_below hw0)
 have HV0:Hid (ProtosAt 0 (((w.alloc (.cells #[.slice (some ⟨cb,co,none⟩) ps.length ccap] 26)).alloc (.cells #[.int .i64 0,.int .i64 0,.int .i64 0] 143)).alloc (.cells #[.string p.name,.int .i64 p.line,.int .i64 p.params,.bool p.rest,.int .i64 p.regs,.slice h.uo p.ups.length h.uc,.slice h.co p.consts.length h.cc,.slice h.io p.ins.length h.ic,.slice h.no p.named.length h.nc] 54)) (some ⟨cb,co,none⟩) ps):=HV.out.later (Keeps.of_below hw0)
 have HFM:Hid (Forms (((w.alloc (.cells #[.slice (some ⟨cb,co,none⟩) ps.length ccap] 26)).alloc (.cells #[.int .i64 0,.int .i64 0,.int .i64 0] 143)).alloc (.cells #[.string p.name,.int .i64 p.line,.int .i64 p.params,.bool p.rest,.int .i64 p.regs,.slice h.uo p.ups.length h.uc,.slice h.co p.consts.length h.cc,.slice h.io p.ins.length h.ic,.slice h.no p.named.length h.nc] 54))):=HFM0.out.later hw0
 clear hp hu hF hv hpk PI HV HFM0
 go_enter Tryz.func191,Tryz.ntmps191
 refine wp_seq_k ?_
 intro K0 hK0
 have HK0:Hid _:=hK0
 clear hK0
 go_wp2_with fail
 refine HK0.out _ _ ?_
 clear HK0
 refine wp_seq_k ?_
 intro K1 hK1
 have HK1:Hid _:=hK1
 clear hK1
 have c0:=C0.cell 0
 go_wp2_with fail
 refine HK1.out _ _ ?_
 clear HK1 c0 C0 N1 N2 N3 N4 N5 N6 N7 N8 N9
 generalize ((w.alloc (.cells #[.slice (some ⟨cb,co,none⟩) ps.length ccap] 26)).alloc (.cells #[.int .i64 0,.int .i64 0,.int .i64 0] 143)).alloc (.cells #[.string p.name,.int .i64 p.line,.int .i64 p.params,.bool p.rest,.int .i64 p.regs,.slice h.uo p.ups.length h.uc,.slice h.co p.consts.length h.cc,.slice h.io p.ins.length h.ic,.slice h.no p.named.length h.nc] 54)=w0 at *
 refine wp_seq_k ?_
 intro K2 hK2
 have HK2:Hid _:=hK2
 clear hK2
 have c0:=CB.cell 0
 have p0:=PB.cell
 go_region_held3 (fun w'=>w'.cell? ⟨w.heap.size,0,none⟩=some (.slice (some ⟨cb,co,none⟩) ps.length ccap)∧w'.cell? ⟨w.heap.size+1+1,0,none⟩=some (.string p.name)∧w'.cell? ⟨w.heap.size+1+1,1,none⟩=some (.int .i64 p.line)∧w'.cell? ⟨w.heap.size+1+1,2,none⟩=some (.int .i64 p.params)∧w'.cell? ⟨w.heap.size+1+1,3,none⟩=some (.bool p.rest)∧w'.cell? ⟨w.heap.size+1+1,4,none⟩=some (.int .i64 p.regs)∧w'.cell? ⟨w.heap.size+1+1,5,none⟩=some (.slice h.uo p.ups.length h.uc)∧w'.cell? ⟨w.heap.size+1+1,6,none⟩=some (.slice h.co p.consts.length h.cc)∧w'.cell? ⟨w.heap.size+1+1,7,none⟩=some (.slice h.io p.ins.length h.ic)∧w'.cell? ⟨w.heap.size+1+1,8,none⟩=some (.slice h.no p.named.length h.nc)) (first | exact ⟨c0,p0 0,p0 1,p0 2,p0 3,p0 4,p0 5,p0 6,p0 7,p0 8⟩ | exact ⟨(CB.alloc _).cell 0,(PB.alloc _).cell 0,(PB.alloc _).cell 1,(PB.alloc _).cell 2,(PB.alloc _).cell 3,(PB.alloc _).cell 4,(PB.alloc _).cell 5,(PB.alloc _).cell 6,(PB.alloc _).cell 7,(PB.alloc _).cell 8⟩ | exact ⟨((CB.alloc _).alloc _).cell 0,((PB.alloc _).alloc _).cell 0,((PB.alloc _).alloc _).cell 1,((PB.alloc _).alloc _).cell 2,((PB.alloc _).alloc _).cell 3,((PB.alloc _).alloc _).cell 4,((PB.alloc _).alloc _).cell 5,((PB.alloc _).alloc _).cell 6,((PB.alloc _).alloc _).cell 7,((PB.alloc _).alloc _).cell 8⟩ | exact ⟨(((CB.alloc _).alloc _).alloc _).cell 0,(((PB.alloc _).alloc _).alloc _).cell 0,(((PB.alloc _).alloc _).alloc _).cell 1,(((PB.alloc _).alloc _).alloc _).cell 2,(((PB.alloc _).alloc _).alloc _).cell 3,(((PB.alloc _).alloc _).alloc _).cell 4,(((PB.alloc _).alloc _).alloc _).cell 5,(((PB.alloc _).alloc _).alloc _).cell 6,(((PB.alloc _).alloc _).alloc _).cell 7,(((PB.alloc _).alloc _).alloc _).cell 8⟩ | (go_keep;done)) (fail)
 ·go_wp2_with fail
  refine HK2.out _ _ ?_
  have hal:Below w0.heap.size w0 (((w0.alloc (.cells (madeCells #[.bool false,.slice none 0 0,.slice none 0 0] (p.ins.length*3)) 318)).alloc (.cells (madeCells #[.bool false] p.ins.length) 4)).alloc (.cells #[.slice (some ⟨cb,co,none⟩) ps.length ccap,.string p.name,.int .i64 p.line,.int .i64 p.params,.bool p.rest,.int .i64 p.regs,.slice h.uo p.ups.length h.uc,.slice h.co p.consts.length h.cc,.slice h.io p.ins.length h.ic,.slice h.no p.named.length h.nc,.slice (some ⟨w0.heap.size,0,none⟩) p.ins.length p.ins.length,.slice (some ⟨w0.heap.size+1,0,none⟩) p.ins.length p.ins.length,.int .i64 0] 313)).drew:=(below_al (below_al (below_al (Below.refl _ _) _) _) _).drew
  have VFA:VfAt (w0.heap.size+3) (w0.heap.size+1+1) (w0.heap.size) (w0.heap.size+1) (some ⟨cb,co,none⟩) ccap ps p h (((w0.alloc (.cells (madeCells #[.bool false,.slice none 0 0,.slice none 0 0] (p.ins.length*3)) 318)).alloc (.cells (madeCells #[.bool false] p.ins.length) 4)).alloc (.cells #[.slice (some ⟨cb,co,none⟩) ps.length ccap,.string p.name,.int .i64 p.line,.int .i64 p.params,.bool p.rest,.int .i64 p.regs,.slice h.uo p.ups.length h.uc,.slice h.co p.consts.length h.cc,.slice h.io p.ins.length h.ic,.slice h.no p.named.length h.nc,.slice (some ⟨w0.heap.size,0,none⟩) p.ins.length p.ins.length,.slice (some ⟨w0.heap.size+1,0,none⟩) p.ins.length p.ins.length,.int .i64 0] 313)).drew ⟨List.replicate p.ins.length none,List.replicate p.ins.length false⟩ 0:=by
   refine⟨?_,?_,?_,fun j hj=>absurd hj (Nat.not_lt_zero _),by simp,by simp⟩
   ·have:=Blk.new ((w0.alloc (.cells (madeCells #[.bool false,.slice none 0 0,.slice none 0 0] (p.ins.length*3)) 318)).alloc (.cells (madeCells #[.bool false] p.ins.length) 4)) #[.slice (some ⟨cb,co,none⟩) ps.length ccap,.string p.name,.int .i64 p.line,.int .i64 p.params,.bool p.rest,.int .i64 p.regs,.slice h.uo p.ups.length h.uc,.slice h.co p.consts.length h.cc,.slice h.io p.ins.length h.ic,.slice h.no p.named.length h.nc,.slice (some ⟨w0.heap.size,0,none⟩) p.ins.length p.ins.length,.slice (some ⟨w0.heap.size+1,0,none⟩) p.ins.length p.ins.length,.int .i64 0] 313
    simp only [nblk_alloc] at this
    exact this
   ·exact sti_later2 (sti_made w0 p.ins.length) (below_al (below_al (Below.refl _ _) _) _).drew _
   ·have:=(made_blk (w0.alloc (.cells (madeCells #[.bool false,.slice none 0 0,.slice none 0 0] (p.ins.length*3)) 318)) p.ins.length).alloc (.cells #[.slice (some ⟨cb,co,none⟩) ps.length ccap,.string p.name,.int .i64 p.line,.int .i64 p.params,.bool p.rest,.int .i64 p.regs,.slice h.uo p.ups.length h.uc,.slice h.co p.consts.length h.cc,.slice h.io p.ins.length h.ic,.slice h.no p.named.length h.nc,.slice (some ⟨w0.heap.size,0,none⟩) p.ins.length p.ins.length,.slice (some ⟨w0.heap.size+1,0,none⟩) p.ins.length p.ins.length,.int .i64 0] 313);simp only [nblk_alloc] at this;exact this
  have XX:Vctx w0 w0.heap.size (w0.heap.size+3) (w0.heap.size+1+1) (w0.heap.size) (w0.heap.size+1) ps p h:=⟨⟨by omega,by omega,by omega,by omega,by omega,by omega,by omega,by omega,by omega⟩,rfl,by omega,hz,HP.out,hfi.few p (List.mem_of_getElem? HPK.out),hpl,HIN.out,HFM.out⟩
  exact vf_rest w0 w0.heap.size (w0.heap.size+3) (w0.heap.size+1+1) (w0.heap.size) (w0.heap.size+1) (some ⟨cb,co,none⟩) ccap ps p h pi w _ _ _ _ _ _ _ _ _ _ _ _ _ _ _ _ _ _ _ _ _ _ _ _ _ _ _ _ _ _ _ _ _ _ _ _ _ _ _ _ _ _ _ _ _ _ _ _ _ _ _ _ _ _ _ _ _ _ _ (fun a' w' hb=>hb) XX rfl (by show _≤_;simp) VFA hal hw0 FL (PB.later hal) HV0.out HU.out (fnUps_few hfi.few)
 ·go_wp2_with fail
  refine HK2.out _ _ ?_
  have hal:Below w0.heap.size w0 (((w0.alloc (.cells (madeCells #[.bool false] p.ins.length) 4)).alloc (.cells (madeCells #[.bool false,.slice none 0 0,.slice none 0 0] (p.ins.length*3)) 318)).alloc (.cells #[.slice (some ⟨cb,co,none⟩) ps.length ccap,.string p.name,.int .i64 p.line,.int .i64 p.params,.bool p.rest,.int .i64 p.regs,.slice h.uo p.ups.length h.uc,.slice h.co p.consts.length h.cc,.slice h.io p.ins.length h.ic,.slice h.no p.named.length h.nc,.slice (some ⟨w0.heap.size+1,0,none⟩) p.ins.length p.ins.length,.slice (some ⟨w0.heap.size,0,none⟩) p.ins.length p.ins.length,.int .i64 0] 313)).drew:=(below_al (below_al (below_al (Below.refl _ _) _) _) _).drew
  have VFA:VfAt (w0.heap.size+3) (w0.heap.size+1+1) (w0.heap.size+1) (w0.heap.size) (some ⟨cb,co,none⟩) ccap ps p h (((w0.alloc (.cells (madeCells #[.bool false] p.ins.length) 4)).alloc (.cells (madeCells #[.bool false,.slice none 0 0,.slice none 0 0] (p.ins.length*3)) 318)).alloc (.cells #[.slice (some ⟨cb,co,none⟩) ps.length ccap,.string p.name,.int .i64 p.line,.int .i64 p.params,.bool p.rest,.int .i64 p.regs,.slice h.uo p.ups.length h.uc,.slice h.co p.consts.length h.cc,.slice h.io p.ins.length h.ic,.slice h.no p.named.length h.nc,.slice (some ⟨w0.heap.size+1,0,none⟩) p.ins.length p.ins.length,.slice (some ⟨w0.heap.size,0,none⟩) p.ins.length p.ins.length,.int .i64 0] 313)).drew ⟨List.replicate p.ins.length none,List.replicate p.ins.length false⟩ 0:=by
   refine⟨?_,?_,?_,fun j hj=>absurd hj (Nat.not_lt_zero _),by simp,by simp⟩
   ·have:=Blk.new ((w0.alloc (.cells (madeCells #[.bool false] p.ins.length) 4)).alloc (.cells (madeCells #[.bool false,.slice none 0 0,.slice none 0 0] (p.ins.length*3)) 318)) #[.slice (some ⟨cb,co,none⟩) ps.length ccap,.string p.name,.int .i64 p.line,.int .i64 p.params,.bool p.rest,.int .i64 p.regs,.slice h.uo p.ups.length h.uc,.slice h.co p.consts.length h.cc,.slice h.io p.ins.length h.ic,.slice h.no p.named.length h.nc,.slice (some ⟨w0.heap.size+1,0,none⟩) p.ins.length p.ins.length,.slice (some ⟨w0.heap.size,0,none⟩) p.ins.length p.ins.length,.int .i64 0] 313
    simp only [nblk_alloc] at this
    exact this
   ·have:=sti_later2 (sti_made (w0.alloc (.cells (madeCells #[.bool false] p.ins.length) 4)) p.ins.length) (below_al (Below.refl _ _) (.cells #[.slice (some ⟨cb,co,none⟩) ps.length ccap,.string p.name,.int .i64 p.line,.int .i64 p.params,.bool p.rest,.int .i64 p.regs,.slice h.uo p.ups.length h.uc,.slice h.co p.consts.length h.cc,.slice h.io p.ins.length h.ic,.slice h.no p.named.length h.nc,.slice (some ⟨w0.heap.size+1,0,none⟩) p.ins.length p.ins.length,.slice (some ⟨w0.heap.size,0,none⟩) p.ins.length p.ins.length,.int .i64 0] 313)).drew;simp only [nblk_alloc] at this;exact this _
   ·exact ((made_blk w0 p.ins.length).alloc _).alloc _
  have XX:Vctx w0 w0.heap.size (w0.heap.size+3) (w0.heap.size+1+1) (w0.heap.size+1) (w0.heap.size) ps p h:=⟨⟨by omega,by omega,by omega,by omega,by omega,by omega,by omega,by omega,by omega⟩,rfl,by omega,hz,HP.out,hfi.few p (List.mem_of_getElem? HPK.out),hpl,HIN.out,HFM.out⟩
  exact vf_rest w0 w0.heap.size (w0.heap.size+3) (w0.heap.size+1+1) (w0.heap.size+1) (w0.heap.size) (some ⟨cb,co,none⟩) ccap ps p h pi w _ _ _ _ _ _ _ _ _ _ _ _ _ _ _ _ _ _ _ _ _ _ _ _ _ _ _ _ _ _ _ _ _ _ _ _ _ _ _ _ _ _ _ _ _ _ _ _ _ _ _ _ _ _ _ _ _ _ _ (fun a' w' hb=>hb) XX rfl (by show _≤_;simp) VFA hal hw0 FL (PB.later hal) HV0.out HU.out (fnUps_few hfi.few)
set_option maxRecDepth 100000 in
set_option maxHeartbeats 8000000 in
theorem implCheckCode_any (ao:Option Addr) (cap:Nat) (ps:List Pd) (w:World) (hfi:Fine ps) (hF:Forms w) (hv:ProtosAt 0 w ao ps) :
  Calls Tryz.prog 113 #[.agg #[.slice ao ps.length cap]] w fun e w'=>e=.returned (faultV (checkF ps))∧Below w.heap.size w w':=by
 have hl:ps.length≤1048576:=by have:=hfi.bulk;unfold bulkPs at this;omega
 have C0:=(Blk.new w #[.slice ao ps.length cap] 26).alloc (.cells #[.int .i64 0,.int .i64 0,.int .i64 0] 143)
 have R0:=Blk.new (w.alloc (.cells #[.slice ao ps.length cap] 26)) #[.int .i64 0,.int .i64 0,.int .i64 0] 143
 have B0:Below w.heap.size w ((w.alloc (.cells #[.slice ao ps.length cap] 26)).alloc (.cells #[.int .i64 0,.int .i64 0,.int .i64 0] 143)):=((Below.refl _ _).alloc (Nat.le_refl _) _).alloc (by simp) _
 simp only [nblk_alloc] at R0
 have HFI:Hid _:=hfi
 have HV:Hid (ProtosAt 0 w ao ps):=hv
 have HFM:Hid _:=hF
 clear hF
 have HCK:Hid (checkF ps=if (shapeF ps).1=0 then verL ps 0 ps else shapeF ps):=rfl
 have HSH:Hid (∀W,Below w.heap.size w W→Calls Tryz.prog 190 #[.agg #[.slice ao ps.length cap]] W fun e w'=>e=.returned (.agg #[.int .i64 (shapeF ps).1,.int .i64 (shapeF ps).2.1,.int .i64 (shapeF ps).2.2])∧Below W.heap.size W w'):=fun W hb=>checkShape_any ao cap ps W HFI.out (HFM.out.later hb) (HV.out.later (Keeps.of_below hb))
 obtain⟨⟨s0,s1,s2⟩,hs⟩:∃s,s=shapeF ps:=⟨_,rfl⟩
 have HS:Hid _:=hs
 rw [←hs] at HSH HCK
 dsimp only at HSH HCK
 clear hs hfi hv
 go_enter Tryz.func113,Tryz.ntmps113
 have c0:=C0.cell 0
 go_wp2_with fail
 clear c0
 generalize (w.alloc (.cells #[.slice ao ps.length cap] 26)).alloc (.cells #[.int .i64 0,.int .i64 0,.int .i64 0] 143)=w0 at *
 refine (HSH.out w0 B0).mono ?_
 rintro e w1 ⟨rfl,hw1⟩
 have C1:=C0.later hw1
 have R1:=R0.later hw1
 have B1:=B0.trans (hw1.mono B0.size)
 clear C0 R0 B0 hw1 HSH
 have A1:=fun o=>(Below.refl w1.heap.size w1).alloc (Nat.le_refl _) o
 have X1:=Blk.new w1 #[.int .i64 s0,.int .i64 s1,.int .i64 s2] 143
 by_cases h0:s0=0
 ·subst h0
  have HCK2:Hid (checkF ps=verL ps 0 ps):=by have:=HCK.out;rw [if_pos rfl] at this;exact this
  have HFT:Hid (∀p ∈ ps,Fits ps p):=shape_fits (by have:=HS.out;rw [←this])
  have C2:=C1.later (A1 (.cells #[.int .i64 0,.int .i64 s1,.int .i64 s2] 143))
  have R2:=R1.later (A1 (.cells #[.int .i64 0,.int .i64 s1,.int .i64 s2] 143))
  have B2:=B1.trans ((A1 (.cells #[.int .i64 0,.int .i64 s1,.int .i64 s2] 143)).mono B1.size)
  have c2:=C2.cell 0
  clear HCK HS C1 R1 B1 A1
  go_wp2_with fail
  generalize w1.alloc (.cells #[.int .i64 0,.int .i64 s1,.int .i64 s2] 143)=w2 at *
  clear c2 X1
  go_loopg [16] (ps.length+1) (fun g y wr=>∃k:Nat,k≤ps.length∧y=.int .i64 k∧Hid (verL ps k (ps.drop k)=verL ps 0 ps)∧Hid (ps.length+1 - k≤g)∧Below w.heap.size w wr∧Blk wr w.heap.size #[.slice ao ps.length cap] 26∧Blk wr (w.heap.size+1) #[.int .i64 0,.int .i64 0,.int .i64 0] 143)
  case atStart=>exact ⟨0,Nat.zero_le _,rfl,rfl,Nat.le_refl _,B2,C2,R2⟩
  case round=>
   obtain⟨k,hk,rfl,HQ,HG,B3,C3,R3⟩:=hrel
   clear B2 C2 R2
   by_cases hkl:k<ps.length
   ·obtain⟨p,hp⟩:=some_of_lt hkl
    have HF:Hid (Fits ps p):=HFT.out p (List.mem_of_getElem? hp)
    have HQ2:Hid (verL ps 0 ps=if (verF ps p k).1=0 then verL ps (k+1) (ps.drop (k+1)) else verF ps p k):=HQ.out.symm.trans (verL_drop hp)
    have HG2:Hid (ps.length+1 - (k+1)≤gk - 1∧gk - 1<gk):=by have:=HG.out;show _∧_;omega
    have HWK:Hid (∀_:Unit,_):=fun _=>verify_any ao cap ps k p wr hp HF.out.fit HF.out.few hl HF.out.ups HFI.out (HFM.out.later B3) (HV.out.later (Keeps.of_below B3))
    have c3:=C3.cell 0
    have k1:(k:Int)<ps.length:=by omega
    clear hp HQ HG
    go_wp2_with fail
    refine (HWK.out ()).mono ?_
    unfold WkPost faultV
    rintro e w4 ⟨⟨v,rfl⟩,hw4⟩
    have C4:=C3.later hw4
    have R4:=R3.later hw4
    have B4:=B3.trans (hw4.mono B3.size)
    obtain⟨⟨f0,f1,f2⟩,hf⟩:∃f,f=verF ps p k:=⟨_,rfl⟩
    rw [←hf] at HQ2 ⊢
    dsimp only at HQ2 ⊢
    clear hf HWK C3 R3 B3 hw4 c3
    have X4:=Blk.new w4 #[.int .i64 f0,.int .i64 f1,.int .i64 f2] 143
    have A4:=(Below.refl w4.heap.size w4).alloc (Nat.le_refl _) (.cells #[.int .i64 f0,.int .i64 f1,.int .i64 f2] 143)
    have C5:=C4.later A4
    have R5:=R4.later A4
    have B5:=B4.trans (A4.mono B4.size)
    by_cases hf0:f0=0
    ·subst hf0
     have HQ3:Hid (verL ps (k+1) (ps.drop (k+1))=verL ps 0 ps):=by have:=HQ2.out;rw [if_pos rfl] at this;exact this.symm
     clear HQ2
     go_wp2_with fail
     go_roundg (gk - 1)
     case measure=>exact HG2.out.2
     case rel=>exact ⟨k+1,by omega,by go_num,HQ3.out,HG2.out.1,B5,C5,R5⟩
    ·have HQ3:Hid (checkF ps=(f0,f1,f2)):=by have:=HQ2.out;rw [if_neg hf0] at this;exact HCK2.out.trans this
     have kf:(f0 != 0)=true:=by simpa using hf0
     have r5:=R5.cell
     have z5:=R5.frozen
     have hne:¬w4.heap.size=w.heap.size+1:=by have:=R4.lt;omega
     clear HQ2 hf0
     go_wp2_with fail
     refine bodyPost_ret (v:=.agg #[.int .i64 f0,.int .i64 f1,.int .i64 f2]) ?_ rfl ⟨?_,?_⟩
     ·simp [results,Tryz.results113,go_sem,r5]
     ·rw [HQ3.out];rfl
     ·iterate 3 (refine Below.setCell ?_ (by simp) _)
      exact B5
   ·obtain rfl:k=ps.length:=by omega
    have HQ3:Hid (checkF ps=(0,0,0)):=by
     show _=_
     rw [HCK2.out,←HQ.out,List.drop_length]
     rfl
    have r3:=R3.cell
    have z3:=R3.frozen
    have k1:¬(ps.length:Int)<ps.length:=by omega
    clear HQ HG
    go_wp2_with fail
    refine bodyPost_ret (v:=.agg #[.int .i64 0,.int .i64 0,.int .i64 0]) ?_ rfl ⟨?_,?_⟩
    ·simp [results,Tryz.results113,go_sem,r3]
    ·rw [HQ3.out];rfl
    ·iterate 3 (refine Below.setCell ?_ (by simp) _)
     exact B3
 ·have HCK2:Hid (checkF ps=(s0,s1,s2)):=by have:=HCK.out;rw [if_neg h0] at this;exact this
  have kf:(s0 != 0)=true:=by simpa using h0
  have R2:=R1.later (A1 (.cells #[.int .i64 s0,.int .i64 s1,.int .i64 s2] 143))
  have B2:=B1.trans ((A1 (.cells #[.int .i64 s0,.int .i64 s1,.int .i64 s2] 143)).mono B1.size)
  have r2:=R2.cell
  have z2:=R2.frozen
  have hne:¬w1.heap.size=w.heap.size+1:=by have:=R1.lt;omega
  clear HCK HS h0 A1
  go_wp2_with fail
  refine bodyPost_ret (v:=.agg #[.int .i64 s0,.int .i64 s1,.int .i64 s2]) ?_ rfl ⟨?_,?_⟩
  ·simp [results,Tryz.results113,go_sem,r2]
  ·rw [HCK2.out];rfl
  ·iterate 3 (refine Below.setCell ?_ (by simp) _)
   exact B2
end Go.Proofs.YtgopdffmnikhdaaGreatDoor
