import Derived.Test.YtgjbfiddhpbldaaGreatDoorM22
import Derived.Test.YtgjbfiddhpbldaaGreatDoorM20
import Derived.Test.YtgjbfiddhpbldaaGreatDoorM12
namespace Go.Proofs.YtgjbfiddhpbldaaGreatDoor
open Go.RowKit Go.Deep
set_option maxRecDepth 100000 in
set_option maxHeartbeats 8000000 in
theorem next_any (B L vb sb db:Nat) (cao:Option Addr) (ccap:Nat) (ps:List Pd) (p:Pd) (h:Ph) (c:Cf) (l0:Nat) (w:World) (V:VfIn B L vb sb db) (hz:p.ins.length≤6000) (H0:VfAt L vb sb db cao ccap ps p h w c l0) (hl0:l0≤p.ins.length) :
  Calls Tryz.prog 119 #[.pointer (some ⟨vb,0,none⟩)] w fun e w'=>(∃l:Nat,l≤p.ins.length∧((leastDue c.due=none∧e=.returned (.int .i64 (-1))∧VfAt L vb sb db cao ccap ps p h w' c l)∨(leastDue c.due=some l∧e=.returned (.int .i64 l)∧VfAt L vb sb db cao ccap ps p h w' ⟨c.sts,c.due.set l false⟩ l)))∧Off B L w w':=by
 have HVI:Hid _:=V
 have hneV:¬vb=db:=V.vd
 have hneD:¬db=vb:=V.vd.symm
 clear V
 go_enter Tryz.func119,Tryz.ntmps119
 go_wp2_with fail
 go_loopg [] (p.ins.length+1) (fun g wr=>∃l:Nat,l≤p.ins.length∧Hid (p.ins.length+1 - l≤g)∧VfAt L vb sb db cao ccap ps p h wr c l∧Off B L w wr)
 case atStart=>exact ⟨l0,hl0,(by show _≤_;omega),H0,Off.refl _ _ _⟩
 case round=>
  obtain⟨l,hl,HG,H1,O1⟩:=hrel
  clear H0
  have v1:=H1.blk.cell
  have HB1:Hid (B≤wr.heap.size):=Nat.le_trans HVI.out.v1 (Nat.le_of_lt H1.blk.lt)
  have HD1:Hid (∀n,Below wr.heap.size wr (wr.drewN n)):=fun n=>below_drewN (Below.refl _ _) n
  by_cases hll:l<p.ins.length
  ·have k1:(l:Int)<p.ins.length:=by omega
   have HH1:Hid _:=H1
   have HO1:Hid _:=O1
   clear H1 O1
   go_wp2_with fail
   go_quiet (fail)
   have H2:=HH1.out.below (HD1.out nq)
   have O2:=HO1.out.trans (Off.of_below (L:=L) (HD1.out nq) HB1.out)
   have HB2:Hid (B≤(wr.drewN nq).heap.size):=Nat.le_trans HB1.out (HD1.out nq).size
   generalize wr.drewN nq=w2 at *
   clear v1 HH1 HO1 HB1 HD1
   have v2:=H2.blk.cell
   have d2:=(H2.due.cell l).trans (boolArr_get (by rw [H2.lenD];exact hll))
   obtain⟨b,hb⟩:∃b,b=c.due.getD l false:=⟨_,rfl⟩
   rw [←hb] at d2
   have HB:Hid (c.due.getD l false=b):=hb.symm
   have HH2:Hid _:=H2
   have HO2:Hid _:=O2
   have HD2:Hid (∀n,Below w2.heap.size w2 (w2.drewN n)):=fun n=>below_drewN (Below.refl _ _) n
   clear hb H2 O2
   go_wp2_with fail
   go_quiet (fail)
   have H3:=HH2.out.below (HD2.out nq)
   have O3:=HO2.out.trans (Off.of_below (L:=L) (HD2.out nq) HB2.out)
   have HB3:Hid (B≤(w2.drewN nq).heap.size):=Nat.le_trans HB2.out (HD2.out nq).size
   generalize w2.drewN nq=w3 at *
   clear v2 d2 HH2 HO2 HB2 HD2
   cases b
   ·have HG2:Hid (p.ins.length+1 - (l+1)≤gk - 1∧gk - 1<gk):=by have:=HG.out;show _∧_;omega
    have HLW:Hid (∀j,j<l+1→c.due.getD j false=false):=by
     intro j hj
     by_cases hjl:j=l
     ·rw [hjl];exact HB.out
     ·exact H3.low j (by omega)
    have v3:=H3.blk.cell
    have f3:=H3.blk.frozen 12
    clear HG HB
    go_wp2_with fail
    go_roundg (gk - 1)
    case measure=>exact HG2.out.2
    case rel=>exact ⟨l+1,by omega,HG2.out.1,H3.move HVI.out (l+1) HLW.out,O3.set _ HVI.out.v1 HVI.out.v2⟩
   ·have HLD:Hid (leastDue c.due=some l):=leastDue_at H3.low HB.out
    have v311:=H3.blk.cell 11
    have v312:=H3.blk.cell 12
    have d3:=(H3.due.cell l).trans (boolArr_get (by rw [H3.lenD];exact hll))
    have f3:=H3.due.frozen l
    have HKP:Hid ((w3.setCell ⟨db,l,none⟩ (.bool false)).drew.cell? ⟨vb,11,none⟩=some (.slice (some ⟨db,0,none⟩) p.ins.length p.ins.length)∧(w3.setCell ⟨db,l,none⟩ (.bool false)).drew.cell? ⟨vb,12,none⟩=some (.int .i64 l)):=
     ⟨(World.cell?_setCell_far _ _ _ _ hneD).trans v311,(World.cell?_setCell_far _ _ _ _ hneD).trans v312⟩
    clear HG HB
    go_wp2_with fail
    go_region_held3 (fun w'=>w'.cell? ⟨vb,11,none⟩=some (.slice (some ⟨db,0,none⟩) p.ins.length p.ins.length)∧w'.cell? ⟨vb,12,none⟩=some (.int .i64 l)) (first | exact HKP.out | (go_keep;done)) (fail)
    have H4:=(H3.take HVI.out l).below (w':=(w3.setCell ⟨db,l,none⟩ (.bool false)).drew) (Below.refl _ _).drew
    have O4:=(O3.set (.bool false) (p:=⟨db,l,none⟩) HVI.out.d1 HVI.out.d2).trans (Off.of_below (L:=L) (w':=(w3.setCell ⟨db,l,none⟩ (.bool false)).drew) (Below.refl _ _).drew (by rw [size_set];exact HB3.out))
    have x12:=HKP.out.2
    have H4b:Hid _:=H4
    have O4b:Hid _:=O4
    clear HKP v311 v312 d3 f3 H3 O3 H4 O4
    generalize (w3.setCell ⟨db,l,none⟩ (.bool false)).drew=w4 at *
    go_wp2_with fail
    go_ret
    exact⟨⟨l,hl,.inr ⟨HLD.out,rfl,H4b.out⟩⟩,O4b.out⟩
  ·have HLD:Hid (leastDue c.due=none):=leastDue_all (fun j hj=>H1.low j (by rw [H1.lenD] at hj;omega))
   have k1:¬(l:Int)<p.ins.length:=by omega
   have kd:decide ((l:Int)<p.ins.length)=false:=by simpa using k1
   have HH1:Hid _:=H1
   have HO1:Hid _:=O1
   clear H1 O1 HG
   go_wp2_with fail
   go_quiet (fail)
   have H2:=HH1.out.below (HD1.out nq)
   have O2:=HO1.out.trans (Off.of_below (L:=L) (HD1.out nq) HB1.out)
   have H2b:Hid _:=H2
   have O2b:Hid _:=O2
   clear v1 HH1 HO1 HB1 HD1 H2 O2
   generalize wr.drewN nq=w2 at *
   go_wp2_with fail
   go_ret
   exact⟨⟨l,hl,.inl ⟨HLD.out,rfl,H2b.out⟩⟩,O2b.out⟩
structure FieldAs (np:Nat) (p:Pd) (r:Nat) (x:Int) (t:TypeId) (v:Value) (rx rg ox tx tn:Int):Prop where
 val:fieldVal np p r x=.iface t v
 res:∀w,(Instr.typeAssert (.iface t v) 314 421 true).run Tryz.prog w=.ok (.tuple #[.agg #[.int .i64 rx,.int .i64 rg],.bool (decide (19≤r∧r≤22))]) w
 ope:∀w,(Instr.typeAssert (.iface t v) 314 423 true).run Tryz.prog w=.ok (.tuple #[.agg #[.int .i64 ox],.bool (decide (r=23))]) w
 tgt:∀w,(Instr.typeAssert (.iface t v) 314 426 true).run Tryz.prog w=.ok (.tuple #[.agg #[.int .i64 tx,.int .i64 tn],.bool (decide (r=11))]) w
 isR:19≤r∧r≤22→rx=x∧rg=(r:Int) - 19
 isO:r=23→ox=x
 isT:r=11→tx=x
theorem field_as (np:Nat) (p:Pd) (r:Nat) (x:Int) (hr:r≤23):∃t v rx rg ox tx tn,FieldAs np p r x t v rx rg ox tx tn:=by
 rcases forms_all r hr with rfl | rfl | rfl | rfl | rfl | rfl | rfl | rfl | rfl | rfl | rfl | rfl | rfl | rfl | rfl | rfl | rfl | rfl | rfl | rfl | rfl | rfl | rfl | rfl
 ·exact⟨_,_,0,0,0,0,0,rfl,(fun w=>as_number_result _ w),(fun w=>as_number_opening _ w),(fun w=>as_number_target _ w),by first | (intro h;exfalso;omega) | (intro _;exact ⟨rfl,rfl⟩),by first | (intro h;exfalso;omega) | (intro _;rfl),by first | (intro h;exfalso;omega) | (intro _;rfl)⟩
 ·exact⟨_,_,0,0,0,0,0,rfl,(fun w=>as_number_result _ w),(fun w=>as_number_opening _ w),(fun w=>as_number_target _ w),by first | (intro h;exfalso;omega) | (intro _;exact ⟨rfl,rfl⟩),by first | (intro h;exfalso;omega) | (intro _;rfl),by first | (intro h;exfalso;omega) | (intro _;rfl)⟩
 ·exact⟨_,_,0,0,0,0,0,rfl,(fun w=>as_number_result _ w),(fun w=>as_number_opening _ w),(fun w=>as_number_target _ w),by first | (intro h;exfalso;omega) | (intro _;exact ⟨rfl,rfl⟩),by first | (intro h;exfalso;omega) | (intro _;rfl),by first | (intro h;exfalso;omega) | (intro _;rfl)⟩
 ·exact⟨_,_,0,0,0,0,0,rfl,(fun w=>as_number_result _ w),(fun w=>as_number_opening _ w),(fun w=>as_number_target _ w),by first | (intro h;exfalso;omega) | (intro _;exact ⟨rfl,rfl⟩),by first | (intro h;exfalso;omega) | (intro _;rfl),by first | (intro h;exfalso;omega) | (intro _;rfl)⟩
 ·exact⟨_,_,0,0,0,0,0,rfl,(fun w=>as_number_result _ w),(fun w=>as_number_opening _ w),(fun w=>as_number_target _ w),by first | (intro h;exfalso;omega) | (intro _;exact ⟨rfl,rfl⟩),by first | (intro h;exfalso;omega) | (intro _;rfl),by first | (intro h;exfalso;omega) | (intro _;rfl)⟩
 ·exact⟨_,_,0,0,0,0,0,rfl,(fun w=>as_number_result _ w),(fun w=>as_number_opening _ w),(fun w=>as_number_target _ w),by first | (intro h;exfalso;omega) | (intro _;exact ⟨rfl,rfl⟩),by first | (intro h;exfalso;omega) | (intro _;rfl),by first | (intro h;exfalso;omega) | (intro _;rfl)⟩
 ·exact⟨_,_,0,0,0,0,0,rfl,(fun w=>as_number_result _ w),(fun w=>as_number_opening _ w),(fun w=>as_number_target _ w),by first | (intro h;exfalso;omega) | (intro _;exact ⟨rfl,rfl⟩),by first | (intro h;exfalso;omega) | (intro _;rfl),by first | (intro h;exfalso;omega) | (intro _;rfl)⟩
 ·exact⟨_,_,0,0,0,0,0,rfl,(fun w=>as_number_result _ w),(fun w=>as_number_opening _ w),(fun w=>as_number_target _ w),by first | (intro h;exfalso;omega) | (intro _;exact ⟨rfl,rfl⟩),by first | (intro h;exfalso;omega) | (intro _;rfl),by first | (intro h;exfalso;omega) | (intro _;rfl)⟩
 ·exact⟨_,_,0,0,0,0,0,rfl,(fun w=>as_number_result _ w),(fun w=>as_number_opening _ w),(fun w=>as_number_target _ w),by first | (intro h;exfalso;omega) | (intro _;exact ⟨rfl,rfl⟩),by first | (intro h;exfalso;omega) | (intro _;rfl),by first | (intro h;exfalso;omega) | (intro _;rfl)⟩
 ·exact⟨_,_,0,0,0,0,0,rfl,(fun w=>as_number_result _ w),(fun w=>as_number_opening _ w),(fun w=>as_number_target _ w),by first | (intro h;exfalso;omega) | (intro _;exact ⟨rfl,rfl⟩),by first | (intro h;exfalso;omega) | (intro _;rfl),by first | (intro h;exfalso;omega) | (intro _;rfl)⟩
 ·exact⟨_,_,0,0,0,0,0,rfl,(fun w=>as_number_result _ w),(fun w=>as_number_opening _ w),(fun w=>as_number_target _ w),by first | (intro h;exfalso;omega) | (intro _;exact ⟨rfl,rfl⟩),by first | (intro h;exfalso;omega) | (intro _;rfl),by first | (intro h;exfalso;omega) | (intro _;rfl)⟩
 ·exact⟨_,_,0,0,0,x,p.ins.length,rfl,(fun w=>as_target_result _ w),(fun w=>as_target_opening _ w),(fun w=>as_target_target _ w),by first | (intro h;exfalso;omega) | (intro _;exact ⟨rfl,rfl⟩),by first | (intro h;exfalso;omega) | (intro _;rfl),by first | (intro h;exfalso;omega) | (intro _;rfl)⟩
 ·exact⟨_,_,0,0,0,0,0,rfl,(fun w=>as_operand_result _ w),(fun w=>as_operand_opening _ w),(fun w=>as_operand_target _ w),by first | (intro h;exfalso;omega) | (intro _;exact ⟨rfl,rfl⟩),by first | (intro h;exfalso;omega) | (intro _;rfl),by first | (intro h;exfalso;omega) | (intro _;rfl)⟩
 ·exact⟨_,_,0,0,0,0,0,rfl,(fun w=>as_operand_result _ w),(fun w=>as_operand_opening _ w),(fun w=>as_operand_target _ w),by first | (intro h;exfalso;omega) | (intro _;exact ⟨rfl,rfl⟩),by first | (intro h;exfalso;omega) | (intro _;rfl),by first | (intro h;exfalso;omega) | (intro _;rfl)⟩
 ·exact⟨_,_,0,0,0,0,0,rfl,(fun w=>as_places_result _ w),(fun w=>as_places_opening _ w),(fun w=>as_places_target _ w),by first | (intro h;exfalso;omega) | (intro _;exact ⟨rfl,rfl⟩),by first | (intro h;exfalso;omega) | (intro _;rfl),by first | (intro h;exfalso;omega) | (intro _;rfl)⟩
 ·exact⟨_,_,0,0,0,0,0,rfl,(fun w=>as_places_result _ w),(fun w=>as_places_opening _ w),(fun w=>as_places_target _ w),by first | (intro h;exfalso;omega) | (intro _;exact ⟨rfl,rfl⟩),by first | (intro h;exfalso;omega) | (intro _;rfl),by first | (intro h;exfalso;omega) | (intro _;rfl)⟩
 ·exact⟨_,_,0,0,0,0,0,rfl,(fun w=>as_places_result _ w),(fun w=>as_places_opening _ w),(fun w=>as_places_target _ w),by first | (intro h;exfalso;omega) | (intro _;exact ⟨rfl,rfl⟩),by first | (intro h;exfalso;omega) | (intro _;rfl),by first | (intro h;exfalso;omega) | (intro _;rfl)⟩
 ·exact⟨_,_,0,0,0,0,0,rfl,(fun w=>as_places_result _ w),(fun w=>as_places_opening _ w),(fun w=>as_places_target _ w),by first | (intro h;exfalso;omega) | (intro _;exact ⟨rfl,rfl⟩),by first | (intro h;exfalso;omega) | (intro _;rfl),by first | (intro h;exfalso;omega) | (intro _;rfl)⟩
 ·exact⟨_,_,0,0,0,0,0,rfl,(fun w=>as_places_result _ w),(fun w=>as_places_opening _ w),(fun w=>as_places_target _ w),by first | (intro h;exfalso;omega) | (intro _;exact ⟨rfl,rfl⟩),by first | (intro h;exfalso;omega) | (intro _;rfl),by first | (intro h;exfalso;omega) | (intro _;rfl)⟩
 ·exact⟨_,_,x,0,0,0,0,rfl,(fun w=>as_result_result _ w),(fun w=>as_result_opening _ w),(fun w=>as_result_target _ w),by first | (intro h;exfalso;omega) | (intro _;exact ⟨rfl,rfl⟩),by first | (intro h;exfalso;omega) | (intro _;rfl),by first | (intro h;exfalso;omega) | (intro _;rfl)⟩
 ·exact⟨_,_,x,1,0,0,0,rfl,(fun w=>as_result_result _ w),(fun w=>as_result_opening _ w),(fun w=>as_result_target _ w),by first | (intro h;exfalso;omega) | (intro _;exact ⟨rfl,rfl⟩),by first | (intro h;exfalso;omega) | (intro _;rfl),by first | (intro h;exfalso;omega) | (intro _;rfl)⟩
 ·exact⟨_,_,x,2,0,0,0,rfl,(fun w=>as_result_result _ w),(fun w=>as_result_opening _ w),(fun w=>as_result_target _ w),by first | (intro h;exfalso;omega) | (intro _;exact ⟨rfl,rfl⟩),by first | (intro h;exfalso;omega) | (intro _;rfl),by first | (intro h;exfalso;omega) | (intro _;rfl)⟩
 ·exact⟨_,_,x,3,0,0,0,rfl,(fun w=>as_result_result _ w),(fun w=>as_result_opening _ w),(fun w=>as_result_target _ w),by first | (intro h;exfalso;omega) | (intro _;exact ⟨rfl,rfl⟩),by first | (intro h;exfalso;omega) | (intro _;rfl),by first | (intro h;exfalso;omega) | (intro _;rfl)⟩
 ·exact⟨_,_,0,0,x,0,0,rfl,(fun w=>as_opening_result _ w),(fun w=>as_opening_opening _ w),(fun w=>as_opening_target _ w),by first | (intro h;exfalso;omega) | (intro _;exact ⟨rfl,rfl⟩),by first | (intro h;exfalso;omega) | (intro _;rfl),by first | (intro h;exfalso;omega) | (intro _;rfl)⟩
end Go.Proofs.YtgjbfiddhpbldaaGreatDoor
