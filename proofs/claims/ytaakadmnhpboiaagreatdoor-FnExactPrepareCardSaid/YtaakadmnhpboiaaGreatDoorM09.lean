import Derived.Test.YtaakadmnhpboiaaGreatDoorM04
namespace Go.Proofs.YtaakadmnhpboiaaGreatDoor
open Go.RowKit Go.Deep
def I64s (x:Int):Prop:=-9223372036854775808≤x∧x≤9223372036854775807
set_option maxHeartbeats 400000 in
theorem unusedFits_any (x r:Int) (w:World) :
  Calls Tryz.prog 197 #[.int .i64 x,.int .i64 r] w fun e w'=>e=.returned (.bool (x == 0))∧Below w.heap.size w w':=by
 go_enter Tryz.func197,Tryz.ntmps197
 go_wp2_with fail
 go_ret
 exact⟨rfl,Below.refl _ _⟩
set_option maxHeartbeats 400000 in
theorem numberFits_any (x lo hi r:Int) (w:World) :
  Calls Tryz.prog 200 #[.agg #[.int .i64 x,.int .i64 lo,.int .i64 hi],.int .i64 r] w fun e w'=>e=.returned (.bool (inR x lo hi))∧Below w.heap.size w w':=by
 go_enter Tryz.func200,Tryz.ntmps200
 go_wp2_with (go_at_call 104;refine (within_any _ _ _ _).mono ?_;rintro e w' ⟨rfl,rfl⟩)
 go_ret
 exact⟨rfl,(Below.refl _ _).alloc (Nat.le_refl _) _⟩
set_option maxHeartbeats 400000 in
theorem targetFits_any (x r:Int) (c:Nat) (hc:c≤1048576) (w:World) :
  Calls Tryz.prog 199 #[.agg #[.int .i64 x,.int .i64 c],.int .i64 r] w fun e w'=>e=.returned (.bool (inR x 0 (c - 1)))∧Below w.heap.size w w':=by
 go_enter Tryz.func199,Tryz.ntmps199
 go_wp2_with (go_at_call 104;refine (within_any _ _ _ _).mono ?_;rintro e w' ⟨rfl,rfl⟩)
 go_ret
 exact⟨rfl,(Below.refl _ _).alloc (Nat.le_refl _) _⟩
set_option maxHeartbeats 400000 in
theorem placesFits_any (x k t r:Int) (h1:0≤r) (h2:r≤250) (h3:0≤k) (h4:k≤3) (w:World) :
  Calls Tryz.prog 198 #[.agg #[.int .i64 x,.int .i64 k,.int .i64 t],.int .i64 r] w fun e w'=>e=.returned (.bool (inR x 0 (r - k)))∧Below w.heap.size w w':=by
 go_enter Tryz.func198,Tryz.ntmps198
 go_wp2_with (go_at_call 104;refine (within_any _ _ _ _).mono ?_;rintro e w' ⟨rfl,rfl⟩)
 go_ret
 exact⟨rfl,(Below.refl _ _).alloc (Nat.le_refl _) _⟩
set_option maxHeartbeats 400000 in
theorem resultFits_any (x t r:Int) (h1:0≤r) (h2:r≤250) (w:World) :
  Calls Tryz.prog 194 #[.agg #[.int .i64 x,.int .i64 t],.int .i64 r] w fun e w'=>e=.returned (.bool (inR x 0 (r - 1)))∧Below w.heap.size w w':=by
 go_enter Tryz.func194,Tryz.ntmps194
 go_wp2_with (go_at_call 104;refine (within_any _ _ _ _).mono ?_;rintro e w' ⟨rfl,rfl⟩)
 go_ret
 exact⟨rfl,(Below.refl _ _).alloc (Nat.le_refl _) _⟩
set_option maxHeartbeats 400000 in
theorem openingFits_any (x r:Int) (h1:0≤r) (h2:r≤250) (w:World) :
  Calls Tryz.prog 195 #[.agg #[.int .i64 x],.int .i64 r] w fun e w'=>e=.returned (.bool (inR x 0 (r - 2)))∧Below w.heap.size w w':=by
 go_enter Tryz.func195,Tryz.ntmps195
 go_wp2_with (go_at_call 104;refine (within_any _ _ _ _).mono ?_;rintro e w' ⟨rfl,rfl⟩)
 go_ret
 exact⟨rfl,(Below.refl _ _).alloc (Nat.le_refl _) _⟩
set_option maxHeartbeats 400000 in
theorem taken_any (x t:Int) (w:World) :
  Calls Tryz.prog 155 #[.agg #[.int .i64 x,.int .i64 t]] w fun e w'=>e=.returned (.bool (decide (x<0)))∧Below w.heap.size w w':=by
 go_enter Tryz.func155,Tryz.ntmps155
 go_wp2_with fail
 go_ret
 exact⟨rfl,(Below.refl _ _).alloc (Nat.le_refl _) _⟩
def regOf (x:Int):Int:=if x<0 then -1 - x else x
set_option maxHeartbeats 400000 in
theorem register_any (x t:Int) (hx1 : -9223372036854775808≤x) (hx2:x≤9223372036854775807) (w:World) :
  Calls Tryz.prog 156 #[.agg #[.int .i64 x,.int .i64 t]] w fun e w'=>e=.returned (.int .i64 (regOf x))∧Below w.heap.size w w':=by
 have hb1:∀o,Below w.heap.size w (w.alloc o):=fun o=>(Below.refl _ _).alloc (Nat.le_refl _) o
 have X0:=Blk.new w #[.int .i64 x,.int .i64 t] 236
 go_enter Tryz.func156,Tryz.ntmps156
 go_wp2_with fail
 refine (taken_any x t _).mono ?_
 rintro e w1 ⟨rfl,hw1⟩
 have c1:=(X0.later hw1).cell
 by_cases h:x<0
 ·go_wp2_with fail
  go_ret
  exact⟨ret_int (by rw [regOf,if_pos h]),(hb1 _).trans (hw1.mono (by simp))⟩
 ·go_wp2_with fail
  go_ret
  exact⟨ret_int (by rw [regOf,if_neg (by omega)]),(hb1 _).trans (hw1.mono (by simp))⟩
set_option maxHeartbeats 400000 in
theorem operandFits_any (x t r:Int) (hx1 : -9223372036854775808≤x) (hx2:x≤9223372036854775807) (w:World) :
  Calls Tryz.prog 196 #[.agg #[.int .i64 x,.int .i64 t],.int .i64 r] w fun e w'=>e=.returned (.bool (inR x (-r) (r - 1)))∧Below w.heap.size w w':=by
 have hb1:∀o,Below w.heap.size w (w.alloc o):=fun o=>(Below.refl _ _).alloc (Nat.le_refl _) o
 go_enter Tryz.func196,Tryz.ntmps196
 go_wp2_with fail
 refine (register_any x t hx1 hx2 _).mono ?_
 rintro e w1 ⟨rfl,hw1⟩
 have HE:Hid (decide (regOf x<r)=inR x (-r) (r - 1)):=by show _=_;rw [Bool.eq_iff_iff];unfold regOf;split <;> simp [inR] <;> omega
 generalize regOf x=q at *
 go_wp2_with fail
 go_ret
 exact⟨ret_bool HE.out,(hb1 _).trans (hw1.mono (by simp))⟩
end Go.Proofs.YtaakadmnhpboiaaGreatDoor
