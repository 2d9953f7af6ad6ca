import Derived.Test.YtgopdffmnikhdaaGreatDoorT03
import Derived.Test.YtgopdffmnikhdaaGreatDoorT04
import Derived.Test.YtgopdffmnikhdaaGreatDoorT02
import Derived.Maps.AppendAt
import Derived.Deep.RegionLaw
import Derived.Test.YtgopdffmnikhdaaGreatDoorT01
import Derived.Deep.LoopGhost
import Derived.Laws.FloatArith
import Derived.Deep.RegionHeld3
namespace Go.Proofs.YtgopdffmnikhdaaGreatDoor
open Go.RowKit Go.Deep
attribute [local go_sem] run_store_float

/-- The value that is the int x. -/
abbrev vi (x : Int) : Array Value := #[.int .i64 2, .int .i64 x, .float .f64 0, .string ByteArray.empty, .int .i64 0]
attribute [local go_sem] vi
theorem bl2 {w w1 w2 : World} (h : Below w.heap.size w w1) (k : Below w1.heap.size w1 w2) : Below w.heap.size w w2 := h.trans (k.mono h.size)
theorem nb {W : World} {n : Nat} (arr : Array Value) (t : TypeId) (h : W.heap.size = n) : Blk (W.alloc (.cells arr t)) n arr t := h ▸ Blk.new W arr t
theorem intValue_any (x : Int) (w : World) : Calls Tryz.prog 130 #[.int .i64 x] w fun e w' => e = .returned (.agg (vi x)) ∧ Below w.heap.size w w' := by
  go_enter Tryz.func130, Tryz.ntmps130
  go_wp2_with fail
  exact bodyPost_ret (v := .agg (vi x)) (by simp [results, Tryz.results130, go_sem]; rfl) rfl ⟨rfl, (Below.refl _ _).alloc (Nat.le_refl _) _⟩
theorem isNumber_int (x : Int) (w : World) : Calls Tryz.prog 145 #[.agg (vi x)] w fun e w' => e = .returned (.bool true) ∧ Below w.heap.size w w' := by
  go_enter Tryz.func145, Tryz.ntmps145
  go_wp2_with fail
  go_ret
  exact ⟨rfl, (Below.refl _ _).alloc (Nat.le_refl _) _⟩
theorem bothInts_int (x y : Int) (w : World) : Calls Tryz.prog 153 #[.agg (vi x), .agg (vi y)] w fun e w' => e = .returned (.bool true) ∧ Below w.heap.size w w' := by
  go_enter Tryz.func153, Tryz.ntmps153
  go_wp2_with fail
  go_ret
  exact ⟨rfl, ((Below.refl _ _).alloc (Nat.le_refl _) _).alloc (by simp) _⟩
theorem roundAgain_one (x : Int) (w : World) : Calls Tryz.prog 154 #[.int .i64 x, .int .i64 1, .int .i64 (x + 1)] w fun e w' => e = .returned (.bool false) ∧ Below w.heap.size w w' := by
  have h : ¬ x + 1 < x := by omega
  go_enter Tryz.func154, Tryz.ntmps154
  go_wp2_with fail
  go_ret
  exact ⟨rfl, Below.refl _ _⟩
/-- The order of two ints. -/
def ord (x y : Int) : Int := if x < y then -1 else if y < x then 1 else 0
theorem isNaN64 (x : Int) (w : World) : Calls Tryz.prog 321 #[.int .i64 x] w fun e w' => e = .returned (.bool false) ∧ w' = w := by
  go_enter Tryz.func321, Tryz.ntmps321
  go_wp2_with fail
  go_ret
  simp
theorem compare64 (x y : Int) (w : World) : Calls Tryz.prog 264 #[.int .i64 x, .int .i64 y] w fun e w' => e = .returned (.int .i64 (ord x y)) ∧ w' = w := by
  go_enter Tryz.func264, Tryz.ntmps264
  go_wp2_with (first | (go_at_call 321; refine (isNaN64 _ _).mono ?_; rintro e w1 ⟨rfl, rfl⟩))
  all_goals go_ret
  all_goals exact ⟨ret_int (by unfold ord; split <;> (try split) <;> omega), rfl⟩
theorem compareNumbers_int (x y : Int) (w : World) : Calls Tryz.prog 212 #[.agg (vi x), .agg (vi y)] w fun e w' => e = .returned (.int .i64 (ord x y)) ∧ Below w.heap.size w w' := by
  have B2 : Below w.heap.size w ((w.alloc (.cells (vi x) 44)).alloc (.cells (vi y) 44)) := ((Below.refl _ _).alloc (Nat.le_refl _) _).alloc (by simp) _
  go_enter Tryz.func212, Tryz.ntmps212
  go_wp2_with fail
  refine (bothInts_int x y _).mono ?_
  rintro e w1 ⟨rfl, hw1⟩
  have X := (((Blk.new w (vi x) 44).alloc (.cells (vi y) 44)).later hw1).cell
  have Y := ((nb (vi y) 44 (W := w.alloc (.cells (vi x) 44)) (n := w.heap.size + 1) (by simp)).later hw1).cell
  go_wp2_with fail
  refine (compare64 x y _).mono ?_
  rintro e w2 ⟨rfl, rfl⟩
  go_wp2_with fail
  go_ret
  exact ⟨rfl, bl2 B2 hw1⟩
theorem compare_int (x y : Int) (w : World) : Calls Tryz.prog 150 #[.agg (vi x), .agg (vi y)] w fun e w' => e = .returned (.int .i64 (ord x y)) ∧ Below w.heap.size w w' := by
  have B2 : Below w.heap.size w ((w.alloc (.cells (vi x) 44)).alloc (.cells (vi y) 44)) := ((Below.refl _ _).alloc (Nat.le_refl _) _).alloc (by simp) _
  have HV : Hid (∀ (z : Int) W, Calls Tryz.prog 210 #[.agg (vi z)] W fun e w' => e = .returned (.bool true) ∧ Below W.heap.size W w') := fun z W => (valid_any ⟨2, z, 0, ByteArray.empty, 0⟩ W).mono (by rintro e w' ⟨rfl, h⟩; exact ⟨ret_bool (by kernel_rfl), h⟩)
  have X := (Blk.new w (vi x) 44).alloc (.cells (vi y) 44)
  have Y := nb (vi y) 44 (W := w.alloc (.cells (vi x) 44)) (n := w.heap.size + 1) (by simp)
  go_enter Tryz.func150, Tryz.ntmps150
  go_wp2_with fail
  refine (HV.out x _).mono ?_
  rintro e w1 ⟨rfl, hw1⟩
  have X1 := X.later hw1
  have Y1 := Y.later hw1
  have B1 := bl2 B2 hw1
  clear X Y B2 hw1
  have c1 := Y1.cell
  go_wp2_with fail
  refine (HV.out y _).mono ?_
  rintro e w2 ⟨rfl, hw2⟩
  have X2 := X1.later hw2
  have Y2 := Y1.later hw2
  have B2 := bl2 B1 hw2
  clear X1 Y1 B1 hw2 c1
  have c1 := X2.cell
  go_wp2_with fail
  refine (isNumber_int x _).mono ?_
  rintro e w3 ⟨rfl, hw3⟩
  have X3 := X2.later hw3
  have Y3 := Y2.later hw3
  have B3 := bl2 B2 hw3
  clear X2 Y2 B2 hw3 c1
  have c1 := Y3.cell
  go_wp2_with fail
  refine (isNumber_int y _).mono ?_
  rintro e w4 ⟨rfl, hw4⟩
  have X4 := X3.later hw4
  have Y4 := Y3.later hw4
  have B4 := bl2 B3 hw4
  clear X3 Y3 B3 hw4 c1
  have c1 := X4.cell
  have c2 := Y4.cell
  go_wp2_with fail
  refine (compareNumbers_int x y _).mono ?_
  rintro e w5 ⟨rfl, hw5⟩
  go_wp2_with fail
  go_ret
  exact ⟨rfl, bl2 B4 hw5⟩
theorem isZero_int (x : Int) (w : World) : Calls Tryz.prog 146 #[.agg (vi x)] w fun e w' => e = .returned (.bool (decide (x = 0))) ∧ Below w.heap.size w w' := by
  have X := Blk.new w (vi x) 44
  have xs : ∀ o, (w.alloc (.cells (vi x) 44)).drew.cell? ⟨w.heap.size, o, none⟩ = (vi x)[o]? := X.cell
  have B0 : Below w.heap.size w (w.alloc (.cells (vi x) 44)).drew := ((Below.refl _ _).alloc (Nat.le_refl _) _).drew
  go_enter Tryz.func146, Tryz.ntmps146
  go_wp2_with fail
  go_region_held3 (fun W => (∀ o, W.cell? ⟨w.heap.size, o, none⟩ = (vi x)[o]?)) (with_reducible exact xs) (first | (go_at_call 130; refine (intValue_any 0 _).mono ?_; rintro e w1 ⟨rfl, hw1⟩; have X1 := Blk.later (w := (w.alloc (.cells (vi x) 44)).drew) X hw1; have xs := X1.cell) | (go_at_call 150; refine (compare_int x 0 _).mono ?_; rintro e w2 ⟨rfl, hw2⟩; have xs := (X1.later hw2).cell))
  go_wp2_with fail
  go_ret
  exact ⟨ret_bool (by unfold ord; by_cases h : x = 0 <;> simp [h] <;> split <;> (try split) <;> simp <;> omega), bl2 (bl2 B0 hw1) hw2⟩
theorem belowZero_int (x : Int) (w : World) : Calls Tryz.prog 151 #[.agg (vi x)] w fun e w' => e = .returned (.bool (decide (x < 0))) ∧ Below w.heap.size w w' := by
  have X := Blk.new w (vi x) 44
  have xs : ∀ o, (w.alloc (.cells (vi x) 44)).drew.cell? ⟨w.heap.size, o, none⟩ = (vi x)[o]? := X.cell
  have B0 : Below w.heap.size w (w.alloc (.cells (vi x) 44)).drew := ((Below.refl _ _).alloc (Nat.le_refl _) _).drew
  go_enter Tryz.func151, Tryz.ntmps151
  go_wp2_with fail
  go_region_held3 (fun W => (∀ o, W.cell? ⟨w.heap.size, o, none⟩ = (vi x)[o]?)) (with_reducible exact xs) (first | (go_at_call 130; refine (intValue_any 0 _).mono ?_; rintro e w1 ⟨rfl, hw1⟩; have X1 := Blk.later (w := (w.alloc (.cells (vi x) 44)).drew) X hw1; have xs := X1.cell) | (go_at_call 150; refine (compare_int x 0 _).mono ?_; rintro e w2 ⟨rfl, hw2⟩; have xs := (X1.later hw2).cell))
  go_wp2_with fail
  go_ret
  exact ⟨ret_bool (by unfold ord; by_cases h : x < 0 <;> simp [h] <;> split <;> simp <;> omega), bl2 (bl2 B0 hw1) hw2⟩
/-- What an operation on two values gives. -/
abbrev vdz : Array Value := #[.int .i64 0, .int .i64 0, .int .i64 0, .float .f64 0, .string ByteArray.empty, .int .i64 0]
theorem intArith_add (x y : Int) (w : World) (h1 : -9000000000000000000 ≤ x + y) (h2 : x + y ≤ 9000000000000000000) (hy : y ≠ 0) : Calls Tryz.prog 268 #[.int .i64 1, .int .i64 x, .int .i64 y] w fun e w' => e = .returned (.agg #[.int .i64 0, .int .i64 2, .int .i64 (x + y), .float .f64 0, .string ByteArray.empty, .int .i64 0]) ∧ Below w.heap.size w w' := by
  have hw := wr h1 h2
  have X := Blk.new w vdz 207
  have B0 : Below w.heap.size w (w.alloc (.cells vdz 207)) := (Below.refl _ _).alloc (Nat.le_refl _) _
  go_enter Tryz.func268, Tryz.ntmps268
  go_wp2_with fail
  refine (intValue_any _ _).mono ?_
  rintro e w1 ⟨rfl, hw1⟩
  have X1 := X.later hw1
  have x1 := X1.cell
  have f1 := X1.frozen
  go_wp2_with fail
  have R := (((((X1.set 0 (.int .i64 0)).set 1 (.int .i64 2)).set 2 (.int .i64 (x + y))).set 3 (.float .f64 0)).set 4 (.string ByteArray.empty)).set 5 (.int .i64 0)
  have r := R.cell
  exact bodyPost_ret (v := .agg #[.int .i64 0, .int .i64 2, .int .i64 (x + y), .float .f64 0, .string ByteArray.empty, .int .i64 0]) (by simp [results, Tryz.results268, go_sem, r]) rfl ⟨rfl, (((((bl2 B0 hw1).setCell (Nat.le_refl _) _).setCell (Nat.le_refl _) _).setCell (Nat.le_refl _) _).setCell (Nat.le_refl _) _).setCell (Nat.le_refl _) _ |>.setCell (Nat.le_refl _) _⟩
set_option maxHeartbeats 1000000 in
theorem arithmetic_add (x y : Int) (w : World) (h1 : -9000000000000000000 ≤ x + y) (h2 : x + y ≤ 9000000000000000000) (hy : y ≠ 0) : Calls Tryz.prog 214 #[.int .i64 1, .agg (vi x), .agg (vi y)] w fun e w' => e = .returned (.agg #[.int .i64 0, .int .i64 2, .int .i64 (x + y), .float .f64 0, .string ByteArray.empty, .int .i64 0]) ∧ Below w.heap.size w w' := by
  have B0 : Below w.heap.size w (((w.alloc (.cells (vi x) 44)).alloc (.cells (vi y) 44)).alloc (.cells vdz 207)) := (((Below.refl _ _).alloc (Nat.le_refl _) _).alloc (by simp) _).alloc (by simp; omega) _
  have X := ((Blk.new w (vi x) 44).alloc (.cells (vi y) 44)).alloc (.cells vdz 207)
  have Y := (nb (vi y) 44 (W := w.alloc (.cells (vi x) 44)) (n := w.heap.size + 1) (by simp)).alloc (.cells vdz 207)
  have Z := nb vdz 207 (W := (w.alloc (.cells (vi x) 44)).alloc (.cells (vi y) 44)) (n := w.heap.size + 1 + 1) (by simp)
  go_enter Tryz.func214, Tryz.ntmps214
  go_wp2_with fail
  refine (bothInts_int x y _).mono ?_
  rintro e w1 ⟨rfl, hw1⟩
  have X1 := X.later hw1
  have Y1 := Y.later hw1
  have Z1 := Z.later hw1
  have B1 := bl2 B0 hw1
  clear X Y Z B0 hw1
  have c1 := X1.cell
  have c2 := Y1.cell
  go_wp2_with fail
  refine (intArith_add x y _ h1 h2 hy).mono ?_
  rintro e w2 ⟨rfl, hw2⟩
  have Z2 := Z1.later hw2
  have z := Z2.cell
  have f := Z2.frozen
  have B2 := bl2 B1 hw2
  clear X1 Y1 Z1 B1 hw2 c1 c2
  go_wp2_with fail
  have R := (((((Z2.set 0 (.int .i64 0)).set 1 (.int .i64 2)).set 2 (.int .i64 (x + y))).set 3 (.float .f64 0)).set 4 (.string ByteArray.empty)).set 5 (.int .i64 0)
  have r := R.cell
  exact bodyPost_ret (v := .agg #[.int .i64 0, .int .i64 2, .int .i64 (x + y), .float .f64 0, .string ByteArray.empty, .int .i64 0]) (by simp [results, Tryz.results214, go_sem, r]) rfl ⟨rfl, ((((B2.setCell (by simp; omega) _).setCell (by simp; omega) _).setCell (by simp; omega) _).setCell (by simp; omega) _).setCell (by simp; omega) _ |>.setCell (by simp; omega) _⟩
set_option maxHeartbeats 1000000 in
theorem binary_add (x y : Int) (w : World) (h1 : -9000000000000000000 ≤ x + y) (h2 : x + y ≤ 9000000000000000000) (hy : y ≠ 0) : Calls Tryz.prog 152 #[.int .i64 1, .agg (vi x), .agg (vi y)] w fun e w' => e = .returned (.agg #[.int .i64 0, .int .i64 2, .int .i64 (x + y), .float .f64 0, .string ByteArray.empty, .int .i64 0]) ∧ Below w.heap.size w w' := by
  have HV : Hid (∀ (z : Int) W, Calls Tryz.prog 210 #[.agg (vi z)] W fun e w' => e = .returned (.bool true) ∧ Below W.heap.size W w') := fun z W => (valid_any ⟨2, z, 0, ByteArray.empty, 0⟩ W).mono (by rintro e w' ⟨rfl, h⟩; exact ⟨ret_bool (by kernel_rfl), h⟩)
  have B0 : Below w.heap.size w (((w.alloc (.cells (vi x) 44)).alloc (.cells (vi y) 44)).alloc (.cells vdz 207)) := (((Below.refl _ _).alloc (Nat.le_refl _) _).alloc (by simp) _).alloc (by simp; omega) _
  have X := ((Blk.new w (vi x) 44).alloc (.cells (vi y) 44)).alloc (.cells vdz 207)
  have Y := (nb (vi y) 44 (W := w.alloc (.cells (vi x) 44)) (n := w.heap.size + 1) (by simp)).alloc (.cells vdz 207)
  have Z := nb vdz 207 (W := (w.alloc (.cells (vi x) 44)).alloc (.cells (vi y) 44)) (n := w.heap.size + 1 + 1) (by simp)
  go_enter Tryz.func152, Tryz.ntmps152
  go_wp2_with fail
  refine (HV.out x _).mono ?_
  rintro e w1 ⟨rfl, hw1⟩
  have X1 := X.later hw1
  have Y1 := Y.later hw1
  have Z1 := Z.later hw1
  have B1 := bl2 B0 hw1
  clear X Y Z B0 hw1
  have c2 := Y1.cell
  go_wp2_with fail
  refine (HV.out y _).mono ?_
  rintro e w2 ⟨rfl, hw2⟩
  have X2 := X1.later hw2
  have Y2 := Y1.later hw2
  have Z2 := Z1.later hw2
  have B2 := bl2 B1 hw2
  clear X1 Y1 Z1 B1 hw2 c2
  go_wp2_with fail
  refine (within_any 1 1 6 _).mono ?_
  rintro e w3 ⟨rfl, rfl⟩
  have c1 := X2.cell
  have hi : inR 1 1 6 = true := by decide
  go_wp2_with fail
  refine (isNumber_int x _).mono ?_
  rintro e w4 ⟨rfl, hw4⟩
  have X4 := X2.later hw4
  have Y4 := Y2.later hw4
  have Z4 := Z2.later hw4
  have B4 := bl2 B2 hw4
  clear X2 Y2 Z2 B2 hw4 c1
  have c1 := Y4.cell
  go_wp2_with fail
  refine (isNumber_int y _).mono ?_
  rintro e w5 ⟨rfl, hw5⟩
  have X5 := X4.later hw5
  have Y5 := Y4.later hw5
  have Z5 := Z4.later hw5
  have B5 := bl2 B4 hw5
  clear X4 Y4 Z4 B4 hw5 c1
  have c1 := X5.cell
  have c2 := Y5.cell
  go_wp2_with fail
  refine (arithmetic_add x y _ h1 h2 hy).mono ?_
  rintro e w6 ⟨rfl, hw6⟩
  have Z6 := Z5.later hw6
  have z := Z6.cell
  have f := Z6.frozen
  have B6 := bl2 B5 hw6
  clear X5 Y5 Z5 B5 hw6 c1 c2
  go_wp2_with fail
  have R := (((((Z6.set 0 (.int .i64 0)).set 1 (.int .i64 2)).set 2 (.int .i64 (x + y))).set 3 (.float .f64 0)).set 4 (.string ByteArray.empty)).set 5 (.int .i64 0)
  have r := R.cell
  exact bodyPost_ret (v := .agg #[.int .i64 0, .int .i64 2, .int .i64 (x + y), .float .f64 0, .string ByteArray.empty, .int .i64 0]) (by simp [results, Tryz.results152, go_sem, r]) rfl ⟨rfl, ((((B6.setCell (by simp; omega) _).setCell (by simp; omega) _).setCell (by simp; omega) _).setCell (by simp; omega) _).setCell (by simp; omega) _ |>.setCell (by simp; omega) _⟩
end Go.Proofs.YtgopdffmnikhdaaGreatDoor
namespace Go.Proofs.YtgopdffmnikhdaaGreatDoor
open Go.RowKit Go.Deep
attribute [local go_sem] run_store_float

/-- The cells of a register. -/
structure R8 where
  (k a b c d e p l : Value)
/-- The cells of six registers. -/
structure Rs where
  (r0 r1 r2 r3 r4 r5 : R8)
abbrev Rs.arr (r : Rs) : Array Value := #[r.r0.k, r.r0.a, r.r0.b, r.r0.c, r.r0.d, r.r0.e, r.r0.p, r.r0.l, r.r1.k, r.r1.a, r.r1.b, r.r1.c, r.r1.d, r.r1.e, r.r1.p, r.r1.l, r.r2.k, r.r2.a, r.r2.b, r.r2.c, r.r2.d, r.r2.e, r.r2.p, r.r2.l, r.r3.k, r.r3.a, r.r3.b, r.r3.c, r.r3.d, r.r3.e, r.r3.p, r.r3.l, r.r4.k, r.r4.a, r.r4.b, r.r4.c, r.r4.d, r.r4.e, r.r4.p, r.r4.l, r.r5.k, r.r5.a, r.r5.b, r.r5.c, r.r5.d, r.r5.e, r.r5.p, r.r5.l]
abbrev RAt (w : World) (b : Nat) (r : Rs) : Prop := Blk w b r.arr 169
abbrev R8.none : R8 := ⟨.int .i64 0, .int .i64 0, .int .i64 0, .float .f64 0, .string ByteArray.empty, .int .i64 0, .pointer .none, .slice .none 0 0⟩
abbrev R8.val (a b : Int) (c : Nat) (d : ByteArray) (e : Int) : R8 := ⟨.int .i64 1, .int .i64 a, .int .i64 b, .float .f64 c, .string d, .int .i64 e, .pointer .none, .slice .none 0 0⟩
abbrev R8.lst : R8 := ⟨.int .i64 3, .int .i64 0, .int .i64 0, .float .f64 0, .string ByteArray.empty, .int .i64 0, .pointer .none, .slice .none 0 0⟩

theorem putValue0 (bc br : Nat) (cc : Cc) (r : Rs) (a b : Int) (c : Nat) (d : ByteArray) (e : Int) (w : World) (C : CAt w bc { cc with regs := .slice (some ⟨br, 0, none⟩) 6 6 }) (X : RAt w br r) :
    Calls Tryz.prog 119 #[.pointer (some ⟨bc, 0, none⟩), .int .i64 0, .agg #[.int .i64 a, .int .i64 b, .float .f64 c, .string d, .int .i64 e]] w fun e' w' => e' = .returned (.tuple #[]) ∧ Chg [br] w w' ∧ RAt w' br { r with r0 := .val a b c d e } := by
  have x := fun o => (X.alloc o).cell
  have f := fun o => (X.alloc o).frozen
  have cx := fun o => (C.alloc o).cell
  go_enter Tryz.func119, Tryz.ntmps119
  go_wp2_with fail
  go_region
  go_wp2_with fail
  go_end0
  refine ⟨rfl, (((((((((((Chg.refl [br] w).below ((Below.refl _ _).alloc (Nat.le_refl _) _)).set (by simp) _ _).set (by simp) _ _).set (by simp) _ _).set (by simp) _ _).set (by simp) _ _).set (by simp) _ _).set (by simp) _ _).set (by simp) _ _).below (Below.refl _ _).drew), ?_⟩
  have h := ((((((((((X.alloc (.cells #[.int .i64 a, .int .i64 b, .float .f64 c, .string d, .int .i64 e] 44)).set 0 (.int .i64 1)).set 1 (.int .i64 a)).set 2 (.int .i64 b)).set 3 (.float .f64 c)).set 4 (.string d)).set 5 (.int .i64 e)).set 6 (.pointer .none)).set 7 (.slice .none 0 0)).later (Below.refl _ _).drew)
  simp only [List.setIfInBounds_toArray, List.set_cons_zero, List.set_cons_succ] at h
  exact h
theorem putValue1 (bc br : Nat) (cc : Cc) (r : Rs) (a b : Int) (c : Nat) (d : ByteArray) (e : Int) (w : World) (C : CAt w bc { cc with regs := .slice (some ⟨br, 0, none⟩) 6 6 }) (X : RAt w br r) :
    Calls Tryz.prog 119 #[.pointer (some ⟨bc, 0, none⟩), .int .i64 1, .agg #[.int .i64 a, .int .i64 b, .float .f64 c, .string d, .int .i64 e]] w fun e' w' => e' = .returned (.tuple #[]) ∧ Chg [br] w w' ∧ RAt w' br { r with r1 := .val a b c d e } := by
  have x := fun o => (X.alloc o).cell
  have f := fun o => (X.alloc o).frozen
  have cx := fun o => (C.alloc o).cell
  go_enter Tryz.func119, Tryz.ntmps119
  go_wp2_with fail
  go_region
  go_wp2_with fail
  go_end0
  refine ⟨rfl, (((((((((((Chg.refl [br] w).below ((Below.refl _ _).alloc (Nat.le_refl _) _)).set (by simp) _ _).set (by simp) _ _).set (by simp) _ _).set (by simp) _ _).set (by simp) _ _).set (by simp) _ _).set (by simp) _ _).set (by simp) _ _).below (Below.refl _ _).drew), ?_⟩
  have h := ((((((((((X.alloc (.cells #[.int .i64 a, .int .i64 b, .float .f64 c, .string d, .int .i64 e] 44)).set 8 (.int .i64 1)).set 9 (.int .i64 a)).set 10 (.int .i64 b)).set 11 (.float .f64 c)).set 12 (.string d)).set 13 (.int .i64 e)).set 14 (.pointer .none)).set 15 (.slice .none 0 0)).later (Below.refl _ _).drew)
  simp only [List.setIfInBounds_toArray, List.set_cons_zero, List.set_cons_succ] at h
  exact h
theorem putValue2 (bc br : Nat) (cc : Cc) (r : Rs) (a b : Int) (c : Nat) (d : ByteArray) (e : Int) (w : World) (C : CAt w bc { cc with regs := .slice (some ⟨br, 0, none⟩) 6 6 }) (X : RAt w br r) :
    Calls Tryz.prog 119 #[.pointer (some ⟨bc, 0, none⟩), .int .i64 2, .agg #[.int .i64 a, .int .i64 b, .float .f64 c, .string d, .int .i64 e]] w fun e' w' => e' = .returned (.tuple #[]) ∧ Chg [br] w w' ∧ RAt w' br { r with r2 := .val a b c d e } := by
  have x := fun o => (X.alloc o).cell
  have f := fun o => (X.alloc o).frozen
  have cx := fun o => (C.alloc o).cell
  go_enter Tryz.func119, Tryz.ntmps119
  go_wp2_with fail
  go_region
  go_wp2_with fail
  go_end0
  refine ⟨rfl, (((((((((((Chg.refl [br] w).below ((Below.refl _ _).alloc (Nat.le_refl _) _)).set (by simp) _ _).set (by simp) _ _).set (by simp) _ _).set (by simp) _ _).set (by simp) _ _).set (by simp) _ _).set (by simp) _ _).set (by simp) _ _).below (Below.refl _ _).drew), ?_⟩
  have h := ((((((((((X.alloc (.cells #[.int .i64 a, .int .i64 b, .float .f64 c, .string d, .int .i64 e] 44)).set 16 (.int .i64 1)).set 17 (.int .i64 a)).set 18 (.int .i64 b)).set 19 (.float .f64 c)).set 20 (.string d)).set 21 (.int .i64 e)).set 22 (.pointer .none)).set 23 (.slice .none 0 0)).later (Below.refl _ _).drew)
  simp only [List.setIfInBounds_toArray, List.set_cons_zero, List.set_cons_succ] at h
  exact h
theorem putValue3 (bc br : Nat) (cc : Cc) (r : Rs) (a b : Int) (c : Nat) (d : ByteArray) (e : Int) (w : World) (C : CAt w bc { cc with regs := .slice (some ⟨br, 0, none⟩) 6 6 }) (X : RAt w br r) :
    Calls Tryz.prog 119 #[.pointer (some ⟨bc, 0, none⟩), .int .i64 3, .agg #[.int .i64 a, .int .i64 b, .float .f64 c, .string d, .int .i64 e]] w fun e' w' => e' = .returned (.tuple #[]) ∧ Chg [br] w w' ∧ RAt w' br { r with r3 := .val a b c d e } := by
  have x := fun o => (X.alloc o).cell
  have f := fun o => (X.alloc o).frozen
  have cx := fun o => (C.alloc o).cell
  go_enter Tryz.func119, Tryz.ntmps119
  go_wp2_with fail
  go_region
  go_wp2_with fail
  go_end0
  refine ⟨rfl, (((((((((((Chg.refl [br] w).below ((Below.refl _ _).alloc (Nat.le_refl _) _)).set (by simp) _ _).set (by simp) _ _).set (by simp) _ _).set (by simp) _ _).set (by simp) _ _).set (by simp) _ _).set (by simp) _ _).set (by simp) _ _).below (Below.refl _ _).drew), ?_⟩
  have h := ((((((((((X.alloc (.cells #[.int .i64 a, .int .i64 b, .float .f64 c, .string d, .int .i64 e] 44)).set 24 (.int .i64 1)).set 25 (.int .i64 a)).set 26 (.int .i64 b)).set 27 (.float .f64 c)).set 28 (.string d)).set 29 (.int .i64 e)).set 30 (.pointer .none)).set 31 (.slice .none 0 0)).later (Below.refl _ _).drew)
  simp only [List.setIfInBounds_toArray, List.set_cons_zero, List.set_cons_succ] at h
  exact h
theorem drop3 (bc br : Nat) (cc : Cc) (r : Rs) (w : World) (C : CAt w bc { cc with regs := .slice (some ⟨br, 0, none⟩) 6 6 }) (X : RAt w br r) :
    Calls Tryz.prog 157 #[.pointer (some ⟨bc, 0, none⟩), .int .i64 3] w fun e' w' => e' = .returned (.tuple #[]) ∧ Chg [br] w w' ∧ RAt w' br { r with r3 := .none } := by
  have x := X.cell
  have f := X.frozen
  have cx := C.cell
  go_enter Tryz.func157, Tryz.ntmps157
  go_wp2_with fail
  go_end0
  refine ⟨rfl, (((((((((Chg.refl [br] w).set (by simp) _ _).set (by simp) _ _).set (by simp) _ _).set (by simp) _ _).set (by simp) _ _).set (by simp) _ _).set (by simp) _ _).set (by simp) _ _), ?_⟩
  have h := ((((((((X.set 24 (.int .i64 0)).set 25 (.int .i64 0)).set 26 (.int .i64 0)).set 27 (.float .f64 0)).set 28 (.string ByteArray.empty)).set 29 (.int .i64 0)).set 30 (.pointer .none)).set 31 (.slice .none 0 0))
  simp only [List.setIfInBounds_toArray, List.set_cons_zero, List.set_cons_succ] at h
  exact h
theorem putList3 (bc br : Nat) (cc : Cc) (r : Rs) (w : World) (C : CAt w bc { cc with regs := .slice (some ⟨br, 0, none⟩) 6 6 }) (X : RAt w br r) :
    Calls Tryz.prog 138 #[.pointer (some ⟨bc, 0, none⟩), .int .i64 3, .slice none 0 0] w fun e' w' => e' = .returned (.tuple #[]) ∧ Chg [br] w w' ∧ RAt w' br { r with r3 := .lst } := by
  have x := X.cell
  have f := X.frozen
  have cx := C.cell
  go_enter Tryz.func138, Tryz.ntmps138
  go_wp2_with fail
  go_end0
  refine ⟨rfl, (((((((((Chg.refl [br] w).set (by simp) _ _).set (by simp) _ _).set (by simp) _ _).set (by simp) _ _).set (by simp) _ _).set (by simp) _ _).set (by simp) _ _).set (by simp) _ _), ?_⟩
  have h := ((((((((X.set 24 (.int .i64 3)).set 25 (.int .i64 0)).set 26 (.int .i64 0)).set 27 (.float .f64 0)).set 28 (.string ByteArray.empty)).set 29 (.int .i64 0)).set 30 (.pointer .none)).set 31 (.slice .none 0 0))
  simp only [List.setIfInBounds_toArray, List.set_cons_zero, List.set_cons_succ] at h
  exact h
theorem goOn_any (bc : Nat) (cc : Cc) (a t : Int) (b : Bool) (w : World) (h0 : 0 ≤ a) (h1 : a ≤ 6000) (C : CAt w bc { cc with at_ := .int .i64 a }) :
    Calls Tryz.prog 136 #[.pointer (some ⟨bc, 0, none⟩), .int .i64 t, .bool b] w fun e' w' => e' = .returned (.tuple #[]) ∧ Chg [bc] w w' ∧ CAt w' bc { cc with at_ := .int .i64 (if b then t else a + 1) } := by
  have cx := C.cell
  have f := C.frozen
  cases b
  · go_enter Tryz.func136, Tryz.ntmps136
    go_wp2_with fail
    go_end0
    exact ⟨rfl, (Chg.refl _ _).set (by simp) _ _, C.set 3 _⟩
  · go_enter Tryz.func136, Tryz.ntmps136
    go_wp2_with fail
    go_end0
    exact ⟨rfl, (Chg.refl _ _).set (by simp) _ _, C.set 3 _⟩
/-- What a loom is made of: its machine, its code, its quick instructions, its input; these cells stay. -/
structure LAt (w : World) (bl bm : Nat) (po qo : Option Addr) (pc qc : Nat) (ti ce : Int) : Prop where
  m : w.cell? ⟨bl, 0, none⟩ = some (.pointer (some ⟨bm, 0, none⟩))
  p : w.cell? ⟨bl, 1, none⟩ = some (.slice po 1 pc)
  q : w.cell? ⟨bl, 2, none⟩ = some (.slice qo 1 qc)
  ti : w.cell? ⟨bl, 5, none⟩ = some (.int .i64 ti)
  ce : w.cell? ⟨bl, 7, none⟩ = some (.int .i64 ce)
theorem cb {w w' : World} {b o : Nat} {v : Value} (h : w.cell? ⟨b, o, none⟩ = some v) (hb : Below w.heap.size w w') : w'.cell? ⟨b, o, none⟩ = some v := (hb.cell (p := ⟨b, o, none⟩) (World.block_lt_of_cell? _ _ h)).trans h
theorem ca {w : World} {b o : Nat} {v : Value} (h : w.cell? ⟨b, o, none⟩ = some v) (x : Obj) : (w.alloc x).cell? ⟨b, o, none⟩ = some v := cb h ((Below.refl _ _).alloc (Nat.le_refl _) _)
theorem constant0 (bl bc cp co : Nat) (pc kn kc : Nat) (cc : Cc) (x : Int) (w : World) (L1 : w.cell? ⟨bl, 1, none⟩ = some (.slice (some ⟨cp, 0, none⟩) 1 pc)) (C : CAt w bc { cc with proto := .int .i64 0 })
    (hp : w.cell? ⟨cp, 6, none⟩ = some (.slice (some ⟨co, 0, none⟩) kn kc)) (hk : 0 < kn) (h0 : w.cell? ⟨co, 0, none⟩ = some (.int .i64 2)) (h1 : w.cell? ⟨co, 1, none⟩ = some (.int .i64 x)) (h2 : w.cell? ⟨co, 2, none⟩ = some (.float .f64 0)) (h3 : w.cell? ⟨co, 3, none⟩ = some (.string ByteArray.empty)) (h4 : w.cell? ⟨co, 4, none⟩ = some (.int .i64 0)) :
    Calls Tryz.prog 120 #[.pointer (some ⟨bl, 0, none⟩), .pointer (some ⟨bc, 0, none⟩), .int .i64 0] w fun e' w' => e' = .returned (.agg (vi x)) ∧ Below w.heap.size w w' := by
  have hk' : (0 : Int) < kn := by omega
  have Z := Blk.new w #[.int .i64 0, .int .i64 0, .float .f64 0, .string ByteArray.empty, .int .i64 0] 44
  have cx := fun o => (C.alloc o).cell
  have l1 := ca L1
  have p1 := ca hp
  have g0 := ca h0
  have g1 := ca h1
  have g2 := ca h2
  have g3 := ca h3
  have g4 := ca h4
  have z := Z.cell
  have zf := Z.frozen
  clear L1 hp h0 h1 h2 h3 h4
  go_enter Tryz.func120, Tryz.ntmps120
  go_wp2_with fail
  go_region
  go_wp2_with fail
  have r := (Blk.new w (vi x) 44).cell
  exact bodyPost_ret (v := .agg (vi x)) (by simp [results, Tryz.results120, go_sem, r]) rfl ⟨rfl, ((Below.refl _ _).alloc (Nat.le_refl _) _).drew⟩
theorem constant1 (bl bc cp co : Nat) (pc kn kc : Nat) (cc : Cc) (x : Int) (w : World) (L1 : w.cell? ⟨bl, 1, none⟩ = some (.slice (some ⟨cp, 0, none⟩) 1 pc)) (C : CAt w bc { cc with proto := .int .i64 0 })
    (hp : w.cell? ⟨cp, 6, none⟩ = some (.slice (some ⟨co, 0, none⟩) kn kc)) (hk : 1 < kn) (h0 : w.cell? ⟨co, 5, none⟩ = some (.int .i64 2)) (h1 : w.cell? ⟨co, 6, none⟩ = some (.int .i64 x)) (h2 : w.cell? ⟨co, 7, none⟩ = some (.float .f64 0)) (h3 : w.cell? ⟨co, 8, none⟩ = some (.string ByteArray.empty)) (h4 : w.cell? ⟨co, 9, none⟩ = some (.int .i64 0)) :
    Calls Tryz.prog 120 #[.pointer (some ⟨bl, 0, none⟩), .pointer (some ⟨bc, 0, none⟩), .int .i64 1] w fun e' w' => e' = .returned (.agg (vi x)) ∧ Below w.heap.size w w' := by
  have hk' : (1 : Int) < kn := by omega
  have Z := Blk.new w #[.int .i64 0, .int .i64 0, .float .f64 0, .string ByteArray.empty, .int .i64 0] 44
  have cx := fun o => (C.alloc o).cell
  have l1 := ca L1
  have p1 := ca hp
  have g0 := ca h0
  have g1 := ca h1
  have g2 := ca h2
  have g3 := ca h3
  have g4 := ca h4
  have z := Z.cell
  have zf := Z.frozen
  clear L1 hp h0 h1 h2 h3 h4
  go_enter Tryz.func120, Tryz.ntmps120
  go_wp2_with fail
  go_region
  go_wp2_with fail
  have r := (Blk.new w (vi x) 44).cell
  exact bodyPost_ret (v := .agg (vi x)) (by simp [results, Tryz.results120, go_sem, r]) rfl ⟨rfl, ((Below.refl _ _).alloc (Nat.le_refl _) _).drew⟩
end Go.Proofs.YtgopdffmnikhdaaGreatDoor
namespace Go.Proofs.YtgopdffmnikhdaaGreatDoor
open Go.RowKit Go.Deep
attribute [local go_sem] run_store_float vi

theorem Blk.chg {L : List Nat} {w w' : World} {b : Nat} {A : Array Value} {t : TypeId} (h : Blk w b A t) (hc : Chg L w w') (hb : b ∉ L) : Blk w' b A t := (hc.block b hb h.lt).trans h
theorem notin {L : List Nat} {n : Nat} (h : ∀ b ∈ L, b < n) {k : Nat} (hk : n ≤ k) : k ∉ L := fun hm => by have := h k hm; omega
/-- The cells of a quick instruction. -/
abbrev qa (o a b c d e f : Int) : Array Value := #[.int .i64 o, .int .i64 a, .int .i64 b, .int .i64 c, .int .i64 d, .int .i64 e, .int .i64 f]
theorem doConst_gen (bl bc : Nat) (o a k c d e f x : Int) (L : List Nat) (Q : World → Prop) (w : World) (hL : ∀ b ∈ L, b < w.heap.size)
    (HC : Hid (∀ W, Below w.heap.size w W → Calls Tryz.prog 120 #[.pointer (some ⟨bl, 0, none⟩), .pointer (some ⟨bc, 0, none⟩), .int .i64 k] W fun e w' => e = .returned (.agg (vi x)) ∧ Below W.heap.size W w'))
    (HP : Hid (∀ W, Below w.heap.size w W → Calls Tryz.prog 119 #[.pointer (some ⟨bc, 0, none⟩), .int .i64 a, .agg (vi x)] W fun e w' => e = .returned (.tuple #[]) ∧ Chg L W w' ∧ Q w')) :
    Calls Tryz.prog 37 #[.pointer (some ⟨bl, 0, none⟩), .pointer (some ⟨bc, 0, none⟩), .agg (qa o a k c d e f)] w fun e w' => e = .returned .nilIface ∧ Chg L w w' ∧ Q w' := by
  have X := Blk.new w (qa o a k c d e f) 149
  have xs : ∀ i, (w.alloc (.cells (qa o a k c d e f) 149)).drew.cell? ⟨w.heap.size, i, none⟩ = (qa o a k c d e f)[i]? := X.cell
  have B0 : Below w.heap.size w (w.alloc (.cells (qa o a k c d e f) 149)).drew := ((Below.refl _ _).alloc (Nat.le_refl _) _).drew
  go_enter Tryz.func37, Tryz.ntmps37
  go_wp2_with fail
  go_region_held3 (fun W => (∀ i, W.cell? ⟨w.heap.size, i, none⟩ = (qa o a k c d e f)[i]?)) (with_reducible exact xs) (first | (go_at_call 120; refine (HC.out _ B0).mono ?_; rintro e w1 ⟨rfl, hw1⟩; have X1 := Blk.later (w := (w.alloc (.cells (qa o a k c d e f) 149)).drew) X hw1; have xs := X1.cell) | (go_at_call 119; refine (HP.out _ (bl2 B0 hw1)).mono ?_; rintro e w2 ⟨rfl, hC, hQ⟩; have xs := (X1.chg hC (notin hL (Nat.le_refl _))).cell))
  go_wp2_with fail
  go_ret
  exact ⟨rfl, ((Chg.refl L w).below (bl2 B0 hw1)).trans hC (fun _ h => h), hQ⟩
theorem doTick_any (bl bm bc : Nat) (o a b c d e f : Int) (m : Mc) (k n : Int) (w : World) (h0 : w.cell? ⟨bl, 0, none⟩ = some (.pointer (some ⟨bm, 0, none⟩))) (h5 : w.cell? ⟨bl, 5, none⟩ = some (.int .i64 n)) (hk : 0 ≤ k) (hn : k < n) (hm : n ≤ 5000) (X : MAt w bm { m with rk := .int .i64 k }) :
    Calls Tryz.prog 36 #[.pointer (some ⟨bl, 0, none⟩), .pointer (some ⟨bc, 0, none⟩), .agg (qa o a b c d e f)] w fun e w' => e = .returned .nilIface ∧ Chg [bm] w w' ∧ MAt w' bm { m with rk := .int .i64 (k + 1) } := by
  have B0 : ∀ o, Below w.heap.size w (w.alloc o) := fun _ => (Below.refl _ _).alloc (Nat.le_refl _) _
  go_enter Tryz.func36, Tryz.ntmps36
  go_wp2_with fail
  refine (tick_any bl bm m k n _ (ca h0 _) (ca h5 _) hk hn hm (X.alloc _)).mono ?_
  rintro e w1 ⟨rfl, hC, hX⟩
  go_wp2_with fail
  go_ret
  exact ⟨rfl, ((Chg.refl _ _).below (B0 _)).trans hC (fun _ h => h), hX⟩
theorem doDrop3 (bl bc br : Nat) (o b c d e f : Int) (cc : Cc) (r : Rs) (w : World) (C : CAt w bc { cc with regs := .slice (some ⟨br, 0, none⟩) 6 6 }) (X : RAt w br r) :
    Calls Tryz.prog 74 #[.pointer (some ⟨bl, 0, none⟩), .pointer (some ⟨bc, 0, none⟩), .agg (qa o 3 b c d e f)] w fun e w' => e = .returned .nilIface ∧ Chg [br] w w' ∧ RAt w' br { r with r3 := .none } := by
  have B0 : ∀ o, Below w.heap.size w (w.alloc o) := fun _ => (Below.refl _ _).alloc (Nat.le_refl _) _
  go_enter Tryz.func74, Tryz.ntmps74
  go_wp2_with fail
  refine (drop3 bc br cc r _ (C.alloc _) (X.alloc _)).mono ?_
  rintro e w1 ⟨rfl, hC, hX⟩
  go_wp2_with fail
  go_ret
  exact ⟨rfl, ((Chg.refl _ _).below (B0 _)).trans hC (fun _ h => h), hX⟩
theorem doList3 (bl bc br : Nat) (o b c d e f : Int) (cc : Cc) (r : Rs) (w : World) (C : CAt w bc { cc with regs := .slice (some ⟨br, 0, none⟩) 6 6 }) (X : RAt w br r) :
    Calls Tryz.prog 54 #[.pointer (some ⟨bl, 0, none⟩), .pointer (some ⟨bc, 0, none⟩), .agg (qa o 3 b c d e f)] w fun e w' => e = .returned .nilIface ∧ Chg [br] w w' ∧ RAt w' br { r with r3 := .lst } := by
  have B0 : ∀ o, Below w.heap.size w (w.alloc o) := fun _ => (Below.refl _ _).alloc (Nat.le_refl _) _
  go_enter Tryz.func54, Tryz.ntmps54
  go_wp2_with fail
  refine (putList3 bc br cc r _ (C.alloc _) (X.alloc _)).mono ?_
  rintro e w1 ⟨rfl, hC, hX⟩
  go_wp2_with fail
  go_ret
  exact ⟨rfl, ((Chg.refl _ _).below (B0 _)).trans hC (fun _ h => h), hX⟩
/-- A register that holds the int x. -/
abbrev R8.int (x : Int) : R8 := .val 2 x 0 ByteArray.empty 0
set_option maxHeartbeats 1000000 in
theorem doForTest_any (bl bc br : Nat) (o t c d e f i n : Int) (a0 : Int) (cc : Cc) (r3 r4 r5 : R8) (w : World) (h0 : 0 ≤ a0) (h1 : a0 ≤ 6000) (C : CAt w bc { cc with regs := .slice (some ⟨br, 0, none⟩) 6 6, at_ := .int .i64 a0 }) (X : RAt w br ⟨.int i, .int n, .int 1, r3, r4, r5⟩) :
    Calls Tryz.prog 70 #[.pointer (some ⟨bl, 0, none⟩), .pointer (some ⟨bc, 0, none⟩), .agg (qa o 0 t c d e f)] w fun e w' => e = .returned .nilIface ∧ Chg [bc] w w' ∧ CAt w' bc { cc with regs := .slice (some ⟨br, 0, none⟩) 6 6, at_ := .int .i64 (if n < i then t else a0 + 1) } := by
  have B0 : Below w.heap.size w (w.alloc (.cells (qa o 0 t c d e f) 149)).drew := ((Below.refl _ _).alloc (Nat.le_refl _) _).drew
  have Y := Blk.later (w := w) (w' := (w.alloc (.cells (qa o 0 t c d e f) 149)).drew) X B0
  have D := Blk.later (w := w) (w' := (w.alloc (.cells (qa o 0 t c d e f) 149)).drew) C B0
  have Z : Blk (w.alloc (.cells (qa o 0 t c d e f) 149)).drew w.heap.size (qa o 0 t c d e f) 149 := Blk.new w _ _
  have xs := Y.cell
  have ds := D.cell
  have zs := Z.cell
  have e1 : IntKind.i64.wrap 1 = 1 := by decide
  have e2 : IntKind.i64.wrap 2 = 2 := by decide
  have o2 : (ord i n == 2) = false := by unfold ord; split <;> (try split) <;> rfl
  have o3 : (ord i n == 3) = false := by unfold ord; split <;> (try split) <;> rfl
  obtain ⟨T0, hT0⟩ : ∃ z, (if n < i then t else a0 + 1) = z := ⟨_, rfl⟩
  rw [hT0]
  have HT : Hid ((if n < i then t else a0 + 1) = T0) := hT0
  clear hT0
  go_enter Tryz.func70, Tryz.ntmps70
  go_wp2_with fail
  go_region_held3 (fun W => (∀ k, W.cell? ⟨br, k, none⟩ = (Rs.arr ⟨.int i, .int n, .int 1, r3, r4, r5⟩)[k]?) ∧ (∀ k, W.cell? ⟨bc, k, none⟩ = (Cc.arr { cc with regs := .slice (some ⟨br, 0, none⟩) 6 6, at_ := .int .i64 a0 })[k]?) ∧ (∀ k, W.cell? ⟨w.heap.size, k, none⟩ = (qa o 0 t c d e f)[k]?)) (with_reducible exact ⟨xs, ds, zs⟩) (first | (go_at_call 150; refine (compare_int i n _).mono ?_; rintro e w1 ⟨rfl, hw1⟩; have xs := (Y.later hw1).cell; have ds := (D.later hw1).cell; have zs := (Z.later hw1).cell))
  have Y1 : Blk w1.drew br _ 169 := Y.later hw1.drew
  have D1 : Blk w1.drew bc _ 125 := D.later hw1.drew
  have Z1 : Blk w1.drew w.heap.size _ 149 := Z.later hw1.drew
  have B1 : Below w.heap.size w w1.drew := (bl2 B0 hw1).drew
  have xs := Y1.cell
  have ds := D1.cell
  have zs := Z1.cell
  clear X C Y D Z
  go_wp2_with fail
  go_region_held3 (fun W => (∀ k, W.cell? ⟨br, k, none⟩ = (Rs.arr ⟨.int i, .int n, .int 1, r3, r4, r5⟩)[k]?) ∧ (∀ k, W.cell? ⟨bc, k, none⟩ = (Cc.arr { cc with regs := .slice (some ⟨br, 0, none⟩) 6 6, at_ := .int .i64 a0 })[k]?) ∧ (∀ k, W.cell? ⟨w.heap.size, k, none⟩ = (qa o 0 t c d e f)[k]?)) (with_reducible exact ⟨xs, ds, zs⟩) (first | (go_at_call 151; refine (belowZero_int 1 _).mono ?_; rintro e w2 ⟨rfl, hw2⟩; have xs := (Y1.later hw2).cell; have ds := (D1.later hw2).cell; have zs := (Z1.later hw2).cell))
  have B2 : Below w.heap.size w w2 := bl2 B1 hw2
  have D2 := D1.later hw2
  clear xs ds Y1
  go_wp2_with fail
  refine (goOn_any bc { cc with regs := .slice (some ⟨br, 0, none⟩) 6 6 } a0 t (ord i n == 1) _ h0 h1 D2).mono ?_
  rintro e w3 ⟨rfl, hC, hD⟩
  have hif : (if (ord i n == 1) = true then t else a0 + 1) = T0 := by rw [← HT.out]; unfold ord; by_cases h : n < i <;> by_cases h' : i < n <;> simp [h, h'] <;> omega
  rw [hif] at hD
  go_wp2_with fail
  go_ret
  exact ⟨rfl, ((Chg.refl _ _).below B2).trans hC (fun _ h => h), hD⟩
end Go.Proofs.YtgopdffmnikhdaaGreatDoor
namespace Go.Proofs.YtgopdffmnikhdaaGreatDoor
open Go.RowKit Go.Deep
attribute [local go_sem] run_store_float vi

theorem regOf_taken (x q : Int) (w : World) (hx : x = -1 - q) (hq : 0 ≤ q) (hq1 : q ≤ 1000) : Calls Tryz.prog 200 #[.agg #[.int .i64 x, .int .i64 0]] w fun e w' => e = .returned (.int .i64 q) ∧ Below w.heap.size w w' := by
  subst hx
  have X := Blk.new w #[.int .i64 (-1 - q), .int .i64 0] 273
  have B0 : Below w.heap.size w (w.alloc (.cells #[.int .i64 (-1 - q), .int .i64 0] 273)) := (Below.refl _ _).alloc (Nat.le_refl _) _
  have hlt : -1 - q < 0 := by omega
  have e1 : IntKind.i64.wrap (-1 - (-1 - q)) = q := by rw [show -1 - (-1 - q) = q by omega]; exact wr (by omega) (by omega)
  go_enter Tryz.func200, Tryz.ntmps200
  go_wp2_with fail
  refine (taken_any _ _ _).mono ?_
  rintro e w1 ⟨rfl, hw1⟩
  have x1 := (X.later hw1).cell
  go_wp2_with fail
  go_ret
  exact ⟨rfl, bl2 B0 hw1⟩
theorem list3_any (bc br : Nat) (cc : Cc) (r : Rs) (w : World) (C : CAt w bc { cc with regs := .slice (some ⟨br, 0, none⟩) 6 6 }) (X : RAt w br { r with r3 := .lst }) :
    Calls Tryz.prog 129 #[.pointer (some ⟨bc, 0, none⟩), .int .i64 (-4)] w fun e' w' => e' = .returned (.slice none 0 0) ∧ Chg [br] w w' ∧ RAt w' br { r with r3 := .none } := by
  have B0 : Below w.heap.size w (w.alloc (.cells #[.int .i64 (-4), .int .i64 0] 273)).drew := ((Below.refl _ _).alloc (Nat.le_refl _) _).drew
  have Z : Blk (w.alloc (.cells #[.int .i64 (-4), .int .i64 0] 273)).drew w.heap.size #[.int .i64 (-4), .int .i64 0] 273 := Blk.new w _ _
  have D := C.later B0
  have Y := X.later B0
  have zs := Z.cell
  have ds := D.cell
  have xs := Y.cell
  have hbr := X.lt
  go_enter Tryz.func129, Tryz.ntmps129
  go_wp2_with fail
  go_region_held3 (fun W => (∀ k, W.cell? ⟨br, k, none⟩ = (Rs.arr { r with r3 := .lst })[k]?) ∧ (∀ k, W.cell? ⟨bc, k, none⟩ = (Cc.arr { cc with regs := .slice (some ⟨br, 0, none⟩) 6 6 })[k]?) ∧ (∀ k, W.cell? ⟨w.heap.size, k, none⟩ = (#[.int .i64 (-4), .int .i64 0] : Array Value)[k]?)) (with_reducible exact ⟨xs, ds, zs⟩) (first | (go_at_call 200; refine (regOf_taken (-4) 3 _ (by decide) (by decide) (by decide)).mono ?_; rintro e w1 ⟨rfl, hw1⟩; have xs := (Y.later hw1).cell; have ds := (D.later hw1).cell; have zs := (Z.later hw1).cell))
  have B1 := bl2 B0 hw1
  have Z1 := Z.later hw1
  have D1 := D.later hw1
  have Y1 := Y.later hw1
  clear xs ds zs B0 D Y Z hw1
  have zs := Z1.cell
  go_wp2_with fail
  refine (taken_any _ _ _).mono ?_
  rintro e w2 ⟨rfl, hw2⟩
  have B2 := bl2 B1 hw2
  have Z2 := Z1.later hw2
  have D2 := D1.later hw2
  have Y2 := Y1.later hw2
  clear zs B1 D1 Y1 Z1 hw2
  have zs := Z2.cell
  go_wp2_with fail
  refine (regOf_taken (-4) 3 _ (by decide) (by decide) (by decide)).mono ?_
  rintro e w3 ⟨rfl, hw3⟩
  have B3 := bl2 B2 hw3
  have D3 := D2.later hw3
  have Y3 := Y2.later hw3
  clear zs B2 D2 Y2 Z2 hw3
  go_wp2_with fail
  refine (drop3 bc br cc _ _ D3 Y3).mono ?_
  rintro e w4 ⟨rfl, hC4, hY4⟩
  go_wp2_with fail
  go_ret
  exact ⟨rfl, ((Chg.refl _ _).below B3).trans hC4 (fun _ h => h), hY4⟩
set_option maxHeartbeats 1000000 in
theorem beginLeaving_any (bc : Nat) (cc : Cc) (k ln : Int) (vo : Option Addr) (vl vc : Nat) (tr : ByteArray) (w : World) (C : CAt w bc { cc with line := .int .i64 ln }) :
    Calls Tryz.prog 143 #[.pointer (some ⟨bc, 0, none⟩), .bool false, .agg #[.int .i64 k, .slice vo vl vc, .string tr]] w fun e' w' => e' = .returned (.tuple #[]) ∧ Chg [bc] w w' ∧ CAt w' bc { cc with line := .int .i64 ln, leaving := .bool true, one := .bool false, wk := .int .i64 k, wv := .slice vo vl vc, wt := .string tr, saved := .int .i64 ln } := by
  have cx := fun o => (C.alloc o).cell
  have f := fun o => (C.alloc o).frozen
  go_enter Tryz.func143, Tryz.ntmps143
  go_wp2_with fail
  go_region
  go_wp2_with fail
  go_end0
  refine ⟨rfl, ((((((((Chg.refl [bc] w).below ((Below.refl _ _).alloc (Nat.le_refl _) _)).set (by simp) _ _).set (by simp) _ _).set (by simp) _ _).set (by simp) _ _).set (by simp) _ _).set (by simp) _ _).below (Below.refl _ _).drew, ?_⟩
  have h := ((((((C.alloc (.cells #[.int .i64 k, .slice vo vl vc, .string tr] 79)).set 8 (.bool true)).set 9 (.bool false)).set 10 (.int .i64 k)).set 11 (.slice vo vl vc)).set 12 (.string tr)).set 5 (.int .i64 ln) |>.later (Below.refl _ _).drew
  simp only [List.setIfInBounds_toArray, List.set_cons_zero, List.set_cons_succ] at h
  exact h
theorem doReturn_any (bl bc br : Nat) (o b c d e f ln : Int) (cc : Cc) (r : Rs) (w : World) (hne : bc ≠ br) (C : CAt w bc { cc with regs := .slice (some ⟨br, 0, none⟩) 6 6, line := .int .i64 ln }) (X : RAt w br { r with r3 := .lst }) :
    Calls Tryz.prog 61 #[.pointer (some ⟨bl, 0, none⟩), .pointer (some ⟨bc, 0, none⟩), .agg (qa o (-4) b c d e f)] w fun e w' => e = .returned .nilIface ∧ Chg [bc, br] w w' ∧ CAt w' bc { cc with regs := .slice (some ⟨br, 0, none⟩) 6 6, line := .int .i64 ln, leaving := .bool true, one := .bool false, wk := .int .i64 1, wv := .slice none 0 0, wt := .string ByteArray.empty, saved := .int .i64 ln } ∧ RAt w' br { r with r3 := .none } := by
  have B0 : ∀ o, Below w.heap.size w (w.alloc o) := fun _ => (Below.refl _ _).alloc (Nat.le_refl _) _
  go_enter Tryz.func61, Tryz.ntmps61
  go_wp2_with fail
  refine (list3_any bc br { cc with line := .int .i64 ln } r _ (C.alloc _) (X.alloc _)).mono ?_
  rintro e w1 ⟨rfl, hC1, hX1⟩
  have D1 := (C.alloc _).chg hC1 (by simpa using hne)
  go_wp2_with fail
  refine (beginLeaving_any bc { cc with regs := .slice (some ⟨br, 0, none⟩) 6 6 } 1 ln none 0 0 ByteArray.empty _ D1).mono ?_
  rintro e w2 ⟨rfl, hC2, hD2⟩
  go_wp2_with fail
  go_ret
  exact ⟨rfl, (((Chg.refl _ _).below (B0 _)).trans hC1 (by simp)).trans hC2 (by simp), hD2, hX1.chg hC2 (by simpa using Ne.symm hne)⟩
end Go.Proofs.YtgopdffmnikhdaaGreatDoor
namespace Go.Proofs.YtgopdffmnikhdaaGreatDoor
open Go.RowKit Go.Deep
structure Elt (t e:TypeId) (z:Value) (size bytes:Nat):Prop where
 ht:Tryz.prog.underlying t=some (.slice e)
 hi:(Tryz.prog.info? e).map (fun i=>(i.zero,i.size,i.bytes))=some (some z,size,bytes)
 hz:z.cells.size=size
 h0:0<size
theorem eltV:Elt 50 44 (.agg #[.int .i64 0,.int .i64 0,.float .f64 0,.string ByteArray.empty,.int .i64 0]) 5 48:=⟨Tryz.underlying50,by kernel_rfl,rfl,by decide⟩
theorem CRow.news {w:World} {B:Nat} {news:List Value} (h:CRow w B 0 news):∀j u,news[j]?=some u→w.cell? ((⟨B,0,none⟩:Addr).add j)=some u:=fun j u hj=>by
 have:=h j u hj
 rw [Addr.add_lit]
 exact this
variable {t e : TypeId} {z : Value} {size bytes : Nat} {w : World} {ops : Array Oper} {o : Oper} {a : Act} {Q : Exit → Act → World → Prop}
theorem stp_app (I:Elt t e z size bytes) {K:Act→World→Prop} {E:Prop} (hgd:o.guard=none) (s x:Operand) (ho:o.op=.call {callee:=.builtin .append,args:=#[s,x],argTypes:=#[t,t]})
  (base:Nat) (v:Value) (n:Nat) (xs news:List Value) (B:Nat) (hs:a.eval s=v) (hown:w.ownsRow base e size v n xs) (hx:a.eval x=.slice (some ⟨B,0,none⟩) 1 1) (hB:CRow w B 0 news) (hl:news.length=size) (h1:∀u ∈ news,u.oneCell'=true)
  (hn:n≤1048576) (hby:bytes≤1024) (hbase:base≤w.heap.size)
  (h:∀v' w',w'.ownsRow base e size v' (n+1) (xs ++ news)→w.grownBy w' v.ownBlock→(v'.ownBlock=v.ownBlock∨v'.ownBlock=some w.heap.size)→K (a.put o.dst v') w') :
  if Region.wanted o (yielded ops a.tmps)=true then Oper.wp Tryz.prog o a w K Q else E:=by
 have hw:Region.wanted o (yielded ops a.tmps)=true:=by simp [Region.wanted,hgd]
 rw [if_pos hw]
 obtain⟨i0,hi,hz0,hz1,hz2⟩:=info_parts I.hi
 have hby2:(n+1) * bytes≤1048577*1024:=Nat.mul_le_mul (by omega) hby
 obtain⟨v',w',hr,h2,h3,h4,h5⟩:=run_append_own_at (P:=Tryz.prog) w base t o.type e i0 z size bytes I.ht hi hz0 hz1 hz2 I.hz I.h0 v n xs hown ⟨B,0,none⟩ 1 1 news (by omega) hB.news h1 (by unfold maxLen;omega) (by omega) hbase
 unfold Oper.wp execOp
 simp only [ho,resolve,invoke,builtin,Sem.run_bind,Sem.run_pure,Result.andThen_ok,List.map_toArray,List.map_cons,List.map_nil,hs,hx,hr]
 exact h v' w' h2 h3 h5
theorem app_one (I:Elt t e z size bytes) {rest:List Oper} (hgd:o.guard=none) (s x:Operand) (ho:o.op=.call {callee:=.builtin .append,args:=#[s,x],argTypes:=#[t,t]})
  (base:Nat) (v:Value) (n:Nat) (xs news:List Value) (B:Nat) (hs:a.eval s=v) (hown:w.ownsRow base e size v n xs) (hx:a.eval x=.slice (some ⟨B,0,none⟩) 1 1) (hB:CRow w B 0 news) (hl:news.length=size) (h1:∀u ∈ news,u.oneCell'=true)
  (hn:n≤1048576) (hby:bytes≤1024) (hbase:base≤w.heap.size)
  (h:∀v' w',w'.ownsRow base e size v' (n+1) (xs ++ news)→w.grownBy w' v.ownBlock→(v'.ownBlock=v.ownBlock∨v'.ownBlock=some w.heap.size)→wpList Tryz.prog ops Q rest (a.put o.dst v') w'):wpList Tryz.prog ops Q (o::rest) a w:=by
 obtain⟨i0,hi,hz0,hz1,hz2⟩:=info_parts I.hi
 have hby2:(n+1) * bytes≤1048577*1024:=Nat.mul_le_mul (by omega) hby
 exact wpList_append_own_at w hgd s x t ho base e i0 z size bytes I.ht hi hz0 hz1 hz2 I.hz I.h0 v n xs hs hown ⟨B,0,none⟩ 1 1 news hx (by omega) hB.news h1 (by unfold maxLen;omega) (by omega) hbase fun v' w' h2 h3 _ h5=>h v' w' h2 h3 h5
structure Gd where
 tr:Bool
 keep:Int
 hd:Int
 deriving DecidableEq
def Gd.vals (g:Gd):List Value:=[.bool g.tr,.int .i64 g.keep,.int .i64 g.hd]
def Gd.val (g:Gd):Value:=.agg #[.bool g.tr,.int .i64 g.keep,.int .i64 g.hd]
def IntAt (w:World) (b o:Nat) (x:Int):Prop:=w.cell? ⟨b,o,none⟩=some (.int .i64 x)
def GdAt (w:World) (b o:Nat) (g:Gd):Prop:=w.cell? ⟨b,o,none⟩=some (.bool g.tr)∧w.cell? ⟨b,o+1,none⟩=some (.int .i64 g.keep)∧w.cell? ⟨b,o+2,none⟩=some (.int .i64 g.hd)
def IntsAt (lo:Nat) (w:World) (ao:Option Addr) (xs:List Int):Prop:=AllAt lo w ao 1 (IntAt w) xs
def GdsAt (lo:Nat) (w:World) (ao:Option Addr) (xs:List Gd):Prop:=AllAt lo w ao 3 (GdAt w) xs
theorem IntsAt.later {lo:Nat} {w w':World} {ao:Option Addr} {xs:List Int} (h:IntsAt lo w ao xs) (hk:Keeps lo w w'):IntsAt lo w' ao xs:=
 AllAt.later h hk fun _ _ _ hl hb _ hx=>(hk.cell hl hb).trans hx
theorem GdsAt.later {lo:Nat} {w w':World} {ao:Option Addr} {xs:List Gd} (h:GdsAt lo w ao xs) (hk:Keeps lo w w'):GdsAt lo w' ao xs:=
 AllAt.later h hk fun _ _ _ hl hb _ hx=>⟨(hk.cell hl hb).trans hx.1,(hk.cell hl hb).trans hx.2.1,(hk.cell hl hb).trans hx.2.2⟩
def ints (xs:List Int):List Value:=xs.map (Value.int .i64)
def gds (xs:List Gd):List Value:=xs.flatMap Gd.vals
theorem gds_length (xs:List Gd):(gds xs).length=xs.length*3:=by
 induction xs with
 | nil=>rfl
 | cons x r ih=>simp only [gds,List.flatMap_cons,List.length_append,List.length_cons] at *;rw [ih];simp [Gd.vals];omega
theorem gds_get:∀{xs:List Gd} {i:Nat} {g:Gd},xs[i]?=some g→∀j v,g.vals[j]?=some v→(gds xs)[i*3+j]?=some v
 | [],i,g,h,_,_,_=>by simp at h
 | x::r,0,g,h,j,v,hv=>by
  simp at h;subst h
  have hj:j<3:=(List.getElem?_eq_some_iff.1 hv).1
  simp only [gds,List.flatMap_cons]
  rw [List.getElem?_append_left (by simp [Gd.vals];omega)]
  simpa using hv
 | x::r,i+1,g,h,j,v,hv=>by
  simp at h
  simp only [gds,List.flatMap_cons]
  rw [List.getElem?_append_right (by simp [Gd.vals];omega)]
  have:=gds_get h j v hv
  have e:(i+1)*3+j - x.vals.length=i*3+j:=by simp [Gd.vals];omega
  rw [e]
  exact this
theorem gds_append (xs ys:List Gd):gds (xs ++ ys)=gds xs ++ gds ys:=by simp [gds]
theorem ints_append (xs ys:List Int):ints (xs ++ ys)=ints xs ++ ints ys:=by simp [ints]
theorem owns_form {w:World} {base e size n:Nat} {v:Value} {xs:List Value} (h:w.ownsRow base e size v n xs) :
  (v=.slice none 0 0∧n=0)∨∃g cap,v=.slice (some ⟨g,0,none⟩) n cap∧base≤g∧g<w.heap.size:=by
 obtain⟨_,h | ⟨g,cap,cur,rfl,hg,hb,_⟩⟩:=h
 ·exact .inl h
 ·exact .inr ⟨g,cap,rfl,hg,(Array.getElem?_eq_some_iff.1 hb).1⟩
theorem owns_cell {w:World} {base e size n g cap:Nat} {xs:List Value} (h:w.ownsRow base e size (.slice (some ⟨g,0,none⟩) n cap) n xs) {j:Nat} {u:Value} (hj:xs[j]?=some u):w.cell? ⟨g,j,none⟩=some u:=by
 have h1:=h.1
 have h2:=(List.getElem?_eq_some_iff.1 hj).1
 exact (h.cellAt j (by omega)).trans hj
theorem owns_later {w w':World} {base e size n:Nat} {v:Value} {xs:List Value} (h:w.ownsRow base e size v n xs) (hk:Keeps base w w'):w'.ownsRow base e size v n xs:=by
 obtain⟨h1,h2 | ⟨g,cap,cur,e1,hg,hb,r⟩⟩:=h
 ·exact⟨h1,.inl h2⟩
 ·exact⟨h1,.inr ⟨g,cap,cur,e1,hg,(hk.block g hg (Array.getElem?_eq_some_iff.1 hb).1).trans hb,r⟩⟩
theorem owns_below {w w':World} {base e size n:Nat} {v:Value} {xs:List Value} (h:w.ownsRow base e size v n xs) (hk:Below w.heap.size w w'):w'.ownsRow base e size v n xs:=owns_later h (Keeps.of_below hk)
theorem owns_slice {w:World} {base e size n:Nat} {v:Value} {xs:List Value} (h:w.ownsRow base e size v n xs):∃ao cap,v=.slice ao n cap:=by
 rcases owns_form h with ⟨rfl,rfl⟩ | ⟨g,cap,rfl,_⟩
 ·exact⟨_,_,rfl⟩
 ·exact⟨_,_,rfl⟩
theorem owns_ints {w:World} {base n cap:Nat} {ao:Option Addr} {xs:List Int} (h:w.ownsRow base 3 1 (.slice ao n cap) n (ints xs)):IntsAt base w ao xs∧n=xs.length:=by
 have hl:n=xs.length:=by have:=h.1;simp [ints] at this;omega
 refine⟨?_,hl⟩
 intro i x hi
 rcases owns_form h with ⟨h1,h2⟩ | ⟨g,cap',h1,h2,h3⟩
 ·subst h2
  have:xs=[]:=List.length_eq_zero_iff.1 hl.symm
  subst this
  simp at hi
 ·simp only [Value.slice.injEq] at h1
  obtain⟨rfl,_,rfl⟩:=h1
  refine⟨g,0,rfl,h2,h3,?_⟩
  rw [Nat.zero_add,Nat.mul_one]
  exact owns_cell h (by simp [ints,hi])
theorem owns_gds {w:World} {base n cap:Nat} {ao:Option Addr} {xs:List Gd} (h:w.ownsRow base 373 3 (.slice ao n cap) n (gds xs)):GdsAt base w ao xs∧n=xs.length:=by
 have hl:n=xs.length:=by have:=h.1;rw [gds_length] at this;omega
 refine⟨?_,hl⟩
 intro i x hi
 rcases owns_form h with ⟨h1,h2⟩ | ⟨g,cap',h1,h2,h3⟩
 ·subst h2
  have:xs=[]:=List.length_eq_zero_iff.1 hl.symm
  subst this
  simp at hi
 ·simp only [Value.slice.injEq] at h1
  obtain⟨rfl,_,rfl⟩:=h1
  refine⟨g,0,rfl,h2,h3,?_⟩
  rw [Nat.zero_add]
  exact⟨owns_cell h (gds_get hi 0 _ rfl),owns_cell h (gds_get hi 1 _ rfl),owns_cell h (gds_get hi 2 _ rfl)⟩
theorem Tryz.info_int:(Tryz.prog.info? 3).map (fun i=>(i.zero,i.size,i.bytes))=some (some (.int .i64 0),1,8):=by kernel_rfl
theorem Tryz.info_Guard:(Tryz.prog.info? 373).map (fun i=>(i.zero,i.size,i.bytes))=some (some (.agg #[.bool false,.int .i64 0,.int .i64 0]),3,24):=by kernel_rfl
theorem owns_other {w w':World} {base e size n:Nat} {v:Value} {xs:List Value} (h:w.ownsRow base e size v n xs) (hb:∀k,v.ownBlock=some k→w'.heap[k]?=w.heap[k]?):w'.ownsRow base e size v n xs:=by
 obtain⟨h1,h2 | ⟨g,cap,cur,rfl,hg,hh,r⟩⟩:=h
 ·exact⟨h1,.inl h2⟩
 ·exact⟨h1,.inr ⟨g,cap,cur,rfl,hg,(hb g rfl).trans hh,r⟩⟩
theorem owns_grown {w w':World} {base e size n:Nat} {v:Value} {xs:List Value} {row:Option Nat} (h:w.ownsRow base e size v n xs) (hg:w.grownBy w' row) (hn:∀k,v.ownBlock=some k→some k≠row):w'.ownsRow base e size v n xs:=
 owns_other h fun k hk=>hg.block k (h.lt k hk).2 (hn k hk)
def mCs (k n:Nat):List (Int × Int):=(List.range n).map fun i=>(((k+i*2:Nat):Int),((k+i*2:Nat):Int)+1)
def caV (c:Int × Int):List Value:=[.int .i64 c.1,.int .i64 c.2]
theorem mCs_len (k n:Nat):(mCs k n).length=n:=by simp [mCs]
theorem mCs_at {k n j:Nat} (h:j<n):(mCs k n)[j]?=some (((k+j*2:Nat):Int),((k+j*2:Nat):Int)+1):=by simp [mCs,h]
theorem mCs_succ (k n:Nat):mCs k (n+1)=mCs k n ++ [(((k+n*2:Nat):Int),((k+n*2:Nat):Int)+1)]:=by simp [mCs,List.range_succ]
theorem cas_of {w:World} {g lo:Nat} {vs:List (Int × Int)} (h:CRow w g 0 (vs.flatMap caV)) (hl:lo≤g) (hg:vs≠[]→g<w.heap.size):CasAt lo w (some ⟨g,0,none⟩) vs:=fun i x hx=>by
 refine⟨g,0,rfl,hl,hg (by rintro rfl;simp at hx),?_⟩
 have q:∀c v,(caV x)[c]?=some v→w.cell? ⟨g,0+i*2+c,none⟩=some v:=fun c v hv=>by
  have:=h _ _ (flat_get (m:=2) (fun _=>rfl) hx hv)
  rwa [←Nat.add_assoc] at this
 exact⟨q 0 _ rfl,q 1 _ rfl⟩
end Go.Proofs.YtgopdffmnikhdaaGreatDoor
