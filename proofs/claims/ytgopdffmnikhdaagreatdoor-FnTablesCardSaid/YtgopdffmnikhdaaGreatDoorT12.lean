import Derived.Test.YtgopdffmnikhdaaGreatDoorT05
namespace Go.Proofs.YtgopdffmnikhdaaGreatDoor
open Go.RowKit Go.Deep
theorem hidW2 {α : Type} {K : α → World → Prop} {a : α} {w : World} {S : World → Prop} (hs : S w) (h : ∀ W, S W → K a W) : K a w := h w hs
attribute [local go_sem] run_store_float vi
set_option maxHeartbeats 2000000 in
theorem doForNext_any (bl bc br : Nat) (o t c d e f i n : Int) (a0 : Int) (cc : Cc) (r3 r4 r5 : R8) (w : World) (hne : bc ≠ br) (hi : 0 ≤ i) (hi1 : i ≤ 100000) (h0 : 0 ≤ a0) (h1 : a0 ≤ 6000) (C : CAt w bc { cc with regs := .slice (some ⟨br, 0, none⟩) 6 6, at_ := .int .i64 a0 }) (X : RAt w br ⟨.int i, .int n, .int 1, r3, r4, r5⟩) :
    Calls Tryz.prog 71 #[.pointer (some ⟨bl, 0, none⟩), .pointer (some ⟨bc, 0, none⟩), .agg (qa o 0 t c d e f)] w fun e w' => e = .returned .nilIface ∧ Chg [bc, br] w w' ∧ CAt w' bc { cc with regs := .slice (some ⟨br, 0, none⟩) 6 6, at_ := .int .i64 t } ∧ RAt w' br ⟨.int (i + 1), .int n, .int 1, r3, r4, r5⟩ := by
  have B0 : Below w.heap.size w (w.alloc (.cells (qa o 0 t c d e f) 149)) := (Below.refl _ _).alloc (Nat.le_refl _) _
  have Y := X.alloc (.cells (qa o 0 t c d e f) 149)
  have D := C.alloc (.cells (qa o 0 t c d e f) 149)
  have Z := Blk.new w (qa o 0 t c d e f) 149
  have xs := Y.cell
  have ds := D.cell
  have zs := Z.cell
  have e2 : IntKind.i64.wrap 2 = 2 := by decide
  have hbr := X.lt
  clear X C
  go_enter Tryz.func71, Tryz.ntmps71
  refine wp_seq_k ?_
  intro K hK
  have HK : Hid _ := hK
  clear hK
  go_wp2_with fail
  refine HK.out _ _ ?_
  clear HK K
  have xs1 := fun o => (Y.alloc o).cell
  have ds1 := fun o => (D.alloc o).cell
  have zs1 := fun o => (Z.alloc o).cell
  have xs2 := fun o p => ((Y.alloc o).alloc p).cell
  have ds2 := fun o p => ((D.alloc o).alloc p).cell
  have zs2 := fun o p => ((Z.alloc o).alloc p).cell
  refine wp_seq_k ?_
  intro K hK
  have HK : Hid _ := hK
  clear hK
  go_region
  all_goals show K _ _
  all_goals first
    | refine hidW2 (S := fun W => Below w.heap.size w W ∧ Blk W (w.heap.size + 1) (vi i) 44 ∧ Blk W (w.heap.size + 1 + 1) (vi 1) 44 ∧ Blk W w.heap.size (qa o 0 t c d e f) 149 ∧ CAt W bc { cc with regs := .slice (some ⟨br, 0, none⟩) 6 6, at_ := .int .i64 a0 } ∧ RAt W br ⟨.int i, .int n, .int 1, r3, r4, r5⟩) ⟨((B0.alloc (by simp) _).alloc (by simp; omega) _).drew, (nb (vi i) _ (by simp)).alloc _, nb (vi 1) _ (by simp), (Z.alloc _).alloc _, (D.alloc _).alloc _, (Y.alloc _).alloc _⟩ (fun W hS => HK.out _ _ ?_)
    | refine hidW2 (S := fun W => Below w.heap.size w W ∧ Blk W (w.heap.size + 1 + 1) (vi i) 44 ∧ Blk W (w.heap.size + 1) (vi 1) 44 ∧ Blk W w.heap.size (qa o 0 t c d e f) 149 ∧ CAt W bc { cc with regs := .slice (some ⟨br, 0, none⟩) 6 6, at_ := .int .i64 a0 } ∧ RAt W br ⟨.int i, .int n, .int 1, r3, r4, r5⟩) ⟨((B0.alloc (by simp) _).alloc (by simp; omega) _).drew, nb (vi i) _ (by simp), (nb (vi 1) _ (by simp)).alloc _, (Z.alloc _).alloc _, (D.alloc _).alloc _, (Y.alloc _).alloc _⟩ (fun W hS => HK.out _ _ ?_)
  all_goals clear HK K xs1 ds1 zs1 xs2 ds2 zs2 xs ds zs Y D Z
  all_goals obtain ⟨B1, P1, P2, Z, D, Y⟩ := hS
  all_goals have p1 := P1.cell
  all_goals have p2 := P2.cell
  all_goals go_wp2_with fail
  all_goals refine (binary_add i 1 _ (by omega) (by omega) (by decide)).mono ?_
  all_goals rintro e w1 ⟨rfl, hw1⟩
  all_goals have V : ∀ o, Below w1.heap.size w1 (w1.alloc o) := fun o => (Below.refl _ _).alloc (Nat.le_refl _) o
  all_goals have p1 := fun o => ((P1.later hw1).alloc o).cell
  all_goals have p2 := fun o => ((P2.later hw1).alloc o).cell
  all_goals go_wp2_with fail
  all_goals refine (bothInts_int i 1 _).mono ?_
  all_goals rintro e w2 ⟨rfl, hw2⟩
  all_goals have G := (Blk.new w1 #[.int .i64 0, .int .i64 2, .int .i64 (i + 1), .float .f64 0, .string ByteArray.empty, .int .i64 0] 207).later hw2
  all_goals have B2 := bl2 (bl2 (bl2 B1 hw1) (V _)) hw2
  all_goals have P12 := ((P1.later hw1).later (V _)).later hw2
  all_goals have P22 := ((P2.later hw1).later (V _)).later hw2
  all_goals have Z2 := ((Z.later hw1).later (V _)).later hw2
  all_goals have D2 := ((D.later hw1).later (V _)).later hw2
  all_goals have Y2 := ((Y.later hw1).later (V _)).later hw2
  all_goals clear p1 p2 P1 P2 Z D Y B1 hw1 hw2 V
  all_goals have p1 := P12.cell
  all_goals have p2 := P22.cell
  all_goals have g := G.cell
  all_goals go_wp2_with fail
  all_goals refine (roundAgain_one i _).mono ?_
  all_goals rintro e w3 ⟨rfl, hw3⟩
  all_goals have B3 := bl2 B2 hw3
  all_goals have G3 := G.later hw3
  all_goals have Z3 := Z2.later hw3
  all_goals have D3 := D2.later hw3
  all_goals have Y3 := Y2.later hw3
  all_goals clear p1 p2 g P12 P22 Z2 D2 Y2 B2 G hw3
  all_goals have g := G3.cell
  all_goals have z := Z3.cell
  all_goals go_wp2_with fail
  all_goals refine (putValue0 bc br { cc with at_ := .int .i64 a0 } _ 2 (i + 1) 0 ByteArray.empty 0 _ D3 Y3).mono ?_
  all_goals rintro e w4 ⟨rfl, hC4, hY4⟩
  all_goals have D4 := D3.chg hC4 (by simpa using hne)
  all_goals have Z4 := Z3.chg hC4 (by simp; omega)
  all_goals clear g z G3 Y3 D3
  all_goals have z := Z4.cell
  all_goals go_wp2_with fail
  all_goals refine (goOn_any bc { cc with regs := .slice (some ⟨br, 0, none⟩) 6 6 } a0 t true _ h0 h1 D4).mono ?_
  all_goals rintro e w5 ⟨rfl, hC5, hD5⟩
  all_goals go_wp2_with fail
  all_goals go_ret
  all_goals exact ⟨rfl, (((Chg.refl _ _).below B3).trans hC4 (by simp)).trans hC5 (by simp), hD5, hY4.chg hC5 (by simpa using Ne.symm hne)⟩
end Go.Proofs.YtgopdffmnikhdaaGreatDoor
