import Derived.Test.YtgopdffmnikhdaaGreatDoorT09
import Derived.RangeFuncCalls
import Derived.Shelf.SlSortCmp.NoneTotal
import Derived.Shelf.SlicesG.Cmp
import Derived.Shelf.Lay
import Derived.Ground.SlsfProg
import Derived.Ground.SlgcProg
namespace Go.Proofs.YtgopdffmnikhdaaGreatDoor
open Go.RowKit Go.Deep
attribute [local go_sem] run_store_float vi
set_option maxHeartbeats 4000000 in
set_option maxRecDepth 8000 in
theorem met1_any (J : Nat → World → Prop) (lo bx bm l : Nat) (p : Int) (X : List Nat) (w : World) (hlo : lo ≤ w.heap.size) (h3 : bx < lo) (hX : ∀ b ∈ X, b < lo ∧ b ≠ bx) (hJ : Hid (∀ i W W', J i W → Below lo W W' → J i W'))
    (HU : Hid (∀ W, J 0 W → Calls Tryz.prog 17 #[.pointer (some ⟨bm, 0, none⟩)] W fun e w' => ∃ u : Int, e = .returned (.int .i64 u) ∧ Below W.heap.size W w'))
    (HF : Hid (∀ W, J 0 W → Calls Tryz.prog 106 #[.pointer (some ⟨bm, 0, none⟩)] W fun e w' => ∃ so sc, e = .returned (.slice so 2 sc) ∧ w'.ownsRow W.heap.size 92 2 (.slice so 2 sc) 2 [.bool true, .int .i64 0, .bool false, .int .i64 p] ∧ Below W.heap.size W w'))
    (HN0 : Hid (∀ no nc W, J 2 W → Calls Tryz.prog 107 #[.pointer (some ⟨bm, 0, none⟩), .slice no 0 nc, kT] W fun e w' => e = .returned (.slice no 0 nc) ∧ Below W.heap.size W w'))
    (HN1 : Hid (∀ no nc W, J 2 W → Calls Tryz.prog 107 #[.pointer (some ⟨bm, 0, none⟩), .slice no 0 nc, kS p] W fun e w' => e = .returned (.slice no 0 nc) ∧ Below W.heap.size W w'))
    (HY0 : Hid (∀ W, J 0 W → YieldAt Fence.wide 0 Tryz.prog l #[kT] W fun e W' => e = .returned (.bool true) ∧ J 1 W' ∧ Chg X W W'))
    (HY1 : Hid (∀ W, J 1 W → YieldAt Fence.wide 0 Tryz.prog l #[kS p] W fun e W' => e = .returned (.bool true) ∧ J 2 W' ∧ Chg X W W'))
    (hc : w.cell? ⟨bx, 0, none⟩ = some (.pointer (some ⟨bm, 0, none⟩))) (h0 : J 0 w) :
    Calls Tryz.prog 105 #[.func (.yield l) #[] #[], .pointer (some ⟨bx, 0, none⟩)] w fun e w' => e = .returned (.tuple #[]) ∧ J 2 w' := by
  have HX : Hid (∀ b ∈ X, b < lo ∧ b ≠ bx) := hX
  have H0 : Hid (J 0 w) := h0
  have hmk := run_mkMap
  clear hX h0
  go_enter Tryz.func105, Tryz.ntmps105
  go_wp2_with (first
    | (go_at_call 17; refine (HU.out _ H0.out).mono ?_; rintro e w1 ⟨u, rfl, B1⟩; have k1 := fun o o' => cb hc (bl2 B1 (bl2 ((Below.refl _ _).alloc (Nat.le_refl _) o) ((Below.refl _ _).alloc (Nat.le_refl _) o'))); have H1 : Hid (J 0 w1) := hJ.out 0 w w1 H0.out (B1.mono hlo))
    | (go_at_call 106; refine (HF.out _ (hJ.out 0 w1 _ H1.out (((Below.refl _ _).alloc (Nat.le_refl _) _).mono (Nat.le_trans hlo B1.size) |>.trans (((Below.refl _ _).alloc (Nat.le_refl _) _).mono (by have := B1.size; simp; omega))))).mono ?_; rintro e w2 ⟨so, sc, rfl, R2, B2⟩))
  have hs1 := B1.size
  have hs2 := B2.size
  simp only [World.size_alloc] at hs2 R2
  rcases owns_form R2 with ⟨h, h'⟩ | ⟨G, c, h, hG⟩
  · omega
  injection h with h _ h'
  subst h
  subst h'
  have L0 := owns_cell R2 (j := 0) rfl
  have L1 := owns_cell R2 (j := 1) rfl
  have L2 := owns_cell R2 (j := 2) rfl
  have L3 := owns_cell R2 (j := 3) rfl
  obtain ⟨oG, hoG⟩ : ∃ o, o = w2.heap[G]? := ⟨_, rfl⟩
  have lc : ∀ {W : World}, W.heap[G]? = oG → ∀ k, W.cell? ⟨G, k, none⟩ = w2.cell? ⟨G, k, none⟩ := fun h k => World.cell?_of_block (h.trans hoG)
  have S0 : Hid (MS J bx bm w1.heap.size (w1.heap.size + 1) 0 0 0 (.map #[] 0) [] [G] G oG w2) := ⟨hJ.out 0 w w2 H0.out ((B1.mono hlo).trans (((((Below.refl _ w1).alloc (Nat.le_refl _) _)).mono (by omega)).trans ((((Below.refl _ _).alloc (Nat.le_refl _) _).mono (by simp; omega)).trans (B2.mono (by simp; omega))))), cb hc (bl2 B1 (bl2 (bl2 ((Below.refl _ _).alloc (Nat.le_refl _) _) ((Below.refl _ _).alloc (Nat.le_refl _) _)) B2)), (B2.block _ (by simp; omega)).trans ((Below.heap_alloc _ _ _ (by simp)).trans (World.alloc_heap_new w1 _)), ⟨.slice none 0 0, (B2.block _ (by simp)).trans (by simpa using World.alloc_heap_new (w1.alloc (.map #[] 0)) (.cells #[.slice none 0 0, .int .i64 0] 133)), World.ownsRow_nil _ _ _ _, by simp [Value.ownBlock]⟩, hoG.symm, hG.2⟩
  generalize hbm : w1.heap.size = bmap at *
  generalize hbq : bmap + 1 = bq at *
  clear k1 H1
  have h4 : bq < G := by omega
  refine wp_loop_rounds 3 ?_
  rw [rounds_succ]
  go_wp2_with fail
  refine wp_loop_rounds 3 ?_
  rw [rounds_succ]
  have cA : ∀ o, (w2.alloc o).heap[bmap]? = some (.map #[] 0) := fun o => (Below.heap_alloc _ _ _ (Array.getElem?_eq_some_iff.1 S0.out.m).1).trans S0.out.m
  have lk := fun o => run_look0 true 0 (cA o)
  refine wp_seq_k ?_
  intro K hK
  have HK : Hid _ := hK
  clear hK
  go_wp2_with fail
  refine HK.out _ _ ?_
  clear HK K
  refine wp_seq_k ?_
  intro K hK
  have HK : Hid _ := hK
  clear hK
  go_wp2_with fail
  refine HK.out _ _ ?_
  clear HK K
  have tk : Blk (w2.alloc (.cells #[.bool true, .int .i64 0] 92)) w2.heap.size #[.bool true, .int .i64 0] 92 := Blk.new w2 _ _
  have ck := tk.cell
  have fk := tk.frozen
  refine wp_seq_k ?_
  intro Kz hKz
  have HKz : Hid _ := hKz
  clear hKz
  refine wp_block ?_
  refine wp_seq_k ?_
  intro K hK
  have HK : Hid _ := hK
  clear hK
  go_wp2_with fail
  refine HK.out _ _ ?_
  clear HK K
  refine wp_seq_k ?_
  intro K hK
  have HK : Hid _ := hK
  clear hK
  go_wp2_with fail
  refine HK.out _ _ ?_
  clear HK K
  have hbt0 : w2.heap.size > G := S0.out.g
  refine hidW3 (S := fun W => MS J bx bm bmap bq 0 0 0 (.map #[] 0) [] [w2.heap.size, G] G oG W ∧ Blk W w2.heap.size #[.bool true, .int .i64 0] 92) ⟨S0.out.more.below hJ.out (by omega) (bl2 ((Below.refl _ _).alloc (Nat.le_refl _) _) ((Below.refl _ _).alloc (Nat.le_refl _) _)), tk.alloc _⟩ ?_
  intro W3 hW3
  have M3 : Hid (MS J bx bm bmap bq 0 0 0 (.map #[] 0) [] [w2.heap.size, G] G oG W3) := hW3.1
  have T3 := hW3.2
  clear hW3 tk ck fk lk cA
  have up := run_upd0 M3.out.m
  have c3 := T3.cell
  refine wp_seq_k ?_
  intro K hK
  have HK : Hid _ := hK
  clear hK
  go_wp2_with fail
  refine hidW3 (S := fun W => MS J bx bm bmap bq 0 0 0 map1 [] [w2.heap.size, G] G oG W ∧ Blk W w2.heap.size #[.bool true, .int .i64 0] 92) ⟨M3.out.put hJ.out (by omega) (by omega) h3 h4 _, (World.putObj_heap_other (by omega)).trans T3⟩ ?_
  intro W4 hW4
  have M4 : Hid (MS J bx bm bmap bq 0 0 0 map1 [] [w2.heap.size, G] G oG W4) := hW4.1
  have T4 := hW4.2
  clear hW4 up c3 T3 M3 W3
  refine HK.out _ _ ?_
  clear HK K
  have c4 := T4.cell
  refine wp_seq_k ?_
  intro K hK
  have HK : Hid _ := hK
  clear hK
  go_wp2_with (go_at_call 109; refine (qPush_any bq (bmap + 1) 0 _ 0 _ _ _ _ (by omega) (by have := M4.out.g; omega) (by omega) (by have := M4.out.g; have := T4.lt; simp; omega) M4.out.q).mono ?_; rintro e W5 ⟨rfl, Q5, B5, G5⟩)
  have M5 : Hid (MS J bx bm bmap bq 0 1 0 map1 [.bool true, .int .i64 0] [w2.heap.size, G] G oG W5) := M4.out.pushed hJ.out (by omega) h3 Q5 B5 (G5 G (by simp))
  have T5 : Blk W5 w2.heap.size #[.bool true, .int .i64 0] 92 := (G5 _ (by simp)).trans T4
  clear Q5 B5 G5 c4 T4 M4 W4
  refine HK.out _ _ ?_
  clear HK K
  have c5 := T5.cell
  obtain ⟨fy, ty, ay, by1, hy, hR⟩ := HY0.out W5 M5.out.j
  refine (wpIn_wide (n := 1)).1 ?_
  gi_wp2
  refine hR.mono ?_
  rintro e W6 ⟨rfl, J6, C6⟩
  have MW6 : Hid (MS J bx bm bmap bq 1 1 0 map1 [.bool true, .int .i64 0] [G] G oG W6) := (M5.out.yielded (by omega) (by omega) h3 h4 HX.out J6 C6).less (by simp)
  clear hR hy c5 T5 J6 C6
  gi_wp2
  refine HKz.out _ _ ?_
  clear HKz Kz M5 W5
  go_wp2_with fail
  have L4 := (lc MW6.out.l 2).trans L2
  have L5 := (lc MW6.out.l 3).trans L3
  rw [rounds_succ]
  have cA : ∀ o, (W6.alloc o).heap[bmap]? = some map1 := fun o => (Below.heap_alloc _ _ _ (Array.getElem?_eq_some_iff.1 MW6.out.m).1).trans MW6.out.m
  have lk := fun o => run_look1 p (cA o)
  refine wp_seq_k ?_
  intro K hK
  have HK : Hid _ := hK
  clear hK
  go_wp2_with fail
  refine HK.out _ _ ?_
  clear HK K
  refine wp_seq_k ?_
  intro K hK
  have HK : Hid _ := hK
  clear hK
  go_wp2_with fail
  refine HK.out _ _ ?_
  clear HK K
  have tk : Blk (W6.alloc (.cells #[.bool false, .int .i64 p] 92)) W6.heap.size #[.bool false, .int .i64 p] 92 := Blk.new W6 _ _
  have ck := tk.cell
  have fk := tk.frozen
  refine wp_seq_k ?_
  intro Kz hKz
  have HKz : Hid _ := hKz
  clear hKz
  refine wp_block ?_
  refine wp_seq_k ?_
  intro K hK
  have HK : Hid _ := hK
  clear hK
  go_wp2_with fail
  refine HK.out _ _ ?_
  clear HK K
  refine wp_seq_k ?_
  intro K hK
  have HK : Hid _ := hK
  clear hK
  go_wp2_with fail
  refine HK.out _ _ ?_
  clear HK K
  have hbt1 : W6.heap.size > G := MW6.out.g
  refine hidW3 (S := fun W => MS J bx bm bmap bq 1 1 0 map1 [.bool true, .int .i64 0] [W6.heap.size, G] G oG W ∧ Blk W W6.heap.size #[.bool false, .int .i64 p] 92) ⟨MW6.out.more.below hJ.out (by omega) (bl2 ((Below.refl _ _).alloc (Nat.le_refl _) _) ((Below.refl _ _).alloc (Nat.le_refl _) _)), tk.alloc _⟩ ?_
  intro W3 hW3
  have M3 : Hid (MS J bx bm bmap bq 1 1 0 map1 [.bool true, .int .i64 0] [W6.heap.size, G] G oG W3) := hW3.1
  have T3 := hW3.2
  clear hW3 tk ck fk lk cA
  have up := run_upd1 p M3.out.m
  have c3 := T3.cell
  refine wp_seq_k ?_
  intro K hK
  have HK : Hid _ := hK
  clear hK
  go_wp2_with fail
  refine hidW3 (S := fun W => MS J bx bm bmap bq 1 1 0 (map2 p) [.bool true, .int .i64 0] [W6.heap.size, G] G oG W ∧ Blk W W6.heap.size #[.bool false, .int .i64 p] 92) ⟨M3.out.put hJ.out (by omega) (by omega) h3 h4 _, (World.putObj_heap_other (by omega)).trans T3⟩ ?_
  intro W4 hW4
  have M4 : Hid (MS J bx bm bmap bq 1 1 0 (map2 p) [.bool true, .int .i64 0] [W6.heap.size, G] G oG W4) := hW4.1
  have T4 := hW4.2
  clear hW4 up c3 T3 M3 W3
  refine HK.out _ _ ?_
  clear HK K
  have c4 := T4.cell
  refine wp_seq_k ?_
  intro K hK
  have HK : Hid _ := hK
  clear hK
  go_wp2_with (go_at_call 109; refine (qPush_any bq (bmap + 1) 1 _ 0 _ _ _ _ (by omega) (by have := M4.out.g; omega) (by omega) (by have := M4.out.g; have := T4.lt; simp; omega) M4.out.q).mono ?_; rintro e W5 ⟨rfl, Q5, B5, G5⟩)
  have M5 : Hid (MS J bx bm bmap bq 1 2 0 (map2 p) [.bool true, .int .i64 0, .bool false, .int .i64 p] [W6.heap.size, G] G oG W5) := M4.out.pushed hJ.out (by omega) h3 Q5 B5 (G5 G (by simp))
  have T5 : Blk W5 W6.heap.size #[.bool false, .int .i64 p] 92 := (G5 _ (by simp)).trans T4
  clear Q5 B5 G5 c4 T4 M4 W4
  refine HK.out _ _ ?_
  clear HK K
  have c5 := T5.cell
  obtain ⟨fy, ty, ay, by1, hy, hR⟩ := HY1.out W5 M5.out.j
  refine (wpIn_wide (n := 1)).1 ?_
  gi_wp2
  refine hR.mono ?_
  rintro e W7 ⟨rfl, J6, C6⟩
  have MW7 : Hid (MS J bx bm bmap bq 2 2 0 (map2 p) [.bool true, .int .i64 0, .bool false, .int .i64 p] [G] G oG W7) := (M5.out.yielded (by omega) (by omega) h3 h4 HX.out J6 C6).less (by simp)
  clear hR hy c5 T5 J6 C6
  gi_wp2
  refine HKz.out _ _ ?_
  clear HKz Kz M5 W5
  go_wp2_with fail
  rw [rounds_succ]
  go_wp2_with (go_at_call 110; refine (qCount_any (bmap + 1) bq 2 _ 0 _ _ (by omega) (by omega) (by omega) MW7.out.q).mono ?_; rintro e W8 ⟨rfl, B8⟩)
  have M8 : Hid (MS J bx bm bmap bq 2 2 0 (map2 p) [.bool true, .int .i64 0, .bool false, .int .i64 p] [G] G oG W8) := MW7.out.below hJ.out (by omega) B8
  clear B8 L4 L5
  have Md8 : Hid (MS J bx bm bmap bq 2 2 0 (map2 p) [.bool true, .int .i64 0, .bool false, .int .i64 p] [G] G oG W8.drew) := M8.out.below hJ.out (by omega) (Below.refl _ _).drew
  have xb := Md8.out.c
  go_region_held3 (fun W => W.cell? ⟨bx, 0, none⟩ = some (.pointer (some ⟨bm, 0, none⟩))) (with_reducible exact xb) (first | (go_at_call 108; refine (qPop_any bq (bmap + 1) 2 0 _ 0 true _ _ (by omega) (by omega) rfl rfl Md8.out.q).mono ?_; rintro e W9 ⟨rfl, C9, Q9⟩; have M9 : Hid (MS J bx bm bmap bq 2 2 1 (map2 p) [.bool true, .int .i64 0, .bool false, .int .i64 p] [G] G oG W9) := Md8.out.popped hJ.out (by omega) (by omega) h3 h4 C9 Q9; have xb := M9.out.c; clear C9 Q9) | (go_at_call 107; refine (HN0.out _ _ _ M9.out.j).mono ?_; rintro e W10 ⟨rfl, B9⟩; have M10 : Hid (MS J bx bm bmap bq 2 2 1 (map2 p) [.bool true, .int .i64 0, .bool false, .int .i64 p] [G] G oG W10) := M9.out.below hJ.out (by omega) B9; have xb := M10.out.c; clear B9))
  clear xb
  go_wp2_with fail
  rw [rounds_succ]
  go_wp2_with fail
  refine wp_loop_rounds 1 ?_
  rw [rounds_succ]
  go_wp2_with (go_at_call 110; refine (qCount_any (bmap + 1) bq 2 _ 1 _ _ (by omega) (by omega) (by omega) M10.out.q).mono ?_; rintro e W11 ⟨rfl, B8⟩)
  have M11 : Hid (MS J bx bm bmap bq 2 2 1 (map2 p) [.bool true, .int .i64 0, .bool false, .int .i64 p] [G] G oG W11) := M10.out.below hJ.out (by omega) B8
  clear B8
  have Md11 : Hid (MS J bx bm bmap bq 2 2 1 (map2 p) [.bool true, .int .i64 0, .bool false, .int .i64 p] [G] G oG W11.drew) := M11.out.below hJ.out (by omega) (Below.refl _ _).drew
  have xb := Md11.out.c
  go_region_held3 (fun W => W.cell? ⟨bx, 0, none⟩ = some (.pointer (some ⟨bm, 0, none⟩))) (with_reducible exact xb) (first | (go_at_call 108; refine (qPop_any bq (bmap + 1) 2 1 _ p false _ _ (by omega) (by omega) rfl rfl Md11.out.q).mono ?_; rintro e W12 ⟨rfl, C9, Q9⟩; have M12 : Hid (MS J bx bm bmap bq 2 2 2 (map2 p) [.bool true, .int .i64 0, .bool false, .int .i64 p] [G] G oG W12) := Md11.out.popped hJ.out (by omega) (by omega) h3 h4 C9 Q9; have xb := M12.out.c; clear C9 Q9) | (go_at_call 107; refine (HN1.out _ _ _ M12.out.j).mono ?_; rintro e W13 ⟨rfl, B9⟩; have M13 : Hid (MS J bx bm bmap bq 2 2 2 (map2 p) [.bool true, .int .i64 0, .bool false, .int .i64 p] [G] G oG W13) := M12.out.below hJ.out (by omega) B9; have xb := M13.out.c; clear B9))
  clear xb
  go_wp2_with fail
  rw [rounds_succ]
  go_wp2_with fail
  refine wp_loop_rounds 1 ?_
  rw [rounds_succ]
  go_wp2_with (go_at_call 110; refine (qCount_any (bmap + 1) bq 2 _ 2 _ _ (by omega) (by omega) (by omega) M13.out.q).mono ?_; rintro e W14 ⟨rfl, B8⟩)
  have M14 : Hid (MS J bx bm bmap bq 2 2 2 (map2 p) [.bool true, .int .i64 0, .bool false, .int .i64 p] [G] G oG W14) := M13.out.below hJ.out (by omega) B8
  clear B8
  refine bodyPost_ret (results_none rfl _ _ _) rfl ?_
  exact ⟨rfl, M14.out.j⟩
end Go.Proofs.YtgopdffmnikhdaaGreatDoor
namespace Go.Proofs.YtgopdffmnikhdaaGreatDoor
open Go.RowKit Go.Deep
/-! ### Regions of drawn order in a round of a loop over a function -/
theorem opIn {l n : Nat} {P : Program} {o : Oper} {a : Act} {w : World} {K : Act → World → Prop} {Q : Exit → Act → World → Prop} (hd : ∀ c, o.op ≠ .defer c) (h : o.wp P a w K Q) : o.wpIn (Fence.wide.inRound l) n P a w K Q := by
  refine ⟨fun _ _ => trivial, ?_⟩
  show o.uponIn (Fence.wide.inRound l) n P a K Q ((o.semAt (some l) a.eval).run P w)
  rw [Oper.semAt_some l _ _ hd]
  unfold Oper.wp at h
  generalize (execOp a.eval o).run P w = r at *
  cases r with
  | ok x w' =>
    cases x <;> simp only [Oper.uponIn, Oper.upon] at h ⊢ <;> first
      | exact h
      | exact ⟨fun h => (by cases h), CallsIn.inRound l (callsIn_wide.2 h)⟩
      | exact ⟨fun h => (by cases h), fun c cs _ => let ⟨v, w', r, s⟩ := h c cs; ⟨v, w', r, stepsIn_wide.2 s⟩⟩
  | halt x w' => cases x <;> simp only [Oper.uponIn, Oper.upon] at h ⊢ <;> exact h
theorem anyIn {l n : Nat} {P : Program} {ops : Array Oper} {Q : Exit → Act → World → Prop} (hd : ∀ (i : Nat) (o : Oper), ops[i]? = some o → ∀ c, o.op ≠ .defer c) (hL : ¬ LetsOut Q) : ∀ (k : Nat) (d : Array Bool) (a : Act) (w : World), wpAny P .any ops Q k d a w → wpAnyIn (Fence.wide.inRound l) n P .any ops Q k d a w
  | 0, _, _, _, h => h
  | k + 1, d, a, w, h => ⟨h.1, fun i hi => by
      have h := h.2 i hi
      unfold wpOp at h
      unfold wpOpIn
      cases ho : ops[i]? with
      | none => simp only [ho] at h ⊢; exact anyIn hd hL k _ _ _ h
      | some o =>
        simp only [ho] at h ⊢
        split
        · rename_i hw
          rw [if_pos hw] at h
          rcases h with h | h
          · exact Oper.wpIn_mono (fun a w h => anyIn hd hL k _ _ _ h) (opIn (hd i o ho) h)
          · exact absurd h.2 hL
        · rename_i hw
          rw [if_neg hw] at h
          exact ⟨fun _ _ => trivial, anyIn hd hL k _ _ _ h⟩⟩
def noDefer (k : List Oper) : Bool := k.all fun o => match o.op with | .defer _ => false | _ => true
theorem rgR {l n id : Nat} {Q : Exit → Act → World → Prop} {a : Act} {w : World} {k : List Oper} (S : World → Prop) (hd : noDefer k = true) (hL : ¬ LetsOut Q) (hS : S w.drew) (h : S w.drew → Rgm k.toArray (List.range k.length) Q S a w.drew) : (Code.region id k.toArray true).wpIn (Fence.wide.inRound l) n Tryz.prog Q a w := by
  have h := h hS
  unfold Rgm RgD at h
  have e : mkd k.toArray.size (List.range k.length) = Array.replicate k.toArray.size false := by
    apply Array.ext_getElem?
    intro j
    rw [mkd_get]
    by_cases hj : j < k.length
    · simp [hj]
    · simp [hj]
  rw [e, List.length_range] at h
  have h2 := wpAny_of_held _ _ _ _ h
  have hk : k.length = k.toArray.size := by simp
  rw [hk] at h2
  refine wpIn_mono (Q := NoPanic Q) (wpIn_region_any (by kernel_rfl) (anyIn (Q := NoPanic Q) (fun i o ho c hc => ?_) (fun ⟨a, w, h⟩ => hL ⟨a, w, h⟩) _ _ _ _ h2)) NoPanic.imp
  have hm : o ∈ k := by
    have := List.mem_of_getElem? (l := k) (by simpa using ho)
    exact this
  have := List.all_eq_true.1 hd o hm
  rw [hc] at this
  cases this
/-! ### Operations that may come in any order, each looked at once -/
theorem doAll {ops : Array Oper} {Q : Exit → Act → World → Prop} {S : World → Prop} (fam : List (List Nat)) (dep : List Nat → Nat → Bool) (I : List Nat → Act → World → Prop)
    (hck : fam.all (fun l => (Region.ready .any ops (mkd ops.size l)).all (fun i => l.contains i && !(l.erase i).contains i && fam.contains (l.erase i) && dep l i) && (l.isEmpty == (Region.ready .any ops (mkd ops.size l)).isEmpty)) = true)
    (hS : ∀ l a w, I l a w → S w)
    (step : ∀ l a w i, I l a w → dep l i = true → (l.erase i).contains i = false → ∃ oi, ops[i]? = some oi ∧ Region.wanted oi (yielded ops a.tmps) = true ∧ ∀ K : Act → World → Prop, Shut (∀ a w, I (l.erase i) a w → K a w) → Oper.wp Tryz.prog oi a w K (NoPanic Q))
    (done : ∀ a w, I [] a w → NoPanic Q .normal a w) : ∀ n l a w, l.length = n → fam.contains l = true → I l a w → Rgm ops l Q S a w := by
  intro n
  induction n with
  | zero =>
    intro l a w hn hf hI
    obtain rfl := List.length_eq_zero_iff.1 hn
    have := List.all_eq_true.1 hck [] (by simpa using hf)
    simp only [Bool.and_eq_true, beq_iff_eq] at this
    exact enM (by simpa using this.2) (done a w hI)
  | succ n ih =>
    intro l a w hn hf hI
    have hl := List.all_eq_true.1 hck l (by simpa using hf)
    simp only [Bool.and_eq_true, beq_iff_eq] at hl
    unfold Rgm RgD
    rw [hn]
    refine wpAnyH_ready rfl (fun e => by rw [e] at hl; have := hl.2; cases l <;> simp at this hn) ?_
    intro i hi
    have hc := List.all_eq_true.1 hl.1 i hi
    simp only [Bool.and_eq_true, Bool.not_eq_true'] at hc
    obtain ⟨oi, ho, hw, hK⟩ := step l a w i hI hc.2 hc.1.1.2
    refine wpOp_step ho (fun K' hK' => ?_)
    rw [if_pos hw]
    refine hK K' (fun a w h => hK' a w ⟨hS _ _ _ h, ?_⟩)
    have hlen : (l.erase i).length = n := by rw [List.length_erase_of_mem (by simpa using hc.1.1.1)]; omega
    have hR := ih (l.erase i) a w hlen hc.1.2 h
    unfold Rgm RgD at hR
    rw [hlen] at hR
    have e : (mkd ops.size l).setIfInBounds i true = mkd ops.size (l.erase i) := by
      rw [← mkd_take (l := l.erase i) hc.1.1.2, mkd_perm (l := l) (m := i :: l.erase i) (fun j => ?_)]
      have hm : i ∈ l := by simpa using hc.1.1.1
      rw [Bool.eq_iff_iff]
      simp only [List.contains_iff_mem]
      exact (List.perm_cons_erase hm).mem_iff
    rw [e]
    exact hR
theorem con_erase {l : List Nat} {i j : Nat} (h : j ≠ i) : (l.erase i).contains j = l.contains j := by
  rw [Bool.eq_iff_iff]
  simp [List.mem_erase_of_ne h]
theorem regCut {P : Program} {c : Code} {Q : Exit → Act → World → Prop} {a : Act} {w : World} (R : Act → World → Prop) (h : c.wp P (fun e a W => e = .normal ∧ R a W) a w) (key : ∀ a W, R a W → Q .normal a W) : c.wp P Q a w :=
  wp_mono h (fun _ _ _ ⟨he, hr⟩ => he ▸ key _ _ hr)
/-- The cells of what is met. -/
abbrev thc (p : Int) : Nat → Array Value
  | 0 => #[.bool true, .int .i64 0]
  | _ => #[.bool false, .int .i64 p]
/-- **A loop over what is alive: a task and a slot.** -/
theorem range_met {g : Operand} {ps : Array Tmp} {assign body : Code} {Q : Exit → Act → World → Prop} {a : Act} {w : World} (bx bm : Nat) (p : Int) (X : List Nat) (wk : Nat → World) (act : Nat → Nat → Act)
    (hg : a.eval g = .func (.func 105) #[] #[.pointer (some ⟨bx, 0, none⟩)]) (hps : ps.size = 1) (h0 : wk 0 = w) (hbx : bx < w.heap.size) (hX : ∀ b ∈ X, b < w.heap.size ∧ b ≠ bx)
    (hc : w.cell? ⟨bx, 0, none⟩ = some (.pointer (some ⟨bm, 0, none⟩)))
    (HU : Hid (∀ W, Below w.heap.size w W → Calls Tryz.prog 17 #[.pointer (some ⟨bm, 0, none⟩)] W fun e w' => ∃ u : Int, e = .returned (.int .i64 u) ∧ Below W.heap.size W w'))
    (HF : Hid (∀ W, Below w.heap.size w W → Calls Tryz.prog 106 #[.pointer (some ⟨bm, 0, none⟩)] W fun e w' => ∃ so sc, e = .returned (.slice so 2 sc) ∧ w'.ownsRow W.heap.size 92 2 (.slice so 2 sc) 2 [.bool true, .int .i64 0, .bool false, .int .i64 p] ∧ Below W.heap.size W w'))
    (HN0 : Hid (∀ no nc W, Below w.heap.size (wk 2) W → Calls Tryz.prog 107 #[.pointer (some ⟨bm, 0, none⟩), .slice no 0 nc, kT] W fun e w' => e = .returned (.slice no 0 nc) ∧ Below W.heap.size W w'))
    (HN1 : Hid (∀ no nc W, Below w.heap.size (wk 2) W → Calls Tryz.prog 107 #[.pointer (some ⟨bm, 0, none⟩), .slice no 0 nc, kS p] W fun e w' => e = .returned (.slice no 0 nc) ∧ Below W.heap.size W w'))
    (hassign : ∀ (i l : Nat) (W : World) (K : Act → World → Prop), i < 2 → Below w.heap.size (wk i) W → (∀ bt o, W.heap.size = bt → o = .cells (thc p i) 92 → K (act i bt) (W.alloc o)) → assign.wpIn (Fence.wide.inRound l) 0 Tryz.prog (Exit.then K (fun _ _ _ => False)) { tmps := (ps.zip #[.agg (thc p i)]).foldl (fun t (p, v) => t.setIfInBounds p v) a.tmps, defers := [] } W)
    (hbody : ∀ (i l bt : Nat) (W : World), i < 2 → Below w.heap.size (wk i) W → w.heap.size < bt → Blk W bt (thc p i) 92 → body.wpIn (Fence.wide.inRound l) 0 Tryz.prog (fun e _ W' => e = .normal ∧ Below w.heap.size (wk (i + 1)) W' ∧ Chg X W W') (act i bt) W)
    (hdone : ∀ (D : Nat) (W : World), w.heap.size ≤ D → Below w.heap.size (wk 2) W → W.heap[D]? = some (.deferred (some [])) → Q .normal { a with defers := { target := .collected D, args := #[] } :: a.defers } W) :
    (Code.rangeFunc g ps assign body).wp Tryz.prog Q a w := by
  refine (wpIn_wide (n := 2)).1 (wpIn_rangeFunc ?_)
  intro fn hfn
  obtain ⟨rec, hrec⟩ : ∃ rec : LoopState → Option Code → Loop, rec = fun st pe => { state := st, pending := pe, fn, tmps := a.tmps, params := ps, assign, body, defers := w.heap.size } := ⟨_, rfl⟩
  obtain ⟨W1, hW1⟩ : ∃ W1, (w.alloc (.deferred (some []))).alloc (.loop (rec .ready none)) = W1 := ⟨_, rfl⟩
  have hL1 : W1.heap[w.heap.size + 1]? = some (.loop (rec .ready none)) := by
    rw [← hW1]; have := World.alloc_heap_new (w.alloc (.deferred (some []))) (.loop (rec .ready none)); rwa [World.size_alloc] at this
  have hK1 : W1.heap[w.heap.size]? = some (.deferred (some [])) := by
    rw [← hW1]; exact (Below.heap_alloc _ _ _ (by simp)).trans (World.alloc_heap_new w _)
  have hs1 : W1.heap.size = w.heap.size + 2 := by rw [← hW1]; simp
  have hb1 : Below w.heap.size w W1 := by
    rw [← hW1]; exact ((Below.refl _ w).alloc (Nat.le_refl _) _).alloc (by simp) _
  refine ⟨w.heap.size + 1, [{ target := .collected w.heap.size, args := #[] }], W1, { target := .fn (.func 105) #[.pointer (some ⟨bx, 0, none⟩)], args := #[.func (.yield (w.heap.size + 1)) #[] #[]] }, W1, 105,
    #[.func (.yield (w.heap.size + 1)) #[] #[]] ++ #[.pointer (some ⟨bx, 0, none⟩)], W1, ?_, ?_, ?_, ?_, fun h => (by cases h), ?_⟩
  · rw [← hW1, hrec]; exact run_enterLoop_outer _ _ _ _ _
  · simp only [resolve, hg]
    simp [go_sem]
  · intro f' hf'; exact trivial
  · have eg := (enters Tryz.func105 (by kernel_rfl) rfl).out
    simp [invoke, go_sem, eg]
  refine callsIn_wide.2 ?_
  obtain ⟨J, hJd⟩ : ∃ J : Nat → World → Prop, J = fun i W => Below w.heap.size (wk i) W ∧ W.heap[w.heap.size + 1]? = some (.loop (rec .ready none)) ∧ W.heap[w.heap.size]? = some (.deferred (some [])) := ⟨_, rfl⟩
  have hJ : ∀ i W W', J i W → Below (w.heap.size + 2) W W' → J i W' := by
    rw [hJd]
    exact fun i W W' ⟨h1, h2, h3⟩ hb => ⟨h1.trans (hb.mono (by omega)), (hb.block _ (by omega)).trans h2, (hb.block _ (by omega)).trans h3⟩
  have hY : ∀ i, i < 2 → ∀ W, J i W → YieldAt Fence.wide 0 Tryz.prog (w.heap.size + 1) #[.agg (thc p i)] W fun e W' => e = .returned (.bool true) ∧ J (i + 1) W' ∧ Chg ((w.heap.size + 1) :: X) W W' := by
    intro i hi W hJi
    rw [hJd] at hJi
    obtain ⟨hi1, hl, hD⟩ := hJi
    have hlt : w.heap.size + 1 < W.heap.size := (Array.getElem?_eq_some_iff.1 hl).1
    have hy := run_yield (P := Tryz.prog) (args := #[.agg (thc p i)]) hl (by rw [hrec]; simp [hps])
    rw [hrec] at hy
    refine ⟨fn, _, assign, body, hy, roundIn_of_wpIn hfn (hassign i _ W _ hi hi1 (fun bt o hbt ho => ?_))⟩
    subst ho
    have hlA : (W.alloc (.cells (thc p i) 92)).heap[w.heap.size + 1]? = some (.loop (rec .ready none)) := (Below.heap_alloc _ _ _ hlt).trans hl
    have hDA : (W.alloc (.cells (thc p i) 92)).heap[w.heap.size]? = some (.deferred (some [])) := (Below.heap_alloc _ _ _ (by omega)).trans hD
    have hBA : Below w.heap.size (wk i) (W.alloc (.cells (thc p i) 92)) := hi1.trans (((Below.refl _ _).alloc (Nat.le_refl _) _).mono (by omega))
    have hTA : Blk (W.alloc (.cells (thc p i) 92)) bt (thc p i) 92 := hbt ▸ Blk.new W _ _
    have hcA : Chg ((w.heap.size + 1) :: X) W (W.alloc (.cells (thc p i) 92)) := (Chg.refl _ _).below ((Below.refl _ _).alloc (Nat.le_refl _) _)
    obtain ⟨WA, hWA⟩ : ∃ z, W.alloc (.cells (thc p i) 92) = z := ⟨_, rfl⟩
    rw [hWA] at hlA hDA hBA hTA hcA ⊢
    have hltA : w.heap.size + 1 < WA.heap.size := (Array.getElem?_eq_some_iff.1 hlA).1
    refine ⟨_, run_beginRound hlA (by rw [hrec]), ?_⟩
    obtain ⟨lb, hlb⟩ : ∃ z, z = ({ rec .ready none with state := .busy } : Loop) := ⟨_, rfl⟩
    rw [← hlb]
    have hp : ∀ (V : World) (o : Obj) (k : Nat), k ≠ w.heap.size + 1 → (V.putObj (w.heap.size + 1) o).heap[k]? = V.heap[k]? := fun V o k hk => World.putObj_heap_other hk
    have hcp : ∀ (V : World) (o : Obj), Chg ((w.heap.size + 1) :: X) V (V.putObj (w.heap.size + 1) o) := fun V o => ⟨rfl, rfl, rfl, by simp, fun k hk _ => hp V o k (fun e => hk (by simp [e]))⟩
    refine wpIn_mono (hbody i _ bt _ hi (hBA.trans (putBelow _ _ (by omega))) (by omega) ((hp _ _ bt (by omega)).trans hTA)) ?_
    rintro e a3 W3 ⟨rfl, hB3, hC3⟩
    have hne : ∀ k, k = w.heap.size + 1 ∨ k = w.heap.size → k ∉ X := fun k hk hm => by have := (hX k hm).1; omega
    have hl3 : W3.heap[w.heap.size + 1]? = some (.loop lb) := (hC3.block _ (hne _ (.inl rfl)) (by simpa using hltA)).trans (World.putObj_heap_same hltA)
    have hD3 : W3.heap[w.heap.size]? = some (.deferred (some [])) := (hC3.block _ (hne _ (.inr rfl)) (by simp; omega)).trans ((hp _ _ _ (by omega)).trans hDA)
    have hr := run_endRound (P := Tryz.prog) none hl3
    refine ⟨_, _, hr, rfl, ?_, ?_⟩
    · rw [hJd]
      refine ⟨hB3.trans (putBelow _ _ (by omega)), ?_, (hp _ _ _ (by omega)).trans hD3⟩
      rw [World.putObj_heap_same (Array.getElem?_eq_some_iff.1 hl3).1, hlb, hrec]
      rfl
    · exact ((hcA.trans (hcp _ _) (fun _ h => h)).trans hC3 (fun b hb => by simp [hb])).trans (hcp _ _) (fun _ h => h)
  have e0 : J 0 W1 := by rw [hJd]; exact ⟨by rw [h0]; exact hb1, hL1, hK1⟩
  have j0 : ∀ {i W}, J i W → Below w.heap.size (wk i) W := fun h => by rw [hJd] at h; exact h.1
  refine (met1_any J (w.heap.size + 2) bx bm (w.heap.size + 1) p ((w.heap.size + 1) :: X) W1 (by omega) (by omega) (fun b hb => by
      rcases List.mem_cons.1 hb with rfl | hb
      · omega
      · have := hX b hb; omega) hJ (fun W h => HU.out W (h0 ▸ j0 h)) (fun W h => HF.out W (h0 ▸ j0 h)) (fun no nc W h => HN0.out no nc W (j0 h)) (fun no nc W h => HN1.out no nc W (j0 h)) (hY 0 (by omega)) (hY 1 (by omega)) ((World.cell?_of_block (hb1.block bx hbx)).trans hc) e0).mono ?_
  rintro e W2 ⟨rfl, hJ2⟩
  rw [hJd] at hJ2
  obtain ⟨hB2, hl2, hD2⟩ := hJ2
  have hend := run_endLoop (P := Tryz.prog) hl2 (by rw [hrec]; simp)
  rw [hrec] at hend
  refine ⟨none, _, hend, ?_⟩
  exact hdone _ _ (Nat.le_refl _) (hB2.trans (putBelow _ _ (by omega))) ((World.putObj_heap_other (by omega)).trans hD2)
end Go.Proofs.YtgopdffmnikhdaaGreatDoor
namespace Go.Proofs.YtgopdffmnikhdaaGreatDoor
open Go.RowKit Go.Deep Go.Shelf
attribute [local go_sem] run_store_float vi
shelf_lay_g SlLaysF.n6 Slsf 6 at Tryz 241 as sortL
shelf_lay_g SlLaysC2.n5 Slgc 5 at Tryz 243 as cmpL
theorem ltI (x y : Int) : Lib.compareInt x y < 0 ↔ x < y := by
  unfold Lib.compareInt
  by_cases h1 : x < y
  · simp [h1]
  · by_cases h2 : y < x <;> simp [h1, h2]
/-- When a slot was born. -/
def bornOf (w : World) (b : Nat) : Int := match w.cell? ⟨b, 2, none⟩ with
  | some (.int .i64 i) => i
  | _ => 0
theorem swoBy {α : Type} (f : α → Int) : Go.Sort.SWO (ltOf fun x y => Lib.compareInt (f x) (f y)) where
  irrefl x := by simp only [ltOf, ltI]; simp
  trans x y z h1 h2 := by simp only [ltOf, ltI] at *; simp at *; omega
  ntrans x y z h1 h2 := by simp only [ltOf, ltI] at *; simp at *; omega
theorem bornCmp (a b : Nat) (w : World) (ha : TabB w a) (hb : TabB w b) :
    Calls Tryz.prog 242 #[pv a, pv b] w fun e w' => e = .returned (.int .i64 (Lib.compareInt (bornOf w a) (bornOf w b))) ∧ ∃ q, w' = w.drewN q := by
  obtain ⟨p1, x, v1, ha⟩ := ha
  obtain ⟨p2, y, v2, hb⟩ := hb
  have ca := ha.cell
  have cb1 := hb.cell
  have ea : bornOf w a = x := by simp [bornOf, ca]
  have eb : bornOf w b = y := by simp [bornOf, cb1]
  rw [ea, eb]
  have hcon := fun W => AnyG.cmp_Compare_int cmpL x y W
  change ∀ W, Calls Tryz.prog 243 _ _ _ at hcon
  generalize Lib.compareInt x y = r at hcon ⊢
  clear ea eb ha hb
  go_enter Tryz.func242, Tryz.ntmps242
  go_wp2_with fail
  go_region_held3 (fun W => (∀ o, W.cell? ⟨a, o, none⟩ = (sa (.int .i64 p1) (.int .i64 1) (.int .i64 x) (.int .i64 v1))[o]?) ∧ (∀ o, W.cell? ⟨b, o, none⟩ = (sa (.int .i64 p2) (.int .i64 1) (.int .i64 y) (.int .i64 v2))[o]?)) (exact ⟨ca, cb1⟩) (first | (go_at_call 243; refine (hcon _).mono ?_; rintro e w' ⟨rfl, rfl⟩))
  go_wp2_with fail
  go_ret
  exact ⟨rfl, 1, rfl⟩
theorem sort_below {α : Type} [Inhabited α] (enc : α → Value) (lo g m : Nat) (d : Array α) (os : Array Obj) (W : World) (hg : lo ≤ g) (hs : g < W.heap.size) : Below lo W (sortWorld enc W g 0 m d os) := by
  refine ⟨rfl, rfl, rfl, by simp [sortWorld, Go.Sort.putRow, Go.Sort.mapBlock, Go.Sort.ahead], fun k hk => ?_⟩
  unfold sortWorld
  rw [Go.Sort.heap_grow_old _ _ (by simp [Go.Sort.putRow, Go.Sort.mapBlock, Go.Sort.ahead]; omega)]
  simp only [Go.Sort.putRow, Go.Sort.mapBlock, Go.Sort.ahead, Array.getElem?_modify]
  rw [if_neg (by omega)]
theorem bornOf_of {lo b : Nat} {W V : World} (h : Below lo W V) (hb : b < lo) : bornOf V b = bornOf W b := by
  unfold bornOf
  rw [World.cell?_of_block (h.block b hb)]
/-- What slices.SortFunc does with a row of tables. -/
theorem sortOk (lo : Nat) (w : World) : SortOk lo w := by
  intro W v n ys hB hn hR hT
  have hl : ys.length = n := by have := hR.1; simpa using this
  cases hys : ys with
  | nil =>
    obtain ⟨so, sc, rfl⟩ := owns_slice hR
    obtain rfl : n = 0 := by rw [← hl, hys]; rfl
    refine (AnyF.slices_SortFunc_none { sortL with } so sc _ W).mono ?_
    rintro e w' ⟨rfl, rfl⟩
    exact ⟨rfl, Below.refl _ _, [], by rw [hys] at hR; exact hR, by simp⟩
  | cons y0 yr =>
    rcases owns_form hR with ⟨rfl, h⟩ | ⟨g, cap, rfl, hg, hgs⟩
    · rw [h] at hl; rw [hys] at hl; cases hl
    let α := { b : Nat // b < lo ∧ TabB W b }
    haveI : Inhabited α := ⟨⟨y0, hT y0 (by rw [hys]; simp)⟩⟩
    let d : Array α := (ys.attach.map fun x => (⟨x.1, hT x.1 x.2⟩ : α)).toArray
    have hd : d.size = n := by simp [d, hl]
    have hdl : d.toList.map (fun x => x.1) = ys := by simp [d]
    have hlg : lo ≤ g := hg
    have hsw : ∀ m (dk : Array α) os, Below lo W (sortWorld (fun x : α => pv x.1) W g 0 m dk os) := fun m dk os => sort_below _ lo g m dk os W hlg hgs
    have hcmp : CmpLays1 Tryz.prog 242 #[] (fun x : α => pv x.1) (fun x y => Lib.compareInt (bornOf W x.1) (bornOf W y.1)) g 0 d.size W := fun m os dk _ x y => by
      have hV := hsw m dk os
      refine (bornCmp x.1 y.1 _ (x.2.2.later x.2.1 hV) (y.2.2.later y.2.1 hV)).mono ?_
      rintro e w' ⟨rfl, q, rfl⟩
      rw [bornOf_of hV x.2.1, bornOf_of hV y.2.1]
      exact ⟨rfl, q, #[], by simp⟩
    have hH : Go.Sort.Holds (fun x : α => pv x.1) W g 0 d := fun j hj => by
      have hz : d[j]! = d[j] := getElem!_pos d j hj
      have hyj : ys[j]? = some d[j].1 := by rw [← hdl, List.getElem?_map, Array.getElem?_toList, Array.getElem?_eq_getElem hj]; rfl
      rw [hz, Nat.zero_add]
      refine ⟨owns_cell hR (by rw [List.getElem?_map, hyj]; rfl), ?_⟩
      obtain ⟨_, h | ⟨g', cap', cur, e, _, hc, _⟩⟩ := hR
      · cases h.1
      · injection e with e
        injection e with e
        injection e with e
        subst e
        simp [World.frozen?, hc]
    have hcon := Any.slices_SortFunc sortL (fun x : α => pv x.1) (fun _ => rfl) (fun x y => Lib.compareInt (bornOf W x.1) (bornOf W y.1)) (swoBy fun x : α => bornOf W x.1) 242 #[] g 0 cap d W (enters_of Tryz.func242 (by kernel_rfl) rfl) hcmp hH hgs (by omega)
    rw [hd] at hcon
    refine hcon.mono ?_
    rintro e w' ⟨rfl, d', m, os, hp, _, rfl⟩
    have hsz : d'.size = n := by rw [hp.1, hd]
    refine ⟨rfl, hsw m d' os, d'.toList.map (fun x => x.1), ?_, fun b hb => ?_⟩
    · obtain ⟨_, h | ⟨g', cap', cur, e, _, hc, h5, h6, h7, h8⟩⟩ := hR
      · cases h.1
      · injection e with e _ e2
        injection e with e
        injection e with e
        subst e
        subst e2
        refine ⟨by simp [hsz], .inr ⟨g, cap, Go.Sort.putCells (fun x : α => pv x.1) 0 d' cur, rfl, hlg, ?_, h5, h6, by simp [Go.Sort.putCells, h7], ?_⟩⟩
        · unfold sortWorld
          rw [Go.Sort.heap_grow_old _ _ (by simp [Go.Sort.putRow, Go.Sort.mapBlock, Go.Sort.ahead]; omega)]
          simp [Go.Sort.putRow, Go.Sort.mapBlock, Go.Sort.ahead, Array.getElem?_modify, hc, Go.Sort.onCells]
        · apply List.ext_getElem?
          intro j
          by_cases hj : j < n
          · have hj' : j < d'.size := by omega
            have hjc : j < cur.size := by omega
            rw [List.getElem?_take_of_lt (by omega), Array.getElem?_toList]
            simp [Go.Sort.putCells, hj', hjc]
          · rw [List.getElem?_eq_none (by simp; omega), List.getElem?_eq_none (by simp [hsz]; omega)]
    · obtain ⟨x, hx, rfl⟩ := List.mem_map.1 hb
      have h2 := hp.2.2
      rw [← hd] at h2
      simp only [Array.extract_size] at h2
      have h3 : d'.extract 0 d.size = d' := by rw [← hp.1]; exact Array.extract_size
      rw [h3] at h2
      have hm := h2.mem_iff.1 hx
      rw [← hys, ← hdl]
      exact List.mem_map.2 ⟨x, hm, rfl⟩
end Go.Proofs.YtgopdffmnikhdaaGreatDoor
namespace Go.Proofs.YtgopdffmnikhdaaGreatDoor
open Go.RowKit Go.Deep
theorem eltTs : Elt 77 93 (.pointer none) 1 8 := ⟨Tryz.underlying77, by kernel_rfl, rfl, by decide⟩
abbrev sl1 (g n : Nat) : Value := .slice (some ⟨g, 0, none⟩) n n
/-- What stands while two rows and their variables are made, in any order; l is what is left to do. -/
structure GB (W0 : World) (L : Nat) (A : Array Value) (o : Nat) (A1 : Array Value) (l : List Nat) (v2 v3 v12 v18 : Value) (W : World) : Prop where
  below : Below W0.heap.size W0 W
  s : l.contains 5 = false → ∃ g, v12 = sl1 g L ∧ W0.heap.size ≤ g ∧ Blk W g A 94
  t : l.contains 11 = false → ∃ g, v18 = sl1 g o ∧ W0.heap.size ≤ g ∧ Blk W g A1 93
  sv : l.contains 12 = false → ∃ b, v2 = pv b ∧ W0.heap.size ≤ b ∧ Blk W b #[if l.contains 14 then .slice none 0 0 else v12] 73
  tv : l.contains 13 = false → ∃ b, v3 = pv b ∧ W0.heap.size ≤ b ∧ Blk W b #[if l.contains 15 then .slice none 0 0 else v18] 77
section
variable {W0 W : World} {L o : Nat} {A A1 : Array Value} {l : List Nat} {v2 v3 v12 v18 : Value}
theorem GB.a5 (h : GB W0 L A o A1 l v2 v3 v12 v18 W) (h14 : l.contains 14 = true) : GB W0 L A o A1 (l.erase 5) v2 v3 (sl1 W.heap.size L) v18 (W.alloc (.cells A 94)) := by
  refine ⟨h.below.alloc h.below.size _, fun _ => ⟨_, rfl, h.below.size, Blk.new W _ _⟩, fun e => ?_, fun e => ?_, fun e => ?_⟩
  · obtain ⟨g, h1, h2, h3⟩ := h.t (by rwa [con_erase (by decide)] at e); exact ⟨g, h1, h2, h3.alloc _⟩
  · obtain ⟨g, h1, h2, h3⟩ := h.sv (by rwa [con_erase (by decide)] at e); exact ⟨g, h1, h2, by rw [con_erase (by decide), h14]; rw [h14] at h3; exact h3.alloc _⟩
  · obtain ⟨g, h1, h2, h3⟩ := h.tv (by rwa [con_erase (by decide)] at e); exact ⟨g, h1, h2, by rw [con_erase (by decide)]; exact h3.alloc _⟩
theorem GB.a11 (h : GB W0 L A o A1 l v2 v3 v12 v18 W) (h15 : l.contains 15 = true) : GB W0 L A o A1 (l.erase 11) v2 v3 v12 (sl1 W.heap.size o) (W.alloc (.cells A1 93)) := by
  refine ⟨h.below.alloc h.below.size _, fun e => ?_, fun _ => ⟨_, rfl, h.below.size, Blk.new W _ _⟩, fun e => ?_, fun e => ?_⟩
  · obtain ⟨g, h1, h2, h3⟩ := h.s (by rwa [con_erase (by decide)] at e); exact ⟨g, h1, h2, h3.alloc _⟩
  · obtain ⟨g, h1, h2, h3⟩ := h.sv (by rwa [con_erase (by decide)] at e); exact ⟨g, h1, h2, by rw [con_erase (by decide)]; exact h3.alloc _⟩
  · obtain ⟨g, h1, h2, h3⟩ := h.tv (by rwa [con_erase (by decide)] at e); exact ⟨g, h1, h2, by rw [con_erase (by decide), h15]; rw [h15] at h3; exact h3.alloc _⟩
theorem GB.a12 (h : GB W0 L A o A1 l v2 v3 v12 v18 W) (h14 : l.contains 14 = true) : GB W0 L A o A1 (l.erase 12) (pv W.heap.size) v3 v12 v18 (W.alloc (.cells #[.slice none 0 0] 73)) := by
  refine ⟨h.below.alloc h.below.size _, fun e => ?_, fun e => ?_, fun _ => ⟨_, rfl, h.below.size, by rw [con_erase (by decide), h14]; exact Blk.new W _ _⟩, fun e => ?_⟩
  · obtain ⟨g, h1, h2, h3⟩ := h.s (by rwa [con_erase (by decide)] at e); exact ⟨g, h1, h2, h3.alloc _⟩
  · obtain ⟨g, h1, h2, h3⟩ := h.t (by rwa [con_erase (by decide)] at e); exact ⟨g, h1, h2, h3.alloc _⟩
  · obtain ⟨g, h1, h2, h3⟩ := h.tv (by rwa [con_erase (by decide)] at e); exact ⟨g, h1, h2, by rw [con_erase (by decide)]; exact h3.alloc _⟩
theorem GB.a13 (h : GB W0 L A o A1 l v2 v3 v12 v18 W) (h15 : l.contains 15 = true) : GB W0 L A o A1 (l.erase 13) v2 (pv W.heap.size) v12 v18 (W.alloc (.cells #[.slice none 0 0] 77)) := by
  refine ⟨h.below.alloc h.below.size _, fun e => ?_, fun e => ?_, fun e => ?_, fun _ => ⟨_, rfl, h.below.size, by rw [con_erase (by decide), h15]; exact Blk.new W _ _⟩⟩
  · obtain ⟨g, h1, h2, h3⟩ := h.s (by rwa [con_erase (by decide)] at e); exact ⟨g, h1, h2, h3.alloc _⟩
  · obtain ⟨g, h1, h2, h3⟩ := h.t (by rwa [con_erase (by decide)] at e); exact ⟨g, h1, h2, h3.alloc _⟩
  · obtain ⟨g, h1, h2, h3⟩ := h.sv (by rwa [con_erase (by decide)] at e); exact ⟨g, h1, h2, by rw [con_erase (by decide)]; exact h3.alloc _⟩
theorem GB.a14 {b : Nat} {y : Value} (h : GB W0 L A o A1 l (pv b) v3 v12 v18 W) (h14 : (l.erase 14).contains 14 = false) (hb : W0.heap.size ≤ b) (B : Blk W b #[y] 73) : GB W0 L A o A1 (l.erase 14) (pv b) v3 v12 v18 (W.setCell ⟨b, 0, none⟩ v12) := by
  refine ⟨h.below.setCell (p := ⟨b, 0, none⟩) hb _, fun e => ?_, fun e => ?_, fun _ => ⟨b, rfl, hb, by rw [h14]; exact B.set 0 _⟩, fun e => ?_⟩
  · obtain ⟨g, h1, h2, h3⟩ := h.s (by rwa [con_erase (by decide)] at e); exact ⟨g, h1, h2, h3.setOther (blk_ne h3 B (by decide)) _⟩
  · obtain ⟨g, h1, h2, h3⟩ := h.t (by rwa [con_erase (by decide)] at e); exact ⟨g, h1, h2, h3.setOther (blk_ne h3 B (by decide)) _⟩
  · obtain ⟨g, h1, h2, h3⟩ := h.tv (by rwa [con_erase (by decide)] at e); exact ⟨g, h1, h2, by rw [con_erase (by decide)]; exact h3.setOther (blk_ne h3 B (by decide)) _⟩
theorem GB.a15 {b : Nat} {y : Value} (h : GB W0 L A o A1 l v2 (pv b) v12 v18 W) (h15 : (l.erase 15).contains 15 = false) (hb : W0.heap.size ≤ b) (B : Blk W b #[y] 77) : GB W0 L A o A1 (l.erase 15) v2 (pv b) v12 v18 (W.setCell ⟨b, 0, none⟩ v18) := by
  refine ⟨h.below.setCell (p := ⟨b, 0, none⟩) hb _, fun e => ?_, fun e => ?_, fun e => ?_, fun _ => ⟨b, rfl, hb, by rw [h15]; exact B.set 0 _⟩⟩
  · obtain ⟨g, h1, h2, h3⟩ := h.s (by rwa [con_erase (by decide)] at e); exact ⟨g, h1, h2, h3.setOther (blk_ne h3 B (by decide)) _⟩
  · obtain ⟨g, h1, h2, h3⟩ := h.t (by rwa [con_erase (by decide)] at e); exact ⟨g, h1, h2, h3.setOther (blk_ne h3 B (by decide)) _⟩
  · obtain ⟨g, h1, h2, h3⟩ := h.sv (by rwa [con_erase (by decide)] at e); exact ⟨g, h1, h2, by rw [con_erase (by decide)]; exact h3.setOther (blk_ne h3 B (by decide)) _⟩
end
abbrev famG : List (List Nat) := [[5, 11, 12, 13, 14, 15], [11, 12, 13, 14, 15], [5, 12, 13, 14, 15], [5, 11, 13, 14, 15], [5, 11, 12, 14, 15], [12, 13, 14, 15], [11, 13, 14, 15], [11, 12, 14, 15], [5, 13, 14, 15], [5, 12, 14, 15], [5, 11, 14, 15], [13, 14, 15], [12, 14, 15], [11, 14, 15], [5, 14, 15], [14, 15], [11, 15], [15], []]
def depG (l : List Nat) (i : Nat) : Bool := (i == 5 && l.contains 14) || (i == 11 && l.contains 15) || (i == 12 && l.contains 14) || (i == 13 && l.contains 15) || (i == 14 && !l.contains 5 && !l.contains 12) || (i == 15 && !l.contains 11 && !l.contains 13)
end Go.Proofs.YtgopdffmnikhdaaGreatDoor
