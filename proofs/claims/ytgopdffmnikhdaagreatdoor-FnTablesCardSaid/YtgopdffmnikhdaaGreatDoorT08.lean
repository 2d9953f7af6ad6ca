import Derived.Test.YtgopdffmnikhdaaGreatDoorT07
import Derived.Test.YtgopdffmnikhdaaGreatDoorT06
import Derived.Test.YtgopdffmnikhdaaGreatDoorT03
namespace Go.Proofs.YtgopdffmnikhdaaGreatDoor
open Go.RowKit Go.Deep
attribute [local go_sem] run_store_float vi
/-- The panic that ends a run. -/
abbrev endsIt : Ending := .panicked [{ v := .iface 87 (.agg #[.int .i64 0]), recovered := false }]
set_option maxHeartbeats 2000000 in
theorem endRun_any (bl : Nat) (tr : ByteArray) (w : World) :
    Calls Tryz.prog 172 #[.pointer (some ⟨bl, 0, none⟩), .agg #[.int .i64 0, .slice none 0 0, .string tr], .slice none 0 0] w fun e w' => e = endsIt ∧ Below w.heap.size w w' := by
  have B0 : ∀ o, Below w.heap.size w (w.alloc o) := fun _ => (Below.refl _ _).alloc (Nat.le_refl _) _
  go_enter Tryz.func172, Tryz.ntmps172
  go_wp2_with fail
  refine wp_loop_rounds 1 ?_
  rw [rounds_succ]
  go_wp2_with fail
  exact ⟨rfl, rfl, B0 _⟩
abbrev wyZ : Array Value := #[.int .i64 0, .slice none 0 0, .string ByteArray.empty]
theorem Chg.sets' {L : List Nat} {g : Nat} (hg : g ∈ L) : ∀ (vs : List Value) (o : Nat) {w w' : World}, Chg L w w' → Chg L w (w'.setCells g o vs)
  | [], _, _, _, h => h
  | v :: r, o, _, _, h => Chg.sets' hg r (o + 1) (h.set hg o v)
abbrev LtS (bm bl : Nat) (W : World) : Prop := (W.cell? ⟨bm, 14, none⟩ = some (.int .i64 0) ∧ W.cell? ⟨bm, 15, none⟩ = some (.slice none 0 0) ∧ W.cell? ⟨bm, 16, none⟩ = some (.string ByteArray.empty)) ∧ W.cell? ⟨bl, 0, none⟩ = some (.pointer (some ⟨bm, 0, none⟩))
theorem LtS.alloc {bm bl : Nat} {W : World} (h : LtS bm bl W) (o : Obj) : LtS bm bl (W.alloc o) := ⟨⟨ca h.1.1 o, ca h.1.2.1 o, ca h.1.2.2 o⟩, ca h.2 o⟩
theorem LtS.allocD {bm bl : Nat} {W : World} (h : LtS bm bl W) (o : Obj) : LtS bm bl (W.alloc o).drew := h.alloc o
theorem LtS.chg {bm bl : Nat} {L : List Nat} {W W' : World} (h : LtS bm bl W) (hc : Chg L W W') (h1 : bm ∉ L) (h2 : bl ∉ L) : LtS bm bl W' := ⟨⟨hc.cell h1 h.1.1, hc.cell h1 h.1.2.1, hc.cell h1 h.1.2.2⟩, hc.cell h2 h.2⟩
theorem LtS.sets {bm bl g : Nat} {W : World} (h : LtS bm bl W) (h1 : bm ≠ g) (h2 : bl ≠ g) (cs : List Value) : LtS bm bl (W.setCells g 0 cs) := h.chg (Chg.sets' (L := [g]) (List.mem_singleton.2 rfl) cs 0 (Chg.refl [g] W)) (by simpa using h1) (by simpa using h2)
set_option maxHeartbeats 4000000 in
theorem leaveTask_any (bl bm : Nat) (v : Value) (m : Mc) (w : World) (hl : w.cell? ⟨bl, 0, none⟩ = some (.pointer (some ⟨bm, 0, none⟩))) (hbm : bl ∉ [bm])
    (X : MAt w bm { m with cur := .int .i64 0, got := .slice none 0 0, wk := .int .i64 0, wv := .slice none 0 0, wt := .string ByteArray.empty }) :
    Calls Tryz.prog 95 #[.pointer (some ⟨bl, 0, none⟩), v] w fun e w' => e = endsIt ∧ Chg [bm] w w' ∧ MAt w' bm { m with cur := .int .i64 0, has := .bool false, got := .slice none 0 0, wk := .int .i64 0, wv := .slice none 0 0, wt := .string ByteArray.empty } := by
  have HX : Hid (MAt w bm { m with cur := .int .i64 0, got := .slice none 0 0, wk := .int .i64 0, wv := .slice none 0 0, wt := .string ByteArray.empty }) := X
  have p0 : LtS bm bl w := ⟨⟨X.cell 14, X.cell 15, X.cell 16⟩, hl⟩
  have p : LtS bm bl w.drew := ⟨⟨X.cell 14, X.cell 15, X.cell 16⟩, hl⟩
  have hlt := World.block_lt_of_cell? _ _ hl
  have hlm := X.lt
  have hn1 : bm ∉ [w.heap.size] := by simp; omega
  have hn2 : bl ∉ [w.heap.size] := by simp; exact Nat.ne_of_lt hlt
  have HL : Hid (w.cell? ⟨bl, 0, none⟩ = some (.pointer (some ⟨bm, 0, none⟩))) := hl
  clear X hl
  go_enter Tryz.func95, Tryz.ntmps95
  go_wp2_with fail
  go_region_held3 (fun W => (W.cell? ⟨bm, 14, none⟩ = some (.int .i64 0) ∧ W.cell? ⟨bm, 15, none⟩ = some (.slice none 0 0) ∧ W.cell? ⟨bm, 16, none⟩ = some (.string ByteArray.empty)) ∧ W.cell? ⟨bl, 0, none⟩ = some (.pointer (some ⟨bm, 0, none⟩))) (first | with_reducible exact p | with_reducible exact p.alloc _ | with_reducible exact p0.allocD _ | with_reducible exact p.chg ((((Chg.refl [w.heap.size] _).set (List.mem_singleton.2 rfl) _ _).set (List.mem_singleton.2 rfl) _ _).set (List.mem_singleton.2 rfl) _ _) hn1 hn2) (first | (go_at_call 102; refine (take_any bm { m with cur := .int .i64 0, wk := .int .i64 0, wv := .slice none 0 0, wt := .string ByteArray.empty } none 0 0 _ (by first | exact HX.out | exact HX.out.alloc _)).mono ?_; rintro e w1 ⟨rfl, C1, X1⟩; have HS1 : Hid (w.heap.size ≤ w1.heap.size) := (by have := C1.size; simp at this; show _ ≤ _; omega); have p : LtS bm bl w1 := ⟨⟨X1.cell 14, X1.cell 15, X1.cell 16⟩, (by first | exact C1.cell hbm HL.out | exact C1.cell hbm (ca HL.out _))⟩; try (have O1 : Hid (Blk w1 w.heap.size wyZ 79) := ((Blk.new w wyZ 79).later (Below.refl _ _).drew).chg C1 (by simp; omega); have ys := O1.out.cell; have yf := O1.out.frozen)))
  rotate_left
  · have o0 := O1.out.cell 0
    have o1 := O1.out.cell 1
    have o2 := O1.out.cell 2
    rw [setCell_id (v := .int .i64 0) o0, setCell_id (v := .slice none 0 0) o1, setCell_id (v := .string ByteArray.empty) o2]
    have D : Chg [bm] w w1 := ((Chg.refl [bm] w).below ((Below.refl _ _).alloc (Nat.le_refl _) _).drew).trans C1 (fun _ h => h)
    have XX : MAt w1 bm { m with cur := .int .i64 0, has := .bool false, got := .slice none 0 0, wk := .int .i64 0, wv := .slice none 0 0, wt := .string ByteArray.empty } := X1
    have BB : Blk w1 w.heap.size wyZ 79 := O1.out
    have ll := p.2
    clear o0 o1 o2 ys yf
    revert D XX BB ll
    clear O1
    obtain ⟨W, hW⟩ : ∃ z, z = w1 := ⟨_, rfl⟩
    rw [← hW]
    clear hW
    intro D XX BB ll
    have us := BB.cell
    have xs := XX.cell
    have xf := XX.frozen
    have hu : w.heap.size ∉ [bm] := by simpa using blk_ne BB XX (by decide)
    have C9 : Chg [bm] W (((W.setCell ⟨bm, 14, none⟩ (.int .i64 0)).setCell ⟨bm, 15, none⟩ (.slice none 0 0)).setCell ⟨bm, 16, none⟩ (.string ByteArray.empty)) := (((Chg.refl _ _).set (List.mem_singleton.2 rfl) _ _).set (List.mem_singleton.2 rfl) _ _).set (List.mem_singleton.2 rfl) _ _
    have X9 : MAt (((W.setCell ⟨bm, 14, none⟩ (.int .i64 0)).setCell ⟨bm, 15, none⟩ (.slice none 0 0)).setCell ⟨bm, 16, none⟩ (.string ByteArray.empty)) bm { m with cur := .int .i64 0, has := .bool false, got := .slice none 0 0, wk := .int .i64 0, wv := .slice none 0 0, wt := .string ByteArray.empty } := ((XX.set 14 _).set 15 _).set 16 _
    have U9 := (BB.chg C9 hu).cell
    have l9 := C9.cell hbm ll
    have x9 := X9.cell
    clear HX p p0 HL X1 C1 hn1 hn2
    go_wp2_with fail
    refine (endRun_any bl ByteArray.empty _).mono ?_
    rintro e w2 ⟨rfl, hw2⟩
    exact ⟨rfl, rfl, (D.trans C9 (fun _ h => h)).below hw2, X9.later hw2⟩
  · have D : Chg [bm] w (w1.alloc (.cells wyZ 79)) := (((Chg.refl [bm] w).below (Below.refl _ _).drew).trans C1 (fun _ h => h)).below ((Below.refl _ _).alloc (Nat.le_refl _) _)
    have XX : MAt (w1.alloc (.cells wyZ 79)) bm { m with cur := .int .i64 0, has := .bool false, got := .slice none 0 0, wk := .int .i64 0, wv := .slice none 0 0, wt := .string ByteArray.empty } := X1.alloc _
    have BB : Blk (w1.alloc (.cells wyZ 79)) w1.heap.size wyZ 79 := Blk.new w1 _ _
    have ll := (p.alloc (.cells wyZ 79)).2
    revert D XX BB ll
    obtain ⟨W, hW⟩ : ∃ z, z = w1.alloc (.cells wyZ 79) := ⟨_, rfl⟩
    rw [← hW]
    clear hW
    intro D XX BB ll
    have us := BB.cell
    have xs := XX.cell
    have xf := XX.frozen
    have hu : w1.heap.size ∉ [bm] := by simpa using blk_ne BB XX (by decide)
    have C9 : Chg [bm] W (((W.setCell ⟨bm, 14, none⟩ (.int .i64 0)).setCell ⟨bm, 15, none⟩ (.slice none 0 0)).setCell ⟨bm, 16, none⟩ (.string ByteArray.empty)) := (((Chg.refl _ _).set (List.mem_singleton.2 rfl) _ _).set (List.mem_singleton.2 rfl) _ _).set (List.mem_singleton.2 rfl) _ _
    have X9 : MAt (((W.setCell ⟨bm, 14, none⟩ (.int .i64 0)).setCell ⟨bm, 15, none⟩ (.slice none 0 0)).setCell ⟨bm, 16, none⟩ (.string ByteArray.empty)) bm { m with cur := .int .i64 0, has := .bool false, got := .slice none 0 0, wk := .int .i64 0, wv := .slice none 0 0, wt := .string ByteArray.empty } := ((XX.set 14 _).set 15 _).set 16 _
    have U9 := (BB.chg C9 hu).cell
    have l9 := C9.cell hbm ll
    have x9 := X9.cell
    clear HX p p0 HL X1 C1 hn1 hn2
    go_wp2_with fail
    refine (endRun_any bl ByteArray.empty _).mono ?_
    rintro e w2 ⟨rfl, hw2⟩
    exact ⟨rfl, rfl, (D.trans C9 (fun _ h => h)).below hw2, X9.later hw2⟩
set_option maxRecDepth 8000 in
set_option maxHeartbeats 2000000 in
theorem move_end (bl bm bt bts fc : Nat) (fo : Option Addr) (m : Mc) (t : Tc) (w : World) (hl : w.cell? ⟨bl, 0, none⟩ = some (.pointer (some ⟨bm, 0, none⟩))) (hbm : bl ∉ [bm])
    (X : MAt w bm { m with tasks := .slice (some ⟨bts, 0, none⟩) 1 1, cur := .int .i64 0, got := .slice none 0 0, wk := .int .i64 0, wv := .slice none 0 0, wt := .string ByteArray.empty }) (h : w.cell? ⟨bts, 0, none⟩ = some (.pointer (some ⟨bt, 0, none⟩)))
    (Y : TAt w bt { t with frames := .slice fo 0 fc }) :
    Calls Tryz.prog 24 #[.pointer (some ⟨bl, 0, none⟩)] w fun e w' => e = endsIt ∧ Chg [bm] w w' ∧ MAt w' bm { m with tasks := .slice (some ⟨bts, 0, none⟩) 1 1, cur := .int .i64 0, has := .bool false, got := .slice none 0 0, wk := .int .i64 0, wv := .slice none 0 0, wt := .string ByteArray.empty } := by
  go_enter Tryz.func24, Tryz.ntmps24
  go_wp2_with fail
  refine (running_any bm bt bts { m with got := .slice none 0 0, wk := .int .i64 0, wv := .slice none 0 0, wt := .string ByteArray.empty } _ X h).mono ?_
  rintro e w1 ⟨rfl, hw1⟩
  have Y1 := Y.later hw1
  have X1 := X.later hw1
  have ys := Y1.cell
  have l1 := cb hl hw1
  go_wp2_with fail
  refine (leaveTask_any bl bm _ { m with tasks := .slice (some ⟨bts, 0, none⟩) 1 1 } _ l1 hbm X1).mono ?_
  rintro e w2 ⟨rfl, C2, X2⟩
  exact ⟨rfl, rfl, ((Chg.refl [bm] w).below hw1).trans C2 (fun _ h => h), X2⟩
end Go.Proofs.YtgopdffmnikhdaaGreatDoor
namespace Go.Proofs.YtgopdffmnikhdaaGreatDoor
open Go.RowKit Go.Deep
attribute [local go_sem] run_store_float vi
theorem notDue (bm : Nat) (m : Mc) (p d : Int) (w : World) (h0 : 0 ≤ p) (h : p = 0 ∨ d < p) (X : MAt w bm { m with pace := .int .i64 p, due := .int .i64 d }) :
    Calls Tryz.prog 23 #[.pointer (some ⟨bm, 0, none⟩)] w fun e w' => e = .returned (.tuple #[]) ∧ Below w.heap.size w w' := by
  have xs := X.cell
  by_cases hp : 0 < p
  · have hd : ¬ (p ≤ d) := by omega
    go_enter Tryz.func23, Tryz.ntmps23
    go_wp2_with fail
    go_region
    go_wp2_with fail
    go_end0
    exact ⟨rfl, (Below.refl _ _).drew⟩
  · obtain rfl : p = 0 := by omega
    go_enter Tryz.func23, Tryz.ntmps23
    go_wp2_with fail
    go_region
    go_wp2_with fail
    go_end0
    exact ⟨rfl, (Below.refl _ _).drew⟩
theorem isDue (bm : Nat) (m : Mc) (p d : Int) (P : World → Prop) (w : World) (hp : 0 < p) (hd : p ≤ d) (X : MAt w bm { m with pace := .int .i64 p, due := .int .i64 d }) (HG : Hid (∀ W, Below w.heap.size w W → Calls Tryz.prog 18 #[.pointer (some ⟨bm, 0, none⟩)] W fun e w' => e = .returned (.tuple #[]) ∧ P w')) :
    Calls Tryz.prog 23 #[.pointer (some ⟨bm, 0, none⟩)] w fun e w' => e = .returned (.tuple #[]) ∧ P w' := by
  have xs := X.cell
  go_enter Tryz.func23, Tryz.ntmps23
  go_wp2_with fail
  go_region
  go_wp2_with fail
  refine (HG.out _ (Below.refl _ _).drew).mono ?_
  rintro e w1 ⟨rfl, hP⟩
  go_wp2_with fail
  go_end0
  exact ⟨rfl, hP⟩
theorem sleeps_any (bt : Nat) (t : Tc) (s : Int) (w : World) (Y : TAt w bt { t with state := .int .i64 s }) : Calls Tryz.prog 28 #[.pointer (some ⟨bt, 0, none⟩)] w fun e w' => e = .returned (.bool (decide (s = 0 ∨ s = 1))) ∧ w' = w := by
  have ys := Y.cell
  by_cases h0 : s = 0
  · subst h0
    go_enter Tryz.func28, Tryz.ntmps28
    go_wp2_with fail
    go_ret
    exact ⟨rfl, rfl⟩
  · have g0 : (s == 0) = false := by simpa using h0
    go_enter Tryz.func28, Tryz.ntmps28
    go_wp2_with fail
    go_ret
    exact ⟨ret_bool (by rw [Bool.eq_iff_iff]; simp [h0]), rfl⟩
end Go.Proofs.YtgopdffmnikhdaaGreatDoor
namespace Go.Proofs.YtgopdffmnikhdaaGreatDoor
open Go.RowKit Go.Deep
attribute [local go_sem] run_store_float vi
theorem eltI : Elt 55 3 (.int .i64 0) 1 8 := ⟨Tryz.underlying55, by kernel_rfl, rfl, by decide⟩
theorem owns_chg' {w w' : World} {v : Value} {n e lo : Nat} {xs : List Value} {L : List Nat} (h : w.ownsRow lo e 1 v n xs) (hc : Chg L w w') (hn : ∀ g, v.ownBlock = some g → g ∉ L) : w'.ownsRow lo e 1 v n xs := owns_other h fun k hk => hc.block k (hn k hk) (h.lt k hk).2
theorem row_ne' {w : World} {v : Value} {n e lo : Nat} {xs : List Value} {b : Nat} {arr : Array Value} {t : TypeId} (h : w.ownsRow lo e 1 v n xs) (X : Blk w b arr t) (ht : e ≠ t) : ∀ g, v.ownBlock = some g → g ≠ b := fun g hg => by
  rcases owns_parts h with ⟨rfl, _, _⟩ | ⟨g', c, rfl, _, h3, _, _⟩
  · simp [Value.ownBlock] at hg
  · simp [Value.ownBlock] at hg
    subst hg
    exact own_blk_ne h3 X ht
abbrev iv (x : Nat) : Value := .int .i64 x
set_option maxHeartbeats 2000000 in
theorem heapPush_any (bm j i lo : Nat) (fv : Value) (ys : List Nat) (m : Mc) (w : World) (hj : j ≤ 1000000) (hlo : lo ≤ w.heap.size) (hy : ∀ y ∈ ys, y < i) (X : MAt w bm { m with free := fv }) (hR : w.ownsRow lo 3 1 fv j (ys.map iv)) :
    Calls Tryz.prog 111 #[.pointer (some ⟨bm, 6, none⟩), .int .i64 i] w fun e w' => ∃ v', e = .returned (.tuple #[]) ∧ Chg (bm :: fv.ownBlock.toList) w w' ∧ MAt w' bm { m with free := v' } ∧ w'.ownsRow lo 3 1 v' (j + 1) ((ys ++ [i]).map iv) := by
  obtain ⟨so, sc, rfl⟩ := owns_slice hR
  have hyl : ys.length = j := by have := hR.1; simpa using this
  have hbm := X.lt
  have HR : Hid (w.ownsRow lo 3 1 (.slice so j sc) j (ys.map iv)) := hR
  have HX : Hid (MAt w bm { m with free := .slice so j sc }) := X
  have x := X.cell
  have xa := fun o => (X.alloc o).cell
  clear hR X
  go_enter Tryz.func111, Tryz.ntmps111
  go_wp2_with (at_builtin; refine app_one eltI rfl _ _ rfl lo _ j _ [.int .i64 i] w.heap.size rfl (owns_below HR.out ((Below.refl _ _).alloc (Nat.le_refl _) _)) rfl ?qc0 rfl ?qc1 ?qc2 (by decide) (Nat.le_trans hlo (Nat.le_of_lt (by simp))) ?_)
  case qc0 => exact fun k v hv => by rw [Nat.zero_add, (Blk.new w #[.int .i64 i] 3).cell]; simpa using hv
  case qc1 => simp [Value.oneCell']
  case qc2 => omega
  intro v' w3 ho3 hg3 _
  have hne := row_ne' HR.out HX.out (by decide)
  have B1 : ∀ o, Below w.heap.size w (w.alloc o) := fun o => (Below.refl _ _).alloc (Nat.le_refl _) o
  have C3 : Chg (bm :: (Value.slice so j sc).ownBlock.toList) w w3 := ((Chg.refl _ _).below (B1 _)).trans (Chg.grown (L := (Value.slice so j sc).ownBlock.toList) hg3 (fun k hk => by rw [hk]; simp)) (fun b hb => List.mem_cons_of_mem _ hb)
  have X3 : MAt w3 bm _ := (HX.out.alloc _).chg (Chg.grown (L := (Value.slice so j sc).ownBlock.toList) hg3 (fun k hk => by rw [hk]; simp)) (fun hb => by
    cases hq : (Value.slice so j sc).ownBlock with
    | none => rw [hq] at hb; simp at hb
    | some g => rw [hq] at hb; simp at hb; exact hne g hq hb.symm)
  obtain ⟨so', sc', rfl⟩ := owns_slice ho3
  obtain ⟨g, rfl⟩ : ∃ g, so' = some ⟨g, 0, none⟩ := by
    rcases owns_parts ho3 with ⟨_, h0, _⟩ | ⟨g, c, he, _⟩
    · omega
    · injection he with he; exact ⟨g, he⟩
  have hne3 := row_ne' ho3 X3 (by decide)
  have ho4 : w3.ownsRow lo 3 1 (.slice (some ⟨g, 0, none⟩) (j + 1) sc') (j + 1) ((ys ++ [i]).map iv) := by simpa using ho3
  have HO3 : Hid (w3.ownsRow lo 3 1 (.slice (some ⟨g, 0, none⟩) (j + 1) sc') (j + 1) ((ys ++ [i]).map iv)) := ho4
  have hgm : g ∉ [bm] := by simpa using hne3 g rfl
  have C4 : Chg [bm] w3 (w3.setCell ⟨bm, 6, none⟩ (.slice (some ⟨g, 0, none⟩) (j + 1) sc')) := (Chg.refl _ _).set (by simp) _ _
  have HO4 : Hid ((w3.setCell ⟨bm, 6, none⟩ (.slice (some ⟨g, 0, none⟩) (j + 1) sc')).ownsRow lo 3 1 (.slice (some ⟨g, 0, none⟩) (j + 1) sc') (j + 1) ((ys ++ [i]).map iv)) := owns_chg' HO3.out C4 (fun k hk => by simpa using hne3 k hk)
  have hlast := owns_cell (j := j) (u := .int .i64 i) HO4.out (by simp [hyl])
  obtain ⟨q, hq⟩ : ∃ q : Nat, q = if j = 0 then 0 else (j - 1) / 2 := ⟨_, rfl⟩
  obtain ⟨z, hz, hzi⟩ : ∃ z : Nat, (w3.setCell ⟨bm, 6, none⟩ (.slice (some ⟨g, 0, none⟩) (j + 1) sc')).cell? ⟨g, q, none⟩ = some (.int .i64 z) ∧ i ≥ z := by
    by_cases h0 : j = 0
    · subst h0
      simp at hq
      subst hq
      exact ⟨i, hlast, by omega⟩
    · have hql : q < ys.length := by rw [hq, if_neg h0]; omega
      refine ⟨ys[q], owns_cell HO4.out (by rw [List.getElem?_map, List.getElem?_append_left hql, List.getElem?_eq_getElem hql]; rfl), ?_⟩
      have := hy _ (List.getElem_mem hql)
      omega
  have hq1 : (q : Int) < j + 1 := by split at hq <;> omega
  have hq0 : (0 : Int) ≤ q := by omega
  have HC3 : Hid (Chg (bm :: (Value.slice so j sc).ownBlock.toList) w w3) := C3
  have HX3 : Hid (MAt w3 bm { m with free := .slice so j sc }) := X3
  have x3 := X3.cell
  have f3 := X3.frozen
  have x4 := (X3.set 6 (.slice (some ⟨g, 0, none⟩) (j + 1) sc')).cell
  have e1 : IntKind.i64.wrap ((j : Int) + 1 - 1) = j := by rw [wr (by omega) (by omega)]; omega
  have e2 : IntKind.i64.wrap (((j + 1 : Nat) : Int) - 1) = j := by rw [wr (by omega) (by omega)]; omega
  have e3 : IntKind.i64.wrap ((j : Int) - 1) = j - 1 := by rw [wr (by omega) (by omega)]
  have e4 : IntKind.i64.wrap (((j : Int) - 1).tdiv 2) = q := by
    by_cases h0 : j = 0
    · subst h0; simp at hq; subst hq; decide
    · rw [if_neg h0] at hq
      have : ((j : Int) - 1).tdiv 2 = q := by rw [Int.tdiv_eq_ediv_of_nonneg (by omega)]; omega
      rw [this]; exact wr (by omega) (by omega)
  have hzl : ¬ ((i : Int) < z) := by omega
  have HQ : Hid (q = if j = 0 then 0 else (j - 1) / 2) := hq
  clear ho3 ho4 C3 X3 hg3 x xa HR HX hne hq
  go_wp2_with fail
  refine wp_loop_rounds 1 ?_
  rw [rounds_succ]
  go_wp2_with fail
  go_region
  go_wp2_with fail
  go_end0
  exact ⟨.slice (some ⟨g, 0, none⟩) (j + 1) sc', rfl, (HC3.out.set (by simp) _ _).below (Below.refl _ _).drew, (HX3.out.set 6 _).later (Below.refl _ _).drew, owns_below HO4.out (Below.refl _ _).drew⟩
end Go.Proofs.YtgopdffmnikhdaaGreatDoor
namespace Go.Proofs.YtgopdffmnikhdaaGreatDoor
open Go.RowKit Go.Deep
attribute [local go_sem] run_store_float vi
theorem wq {x : Int} (h1 : -9000000000000000000 ≤ x) (h2 : x ≤ 9000000000000000000) : IntKind.i64.wrap x = x := wr h1 h2
set_option maxHeartbeats 4000000 in
theorem keepSlots_any (bm L p g sc : Nat) (a : Addr) (xs : List Value) (m : Mc) (w : World) (hL : L ≤ 1000000) (hp : p < L) (hxp : xs[p]? = some (.pointer (some a))) (hx : ∀ i, i < L → i ≠ p → xs[i]? = some (.pointer none)) (X : MAt w bm m) (hR : w.ownsRow 0 94 1 (.slice (some ⟨g, 0, none⟩) L sc) L xs) :
    Calls Tryz.prog 27 #[.pointer (some ⟨bm, 0, none⟩), .slice (some ⟨g, 0, none⟩) L sc] w fun e w' => ∃ fv, e = .returned (.tuple #[]) ∧ Chg [bm] w w' ∧ MAt w' bm { m with slots := .slice (some ⟨g, 0, none⟩) (p + 1) sc, free := fv } ∧ w'.ownsRow w.heap.size 3 1 fv p ((List.range p).map iv) := by
  have HX : Hid (MAt w bm m) := X
  have HR : Hid (w.ownsRow 0 94 1 (.slice (some ⟨g, 0, none⟩) L sc) L xs) := hR
  have hgm : g ∉ [bm] := by simpa using row_ne hR X (by decide) g rfl
  have hcap : L ≤ sc := by
    rcases owns_parts hR with ⟨h, _, _⟩ | ⟨g', c, h, _, _, h5, _⟩
    · cases h
    · injection h with _ _ h; omega
  clear X hR
  go_enter Tryz.func27, Tryz.ntmps27
  go_wp2_with fail
  go_loopw [1] (fun x wr => ∃ k : Nat, p < k ∧ k ≤ L ∧ x = .slice (some ⟨g, 0, none⟩) k sc ∧ w = wr) (fun x _ => match x with | .slice _ k _ => k | _ => 0)
  case atStart => exact ⟨L, hp, Nat.le_refl _, rfl, rfl⟩
  case round =>
    obtain ⟨k, hk1, hk2, rfl, rfl⟩ := hrel
    have k0 : (0 : Int) < k := by omega
    have e1 : IntKind.i64.wrap ((k : Int) - 1) = (k - 1 : Nat) := by rw [wq (by omega) (by omega)]; omega
    have b0 : (0 : Int) ≤ (k - 1 : Nat) := by omega
    have b1 : ((k - 1 : Nat) : Int) < k := by omega
    by_cases hkp : k = p + 1
    · have hc := owns_cell (j := p) HR.out (u := .pointer (some a)) hxp
      have x := HX.out.cell
      have f := HX.out.frozen
      subst hkp
      have C0 : Chg [bm] w ((w.setCell ⟨bm, 5, none⟩ (.slice (some ⟨g, 0, none⟩) (p + 1) sc)).setCell ⟨bm, 6, none⟩ (.slice none 0 0)) := ((Chg.refl _ _).set (by simp) _ _).set (by simp) _ _
      have X0 : MAt ((w.setCell ⟨bm, 5, none⟩ (.slice (some ⟨g, 0, none⟩) (p + 1) sc)).setCell ⟨bm, 6, none⟩ (.slice none 0 0)) bm { m with slots := .slice (some ⟨g, 0, none⟩) (p + 1) sc, free := .slice none 0 0 } := (HX.out.set 5 _).set 6 _
      have HC0 : Hid (Chg [bm] w ((w.setCell ⟨bm, 5, none⟩ (.slice (some ⟨g, 0, none⟩) (p + 1) sc)).setCell ⟨bm, 6, none⟩ (.slice none 0 0))) := C0
      have HX0 : Hid (MAt ((w.setCell ⟨bm, 5, none⟩ (.slice (some ⟨g, 0, none⟩) (p + 1) sc)).setCell ⟨bm, 6, none⟩ (.slice none 0 0)) bm { m with slots := .slice (some ⟨g, 0, none⟩) (p + 1) sc, free := .slice none 0 0 }) := X0
      have HW : Hid (∀ i : Nat, i ≤ 1000000 → IntKind.i64.wrap ((i : Int) + 1) = ((i + 1 : Nat) : Int)) := fun i hi => by rw [wq (by omega) (by omega)]; omega
      clear C0 X0
      go_wp2_with fail
      go_loopw [33] (fun y ws => ∃ (i : Nat) (fv : Value), i ≤ p + 1 ∧ y = .int .i64 i ∧ Hid (Chg [bm] w ws ∧ MAt ws bm { m with slots := .slice (some ⟨g, 0, none⟩) (p + 1) sc, free := fv } ∧ ws.ownsRow w.heap.size 3 1 fv (min i p) ((List.range (min i p)).map iv))) (fun y _ => p + 1 - (intOf y).toNat)
      case atStart => exact ⟨0, .slice none 0 0, by omega, rfl, HC0.out, HX0.out, by simp [World.ownsRow]⟩
      case round =>
        obtain ⟨i, fv, hi, rfl, HS⟩ := hrel
        obtain ⟨hC, hX, hF⟩ := HS.out
        have hR2 := owns_chg HR.out hC (fun k hk => by simp [Value.ownBlock] at hk; subst hk; exact hgm)
        have HX2 : Hid (MAt wr bm { m with slots := .slice (some ⟨g, 0, none⟩) (p + 1) sc, free := fv }) := hX
        have HC2 : Hid (Chg [bm] w wr) := hC
        have HF2 : Hid (wr.ownsRow w.heap.size 3 1 fv (min i p) ((List.range (min i p)).map iv)) := hF
        have hsz := hC.size
        have i0 : (0 : Int) ≤ i := by omega
        have ew := HW.out i (by omega)
        clear hC hX hF HS
        obtain hi1 | hi2 | hi3 : i = p + 1 ∨ i = p ∨ i < p := by omega
        · subst hi1
          clear hR2
          go_wp2_with fail
          go_end0
          exact ⟨fv, rfl, HC2.out, HX2.out, by have h := HF2.out; rwa [Nat.min_eq_right (by omega)] at h⟩
        · subst hi2
          have hc2 := owns_cell (j := i) hR2 (u := .pointer (some a)) hxp
          have i1 : (i : Int) < i + 1 := by omega
          clear hR2
          go_wp2_with fail
          go_roundw
          case rel => exact ⟨i + 1, fv, by omega, by go_num, HC2.out, HX2.out, by have h := HF2.out; rw [Nat.min_eq_right (by omega)] at h ⊢; exact h⟩
          case measure => simp [intOf]
        · have hc2 := owns_cell (j := i) hR2 (u := .pointer none) (hx i (by omega) (by omega))
          have i1 : (i : Int) < p + 1 := by omega
          clear hR2
          go_wp2_with fail
          refine (heapPush_any bm i i w.heap.size fv (List.range i) { m with slots := .slice (some ⟨g, 0, none⟩) (p + 1) sc } _ (by omega) hsz (fun y hy => List.mem_range.1 hy) HX2.out (by have h := HF2.out; rwa [Nat.min_eq_left (by omega)] at h)).mono ?_
          rintro e w2 ⟨v2, rfl, hC3, hX3, hF3⟩
          have hC4 : Chg [bm] w w2 := by
            refine ⟨hC3.os.trans HC2.out.os, hC3.tape.trans HC2.out.tape, hC3.output.trans HC2.out.output, Nat.le_trans hsz hC3.size, fun b hb hl => (hC3.block b (fun hm => ?_) (Nat.lt_of_lt_of_le hl hsz)).trans (HC2.out.block b hb hl)⟩
            rcases List.mem_cons.1 hm with h | h
            · exact hb (by simp [h])
            · have := (HF2.out.lt b (by simpa using h)).1
              omega
          go_wp2_with fail
          go_roundw
          case rel => exact ⟨i + 1, v2, by omega, by go_num, hC4, hX3, by rw [Nat.min_eq_left (by omega), List.range_succ]; exact hF3⟩
          case measure => simp [intOf]; omega
    · have hc := owns_cell (j := k - 1) HR.out (u := .pointer none) (hx _ (by omega) (by omega))
      have ks : k - 1 ≤ sc := by omega
      go_wp2_with fail
      go_roundw
      case rel => exact ⟨k - 1, by omega, by omega, by simp, trivial⟩
      case measure => simp; omega
end Go.Proofs.YtgopdffmnikhdaaGreatDoor
namespace Go.Proofs.YtgopdffmnikhdaaGreatDoor
open Go.RowKit Go.Deep
def RgD (ops:Array Oper) (d:Array Bool) (k:Nat) (Q:Exit→Act→World→Prop) (S:World→Prop) (a:Act) (w:World):Prop:=wpAnyH Tryz.prog .any ops (NoPanic Q) S k d a w
section
variable {ops : Array Oper} {rest : List Oper} {Q : Exit → Act → World → Prop} {S : World → Prop} {a : Act} {w : World} {oi oj : Oper} {d : Array Bool} {k i j : Nat}
theorem rgD (h:RgD ops (lst ops.size (ops.size - rest.length)) rest.length Q S a w):Rgn ops rest Q S a w:=fun _ _=>h
theorem tkD (i:Nat) (h1:ops[i]?=some oi) (hc:(Region.noSelect ops && Region.free .any ops d i && (Region.ready .any ops d).contains i)=true) (hw:Region.wanted oi (yielded ops a.tmps)=true) (hS:S w)
  (h:∃v,(∀w,S w→(execOp a.eval oi).run Tryz.prog w=.ok (.value v) w)∧RgD ops (d.setIfInBounds i true) k Q S (a.put oi.dst v) w):RgD ops d (k+1) Q S a w:=by
 obtain⟨v,hy,h⟩:=h
 simp only [Bool.and_eq_true] at hc
 exact wpAnyH_take h1 hc.1.1 hc.1.2 hc.2 (fun _ _ _ h=>h) (.inl ⟨hw,hy⟩) hS h
theorem doD (i:Nat) (h1:ops[i]?=some oi) (hr:Region.ready .any ops d=[i]) (hw:Region.wanted oi (yielded ops a.tmps)=true)
  (h:∀K:Act→World→Prop,Shut (∀a w,S w→(S w→RgD ops (d.setIfInBounds i true) k Q S a w)→K a w)→Oper.wp Tryz.prog oi a w K (NoPanic Q)):RgD ops d (k+1) Q S a w:=by
 refine wpAnyH_ready hr (by simp) (AllReadyH.cons h1 (fun K hK=>?_) AllReadyH.nil)
 rw [if_pos hw]
 exact h K hK
theorem doD2 (i j:Nat) (h1:ops[i]?=some oi) (h2:ops[j]?=some oj) (hr:Region.ready .any ops d=[i,j]) (hw:Region.wanted oi (yielded ops a.tmps)=true) (hw2:Region.wanted oj (yielded ops a.tmps)=true)
  (h:∀K:Act→World→Prop,Shut (∀a w,S w→(S w→RgD ops (d.setIfInBounds i true) k Q S a w)→K a w)→Oper.wp Tryz.prog oi a w K (NoPanic Q))
  (g:∀K:Act→World→Prop,Shut (∀a w,S w→(S w→RgD ops (d.setIfInBounds j true) k Q S a w)→K a w)→Oper.wp Tryz.prog oj a w K (NoPanic Q)):RgD ops d (k+1) Q S a w:=by
 refine wpAnyH_ready hr (by simp) (AllReadyH.cons h1 (fun K hK=>?_) (AllReadyH.cons h2 (fun K hK=>?_) AllReadyH.nil))
 ·rw [if_pos hw]
  exact h K hK
 ·rw [if_pos hw2]
  exact g K hK
theorem enDD (hr:Region.ready .any ops d=[]) (h:NoPanic Q .normal a w):RgD ops d k Q S a w:=wpAnyH_done hr h _
end
def mkd (n:Nat) (l:List Nat):Array Bool:=((List.range n).map fun i=>!l.contains i).toArray
theorem mkd_get (n:Nat) (l:List Nat) (i:Nat):(mkd n l)[i]?=if i<n then some (!l.contains i) else none:=by
 unfold mkd
 by_cases h:i<n <;> simp [h]
theorem mkd_take {n i:Nat} {l:List Nat} (hl:l.contains i=false):(mkd n (i::l)).setIfInBounds i true=mkd n l:=by
 apply Array.ext_getElem?
 intro j
 rw [Array.getElem?_setIfInBounds,mkd_get,mkd_get]
 by_cases e:i=j
 ·subst e
  by_cases hi:i<n
  ·simp only [hi,if_true,mkd,List.size_toArray,List.length_map,List.length_range,hl,Bool.not_false]
  ·simp [hi,mkd]
 ·rw [if_neg e]
  simp [Ne.symm e]
theorem mkd_perm {n:Nat} {l m:List Nat} (h:∀i,l.contains i=m.contains i):mkd n l=mkd n m:=by
 unfold mkd;simp only [h]
def Rgm (ops:Array Oper) (l:List Nat) (Q:Exit→Act→World→Prop) (S:World→Prop) (a:Act) (w:World):Prop:=RgD ops (mkd ops.size l) l.length Q S a w
section
variable {id : Nat} {ops : Array Oper} {l : List Nat} {Q : Exit → Act → World → Prop} {S : World → Prop} {a : Act} {w : World} {oi oj : Oper} {i j : Nat}
theorem rgM {k:List Oper} (S:World→Prop) (hS:S w.drew) (h:S w.drew→Rgm k.toArray (List.range k.length) Q S a w.drew):(Code.region id k.toArray true).wp Tryz.prog Q a w:=by
 refine rgN S hS fun hS=>rgD ?_
 have h:=h hS
 unfold Rgm at h
 have e:mkd k.toArray.size (List.range k.length)=lst k.toArray.size (k.toArray.size - k.length):=by
  unfold mkd lst
  congr 1
  simp
  apply List.ext_getElem?
  intro j
  by_cases hj:j<k.length
  ·simp [hj]
  ·simp [hj]
 rw [e,List.length_range] at h
 exact h
theorem tkM (h1:ops[i]?=some oi) (hc:(Region.noSelect ops && Region.free .any ops (mkd ops.size (i::l)) i && (Region.ready .any ops (mkd ops.size (i::l))).contains i && !l.contains i)=true) (hw:Region.wanted oi (yielded ops a.tmps)=true) (hS:S w)
  (h:∃v,(∀w,S w→(execOp a.eval oi).run Tryz.prog w=.ok (.value v) w)∧Rgm ops l Q S (a.put oi.dst v) w):Rgm ops (i::l) Q S a w:=by
 simp only [Bool.and_eq_true] at hc
 obtain⟨v,hy,h⟩:=h
 refine tkD i h1 (by simp only [Bool.and_eq_true];exact hc.1) hw hS ⟨v,hy,?_⟩
 rw [mkd_take (by simpa using hc.2)]
 exact h
theorem rotM (h:Rgm ops (l ++ [i]) Q S a w):Rgm ops (i::l) Q S a w:=by
 unfold Rgm at *
 rw [mkd_perm (m:=l ++ [i]) (fun j=>by simp [Bool.or_comm]),List.length_cons]
 simpa using h
theorem doM (h1:ops[i]?=some oi) (hr:(Region.ready .any ops (mkd ops.size (i::l)) == [i] && !l.contains i)=true) (hw:Region.wanted oi (yielded ops a.tmps)=true)
  (h:∀K:Act→World→Prop,Shut (∀a w,S w→(S w→Rgm ops l Q S a w)→K a w)→Oper.wp Tryz.prog oi a w K (NoPanic Q)):Rgm ops (i::l) Q S a w:=by
 simp only [Bool.and_eq_true,beq_iff_eq] at hr
 refine doD i h1 hr.1 hw fun K hK=>h K fun a w hS hR=>hK.out a w hS fun hS=>?_
 rw [mkd_take (by simpa using hr.2)]
 exact hR hS
theorem doM2 (h1:ops[i]?=some oi) (h2:ops[j]?=some oj) (hr:((Region.ready .any ops (mkd ops.size (i::j::l)) == [i,j] || Region.ready .any ops (mkd ops.size (i::j::l)) == [j,i]) && !(j::l).contains i && !l.contains j)=true) (hw:Region.wanted oi (yielded ops a.tmps)=true) (hw2:Region.wanted oj (yielded ops a.tmps)=true)
  (h:∀K:Act→World→Prop,Shut (∀a w,S w→(S w→Rgm ops (j::l) Q S a w)→K a w)→Oper.wp Tryz.prog oi a w K (NoPanic Q))
  (g:∀K:Act→World→Prop,Shut (∀a w,S w→(S w→Rgm ops (i::l) Q S a w)→K a w)→Oper.wp Tryz.prog oj a w K (NoPanic Q)):Rgm ops (i::j::l) Q S a w:=by
 simp only [Bool.and_eq_true,Bool.or_eq_true,beq_iff_eq,Bool.not_eq_true'] at hr
 have h':∀K:Act→World→Prop,Shut (∀a w,S w→(S w→RgD ops ((mkd ops.size (i::j::l)).setIfInBounds i true) (l.length+1) Q S a w)→K a w)→Oper.wp Tryz.prog oi a w K (NoPanic Q):=fun K hK=>h K fun a w hS hR=>hK.out a w hS fun hS=>by
  rw [mkd_take hr.1.2];exact hR hS
 have hij:∀x,(i::j::l).contains x=(j::i::l).contains x:=fun x=>by simp [Bool.or_left_comm]
 have hi:(i::l).contains j=false:=by
  have h3:=hr.1.2
  have h4:=hr.2
  simp at h3 h4 ⊢
  exact⟨fun e=>h3.1 e.symm,h4⟩
 have g':∀K:Act→World→Prop,Shut (∀a w,S w→(S w→RgD ops ((mkd ops.size (i::j::l)).setIfInBounds j true) (l.length+1) Q S a w)→K a w)→Oper.wp Tryz.prog oj a w K (NoPanic Q):=fun K hK=>g K fun a w hS hR=>hK.out a w hS fun hS=>by
  rw [mkd_perm hij,mkd_take hi];exact hR hS
 rcases hr.1.1 with e | e
 ·exact doD2 i j h1 h2 e hw hw2 h' g'
 ·exact doD2 j i h2 h1 e hw2 hw g' h'
theorem permM (m:List Nat) (hp:(l.length == m.length && l.all m.contains && m.all l.contains)=true) (h:Rgm ops m Q S a w):Rgm ops l Q S a w:=by
 simp only [Bool.and_eq_true,beq_iff_eq,List.all_eq_true] at hp
 unfold Rgm at *
 rw [hp.1.1,mkd_perm (m:=m) (fun i=>?_)]
 ·exact h
 ·rw [Bool.eq_iff_iff]
  exact⟨fun h=>hp.1.2 i (by simpa using h),fun h=>hp.2 i (by simpa using h)⟩
theorem enM (hr:Region.ready .any ops (mkd ops.size [])=[]) (h:NoPanic Q .normal a w):Rgm ops [] Q S a w:=enDD hr h
end
attribute [local go_sem] run_store_float vi
theorem nameVal_small (bn : Nat) (k x r : Int) (f : Nat) (s : ByteArray) (w : World) (hk : k < 5) : Calls Tryz.prog 187 #[.pointer (some ⟨bn, 0, none⟩), .agg #[.int .i64 k, .int .i64 x, .float .f64 f, .string s, .int .i64 r]] w fun e w' => e = .returned (.tuple #[]) ∧ Below w.heap.size w w' := by
  have B0 : ∀ o, Below w.heap.size w (w.alloc o) := fun _ => (Below.refl _ _).alloc (Nat.le_refl _) _
  have h5 : (k == 5) = false := by rw [beq_eq_false_iff_ne]; omega
  have h6 : (k == 6) = false := by rw [beq_eq_false_iff_ne]; omega
  have h7 : (k == 7) = false := by rw [beq_eq_false_iff_ne]; omega
  go_enter Tryz.func187, Tryz.ntmps187
  go_wp2_with fail
  go_end0
  exact ⟨rfl, B0 _⟩
theorem nameVals_nil (bn : Nat) (w : World) : Calls Tryz.prog 184 #[.pointer (some ⟨bn, 0, none⟩), .slice none 0 0] w fun e w' => e = .returned (.tuple #[]) ∧ w' = w := by
  go_enter Tryz.func184, Tryz.ntmps184
  go_wp2_with fail
  refine wp_loop_rounds 1 ?_
  rw [rounds_succ]
  go_wp2_with fail
  go_end0
  exact ⟨rfl, rfl⟩
theorem nameSlot_nil (bn : Nat) (w : World) : Calls Tryz.prog 186 #[.pointer (some ⟨bn, 0, none⟩), .pointer none] w fun e w' => e = .returned (.tuple #[]) ∧ w' = w := by
  go_enter Tryz.func186, Tryz.ntmps186
  go_wp2_with fail
  go_end0
  exact ⟨rfl, rfl⟩
theorem nameReg_int (bn : Nat) (x : Int) (w : World) : Calls Tryz.prog 292 #[.pointer (some ⟨bn, 0, none⟩), .agg #[.int .i64 1, .int .i64 2, .int .i64 x, .float .f64 0, .string ByteArray.empty, .int .i64 0, .pointer none, .slice none 0 0]] w fun e w' => e = .returned (.tuple #[]) ∧ Below w.heap.size w w' := by
  have B0 : ∀ o, Below w.heap.size w (w.alloc o) := fun _ => (Below.refl _ _).alloc (Nat.le_refl _) _
  go_enter Tryz.func292, Tryz.ntmps292
  go_wp2_with fail
  refine (nameVal_small bn 2 x 0 0 ByteArray.empty _ (by decide)).mono ?_
  rintro e w1 ⟨rfl, hw1⟩
  go_wp2_with fail
  go_end0
  exact ⟨rfl, bl2 (B0 _) hw1⟩
theorem nameReg_none (bn : Nat) (w : World) : Calls Tryz.prog 292 #[.pointer (some ⟨bn, 0, none⟩), .agg #[.int .i64 0, .int .i64 0, .int .i64 0, .float .f64 0, .string ByteArray.empty, .int .i64 0, .pointer none, .slice none 0 0]] w fun e w' => e = .returned (.tuple #[]) ∧ Below w.heap.size w w' := by
  have B0 : ∀ o, Below w.heap.size w (w.alloc o) := fun _ => (Below.refl _ _).alloc (Nat.le_refl _) _
  go_enter Tryz.func292, Tryz.ntmps292
  go_wp2_with fail
  go_end0
  exact ⟨rfl, B0 _⟩
theorem thingOf_tab (p : Int) (w : World) : Calls Tryz.prog 231 #[.agg #[.int .i64 5, .int .i64 0, .float .f64 0, .string ByteArray.empty, .int .i64 p]] w fun e w' => e = .returned (.agg #[.bool false, .int .i64 p]) ∧ Below w.heap.size w w' := by
  have B0 : ∀ o, Below w.heap.size w (w.alloc o) := fun _ => (Below.refl _ _).alloc (Nat.le_refl _) _
  go_enter Tryz.func231, Tryz.ntmps231
  go_wp2_with fail
  exact bodyPost_ret (v := .agg #[.bool false, .int .i64 p]) (by simp [results, Tryz.results231, go_sem]) rfl ⟨rfl, bl2 (B0 _) ((Below.refl _ _).alloc (Nat.le_refl _) _)⟩
theorem eltT : Elt 134 92 (.agg #[.bool false, .int .i64 0]) 2 16 := ⟨Tryz.underlying134, by kernel_rfl, rfl, by decide⟩
theorem opApp {o : Oper} {a : Act} {w : World} {t e : TypeId} {z : Value} {size bytes : Nat} {K : Act → World → Prop} {Q : Exit → Act → World → Prop} (I : Elt t e z size bytes) (s x : Operand) (ho : o.op = .call { callee := .builtin .append, args := #[s, x], argTypes := #[t, t] })
    (base : Nat) (v : Value) (n : Nat) (xs news : List Value) (B : Nat) (hs : a.eval s = v) (hown : w.ownsRow base e size v n xs) (hx : a.eval x = .slice (some ⟨B, 0, none⟩) 1 1) (hB : CRow w B 0 news) (hl : news.length = size) (h1 : ∀ u ∈ news, u.oneCell' = true)
    (hn : n ≤ 1048576) (hby : bytes ≤ 1024) (hbase : base ≤ w.heap.size)
    (h : ∀ v' w', w'.ownsRow base e size v' (n + 1) (xs ++ news) → w.grownBy w' v.ownBlock → (v'.ownBlock = v.ownBlock ∨ v'.ownBlock = some w.heap.size) → K (a.put o.dst v') w') : Oper.wp Tryz.prog o a w K Q := by
  obtain ⟨i0, hi, hz0, hz1, hz2⟩ := info_parts I.hi
  have hby2 : (n + 1) * bytes ≤ 1048577 * 1024 := Nat.mul_le_mul (by omega) hby
  obtain ⟨v', w', hr, h2, h3, h4, h5⟩ := run_append_own_at (P := Tryz.prog) w base t o.type e i0 z size bytes I.ht hi hz0 hz1 hz2 I.hz I.h0 v n xs hown ⟨B, 0, none⟩ 1 1 news (by omega) hB.news h1 (by unfold maxLen; omega) (by omega) hbase
  unfold Oper.wp execOp
  simp only [ho, resolve, invoke, builtin, Sem.run_bind, Sem.run_pure, Result.andThen_ok, List.map_toArray, List.map_cons, List.map_nil, hs, hx, hr]
  exact h v' w' h2 h3 h5
theorem row_ne2 {w : World} {v : Value} {n e lo size : Nat} {xs : List Value} {b : Nat} {arr : Array Value} {t : TypeId} (h : w.ownsRow lo e size v n xs) (X : Blk w b arr t) (ht : e ≠ t) : b ∉ v.ownBlock.toList := fun hb => by
  rcases owns_parts h with ⟨rfl, _, _⟩ | ⟨g', c, rfl, _, h3, _, _⟩
  · simp [Value.ownBlock] at hb
  · simp [Value.ownBlock] at hb
    exact own_blk_ne h3 X ht hb.symm
theorem blo {L : List Nat} {lo : Nat} {w w' w'' : World} (h : Below lo w w') (hc : Chg L w' w'') (hl : ∀ b ∈ L, lo ≤ b) (hs : lo ≤ w.heap.size) : Below lo w w'' :=
  { os := hc.os.trans h.os, tape := hc.tape.trans h.tape, output := hc.output.trans h.output, size := Nat.le_trans h.size hc.size, block := fun b hb => (hc.block b (fun e => by have := hl b e; omega) (Nat.lt_of_lt_of_le (Nat.lt_of_lt_of_le hb hs) h.size)).trans (h.block b hb) }
theorem row_lo {w : World} {v : Value} {n e lo size : Nat} {xs : List Value} (h : w.ownsRow lo e size v n xs) : ∀ b ∈ v.ownBlock.toList, lo ≤ b := fun b hb => (h.lt b (by simpa using hb)).1
/-- A list of things, in a variable. -/
structure NAt (w : World) (lo bn : Nat) (n : Nat) (xs : List Value) : Prop where
  v : ∃ v, Blk w bn #[v] 134 ∧ w.ownsRow lo 92 2 v n xs
set_option maxRecDepth 8000 in
set_option maxHeartbeats 4000000 in
theorem nameVal_tab (bn lo n : Nat) (p : Int) (xs : List Value) (w : World) (hn : n ≤ 1000) (hlo : lo ≤ w.heap.size) (hlb : lo ≤ bn) (N : NAt w lo bn n xs) : Calls Tryz.prog 187 #[.pointer (some ⟨bn, 0, none⟩), .agg #[.int .i64 5, .int .i64 0, .float .f64 0, .string ByteArray.empty, .int .i64 p]] w fun e w' => e = .returned (.tuple #[]) ∧ NAt w' lo bn (n + 1) (xs ++ [.bool false, .int .i64 p]) ∧ Below lo w w' := by
  obtain ⟨v, hB, hR⟩ := N
  obtain ⟨so, sc, rfl⟩ := owns_slice hR
  have Z : Blk (w.alloc (.cells #[.int .i64 5, .int .i64 0, .float .f64 0, .string ByteArray.empty, .int .i64 p] 44)).drew w.heap.size #[.int .i64 5, .int .i64 0, .float .f64 0, .string ByteArray.empty, .int .i64 p] 44 := Blk.new w _ _
  have Y : Blk (w.alloc (.cells #[.int .i64 5, .int .i64 0, .float .f64 0, .string ByteArray.empty, .int .i64 p] 44)).drew bn #[.slice so n sc] 134 := hB.alloc _
  have zs := Z.cell
  have ys := Y.cell
  go_enter Tryz.func187, Tryz.ntmps187
  go_wp2_with fail
  have hbn : w.heap.size ≠ bn := blk_ne Z Y (by decide)
  have hs0 : lo ≤ (w.alloc (.cells #[.int .i64 5, .int .i64 0, .float .f64 0, .string ByteArray.empty, .int .i64 p] 44)).drew.heap.size := Nat.le_trans hlo ((Below.refl _ _).alloc (Nat.le_refl _) _).drew.size
  have R0 : (w.alloc (.cells #[.int .i64 5, .int .i64 0, .float .f64 0, .string ByteArray.empty, .int .i64 p] 44)).drew.ownsRow lo 92 2 (.slice so n sc) n xs := owns_below hR ((Below.refl _ _).alloc (Nat.le_refl _) _).drew
  refine rgM (fun W => (∀ o, W.cell? ⟨w.heap.size, o, none⟩ = (#[.int .i64 5, .int .i64 0, .float .f64 0, .string ByteArray.empty, .int .i64 p] : Array Value)[o]?)) zs (fun hS => ?_)
  iterate 3 (refine tkM rfl (by kernel_rfl) (by rfl) hS ⟨?_, fun W hW => ?_, ?_⟩; rotate_left; (focus (go_simp; with_reducible rfl)); try simp only [Act.put, List.setIfInBounds_toArray])
  refine permM [4, 3, 5, 6, 7, 8, 9] (by kernel_rfl) ?_
  refine tkM rfl (by kernel_rfl) (by rfl) hS ⟨?_, fun W hW => ?_, ?_⟩
  rotate_left
  · go_simp
    with_reducible rfl
  try simp only [Act.put]
  have BW : Below lo w (w.alloc (.cells #[.int .i64 5, .int .i64 0, .float .f64 0, .string ByteArray.empty, .int .i64 p] 44)).drew := (((Below.refl _ _).alloc (Nat.le_refl _) _).drew).mono hlo
  obtain ⟨W0, hW0⟩ : ∃ z, z = (w.alloc (.cells #[.int .i64 5, .int .i64 0, .float .f64 0, .string ByteArray.empty, .int .i64 p] 44)).drew := ⟨_, rfl⟩
  rw [← hW0] at Z Y R0 hs0 hS BW ⊢
  clear hW0 zs ys
  have ys := Y.cell
  refine doM2 rfl rfl (by kernel_rfl) (by rfl) (by rfl) (fun K2 hK2 => ?a1) (fun K2 hK2 => ?b1)
  case' a1 =>
    go_wp2_with fail; refine hK2.out _ _ hS (fun _ => ?_); clear hK2 K2
    refine doM rfl (by kernel_rfl) (by rfl) (fun K2 hK2 => ?_)
    go_wp2_with fail; refine (thingOf_tab p _).mono ?_; rintro e w1 ⟨rfl, hw1⟩; go_wp2_with fail; refine hK2.out _ _ (Z.later hw1).cell (fun hS => ?_); clear hK2 K2
    refine doM rfl (by kernel_rfl) (by rfl) (fun K2 hK2 => ?_)
    go_wp2_with fail; refine hK2.out _ _ ((Z.later hw1).alloc _).cell (fun hS => ?_); clear hK2 K2
  case' b1 =>
    go_wp2_with fail; refine (thingOf_tab p _).mono ?_; rintro e w1 ⟨rfl, hw1⟩; go_wp2_with fail; refine hK2.out _ _ (Z.later hw1).cell (fun hS => ?_); clear hK2 K2
    have ys := (Y.later hw1).cell
    have yz := fun o => ((Y.later hw1).alloc o).cell
    refine doM2 rfl rfl (by kernel_rfl) (by rfl) (by rfl) (fun K2 hK2 => ?b2) (fun K2 hK2 => ?b3)
    case' b2 =>
      go_wp2_with fail; refine hK2.out _ _ (Z.later hw1).cell (fun hS => ?_); clear hK2 K2
      refine doM rfl (by kernel_rfl) (by rfl) (fun K2 hK2 => ?_)
      go_wp2_with fail; refine hK2.out _ _ ((Z.later hw1).alloc _).cell (fun hS => ?_); clear hK2 K2
    case' b3 =>
      go_wp2_with fail; refine hK2.out _ _ ((Z.later hw1).alloc _).cell (fun hS => ?_); clear hK2 K2
      refine doM rfl (by kernel_rfl) (by rfl) (fun K2 hK2 => ?_)
      go_wp2_with fail; refine hK2.out _ _ ((Z.later hw1).alloc _).cell (fun hS => ?_); clear hK2 K2
  all_goals
    refine doM rfl (by kernel_rfl) (by rfl) (fun K2 hK2 => ?_)
    have Z1 := (Z.later hw1).alloc (.cells #[.bool false, .int .i64 p] 92)
    have Y1 := (Y.later hw1).alloc (.cells #[.bool false, .int .i64 p] 92)
    have R1 := owns_below (owns_below R0 hw1) ((Below.refl _ _).alloc (Nat.le_refl _) (.cells #[.bool false, .int .i64 p] 92))
    refine opApp eltT (.tmp 13) (.tmp 16) rfl lo (.slice so n sc) n xs [.bool false, .int .i64 p] w1.heap.size (by simp [Act.eval]) R1 (by simp [Act.eval]) (fun k v hv => by rw [Nat.zero_add, (Blk.new w1 #[.bool false, .int .i64 p] 92).cell]; simpa using hv) rfl (by simp [Value.oneCell']) (by omega) (by decide) (Nat.le_trans hs0 (Nat.le_trans hw1.size ((Below.refl _ _).alloc (Nat.le_refl _) _).size)) ?_
    intro v' w3 ho3 hg3 _
    obtain ⟨so', sc', rfl⟩ := owns_slice ho3
    have gC : Chg (Value.slice so n sc).ownBlock.toList (w1.alloc (.cells #[.bool false, .int .i64 p] 92)) w3 := Chg.grown hg3 (fun k hk => by rw [hk]; simp)
    have Z3 := Z1.chg gC (row_ne2 R1 Z1 (by decide))
    have Y3 := Y1.chg gC (row_ne2 R1 Y1 (by decide))
    refine hK2.out _ _ Z3.cell (fun hS => ?_)
    clear hK2 K2
    refine tkM rfl (by kernel_rfl) (by rfl) hS ⟨?_, fun W hW => ?_, ?_⟩
    rotate_left
    (focus (go_simp; with_reducible rfl))
    try simp only [Act.put, List.setIfInBounds_toArray]
    refine doM rfl (by kernel_rfl) (by rfl) (fun K2 hK2 => ?_)
    have y3 := Y3.cell
    have f3 := Y3.frozen
    have C4 : Chg [bn] w3 (w3.setCell ⟨bn, 0, none⟩ (.slice so' (n + 1) sc')) := (Chg.refl _ _).set (by simp) _ _
    go_wp2_with fail
    refine hK2.out _ _ (Z3.chg C4 (by simpa using hbn)).cell (fun _ => enM (by kernel_rfl) (NoPanic.normal ?_))
    clear hK2 K2
    go_wp2_with fail
    go_end0
    exact ⟨rfl, ⟨_, Y3.set 0 _, owns_other ho3 fun k hk => C4.block k (by intro e; simp at e; subst e; exact row_ne2 ho3 Y3 (by decide) (by simp [hk])) (ho3.lt k hk).2⟩, blo (blo (BW.trans ((bl2 hw1 ((Below.refl _ _).alloc (Nat.le_refl _) _)).mono hs0)) gC (row_lo R1) hlo) C4 (by simpa using hlb) hlo⟩
end Go.Proofs.YtgopdffmnikhdaaGreatDoor
namespace Go.Proofs.YtgopdffmnikhdaaGreatDoor
open Go.RowKit Go.Deep
attribute [local go_sem] run_store_float vi
theorem NAt.later {w w' : World} {lo bn n : Nat} {xs : List Value} (h : NAt w lo bn n xs) (hb : Below w.heap.size w w') : NAt w' lo bn n xs := by
  obtain ⟨v, h1, h2⟩ := h
  exact ⟨v, h1.later hb, owns_below h2 hb⟩
theorem nameReg_tab (bn lo n : Nat) (p : Int) (xs : List Value) (w : World) (hn : n ≤ 1000) (hlo : lo ≤ w.heap.size) (hlb : lo ≤ bn) (N : NAt w lo bn n xs) : Calls Tryz.prog 292 #[.pointer (some ⟨bn, 0, none⟩), .agg #[.int .i64 1, .int .i64 5, .int .i64 0, .float .f64 0, .string ByteArray.empty, .int .i64 p, .pointer none, .slice none 0 0]] w fun e w' => e = .returned (.tuple #[]) ∧ NAt w' lo bn (n + 1) (xs ++ [.bool false, .int .i64 p]) ∧ Below lo w w' := by
  have B0 : ∀ o, Below w.heap.size w (w.alloc o) := fun _ => (Below.refl _ _).alloc (Nat.le_refl _) _
  go_enter Tryz.func292, Tryz.ntmps292
  go_wp2_with fail
  refine (nameVal_tab bn lo n p xs _ hn (Nat.le_trans hlo (B0 _).size) hlb (N.later (B0 _))).mono ?_
  rintro e w1 ⟨rfl, hN, hw1⟩
  go_wp2_with fail
  go_end0
  exact ⟨rfl, hN, ((B0 _).mono hlo).trans hw1⟩
set_option maxHeartbeats 4000000 in
set_option maxRecDepth 8000 in
theorem nameCall_any (bn lo bc br : Nat) (i nn p : Int) (xs : List Value) (n : Nat) (cc : Cc) (w : World) (hn : n ≤ 1000) (hlo : lo ≤ w.heap.size) (hlb : lo ≤ bn) (hc : bc < lo) (hr : br < lo) (N : NAt w lo bn n xs)
    (C : CAt w bc { cc with self := .pointer none, regs := .slice (some ⟨br, 0, none⟩) 6 6, wv := .slice none 0 0, fences := .slice none 0 0 }) (X : RAt w br ⟨.int i, .int nn, .int 1, .val 5 0 0 ByteArray.empty p, .none, .none⟩) :
    Calls Tryz.prog 240 #[.pointer (some ⟨bn, 0, none⟩), .pointer (some ⟨bc, 0, none⟩)] w fun e w' => e = .returned (.tuple #[]) ∧ NAt w' lo bn (n + 1) (xs ++ [.bool false, .int .i64 p]) ∧ Below lo w w' := by
  have lat : ∀ {b : Nat} {A : Array Value} {t : TypeId} {W : World}, b < lo → Blk w b A t → Below lo w W → Blk W b A t := fun hb h hB => (hB.block _ hb).trans h
  have HC : Hid (CAt w bc { cc with self := .pointer none, regs := .slice (some ⟨br, 0, none⟩) 6 6, wv := .slice none 0 0, fences := .slice none 0 0 }) := C
  have HX : Hid (RAt w br ⟨.int i, .int nn, .int 1, .val 5 0 0 ByteArray.empty p, .none, .none⟩) := X
  have HN : Hid (NAt w lo bn n xs) := N
  have cs := C.cell
  clear C X N
  go_enter Tryz.func240, Tryz.ntmps240
  go_wp2_with fail
  refine (nameSlot_nil bn _).mono ?_
  rintro e w1 ⟨rfl, rfl⟩
  go_wp2_with fail
  go_loopw [21] (fun x ws => ∃ k : Nat, k ≤ 6 ∧ x = .int .i64 k ∧ Hid (Below lo w1 ws ∧ (k ≤ 3 ∧ NAt ws lo bn n xs ∨ 3 < k ∧ NAt ws lo bn (n + 1) (xs ++ [.bool false, .int .i64 p])))) (fun x _ => 6 - (intOf x).toNat)
  case atStart => exact ⟨0, by omega, rfl, Below.refl _ _, .inl ⟨by omega, HN.out⟩⟩
  case round =>
    obtain ⟨k, hk, rfl, HK⟩ := hrel
    obtain ⟨hB, hA⟩ := HK.out
    have hs : lo ≤ wr.heap.size := Nat.le_trans hlo hB.size
    have xs1 := (lat hr HX.out hB).cell
    have xa := fun o => ((lat hr HX.out hB).alloc o).cell
    have B1 : ∀ o, Below lo w1 (wr.alloc o) := fun o => hB.trans (((Below.refl _ _).alloc (Nat.le_refl _) o).mono hs)
    have c2 := (lat hc HC.out hB).cell
    clear cs
    clear HK
    rcases hA with ⟨hk3, hN⟩ | ⟨hk3, hN⟩
    · have HN1 : Hid (NAt wr lo bn n xs) := hN
      have NA : Hid (∀ o, NAt (wr.alloc o) lo bn n xs) := fun o => hN.later ((Below.refl _ _).alloc (Nat.le_refl _) _)
      clear hN
      obtain rfl | rfl | rfl | rfl : k = 0 ∨ k = 1 ∨ k = 2 ∨ k = 3 := by omega
      rotate_right
      · go_wp2_with fail
        refine (nameReg_tab bn lo n p xs _ hn (Nat.le_trans hs (((Below.refl _ _).alloc (Nat.le_refl _) _).size)) hlb (NA.out _)).mono ?_
        rintro e w2 ⟨rfl, hN2, hw2⟩
        go_wp2_with fail
        go_roundw
        case rel => exact ⟨4, by decide, by go_num, (B1 _).trans hw2, .inr ⟨by decide, hN2⟩⟩
        case measure => simp [intOf]
      all_goals
        go_wp2_with fail
        refine (nameReg_int bn _ _).mono ?_
        rintro e w2 ⟨rfl, hw2⟩
        go_wp2_with fail
        go_roundw
        case rel => first | exact ⟨1, by decide, by go_num, (B1 _).trans (hw2.mono (Nat.le_trans hs ((Below.refl _ _).alloc (Nat.le_refl _) _).size)), .inl ⟨by decide, (NA.out _).later hw2⟩⟩ | exact ⟨2, by decide, by go_num, (B1 _).trans (hw2.mono (Nat.le_trans hs ((Below.refl _ _).alloc (Nat.le_refl _) _).size)), .inl ⟨by decide, (NA.out _).later hw2⟩⟩ | exact ⟨3, by decide, by go_num, (B1 _).trans (hw2.mono (Nat.le_trans hs ((Below.refl _ _).alloc (Nat.le_refl _) _).size)), .inl ⟨by decide, (NA.out _).later hw2⟩⟩
        case measure => simp [intOf]
    · have HN1 : Hid (NAt wr lo bn (n + 1) (xs ++ [.bool false, .int .i64 p])) := hN
      have NA : Hid (∀ o, NAt (wr.alloc o) lo bn (n + 1) (xs ++ [.bool false, .int .i64 p])) := fun o => hN.later ((Below.refl _ _).alloc (Nat.le_refl _) _)
      clear hN
      obtain rfl | rfl | rfl : k = 4 ∨ k = 5 ∨ k = 6 := by omega
      rotate_right
      · go_wp2_with fail
        refine (nameVals_nil bn _).mono ?_
        rintro e w2 ⟨rfl, rfl⟩
        go_wp2_with fail
        refine wp_loop_rounds 1 ?_
        rw [rounds_succ]
        go_wp2_with fail
        go_end0
        exact ⟨rfl, HN1.out, hB⟩
      all_goals
        go_wp2_with fail
        refine (nameReg_none bn _).mono ?_
        rintro e w2 ⟨rfl, hw2⟩
        go_wp2_with fail
        go_roundw
        case rel => first | exact ⟨5, by decide, by go_num, (B1 _).trans (hw2.mono (Nat.le_trans hs ((Below.refl _ _).alloc (Nat.le_refl _) _).size)), .inr ⟨by decide, (NA.out _).later hw2⟩⟩ | exact ⟨6, by decide, by go_num, (B1 _).trans (hw2.mono (Nat.le_trans hs ((Below.refl _ _).alloc (Nat.le_refl _) _).size)), .inr ⟨by decide, (NA.out _).later hw2⟩⟩
        case measure => simp [intOf]
end Go.Proofs.YtgopdffmnikhdaaGreatDoor
