import Derived.Test.YtgopdffmnikhdaaGreatDoorT08
import Derived.Defers
import Derived.Recover
import Derived.RangeFuncNested
import Derived.RangeFuncLeaves
import Derived.MapKept
import Derived.WalkKit
import Derived.OwnWalkIn
import Derived.TacticsInMore
namespace Go.Proofs.YtgopdffmnikhdaaGreatDoor
open Go.RowKit Go.Deep
attribute [local go_sem] run_store_float vi
set_option maxHeartbeats 4000000 in
set_option maxRecDepth 8000 in
theorem nameTask_any (bn lo bt bf fc bc br : Nat) (k x r : Int) (f : Nat) (s : ByteArray) (i nn p : Int) (xs : List Value) (n : Nat) (cc : Cc) (t : Tc) (w : World) (hk : k < 5) (hn : n ≤ 1000) (hlo : lo ≤ w.heap.size) (hlb : lo ≤ bn) (hc : bc < lo) (hr : br < lo) (N : NAt w lo bn n xs)
    (T : TAt w bt { t with fk := .int .i64 k, fn := .int .i64 x, ff := .float .f64 f, fs := .string s, fr := .int .i64 r, frames := .slice (some ⟨bf, 0, none⟩) 1 fc, dropped := .slice none 0 0 }) (F : w.cell? ⟨bf, 0, none⟩ = some (.iface 105 (.pointer (some ⟨bc, 0, none⟩))))
    (C : CAt w bc { cc with self := .pointer none, regs := .slice (some ⟨br, 0, none⟩) 6 6, wv := .slice none 0 0, fences := .slice none 0 0 }) (X : RAt w br ⟨.int i, .int nn, .int 1, .val 5 0 0 ByteArray.empty p, .none, .none⟩) :
    Calls Tryz.prog 183 #[.pointer (some ⟨bn, 0, none⟩), .pointer (some ⟨bt, 0, none⟩)] w fun e w' => e = .returned (.tuple #[]) ∧ NAt w' lo bn (n + 1) (xs ++ [.bool false, .int .i64 p]) ∧ Below lo w w' := by
  have ts := T.cell
  have HN : Hid (NAt w lo bn n xs) := N
  have HX : Hid (RAt w br ⟨.int i, .int nn, .int 1, .val 5 0 0 ByteArray.empty p, .none, .none⟩) := X
  have HC : Hid (CAt w bc { cc with self := .pointer none, regs := .slice (some ⟨br, 0, none⟩) 6 6, wv := .slice none 0 0, fences := .slice none 0 0 }) := C
  clear N X C
  go_enter Tryz.func183, Tryz.ntmps183
  go_wp2_with fail
  refine (nameVal_small bn k x r f s _ hk).mono ?_
  rintro e w1 ⟨rfl, hw1⟩
  have ts1 := (T.later hw1).cell
  have F1 := cb F hw1
  clear ts F
  go_wp2_with fail
  refine (nameVals_nil bn _).mono ?_
  rintro e w2 ⟨rfl, rfl⟩
  go_wp2_with fail
  refine wp_loop_rounds 2 ?_
  rw [rounds_succ]
  go_wp2_with fail
  refine (nameCall_any bn lo bc br i nn p xs n cc _ hn (Nat.le_trans hlo hw1.size) hlb hc hr (HN.out.later hw1) (HC.out.later hw1) (HX.out.later hw1)).mono ?_
  rintro e w3 ⟨rfl, hN3, hw3⟩
  go_wp2_with fail
  rw [rounds_succ]
  go_wp2_with fail
  go_end0
  exact ⟨rfl, hN3, (hw1.mono hlo).trans hw3⟩
set_option maxHeartbeats 4000000 in
set_option maxRecDepth 8000 in
theorem namedBy_task (bm bts bt nc : Nat) (no : Option Addr) (st : Int) (m : Mc) (t : Tc) (w : World) (h0 : st ≠ 0) (h1 : st ≠ 1) (X : MAt w bm { m with tasks := .slice (some ⟨bts, 0, none⟩) 1 1 }) (hb : w.cell? ⟨bts, 0, none⟩ = some (.pointer (some ⟨bt, 0, none⟩))) (T : TAt w bt { t with state := .int .i64 st }) :
    Calls Tryz.prog 107 #[.pointer (some ⟨bm, 0, none⟩), .slice no 0 nc, .agg #[.bool true, .int .i64 0]] w fun e w' => e = .returned (.slice no 0 nc) ∧ Below w.heap.size w w' := by
  have B1 : ∀ o, Below w.heap.size w (w.alloc o) := fun _ => (Below.refl _ _).alloc (Nat.le_refl _) _
  have B2 : ∀ o u, Below w.heap.size w ((w.alloc o).alloc u) := fun o u => bl2 (B1 o) ((Below.refl _ _).alloc (Nat.le_refl _) _)
  have xs := fun o u => (X.later (B2 o u)).cell
  have hs := fun o u => cb hb (B2 o u)
  have hd : decide (st = 0 ∨ st = 1) = false := by simp [h0, h1]
  go_enter Tryz.func107, Tryz.ntmps107
  go_wp2_with fail
  go_region
  go_wp2_with fail
  refine (sleeps_any bt t st _ (T.later ((B2 _ _).drew))).mono ?_
  rintro e w1 ⟨rfl, rfl⟩
  rw [hd]
  go_wp2_with fail
  go_ret
  exact ⟨rfl, (B2 _ _).drew⟩
set_option maxHeartbeats 4000000 in
set_option maxRecDepth 8000 in
theorem namedBy_tab (bm g L sc bs p nc : Nat) (no : Option Addr) (pv kv bo ve : Value) (m : Mc) (w : World) (hp : p < L) (X : MAt w bm { m with slots := .slice (some ⟨g, 0, none⟩) L sc }) (hb : w.cell? ⟨g, p, none⟩ = some (.pointer (some ⟨bs, 0, none⟩))) (S : Blk w bs (sa pv kv bo ve) 167) :
    Calls Tryz.prog 107 #[.pointer (some ⟨bm, 0, none⟩), .slice no 0 nc, .agg #[.bool false, .int .i64 p]] w fun e w' => e = .returned (.slice no 0 nc) ∧ Below w.heap.size w w' := by
  have B1 : ∀ o, Below w.heap.size w (w.alloc o) := fun _ => (Below.refl _ _).alloc (Nat.le_refl _) _
  have B2 : ∀ o u, Below w.heap.size w ((w.alloc o).alloc u) := fun o u => bl2 (B1 o) ((Below.refl _ _).alloc (Nat.le_refl _) _)
  have xs := fun o u => (X.later (B2 o u)).cell
  have hs := fun o u => cb hb (B2 o u)
  have ss := fun o u => (S.later (B2 o u)).cell
  have p0 : (0 : Int) ≤ p := by omega
  have p1 : (p : Int) < L := by omega
  go_enter Tryz.func107, Tryz.ntmps107
  go_wp2_with fail
  go_region
  go_wp2_with fail
  refine (nameSlot_nil _ _).mono ?_
  rintro e w1 ⟨rfl, rfl⟩
  go_wp2_with fail
  refine wp_loop_rounds 1 ?_
  rw [rounds_succ]
  go_wp2_with fail
  refine wp_loop_rounds 1 ?_
  rw [rounds_succ]
  go_wp2_with fail
  go_ret
  exact ⟨rfl, (B2 _ _).drew⟩
end Go.Proofs.YtgopdffmnikhdaaGreatDoor
namespace Go.Proofs.YtgopdffmnikhdaaGreatDoor
open Go.RowKit Go.Deep
attribute [local go_sem] run_store_float vi
theorem eltU : Elt 131 92 (.agg #[.bool false, .int .i64 0]) 2 16 := ⟨Tryz.underlying131, by kernel_rfl, rfl, by decide⟩
/-- A line of things, in a variable. -/
structure QAt (w : World) (lo bq n : Nat) (gone : Int) (xs : List Value) (A : List Nat) : Prop where
  v : ∃ v, Blk w bq #[v, .int .i64 gone] 133 ∧ w.ownsRow lo 92 2 v n xs ∧ ∀ k, v.ownBlock = some k → k ∉ A
theorem QAt.later {w w' : World} {lo bq n : Nat} {gone : Int} {xs : List Value} {A : List Nat} (h : QAt w lo bq n gone xs A) (hb : Below w.heap.size w w') : QAt w' lo bq n gone xs A := by
  obtain ⟨v, h1, h2, h3⟩ := h
  exact ⟨v, h1.later hb, owns_below h2 hb, h3⟩
theorem qCount_any (lo bq n : Nat) (A : List Nat) (gone : Int) (xs : List Value) (w : World) (hn : n ≤ 1000) (h0 : 0 ≤ gone) (h1 : gone ≤ 1000) (H : QAt w lo bq n gone xs A) : Calls Tryz.prog 110 #[.pointer (some ⟨bq, 0, none⟩)] w fun e w' => e = .returned (.int .i64 (n - gone)) ∧ Below w.heap.size w w' := by
  obtain ⟨v, hB, hR, _⟩ := H
  obtain ⟨so, sc, rfl⟩ := owns_slice hR
  have bs := hB.cell
  have ew : IntKind.i64.wrap ((n : Int) - gone) = n - gone := wr (by omega) (by omega)
  go_enter Tryz.func110, Tryz.ntmps110
  go_wp2_with fail
  go_region
  go_wp2_with fail
  go_ret
  exact ⟨rfl, (Below.refl _ _).drew⟩
set_option maxRecDepth 8000 in
set_option maxHeartbeats 4000000 in
theorem qPush_any (bq lo n : Nat) (A : List Nat) (gone p : Int) (b : Bool) (xs : List Value) (w : World) (hn : n ≤ 1000) (hlo : lo ≤ w.heap.size) (hlb : lo ≤ bq) (hA : ∀ k ∈ A, k < w.heap.size ∧ k ≠ bq) (N : QAt w lo bq n gone xs A) : Calls Tryz.prog 109 #[.pointer (some ⟨bq, 0, none⟩), .agg #[.bool b, .int .i64 p]] w fun e w' => e = .returned (.tuple #[]) ∧ QAt w' lo bq (n + 1) gone (xs ++ [.bool b, .int .i64 p]) A ∧ Below lo w w' ∧ ∀ k ∈ A, w'.heap[k]? = w.heap[k]? := by
  obtain ⟨v, hB, hR, hV⟩ := N
  obtain ⟨so, sc, rfl⟩ := owns_slice hR
  have Z : Blk (w.alloc (.cells #[.bool b, .int .i64 p] 92)).drew w.heap.size #[.bool b, .int .i64 p] 92 := Blk.new w _ _
  have Y : Blk (w.alloc (.cells #[.bool b, .int .i64 p] 92)).drew bq #[.slice so n sc, .int .i64 gone] 133 := hB.alloc _
  have zs := Z.cell
  go_enter Tryz.func109, Tryz.ntmps109
  go_wp2_with fail
  have hbn : w.heap.size ≠ bq := blk_ne Z Y (by decide)
  have hs0 : lo ≤ (w.alloc (.cells #[.bool b, .int .i64 p] 92)).drew.heap.size := Nat.le_trans hlo ((Below.refl _ _).alloc (Nat.le_refl _) _).drew.size
  have R0 : (w.alloc (.cells #[.bool b, .int .i64 p] 92)).drew.ownsRow lo 92 2 (.slice so n sc) n xs := owns_below hR ((Below.refl _ _).alloc (Nat.le_refl _) _).drew
  have BW : Below lo w (w.alloc (.cells #[.bool b, .int .i64 p] 92)).drew := (((Below.refl _ _).alloc (Nat.le_refl _) _).drew).mono hlo
  have BG : Below w.heap.size w (w.alloc (.cells #[.bool b, .int .i64 p] 92)).drew := ((Below.refl _ _).alloc (Nat.le_refl _) _).drew
  have hown : w.heap.size ∉ (Value.slice so n sc).ownBlock.toList := fun hm => Nat.lt_irrefl _ (hR.lt _ (by simpa using hm)).2
  refine rgM (fun W => (∀ o, W.cell? ⟨w.heap.size, o, none⟩ = (#[.bool b, .int .i64 p] : Array Value)[o]?)) zs (fun hS => ?_)
  iterate 4 (refine tkM rfl (by kernel_rfl) (by rfl) hS ⟨?_, fun W hW => ?_, ?_⟩; rotate_left; (focus (go_simp; with_reducible rfl)); try simp only [Act.put, List.setIfInBounds_toArray])
  refine permM [5, 4, 6, 7, 8, 9, 10] (by kernel_rfl) ?_
  refine tkM rfl (by kernel_rfl) (by rfl) hS ⟨?_, fun W hW => ?_, ?_⟩
  rotate_left
  · go_simp
    with_reducible rfl
  try simp only [Act.put]
  obtain ⟨W0, hW0⟩ : ∃ z, z = (w.alloc (.cells #[.bool b, .int .i64 p] 92)).drew := ⟨_, rfl⟩
  rw [← hW0] at Z Y R0 hs0 hS BW BG ⊢
  clear hW0 zs
  have ys := Y.cell
  have ya := fun o => (Y.alloc o).cell
  refine doM2 rfl rfl (by kernel_rfl) (by rfl) (by rfl) (fun K2 hK2 => ?a1) (fun K2 hK2 => ?b1)
  case' a1 =>
    go_wp2_with fail; refine hK2.out _ _ hS (fun _ => ?_); clear hK2 K2
    refine doM rfl (by kernel_rfl) (by rfl) (fun K2 hK2 => ?_)
    go_wp2_with fail; refine hK2.out _ _ (Z.alloc _).cell (fun hS => ?_); clear hK2 K2
  case' b1 =>
    go_wp2_with fail; refine hK2.out _ _ (Z.alloc _).cell (fun hS => ?_); clear hK2 K2
    refine doM rfl (by kernel_rfl) (by rfl) (fun K2 hK2 => ?_)
    go_wp2_with fail; refine hK2.out _ _ (Z.alloc _).cell (fun hS => ?_); clear hK2 K2
  all_goals
    refine doM rfl (by kernel_rfl) (by rfl) (fun K2 hK2 => ?_)
    have Z1 := Z.alloc (.cells #[.bool b, .int .i64 p] 92)
    have Y1 := Y.alloc (.cells #[.bool b, .int .i64 p] 92)
    have R1 := owns_below R0 ((Below.refl _ _).alloc (Nat.le_refl _) (.cells #[.bool b, .int .i64 p] 92))
    refine opApp eltU (.tmp 8) (.tmp 10) rfl lo (.slice so n sc) n xs [.bool b, .int .i64 p] W0.heap.size (by simp [Act.eval]) R1 (by simp [Act.eval]) (fun k v hv => by rw [Nat.zero_add, (Blk.new W0 #[.bool b, .int .i64 p] 92).cell]; simpa using hv) rfl (by simp [Value.oneCell']) (by omega) (by decide) (Nat.le_trans hs0 ((Below.refl _ _).alloc (Nat.le_refl _) _).size) ?_
    intro v' w3 ho3 hg3 h5
    have hsz := BG.size
    have hV' : ∀ k, v'.ownBlock = some k → k ∉ A := fun k hk hm => by
      rcases h5 with h5 | h5
      · exact hV k (h5 ▸ hk) hm
      · have := (hA k hm).1; rw [h5] at hk; simp at hk; omega
    obtain ⟨so', sc', rfl⟩ := owns_slice ho3
    have gC : Chg (Value.slice so n sc).ownBlock.toList (W0.alloc (.cells #[.bool b, .int .i64 p] 92)) w3 := Chg.grown hg3 (fun k hk => by rw [hk]; simp)
    have Z3 := Z1.chg gC hown
    have Y3 := Y1.chg gC (row_ne2 R1 Y1 (by decide))
    refine hK2.out _ _ Z3.cell (fun hS => ?_)
    clear hK2 K2
    iterate 2 (refine tkM rfl (by kernel_rfl) (by rfl) hS ⟨?_, fun W hW => ?_, ?_⟩; rotate_left; (focus (go_simp; with_reducible rfl)); try simp only [Act.put, List.setIfInBounds_toArray])
    refine doM rfl (by kernel_rfl) (by rfl) (fun K2 hK2 => ?_)
    have y3 := Y3.cell
    have f3 := Y3.frozen
    have C4 : Chg [bq] w3 (w3.setCell ⟨bq, 0, none⟩ (.slice so' (n + 1) sc')) := (Chg.refl _ _).set (by simp) _ _
    go_wp2_with fail
    refine hK2.out _ _ (Z3.chg C4 (by simpa using hbn)).cell (fun _ => enM (by kernel_rfl) (NoPanic.normal ?_))
    clear hK2 K2
    go_wp2_with fail
    go_end0
    exact ⟨rfl, ⟨_, Y3.set 0 _, owns_other ho3 fun k hk => C4.block k (by intro e; simp at e; subst e; exact row_ne2 ho3 Y3 (by decide) (by simp [hk])) (ho3.lt k hk).2, hV'⟩, blo (blo (BW.trans (((Below.refl _ _).alloc (Nat.le_refl _) _).mono hs0)) gC (row_lo R1) hlo) C4 (by simpa using hlb) hlo, fun G hG => (C4.block G (by simpa using (hA G hG).2) (by have := gC.size; have := (hA G hG).1; simp at *; omega)).trans ((gC.block G (fun hm => hV G (by simpa using hm) hG) (by have := (hA G hG).1; simp; omega)).trans (((Below.refl _ _).alloc (Nat.le_refl _) _).block G (by have := (hA G hG).1; omega) |>.trans (BG.block G (hA G hG).1)))⟩
set_option maxRecDepth 8000 in
set_option maxHeartbeats 4000000 in
theorem qPop_any (bq lo n gone : Nat) (A : List Nat) (p : Int) (b : Bool) (xs : List Value) (w : World) (hn : n ≤ 1000) (hg : gone < n) (h0 : xs[gone * 2]? = some (.bool b)) (h1 : xs[gone * 2 + 1]? = some (.int .i64 p)) (N : QAt w lo bq n gone xs A) : Calls Tryz.prog 108 #[.pointer (some ⟨bq, 0, none⟩)] w fun e w' => e = .returned (.agg #[.bool b, .int .i64 p]) ∧ Chg [bq] w w' ∧ QAt w' lo bq n ((gone : Int) + 1) xs A := by
  obtain ⟨v, hB, hR, hV⟩ := N
  rcases owns_form hR with ⟨rfl, h⟩ | ⟨g, sc, rfl, hr⟩
  · omega
  have B1 : ∀ o, Below w.heap.size w (w.alloc o) := fun _ => (Below.refl _ _).alloc (Nat.le_refl _) _
  have B2 : ∀ o u, Below w.heap.size w ((w.alloc o).alloc u) := fun o u => bl2 (B1 o) ((Below.refl _ _).alloc (Nat.le_refl _) _)
  have c0 := owns_cell hR h0
  have c1 := owns_cell hR h1
  have bs := hB.cell
  have bs1 := fun o => (hB.alloc o).cell
  have bs2 := fun o u => (hB.later (B2 o u)).cell
  have bf2 := fun o u => (hB.later (B2 o u)).frozen
  have d0 := ca c0
  have d1 := ca c1
  have e0 := fun o u => cb c0 (B2 o u)
  have e1 := fun o u => cb c1 (B2 o u)
  have g0 : (0 : Int) ≤ gone := by omega
  have g1 : (gone : Int) < n := by omega
  have ew : IntKind.i64.wrap ((gone : Int) + 1) = gone + 1 := wr (by omega) (by omega)
  go_enter Tryz.func108, Tryz.ntmps108
  go_wp2_with fail
  go_region
  have hq := hB.lt
  have T2 : Blk ((w.alloc (.cells #[.bool false, .int .i64 0] 92)).alloc (.cells #[.bool b, .int .i64 p] 92)) (w.heap.size + 1) #[.bool b, .int .i64 p] 92 := by simpa using Blk.new (w.alloc (.cells #[.bool false, .int .i64 0] 92)) #[.bool b, .int .i64 p] 92
  have Z2 : Blk ((w.alloc (.cells #[.bool false, .int .i64 0] 92)).alloc (.cells #[.bool b, .int .i64 p] 92)) w.heap.size #[.bool false, .int .i64 0] 92 := (Blk.new w _ _).alloc _
  have C2 : Chg [bq] ((w.alloc (.cells #[.bool false, .int .i64 0] 92)).alloc (.cells #[.bool b, .int .i64 p] 92)) (((w.alloc (.cells #[.bool false, .int .i64 0] 92)).alloc (.cells #[.bool b, .int .i64 p] 92)).setCell ⟨bq, 1, none⟩ (.int .i64 ((gone : Int) + 1))).drew := ((Chg.refl _ _).set (by simp) _ _).below (Below.refl _ _).drew
  have T3 := T2.chg C2 (by simp; omega)
  have Z3 := Z2.chg C2 (by simp; omega)
  have t3 := T3.cell
  have z3 := Z3.cell
  have zf := Z3.frozen
  go_wp2_with fail
  have C5 : Chg [bq] w (w.setCell ⟨bq, 1, none⟩ (.int .i64 ((gone : Int) + 1))) := (Chg.refl _ _).set (by simp) _ _
  have R5 := owns_other hR (fun k hk => C5.block k (by intro e; simp at e; subst e; exact row_ne2 hR hB (by decide) (by simp [hk])) (hR.lt k hk).2)
  have Aw : ∀ (W : World) o u, Below W.heap.size W ((W.alloc o).alloc u).drew := fun W o u => (bl2 ((Below.refl _ _).alloc (Nat.le_refl _) o) ((Below.refl _ _).alloc (Nat.le_refl _) u)).drew
  exact bodyPost_ret (v := .agg #[.bool b, .int .i64 p]) (by simp [results, Tryz.results108, go_sem]) rfl ⟨rfl, C5.below (Aw _ _ _), ⟨_, (hB.set 1 _).later (Aw _ _ _), owns_below R5 (Aw _ _ _), hV⟩⟩
end Go.Proofs.YtgopdffmnikhdaaGreatDoor
namespace Go.Proofs.YtgopdffmnikhdaaGreatDoor
open Go.RowKit Go.Deep
attribute [local go_sem] run_store_float vi
/-- Tables in a row, none of which wants to be kept. -/
def TabsAt (w : World) (so : Option Addr) (k : Nat) : Prop := k = 0 ∨ ∃ g, so = some ⟨g, 0, none⟩ ∧ ∀ i, i < k → ∃ b, w.cell? ⟨g, i, none⟩ = some (.pointer (some ⟨b, 0, none⟩)) ∧ w.cell? ⟨b, 7, none⟩ = some (.bool false)
theorem NAt.put {w : World} {lo bn n sc : Nat} {so so' : Option Addr} {sc' : Nat} {xs : List Value} (Y : Blk w bn #[.slice so n sc] 134) (h : w.ownsRow lo 92 2 (.slice so' (n + 1) sc') (n + 1) xs) : NAt (w.setCell ⟨bn, 0, none⟩ (.slice so' (n + 1) sc')) lo bn (n + 1) xs := by
  have C4 : Chg [bn] w (w.setCell ⟨bn, 0, none⟩ (.slice so' (n + 1) sc')) := (Chg.refl _ _).set (by simp) _ _
  exact ⟨_, Y.set 0 _, owns_other h fun k hk => C4.block k (by intro e; simp at e; subst e; exact row_ne2 h Y (by decide) (by simp [hk])) (h.lt k hk).2⟩
set_option maxHeartbeats 4000000 in
set_option maxRecDepth 8000 in
theorem firstNamed_any (bm bts bt bf fc bc br : Nat) (k x r : Int) (f : Nat) (s : ByteArray) (i nn p : Int) (cc : Cc) (t : Tc) (m : Mc) (w : World) (hk : k < 5) (hc : bc < w.heap.size) (hr : br < w.heap.size)
    (M : MAt w bm { m with tasks := .slice (some ⟨bts, 0, none⟩) 1 1, cur := .int .i64 0, got := .slice none 0 0, wv := .slice none 0 0 }) (hb : w.cell? ⟨bts, 0, none⟩ = some (.pointer (some ⟨bt, 0, none⟩)))
    (T : TAt w bt { t with fk := .int .i64 k, fn := .int .i64 x, ff := .float .f64 f, fs := .string s, fr := .int .i64 r, frames := .slice (some ⟨bf, 0, none⟩) 1 fc, waiter := .int .i64 (-1), dropped := .slice none 0 0 }) (F : w.cell? ⟨bf, 0, none⟩ = some (.iface 105 (.pointer (some ⟨bc, 0, none⟩))))
    (C : CAt w bc { cc with self := .pointer none, regs := .slice (some ⟨br, 0, none⟩) 6 6, wv := .slice none 0 0, fences := .slice none 0 0 }) (X : RAt w br ⟨.int i, .int nn, .int 1, .val 5 0 0 ByteArray.empty p, .none, .none⟩)
    (HT : Hid (∀ W, Below w.heap.size w W → Calls Tryz.prog 185 #[.pointer (some ⟨bm, 0, none⟩)] W fun e w' => ∃ so n sc, e = .returned (.slice so n sc) ∧ n ≤ 1000000 ∧ Below W.heap.size W w' ∧ TabsAt w' so n)) :
    Calls Tryz.prog 106 #[.pointer (some ⟨bm, 0, none⟩)] w fun e w' => ∃ so sc, e = .returned (.slice so 2 sc) ∧ w'.ownsRow w.heap.size 92 2 (.slice so 2 sc) 2 [.bool true, .int .i64 0, .bool false, .int .i64 p] ∧ Below w.heap.size w w' := by
  have B0 : ∀ o, Below w.heap.size w (w.alloc o) := fun _ => (Below.refl _ _).alloc (Nat.le_refl _) _
  have lat : ∀ {b : Nat} {A : Array Value} {t : TypeId} {W : World}, Blk w b A t → Below w.heap.size w W → Blk W b A t := fun h hB => h.later hB
  have HM : Hid (MAt w bm { m with tasks := .slice (some ⟨bts, 0, none⟩) 1 1, cur := .int .i64 0, got := .slice none 0 0, wv := .slice none 0 0 }) := M
  have ms := fun o => (M.alloc o).cell
  have ms2 := fun o u => (M.later (bl2 (B0 o) ((Below.refl _ _).alloc (Nat.le_refl _) u))).cell
  have Y : Blk (w.alloc (.cells #[.slice none 0 0] 134)) w.heap.size #[.slice none 0 0] 134 := Blk.new w _ _
  go_enter Tryz.func106, Tryz.ntmps106
  go_wp2_with fail
  refine wp_loop_rounds 2 ?_
  rw [rounds_succ]
  go_wp2_with (at_builtin; refine app_one eltT rfl _ _ rfl w.heap.size _ 0 _ [.bool true, .int .i64 0] (w.heap.size + 1) rfl (World.ownsRow_nil _ _ _ _) rfl ?qc0 rfl ?qc1 ?qc2 (by decide) ?qc3 ?_)
  case qc0 =>
    have h : Blk ((w.alloc (.cells #[.slice none 0 0] 134)).alloc (.cells #[.bool true, .int .i64 0] 92)) (w.heap.size + 1) #[.bool true, .int .i64 0] 92 := by simpa using Blk.new (w.alloc (.cells #[.slice none 0 0] 134)) #[.bool true, .int .i64 0] 92
    exact fun k v hv => by rw [Nat.zero_add, h.cell]; simpa using hv
  case qc1 => simp [Value.oneCell']
  case qc2 => omega
  case qc3 => simp; omega
  intro v' w3 ho3 hg3 _
  obtain ⟨so1, sc1, rfl⟩ := owns_slice ho3
  have C1 : Chg [] ((w.alloc (.cells #[.slice none 0 0] 134)).alloc (.cells #[.bool true, .int .i64 0] 92)) w3 := Chg.grown (L := []) hg3 (fun k hk => by simp [Value.ownBlock] at hk)
  have B3 : Below w.heap.size w w3 := blo (bl2 (B0 _) ((Below.refl _ _).alloc (Nat.le_refl _) _)) C1 (by simp) (Nat.le_refl _)
  have Y3 : Blk w3 w.heap.size #[.slice none 0 0] 134 := (Y.alloc _).chg C1 (by simp)
  have N4 := NAt.put (so := none) (sc := 0) Y3 ho3
  have B4 : Below w.heap.size w (w3.setCell ⟨w.heap.size, 0, none⟩ (.slice so1 1 sc1)) := blo B3 ((Chg.refl [w.heap.size] _).set (by simp) _ _) (by simp) (Nat.le_refl _)
  have y3 := Y3.cell
  have yf := Y3.frozen
  have m4 := (HM.out.later B4).cell
  have h4 := cb hb B4
  clear ms ms2 ho3 hg3
  go_wp2_with fail
  refine (nameTask_any w.heap.size w.heap.size bt bf fc bc br k x r f s i nn p [.bool true, .int .i64 0] 1 cc { t with waiter := .int .i64 (-1) } _ hk (by decide) B4.size (Nat.le_refl _) hc hr N4 (T.later B4) (cb F B4) (C.later B4) (X.later B4)).mono ?_
  rintro e w5 ⟨rfl, N5, hw5⟩
  have B5 : Below w.heap.size w w5 := B4.trans hw5
  have m5 := (HM.out.later B5).cell
  have h5 := cb hb B5
  have t5 := (T.later B5).cell
  clear m4 h4 y3 yf
  go_wp2_with fail
  rw [rounds_succ]
  go_wp2_with fail
  refine (nameVals_nil _ _).mono ?_
  rintro e w6 ⟨rfl, rfl⟩
  go_wp2_with fail
  refine (nameVals_nil _ _).mono ?_
  rintro e w6 ⟨rfl, rfl⟩
  go_wp2_with fail
  refine (HT.out _ B5).mono ?_
  rintro e w7 ⟨so, n, sc, rfl, hn, hw7, hT⟩
  have HN7 : Hid (NAt w7 w.heap.size w.heap.size 2 [.bool true, .int .i64 0, .bool false, .int .i64 p]) := N5.later hw7
  have HB7 : Hid (Below w.heap.size w w7) := bl2 B5 hw7
  have HT7 : Hid (TabsAt w7 so n) := hT
  clear m5 h5 t5 hw7 hT N5
  go_wp2_with fail
  go_loopw [50] (fun y ws => ∃ j : Nat, j ≤ n ∧ y = .int .i64 j ∧ w7 = ws) (fun y _ => n - (intOf y).toNat)
  case atStart => exact ⟨0, by omega, rfl, rfl⟩
  case round =>
    obtain ⟨j, hj, rfl, rfl⟩ := hrel
    obtain ⟨v, hY, hR⟩ := HN7.out
    obtain ⟨so2, sc2, rfl⟩ := owns_slice hR
    have y7 := hY.cell
    by_cases hjn : j = n
    · subst hjn
      go_wp2_with fail
      go_ret
      exact ⟨so2, sc2, rfl, hR, HB7.out⟩
    · have j0 : (0 : Int) ≤ j := by omega
      have j1 : (j : Int) < n := by omega
      have ew : IntKind.i64.wrap ((j : Int) + 1) = ((j + 1 : Nat) : Int) := by rw [wq (by omega) (by omega)]; omega
      rcases HT7.out with h | ⟨g, rfl, h⟩
      · omega
      · obtain ⟨b, h1, h2⟩ := h j (by omega)
        clear h
        go_wp2_with fail
        go_roundw
        case rel => exact ⟨j + 1, by omega, by go_num, trivial⟩
        case measure => simp [intOf]; omega
end Go.Proofs.YtgopdffmnikhdaaGreatDoor
namespace Go.Proofs.YtgopdffmnikhdaaGreatDoor
open Go.RowKit Go.Deep
attribute [local go_sem] run_store_float vi
abbrev pv (b : Nat) : Value := .pointer (some ⟨b, 0, none⟩)
/-- A slot that holds a table of no pairs. -/
def TabB (w : World) (b : Nat) : Prop := ∃ p bo ve : Int, Blk w b (sa (.int .i64 p) (.int .i64 1) (.int .i64 bo) (.int .i64 ve)) 167
theorem TabB.later {w w' : World} {b lo : Nat} (h : TabB w b) (hlo : b < lo) (hb : Below lo w w') : TabB w' b := by
  obtain ⟨p, bo, ve, h⟩ := h
  exact ⟨p, bo, ve, (hb.block b hlo).trans h⟩
/-- What sorting gives: the same tables in a row, in an order of its own. -/
def SortOk (lo : Nat) (w : World) : Prop := ∀ (W : World) (v : Value) (n : Nat) (ys : List Nat), Below lo w W → n ≤ 1000000 → W.ownsRow lo 94 1 v n (ys.map pv) → (∀ b ∈ ys, b < lo ∧ TabB W b) → Calls Tryz.prog 241 #[v, .func (.func 242) #[] #[]] W fun e w' => e = .returned (.tuple #[]) ∧ Below lo W w' ∧ ∃ zs : List Nat, w'.ownsRow lo 94 1 v n (zs.map pv) ∧ ∀ b ∈ zs, b ∈ ys
set_option maxHeartbeats 4000000 in
set_option maxRecDepth 8000 in
theorem tablesBorn_any (bm L : Nat) (sv : Value) (xs : List Value) (m : Mc) (w : World) (hL : L ≤ 1000000) (M : MAt w bm { m with slots := sv }) (hR : w.ownsRow 0 94 1 sv L xs) (hx : ∀ i, i < L → xs[i]? = some (.pointer none) ∨ ∃ b, xs[i]? = some (pv b) ∧ b < w.heap.size ∧ TabB w b) (HS : Hid (SortOk w.heap.size w)) :
    Calls Tryz.prog 185 #[.pointer (some ⟨bm, 0, none⟩)] w fun e w' => ∃ so n sc, e = .returned (.slice so n sc) ∧ n ≤ 1000000 ∧ Below w.heap.size w w' ∧ TabsAt w' so n := by
  obtain ⟨so, sc, rfl⟩ := owns_slice hR
  have ms := M.cell
  have HR : Hid (w.ownsRow 0 94 1 (.slice so L sc) L xs) := hR
  have HX : Hid (∀ i, i < L → xs[i]? = some (.pointer none) ∨ ∃ b, xs[i]? = some (pv b) ∧ b < w.heap.size ∧ TabB w b) := hx
  clear hR hx
  go_enter Tryz.func185, Tryz.ntmps185
  go_wp2_with fail
  clear ms
  go_loopw [3, 11] (fun v y ws => ∃ (j n : Nat) (ys : List Nat), j ≤ L ∧ n ≤ j ∧ y = .int .i64 j ∧ Hid (Below w.heap.size w ws ∧ ws.ownsRow w.heap.size 94 1 v n (ys.map pv) ∧ ∀ b ∈ ys, b < w.heap.size ∧ TabB w b)) (fun _ y _ => L - (intOf y).toNat)
  case atStart => exact ⟨0, 0, [], by omega, by omega, rfl, Below.refl _ _, World.ownsRow_nil _ _ _ _, by simp⟩
  case round =>
    obtain ⟨j, n, ys, hj, hnj, rfl, HK⟩ := hrel
    obtain ⟨hB, hO, hG⟩ := HK.out
    obtain ⟨vo, vc, rfl⟩ := owns_slice hO
    have HB : Hid (Below w.heap.size w wr) := hB
    have HO : Hid (wr.ownsRow w.heap.size 94 1 (.slice vo n vc) n (ys.map pv)) := hO
    have HG : Hid (∀ b ∈ ys, b < w.heap.size ∧ TabB w b) := hG
    have hsz := hB.size
    clear HK hB hO hG
    by_cases hjL : j = L
    · subst hjL
      go_wp2_with fail
      refine (HS.out wr (.slice vo n vc) n ys HB.out (by omega) HO.out (fun b hb => ⟨(HG.out b hb).1, (HG.out b hb).2.later (HG.out b hb).1 HB.out⟩)).mono ?_
      rintro e w2 ⟨rfl, hw2, zs, hz, hm⟩
      go_wp2_with fail
      go_ret
      refine ⟨vo, n, vc, rfl, by omega, HB.out.trans hw2, ?_⟩
      rcases owns_form hz with ⟨h, h0⟩ | ⟨g, c, h, _⟩
      · exact .inl h0
      · injection h with h _ _
        subst h
        refine .inr ⟨g, rfl, fun i hi => ?_⟩
        have hl : zs.length = n := by have := hz.1; simpa using this
        have hzi : zs[i]? = some zs[i] := List.getElem?_eq_getElem (by omega)
        have hb := hm _ (List.getElem_mem (by omega : i < zs.length))
        obtain ⟨p, bo, ve, hT⟩ := (HG.out _ hb).2.later (HG.out _ hb).1 (HB.out.trans hw2)
        exact ⟨zs[i], owns_cell hz (by rw [List.getElem?_map, hzi]; rfl), hT.cell 7⟩
    · have j0 : (0 : Int) ≤ j := by omega
      have j1 : (j : Int) < L := by omega
      have ew : IntKind.i64.wrap ((j : Int) + 1) = ((j + 1 : Nat) : Int) := by rw [wq (by omega) (by omega)]; omega
      rcases owns_form HR.out with ⟨h, h0⟩ | ⟨g, c, h, _⟩
      · omega
      · injection h with h _ h3
        subst h
        clear h3
        rcases HX.out j (by omega) with h | ⟨b, h, hb, hT⟩
        · have hc := cb (owns_cell HR.out h) HB.out
          go_wp2_with fail
          go_roundw
          case rel => exact ⟨j + 1, n, ys, by omega, by omega, by go_num, HB.out, HO.out, HG.out⟩
          case measure => simp [intOf]; omega
        · have hc := cb (owns_cell HR.out h) HB.out
          obtain ⟨p, bo, ve, hT1⟩ := hT
          have hk := (hT1.later HB.out).cell
          go_wp2_with (at_builtin; refine app_one eltS rfl _ _ rfl w.heap.size _ n _ [pv b] wr.heap.size rfl (owns_below HO.out ((Below.refl _ _).alloc (Nat.le_refl _) _)) rfl ?qc0 rfl ?qc1 ?qc2 (by decide) ?qc3 ?_)
          case qc0 => exact fun k v hv => by rw [Nat.zero_add, (Blk.new wr #[pv b] 94).cell]; simpa using hv
          case qc1 => simp [Value.oneCell']
          case qc2 => omega
          case qc3 => omega
          intro v' w3 ho3 hg3 _
          have C3 : Chg (Value.slice vo n vc).ownBlock.toList (wr.alloc (.cells #[pv b] 94)) w3 := Chg.grown hg3 (fun k hk => by rw [hk]; simp)
          have B3 : Below w.heap.size w w3 := blo (bl2 HB.out ((Below.refl _ _).alloc (Nat.le_refl _) _)) C3 (row_lo HO.out) (Nat.le_refl _)
          obtain ⟨so', sc', rfl⟩ := owns_slice ho3
          have HO3 : Hid (w3.ownsRow w.heap.size 94 1 (.slice so' (n + 1) sc') (n + 1) ((ys ++ [b]).map pv)) := by simpa [Hid] using ho3
          clear ho3 hg3 hk hc
          go_wp2_with fail
          go_roundw
          case rel => exact ⟨j + 1, n + 1, ys ++ [b], by omega, by omega, by go_num, B3, HO3.out, fun q hq => by
            rcases List.mem_append.1 hq with h | h
            · exact HG.out q h
            · simp at h; subst h; exact ⟨hb, p, bo, ve, hT1⟩⟩
          case measure => simp [intOf]; omega
end Go.Proofs.YtgopdffmnikhdaaGreatDoor
namespace Go.Proofs.YtgopdffmnikhdaaGreatDoor
open Go.RowKit Go.Deep
attribute [local go_sem] run_store_float vi
@[go_sem] theorem as_ended (v : Value) (w : World) : (Instr.typeAssert (.iface 87 v) 20 87 true).run Tryz.prog w = .ok (.tuple #[v, .bool true]) w := by kernel_rfl
set_option maxHeartbeats 1000000 in
set_option maxRecDepth 8000 in
theorem runEnd_panics (bx bl bm : Nat) (m : Mc) (older : List PanicEntry) (w : World) (hx : w.cell? ⟨bx, 0, none⟩ = some (.pointer (some ⟨bl, 0, none⟩))) (hl : w.cell? ⟨bl, 0, none⟩ = some (.pointer (some ⟨bm, 0, none⟩))) (X : MAt w bm m) :
    CallsD Tryz.prog 22 #[.pointer (some ⟨bx, 0, none⟩)] (.panicking ({ v := .iface 87 (.agg #[.int .i64 0]), recovered := false } :: older)) w fun e u' w' =>
      e = .returned (.tuple #[]) ∧ u' = .panicking ({ v := .iface 87 (.agg #[.int .i64 0]), recovered := true } :: older) ∧ Chg [bm] w w' ∧ MAt w' bm { m with over := .bool true, rc := .int .i64 0 } := by
  refine callsD_of_wpS Tryz.func22 rfl fun c₀ cs hu => ?_
  apply wpS_seq
  apply wpS_region
  simp [wpOpsS, go_sem, recoverD, hu, Tryz.ntmps22, Exit.thenS]
  have ht : (#[Value.pointer (some ⟨bx, 0, none⟩)] ++ (Array.replicate 24 undef).setIfInBounds 3 (Value.iface 87 (Value.agg #[Value.int IntKind.i64 0]))) = #[(.pointer (some ⟨bx, 0, none⟩) : Value), undef, undef, undef, .iface 87 (.agg #[.int .i64 0]), undef, undef, undef, undef, undef, undef, undef, undef, undef, undef, undef, undef, undef, undef, undef, undef, undef, undef, undef, undef] := by kernel_rfl
  rw [ht]
  refine wpS_of_wp ?_
  have hxa := ca hx
  have hla := ca hl
  have xa := fun o => (X.alloc o).cell
  have xf := fun o => (X.alloc o).frozen
  clear ht hu
  go_wp2_with fail
  go_region
  go_wp2_with fail
  have G1 : Chg [bm] w (((w.alloc (.cells #[.int .i64 0] 87)).setCell ⟨bm, 17, none⟩ (.bool true)).setCell ⟨bm, 21, none⟩ (.int .i64 0)).drew := ((((Chg.refl [bm] w).below ((Below.refl _ _).alloc (Nat.le_refl _) _)).set (by simp) _ _).set (by simp) _ _).below (Below.refl _ _).drew
  have G2 : MAt (((w.alloc (.cells #[.int .i64 0] 87)).setCell ⟨bm, 17, none⟩ (.bool true)).setCell ⟨bm, 21, none⟩ (.int .i64 0)).drew bm { m with over := .bool true, rc := .int .i64 0 } := (((X.alloc _).set 17 _).set 21 _).later (Below.refl _ _).drew
  revert G1 G2
  obtain ⟨W, hW⟩ : ∃ z, z = (((w.alloc (.cells #[.int .i64 0] 87)).setCell ⟨bm, 17, none⟩ (.bool true)).setCell ⟨bm, 21, none⟩ (.int .i64 0)).drew := ⟨_, rfl⟩
  rw [← hW]
  clear hW xa xf hxa hla
  intro G1 G2
  simp [bodyPostS, results, Tryz.results22]
  exact ⟨G1, G2⟩
set_option maxHeartbeats 1000000 in
set_option maxRecDepth 8000 in
theorem runEnd_idle (bx : Nat) (w : World) :
    CallsD Tryz.prog 22 #[.pointer (some ⟨bx, 0, none⟩)] .returning w fun e u' w' => e = .returned (.tuple #[]) ∧ u' = .returning ∧ w' = w := by
  refine callsD_of_wpS Tryz.func22 rfl fun c₀ cs hu => ?_
  apply wpS_seq
  apply wpS_region
  simp [wpOpsS, go_sem, recoverD, hu, Tryz.ntmps22, Exit.thenS]
  have ht : (#[Value.pointer (some ⟨bx, 0, none⟩)] ++ (Array.replicate 24 undef).setIfInBounds 3 Value.nilIface) = #[(.pointer (some ⟨bx, 0, none⟩) : Value), undef, undef, undef, .nilIface, undef, undef, undef, undef, undef, undef, undef, undef, undef, undef, undef, undef, undef, undef, undef, undef, undef, undef, undef, undef] := by kernel_rfl
  rw [ht]
  clear ht
  refine wpS_of_wp ?_
  go_wp2_with fail
  cases c₀
  simp_all [bodyPostS, results, Tryz.results22]
end Go.Proofs.YtgopdffmnikhdaaGreatDoor
namespace Go.Proofs.YtgopdffmnikhdaaGreatDoor
open Go.RowKit Go.Deep
theorem met_any (bm : Nat) (w : World) : Calls Tryz.prog 26 #[.pointer (some ⟨bm, 0, none⟩)] w fun e w' => e = .returned (.func (.func 105) #[] #[.pointer (some ⟨w.heap.size, 0, none⟩)]) ∧ w' = w.alloc (.cells #[.pointer (some ⟨bm, 0, none⟩)] 61) := by
  have hmf : ∀ (fn : Fn) (first cap : Array Value) (w : World), (Instr.makeFunc fn first cap).run Tryz.prog w = .ok (.func fn first cap) w := fun _ _ _ _ => rfl
  go_enter Tryz.func26, Tryz.ntmps26
  go_wp2_with fail
  go_ret
  exact ⟨rfl, rfl⟩
attribute [local go_sem] run_store_float vi
abbrev kT : Value := .agg #[.bool true, .int .i64 0]
abbrev kS (p : Int) : Value := .agg #[.bool false, .int .i64 p]
abbrev en (k : Value) (i : Nat) : MapEntry := { key := k, val := .agg #[], born := i }
def map1 : Obj := .map #[en kT 0] 1
def map2 (p : Int) : Obj := .map #[en kT 0, en (kS p) 1] 2
theorem checkKey_thing (e b : Bool) (p : Int) (w : World) : (Instr.checkKey e 10000 92 (.agg #[.bool b, .int .i64 p])).run Tryz.prog w = .ok () w := by
  show (Instr.checkKey e (9998 + 1 + 1) 92 _).run Tryz.prog w = _
  unfold Instr.checkKey
  simp [run_underlying Tryz.underlying92, go_sem]
  unfold Instr.checkKey
  simp [run_underlying Tryz.underlying4, run_underlying Tryz.underlying3, go_sem]
theorem eq_thing (p : Int) (w : World) : (Op.equal 92 (kS p) kT).run Tryz.prog w = .ok false w := by
  show (Op.equalIn (9999 + 1) _ _ _).run Tryz.prog w = _
  rw [run_equalIn_struct w 9999 92 _ _ (by kernel_rfl) (by kernel_rfl)]
  simp [Program.fieldsOf, Tryz.underlying92, go_sem]
theorem run_look0 {W : World} {b : Nat} (t : Bool) (p : Int) (h : W.heap[b]? = some (.map #[] 0)) : (Instr.lookup 130 (.map (some b)) (.agg #[.bool t, .int .i64 p]) true).run Tryz.prog W = .ok (.tuple #[.agg #[], .bool false]) W := by
  have g := Go.run_getObj_map (P := Tryz.prog) (w := W) (hb := h)
  simp only [Instr.lookup, Sem.run_bind, run_underlying Tryz.underlying130, Result.andThen_ok, g, checkKey_thing, Instr.findKey, run_underlying Tryz.underlying92, Instr.findNow, Sem.run_pure]
  simp [go_sem]
theorem run_look1 {W : World} {b : Nat} (p : Int) (h : W.heap[b]? = some map1) : (Instr.lookup 130 (.map (some b)) (kS p) true).run Tryz.prog W = .ok (.tuple #[.agg #[], .bool false]) W := by
  have g := Go.run_getObj_map (P := Tryz.prog) (w := W) (hb := h)
  simp only [Instr.lookup, Sem.run_bind, run_underlying Tryz.underlying130, Result.andThen_ok, g, checkKey_thing, Instr.findKey, run_underlying Tryz.underlying92, Instr.findNow, Instr.sameNow, Instr.findAsking, eq_thing, Sem.run_pure]
  simp [go_sem]
theorem run_upd0 {W : World} {b : Nat} (h : W.heap[b]? = some (.map #[] 0)) : (Instr.mapUpdate 130 (.map (some b)) kT (.agg #[])).run Tryz.prog W = .ok () (W.putObj b map1) := by
  have g := Go.run_getObj_map (P := Tryz.prog) (w := W) (hb := h)
  simp only [Instr.mapUpdate, Sem.run_bind, run_underlying Tryz.underlying130, Result.andThen_ok, g, checkKey_thing, Instr.findKey, run_underlying Tryz.underlying92, Instr.findNow, Sem.run_pure, MapKept.run_setObj_map _ h]
  rfl
theorem run_upd1 {W : World} {b : Nat} (p : Int) (h : W.heap[b]? = some map1) : (Instr.mapUpdate 130 (.map (some b)) (kS p) (.agg #[])).run Tryz.prog W = .ok () (W.putObj b (map2 p)) := by
  have g := Go.run_getObj_map (P := Tryz.prog) (w := W) (hb := h)
  simp only [Instr.mapUpdate, Sem.run_bind, run_underlying Tryz.underlying130, Result.andThen_ok, g, checkKey_thing, Instr.findKey, run_underlying Tryz.underlying92, Instr.findNow, Instr.sameNow, Instr.findAsking, eq_thing]
  simp [MapKept.run_setObj_map _ h]
  rfl
theorem run_mkMap (n : Int) (w : World) : (Instr.makeMap 130 (some (.int .i64 n))).run Tryz.prog w = .ok (.map (some w.heap.size)) (w.alloc (.map #[] 0)) := by
  simp [Instr.makeMap, run_underlying Tryz.underlying130, go_sem]
end Go.Proofs.YtgopdffmnikhdaaGreatDoor
namespace Go.Proofs.YtgopdffmnikhdaaGreatDoor
open Go.RowKit Go.Deep
attribute [local go_sem] run_store_float vi
/-- What stands while the things that are alive are met. -/
structure MS (J : Nat → World → Prop) (bx bm bmap bq i n : Nat) (gone : Int) (mo : Obj) (xs : List Value) (A : List Nat) (G : Nat) (oG : Option Obj) (W : World) : Prop where
  j : J i W
  c : W.cell? ⟨bx, 0, none⟩ = some (.pointer (some ⟨bm, 0, none⟩))
  m : W.heap[bmap]? = some mo
  q : QAt W (bmap + 1) bq n gone xs A
  l : W.heap[G]? = oG
  g : G < W.heap.size
section
variable {J : Nat → World → Prop} {lo bx bm bmap bq i n G : Nat} {gone : Int} {mo : Obj} {xs : List Value} {A : List Nat} {oG : Option Obj} {W W' : World}
theorem MS.below (h : MS J bx bm bmap bq i n gone mo xs A G oG W) (hJ : ∀ i W W', J i W → Below lo W W' → J i W') (h1 : lo ≤ bmap) (hb : Below W.heap.size W W') : MS J bx bm bmap bq i n gone mo xs A G oG W' :=
  have hm : bmap < W.heap.size := (Array.getElem?_eq_some_iff.1 h.m).1
  ⟨hJ i W W' h.j (hb.mono (by omega)), cb h.c hb, (hb.block _ hm).trans h.m, h.q.later hb, (hb.block _ h.g).trans h.l, Nat.lt_of_lt_of_le h.g hb.size⟩
theorem putBelow {B b : Nat} (W : World) (o : Obj) (h : B ≤ b) : Below B W (W.putObj b o) := ⟨rfl, rfl, rfl, by simp, fun k hk => World.putObj_heap_other (by omega)⟩
theorem MS.put (h : MS J bx bm bmap bq i n gone mo xs A G oG W) (hJ : ∀ i W W', J i W → Below lo W W' → J i W') (h1 : lo ≤ bmap) (h2 : bmap < bq) (h3 : bx < lo) (h4 : bq < G) (o : Obj) : MS J bx bm bmap bq i n gone o xs A G oG (W.putObj bmap o) := by
  have hm : bmap < W.heap.size := (Array.getElem?_eq_some_iff.1 h.m).1
  have hk : ∀ k, k ≠ bmap → (W.putObj bmap o).heap[k]? = W.heap[k]? := fun k hk => World.putObj_heap_other hk
  refine ⟨hJ i W _ h.j (putBelow W o h1), (World.cell?_of_block (hk bx (by omega))).trans h.c, World.putObj_heap_same hm, ?_, (hk G (by omega)).trans h.l, by simpa using h.g⟩
  obtain ⟨v, a, b, c⟩ := h.q
  exact ⟨v, (hk bq (by omega)).trans a, owns_other b fun k hk' => hk k (by have := (b.lt k hk').1; omega), c⟩
theorem MS.pushed {n' : Nat} {xs' : List Value} (h : MS J bx bm bmap bq i n gone mo xs A G oG W) (hJ : ∀ i W W', J i W → Below lo W W' → J i W') (h1 : lo ≤ bmap) (h3 : bx < lo) (hq : QAt W' (bmap + 1) bq n' gone xs' A) (hb : Below (bmap + 1) W W') (hG : W'.heap[G]? = W.heap[G]?) : MS J bx bm bmap bq i n' gone mo xs' A G oG W' :=
  ⟨hJ i W W' h.j (hb.mono (by omega)), (World.cell?_of_block (hb.block bx (by omega))).trans h.c, (hb.block _ (by omega)).trans h.m, hq, hG.trans h.l, Nat.lt_of_lt_of_le h.g hb.size⟩
theorem MS.popped {gone' : Int} (h : MS J bx bm bmap bq i n gone mo xs A G oG W) (hJ : ∀ i W W', J i W → Below lo W W' → J i W') (h1 : lo ≤ bmap) (h2 : bmap < bq) (h3 : bx < lo) (h4 : bq < G) (hc : Chg [bq] W W') (hq : QAt W' (bmap + 1) bq n gone' xs A) : MS J bx bm bmap bq i n gone' mo xs A G oG W' := by
  have hm : bmap < W.heap.size := (Array.getElem?_eq_some_iff.1 h.m).1
  have hk : ∀ k, k ≠ bq → k < W.heap.size → W'.heap[k]? = W.heap[k]? := fun k hk hl => hc.block k (by simpa using hk) hl
  exact ⟨hJ i W W' h.j ⟨hc.os, hc.tape, hc.output, hc.size, fun k hl => hk k (by omega) (by omega)⟩, (World.cell?_of_block (hk bx (by omega) (by omega))).trans h.c, (hk _ (by omega) hm).trans h.m, hq, (hk G (by omega) h.g).trans h.l, Nat.lt_of_lt_of_le h.g hc.size⟩
theorem MS.yielded {X : List Nat} {i' : Nat} (h : MS J bx bm bmap bq i n gone mo xs A G oG W) (h1 : lo ≤ bmap) (h2 : bmap < bq) (h3 : bx < lo) (h4 : bq < G) (hX : ∀ b ∈ X, b < lo ∧ b ≠ bx) (hj : J i' W') (hc : Chg X W W') : MS J bx bm bmap bq i' n gone mo xs A G oG W' := by
  have hm : bmap < W.heap.size := (Array.getElem?_eq_some_iff.1 h.m).1
  have hk : ∀ k, lo ≤ k ∨ k = bx → k < W.heap.size → W'.heap[k]? = W.heap[k]? := fun k hk hl => hc.block k (fun e => by have := hX k e; omega) hl
  refine ⟨hj, (World.cell?_of_block (hk bx (.inr rfl) (by omega))).trans h.c, (hk _ (.inl h1) hm).trans h.m, ?_, (hk G (.inl (by omega)) h.g).trans h.l, Nat.lt_of_lt_of_le h.g hc.size⟩
  obtain ⟨v, a, b, c⟩ := h.q
  exact ⟨v, (hk bq (.inl (by omega)) a.lt).trans a, owns_other b fun k hk' => hk k (by have := (b.lt k hk').1; omega) (b.lt k hk').2, c⟩
theorem MS.more (h : MS J bx bm bmap bq i n gone mo xs A G oG W) : MS J bx bm bmap bq i n gone mo xs (W.heap.size :: A) G oG W :=
  let ⟨v, a, b, c⟩ := h.q
  ⟨h.j, h.c, h.m, ⟨v, a, b, fun k hk hm => (List.mem_cons.1 hm).elim (fun e => by have := (b.lt k hk).2; omega) (c k hk)⟩, h.l, h.g⟩
theorem MS.less {B : List Nat} (h : MS J bx bm bmap bq i n gone mo xs A G oG W) (hB : ∀ k ∈ B, k ∈ A) : MS J bx bm bmap bq i n gone mo xs B G oG W :=
  let ⟨v, a, b, c⟩ := h.q
  ⟨h.j, h.c, h.m, ⟨v, a, b, fun k hk hm => c k hk (hB k hm)⟩, h.l, h.g⟩
end
end Go.Proofs.YtgopdffmnikhdaaGreatDoor
