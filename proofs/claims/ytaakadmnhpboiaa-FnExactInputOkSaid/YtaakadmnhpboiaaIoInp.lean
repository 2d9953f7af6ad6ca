import Derived.Test.YtaakadmnhpboiaaIoStr
namespace Go.Proofs.Ytaakadmnhpboiaa
open Go.RowKit Go.Deep

def szI (s1 s2 : List ByteArray) (left : Int) : Int := if szS s1 left < 0 then -1 else if szS s2 (szS s1 left) < 0 then -1 else szS s2 (szS s1 left)

theorem szs_le (ss : List ByteArray) (l : Int) : szs ss l ≤ l ∨ szs ss l = -1 := by
  induction ss generalizing l with
  | nil => left; simp [szs]
  | cons s r ih =>
    simp only [szs]
    split
    · right; rfl
    · rcases ih (l - s.size) with h | h
      · left; omega
      · right; exact h
theorem szS_le (ss : List ByteArray) (l : Int) (h : 0 ≤ l) : szS ss l ≤ l := by
  unfold szS
  split
  · omega
  · rcases szs_le ss (l - ss.length) with h | h <;> omega

set_option maxHeartbeats 400000 in
theorem szInput_any (a1 a2 : Option Addr) (c1 c2 : Nat) (s1 s2 : List ByteArray) (t d c left : Int) (w : World) (h0 : 0 ≤ left) (h1 : left ≤ 1048576)
   (hm1 : s1.length ≤ maxLen) (hs1 : ∀ s ∈ s1, s.size ≤ maxLen) (hc1 : StrsAt w a1 s1)
   (hm2 : s2.length ≤ maxLen) (hs2 : ∀ s ∈ s2, s.size ≤ maxLen) (hc2 : StrsAt w a2 s2) :
    Calls Try.prog 4 #[.agg #[.slice a1 s1.length c1, .slice a2 s2.length c2, .int .i64 t, .int .i64 d, .int .i64 c], .int .i64 left] w fun e w' => e = .returned (.int .i64 (szI s1 s2 left)) ∧ Below w.heap.size w w' := by
  have hb1 : ∀ o, Below w.heap.size w (w.alloc o) := fun o => (Below.refl _ _).alloc (Nat.le_refl _) o
  have hl := szS_le s1 left h0
  go_enter Try.func4, Try.ntmps4
  go_wp2_with fail
  refine (szStringS_any a1 c1 s1 left _ h0 h1 hm1 hs1 (hc1.later (hb1 _))).mono ?_
  rintro e w' ⟨rfl, rfl⟩
  by_cases hn : szS s1 left < 0
  · have E0 : Hid (szI s1 s2 left = -1) := by show szI s1 s2 left = -1; simp [szI, hn]
    go_wp2_with fail
    go_ret
    exact ⟨ret_int E0.out.symm, hb1 _⟩
  · have hge : 0 ≤ szS s1 left := by omega
    have E1 : Hid (szI s1 s2 left = if szS s2 (szS s1 left) < 0 then -1 else szS s2 (szS s1 left)) := by show szI s1 s2 left = _; simp [szI, hn]
    generalize szS s1 left = q at *
    go_wp2_with fail
    refine (szStringS_any a2 c2 s2 q _ hge (by omega) hm2 hs2 (hc2.later (hb1 _))).mono ?_
    rintro e w' ⟨rfl, rfl⟩
    generalize szS s2 q = r at *
    by_cases hr : r < 0
    · go_wp2_with fail
      go_ret
      exact ⟨ret_int (by rw [E1.out, if_pos hr]), hb1 _⟩
    · go_wp2_with fail
      go_ret
      exact ⟨ret_int (by rw [E1.out, if_neg (by omega)]), hb1 _⟩

theorem bcell {W w1 : World} (hb : Below W.heap.size W w1) : (∀ b o, b < W.heap.size → w1.cell? ⟨b, o, none⟩ = W.cell? ⟨b, o, none⟩) ∧ (∀ b o, b < W.heap.size → w1.frozen? ⟨b, o, none⟩ = W.frozen? ⟨b, o, none⟩) :=
  ⟨fun b o h => hb.cell (p := ⟨b, o, none⟩) h, fun b o h => hb.frozen (p := ⟨b, o, none⟩) h⟩

set_option maxHeartbeats 400000 in
theorem toInput_any (a1 a2 : Option Addr) (c1 c2 : Nat) (s1 s2 : List ByteArray) (t d c : Int) (w : World)
   (hm1 : s1.length ≤ 1048576) (hc1 : StrsAt w a1 s1) (hm2 : s2.length ≤ 1048576) (hc2 : StrsAt w a2 s2) :
    Calls Try.prog 6 #[.agg #[.slice a1 s1.length c1, .slice a2 s2.length c2, .int .i64 t, .int .i64 d, .int .i64 c]] w fun e w' => ∃ b1 b2, e = .returned (.agg #[.slice (some ⟨b1, 0, none⟩) s1.length s1.length, .slice (some ⟨b2, 0, none⟩) s2.length s2.length, .int .i64 t, .int .i64 d, .int .i64 c]) ∧
      w.heap.size ≤ b1 ∧ w.heap.size ≤ b2 ∧ StrsAt w' (some ⟨b1, 0, none⟩) s1 ∧ StrsAt w' (some ⟨b2, 0, none⟩) s2 ∧ Below w.heap.size w w' := by
  have hb1 : ∀ o, Below w.heap.size w (w.alloc o) := fun o => (Below.refl _ _).alloc (Nat.le_refl _) o
  have hb3 : ∀ o1 o2 o3, Below w.heap.size w (((w.alloc o1).alloc o2).alloc o3) := fun o1 o2 o3 => ((hb1 o1).alloc (by simp) o2).alloc (by simp; omega) o3
  go_enter Try.func6, Try.ntmps6
  go_wp2_with fail
  refine (toStringS_any a1 c1 s1 _ hm1 (hc1.later (hb3 _ _ _))).mono ?_
  rintro e w1 ⟨rfl, hr1, hw1, hz1⟩
  obtain ⟨k1, k2⟩ := bcell hw1
  have z1 : w1.heap.size = w.heap.size + 1 + 1 + 1 + 1 := by rw [hz1]; simp
  have B1 : Below w.heap.size w w1 := (hb3 _ _ _).trans (hw1.mono (by simp; omega))
  have r1 : w1.rowIs (w.heap.size + 1 + 1 + 1) 9 s1.length (fun i => .string (s1.getD i ByteArray.empty)) := by simpa using hr1
  clear hr1 hz1
  go_wp2_with fail
  refine (toStringS_any a2 c2 s2 _ hm2 (hc2.later (B1.setCell (by show w.heap.size ≤ w.heap.size + 1 + 1; omega) _))).mono ?_
  rintro e w2 ⟨rfl, hr2, hw2, hz2⟩
  obtain ⟨k3, k4⟩ := bcell hw2
  have S1 := (r1.setOther (a := ⟨w.heap.size + 1 + 1, 0, none⟩) (by show w.heap.size + 1 + 1 + 1 ≠ w.heap.size + 1 + 1; omega) (Value.slice (some ⟨w.heap.size + 1 + 1 + 1, 0, none⟩) s1.length s1.length)).of_block (hw2.block _ (by simp [z1]))
  have B2 := (B1.setCell (p := ⟨w.heap.size + 1 + 1, 0, none⟩) (by show w.heap.size ≤ w.heap.size + 1 + 1; omega) (Value.slice (some ⟨w.heap.size + 1 + 1 + 1, 0, none⟩) s1.length s1.length)).trans (hw2.mono (by simp [z1]; omega))
  have S2 : w2.rowIs (w.heap.size + 1 + 1 + 1 + 1) 9 s2.length (fun i => .string (s2.getD i ByteArray.empty)) := by simpa [z1] using hr2
  have z2 : w2.heap.size = w.heap.size + 1 + 1 + 1 + 1 + 1 := by rw [hz2]; simp [z1]
  clear r1 hr2 hw2 hz2
  go_wp2_with fail
  refine bodyPost_ret (v := .agg #[.slice (some ⟨w.heap.size + 1 + 1 + 1, 0, none⟩) s1.length s1.length, .slice (some ⟨w.heap.size + 1 + 1 + 1 + 1, 0, none⟩) s2.length s2.length, .int .i64 t, .int .i64 d, .int .i64 c]) (by simp [results, Try.results6, go_sem, k1, k3, z1]) rfl ⟨_, _, rfl, by omega, by omega, StrsAt.of_row (t := 9) ?_, StrsAt.of_row (t := 9) ?_, ?_⟩
  · iterate 9 (refine World.rowIs.setOther ?_ (by first | (simp; done) | (simp; omega)) _)
    exact S1
  · iterate 9 (refine World.rowIs.setOther ?_ (by first | (simp; done) | (simp; omega)) _)
    exact S2
  · iterate 9 (refine Below.setCell ?_ (by first | (simp; done) | (simp; omega)) _)
    exact B2

def okI (s1 s2 : List ByteArray) (t d c : Int) : Bool := fitsB s1 && fitsB s2 && withinB t 0 5000 && withinB d 1 60 && withinB c 0 20000

end Go.Proofs.Ytaakadmnhpboiaa
