import Derived.Test.YtaakadmnhpboiaaIoInp
import Derived.Deep.RegionHeld3
namespace Go.Proofs.Ytaakadmnhpboiaa
open Go.RowKit Go.Deep

theorem within3 (t d c : Int) : (true && true && (withinB t 0 5000 && withinB d 1 60 && withinB c 0 20000)) = decide (0 ≤ t ∧ t ≤ 5000 ∧ 1 ≤ d ∧ d ≤ 60 ∧ 0 ≤ c ∧ c ≤ 20000) := by
  rw [Bool.eq_iff_iff]; simp [withinB]; omega

set_option maxHeartbeats 400000 in
theorem eqInput_any (a1 a2 b1 b2 : Option Addr) (c1 c2 c3 c4 : Nat) (s1 s2 : List ByteArray) (t d c : Int) (w : World)
   (hm1 : s1.length ≤ 1048576) (hc1 : StrsAt w a1 s1) (hm2 : s2.length ≤ 1048576) (hc2 : StrsAt w a2 s2) (hd1 : StrsAt w b1 s1) (hd2 : StrsAt w b2 s2) :
    Calls Try.prog 8 #[.agg #[.slice a1 s1.length c1, .slice a2 s2.length c2, .int .i64 t, .int .i64 d, .int .i64 c], .agg #[.slice b1 s1.length c3, .slice b2 s2.length c4, .int .i64 t, .int .i64 d, .int .i64 c]] w fun e w' => e = .returned (.bool true) ∧ Below w.heap.size w w' := by
  have hb2 : ∀ o1 o2, Below w.heap.size w ((w.alloc o1).alloc o2) := fun o1 o2 => ((Below.refl _ _).alloc (Nat.le_refl _) o1).alloc (by simp) o2
  go_enter Try.func8, Try.ntmps8
  go_wp2_with fail
  refine (eqStringS_any a1 b1 c1 c3 s1 _ hm1 (hc1.later (hb2 _ _)) (hd1.later (hb2 _ _))).mono ?_
  rintro e w1 ⟨rfl, n, rfl⟩
  go_wp2_with fail
  refine (eqStringS_any a2 b2 c2 c4 s2 _ hm2 (hc2.later (below_drewN (hb2 _ _) _)) (hd2.later (below_drewN (hb2 _ _) _))).mono ?_
  rintro e w1 ⟨rfl, m, rfl⟩
  go_wp2_with fail
  go_ret
  exact ⟨rfl, below_drewN (hb2 _ _) _⟩

set_option maxHeartbeats 400000 in
theorem specInputOk_any (a1 a2 : Option Addr) (c1 c2 : Nat) (s1 s2 : List ByteArray) (t d c : Int) (w : World)
   (hm1 : s1.length ≤ 1048576) (hc1 : StrsAt w a1 s1) (hm2 : s2.length ≤ 1048576) (hc2 : StrsAt w a2 s2) :
    Calls Try.prog 5 #[.agg #[.slice a1 s1.length c1, .slice a2 s2.length c2, .int .i64 t, .int .i64 d, .int .i64 c]] w fun e w' => e = .returned (.bool (okI s1 s2 t d c)) ∧ Below w.heap.size w w' := by
  have hb1 : ∀ o, Below w.heap.size w (w.alloc o) := fun o => (Below.refl _ _).alloc (Nat.le_refl _) o
  by_cases g1 : s1.length ≤ 200
  · by_cases g2 : s2.length ≤ 200
    · have E0 : Hid (okI s1 s2 t d c = (short s1 && short s2 && (withinB t 0 5000 && withinB d 1 60 && withinB c 0 20000))) := by show okI s1 s2 t d c = _; simp [okI, fitsB, g1, g2, Bool.and_assoc]
      have k1 : decide ((200 : Int) < s1.length) = false := by simp; omega
      have k2 : decide ((200 : Int) < s2.length) = false := by simp; omega
      have L1 := hc1.later (hb1 (.cells #[.slice a1 s1.length c1, .slice a2 s2.length c2, .int .i64 t, .int .i64 d, .int .i64 c] 27))
      have L2 := hc2.later (hb1 (.cells #[.slice a1 s1.length c1, .slice a2 s2.length c2, .int .i64 t, .int .i64 d, .int .i64 c] 27))
      have HB : Hid (∀ o, Below w.heap.size w (w.alloc o)) := hb1
      clear hb1 hc1 hc2
      go_enter Try.func5, Try.ntmps5
      go_wp2_with fail
      go_loop [20] (fun i => ∃ k : Nat, k ≤ s1.length ∧ i = .int .i64 k ∧ Hid (short (s1.drop k) = short s1)) (fun i => s1.length - (intOf i).toNat)
      case atStart => exact ⟨0, Nat.zero_le _, rfl, rfl⟩
      case round =>
        obtain ⟨k, hk, rfl, HQ⟩ := hrel
        by_cases hlt : k < s1.length
        · obtain ⟨b, off, rfl, hbl, hcell⟩ := L1 k hlt
          have HD : Hid _ := short_drop hlt
          generalize s1.getD k ByteArray.empty = s at *
          clear L1 L2
          go_wp2
          · go_ret
            exact ⟨ret_bool (by rw [E0.out, ← HQ.out, HD.out]; simp; omega), HB.out _⟩
          · go_round
            case rel => exact ⟨k + 1, by omega, by go_num, by have h := HD.out; rw [HQ.out] at h; show _ = _; rw [h]; simp; omega⟩
            case measure => simp [intOf]; omega
        · have hS : Hid (short s1 = true) := by
            have h := HQ.out
            rw [List.drop_of_length_le (by omega)] at h
            exact h.symm
          clear HQ L1
          go_wp2_with fail
          go_loop [31] (fun i => ∃ k : Nat, k ≤ s2.length ∧ i = .int .i64 k ∧ Hid (short (s2.drop k) = short s2)) (fun i => s2.length - (intOf i).toNat)
          case atStart => exact ⟨0, Nat.zero_le _, rfl, rfl⟩
          case round =>
            obtain ⟨m, hm, rfl, HQ⟩ := hrel
            by_cases hlt2 : m < s2.length
            · obtain ⟨b, off, rfl, hbl, hcell⟩ := L2 m hlt2
              have HD : Hid _ := short_drop hlt2
              generalize s2.getD m ByteArray.empty = s at *
              clear L2
              go_wp2
              · go_ret
                exact ⟨ret_bool (by rw [E0.out, ← HQ.out, HD.out]; simp; omega), HB.out _⟩
              · go_round
                case rel => exact ⟨m + 1, by omega, by go_num, by have h := HD.out; rw [HQ.out] at h; show _ = _; rw [h]; simp; omega⟩
                case measure => simp [intOf]; omega
            · have hT : Hid (short s2 = true) := by
                have h := HQ.out
                rw [List.drop_of_length_le (by omega)] at h
                exact h.symm
              clear HQ L2
              go_wp2
              all_goals
                go_ret
                exact ⟨ret_bool (by rw [E0.out, hS.out, hT.out, within3]; first | (apply decide_eq_decide.2; omega) | (symm; apply decide_eq_false; omega)), HB.out _⟩
    · have E0 : Hid (okI s1 s2 t d c = false) := by show okI s1 s2 t d c = _; simp [okI, fitsB, g2]
      go_enter Try.func5, Try.ntmps5
      go_wp2_with fail
      go_ret
      exact ⟨ret_bool E0.out.symm, hb1 _⟩
  · have E0 : Hid (okI s1 s2 t d c = false) := by show okI s1 s2 t d c = _; simp [okI, fitsB, g1]
    go_enter Try.func5, Try.ntmps5
    go_wp2_with fail
    go_ret
    exact ⟨ret_bool E0.out.symm, hb1 _⟩

set_option maxHeartbeats 400000 in
theorem implInputOk_any (a1 a2 : Option Addr) (c1 c2 : Nat) (s1 s2 : List ByteArray) (t d c : Int) (w : World)
   (hm1 : s1.length ≤ 1048576) (hc1 : StrsAt w a1 s1) (hm2 : s2.length ≤ 1048576) (hc2 : StrsAt w a2 s2) :
    Calls Try.prog 7 #[.agg #[.slice a1 s1.length c1, .slice a2 s2.length c2, .int .i64 t, .int .i64 d, .int .i64 c]] w fun e w' => e = .returned (.bool (okI s1 s2 t d c)) ∧ Below w.heap.size w w' := by
  have hb1 : ∀ o, Below w.heap.size w (w.alloc o) := fun o => (Below.refl _ _).alloc (Nat.le_refl _) o
  have HB : Hid (∀ o, Below w.heap.size w (w.alloc o)) := hb1
  have E0 : Hid (okI s1 s2 t d c = (fitsB s1 && fitsB s2 && withinB t 0 5000 && withinB d 1 60 && withinB c 0 20000)) := rfl
  go_enter Try.func7, Try.ntmps7
  go_wp2_with fail
  refine (textsFit_any a1 c1 s1 _ hm1 (hc1.later (hb1 _))).mono ?_
  rintro e w' ⟨rfl, rfl⟩
  generalize fitsB s1 = f1 at *
  cases f1
  · clear hb1
    go_wp2_with fail
    go_ret
    exact ⟨ret_bool (by rw [E0.out]; simp), HB.out _⟩
  go_wp2_with fail
  refine (textsFit_any a2 c2 s2 _ hm2 (hc2.later (hb1 _))).mono ?_
  rintro e w' ⟨rfl, rfl⟩
  generalize fitsB s2 = f2 at *
  cases f2
  · clear hb1
    go_wp2_with fail
    go_ret
    exact ⟨ret_bool (by rw [E0.out]; simp), HB.out _⟩
  clear hb1
  go_wp2_with fail
  refine (within_any t 0 5000 _).mono ?_
  rintro e w' ⟨rfl, rfl⟩
  generalize withinB t 0 5000 = f3 at *
  cases f3
  · go_wp2_with fail
    go_ret
    exact ⟨ret_bool (by rw [E0.out]; simp), HB.out _⟩
  go_wp2_with fail
  refine (within_any d 1 60 _).mono ?_
  rintro e w' ⟨rfl, rfl⟩
  generalize withinB d 1 60 = f4 at *
  cases f4
  · go_wp2_with fail
    go_ret
    exact ⟨ret_bool (by rw [E0.out]; simp), HB.out _⟩
  go_wp2_with fail
  refine (within_any c 0 20000 _).mono ?_
  rintro e w' ⟨rfl, rfl⟩
  generalize withinB c 0 20000 = f5 at *
  go_wp2_with fail
  go_ret
  exact ⟨ret_bool (by rw [E0.out]; simp), HB.out _⟩

theorem szS_len {ss : List ByteArray} {l : Int} (h : 0 ≤ szS ss l) : (ss.length : Int) ≤ l := by
  unfold szS at h
  split at h <;> omega
theorem szI_len {s1 s2 : List ByteArray} (h : 0 ≤ szI s1 s2 1048576) : s1.length ≤ 1048576 ∧ s2.length ≤ 1048576 := by
  unfold szI at h
  split at h
  · omega
  · split at h
    · omega
    · have h1 := szS_len (by omega : 0 ≤ szS s1 1048576)
      have h2 := szS_len h
      have h3 := szS_le s1 1048576 (by omega)
      omega

/-- Five cells of a block. -/
def Box5 (W : World) (b : Nat) (v0 v1 v2 v3 v4 : Value) : Prop :=
  b < W.heap.size ∧ W.cell? ⟨b, 0, none⟩ = some v0 ∧ W.cell? ⟨b, 1, none⟩ = some v1 ∧ W.cell? ⟨b, 2, none⟩ = some v2 ∧ W.cell? ⟨b, 3, none⟩ = some v3 ∧ W.cell? ⟨b, 4, none⟩ = some v4
theorem Box5.later {W W' : World} {b : Nat} {v0 v1 v2 v3 v4 : Value} (h : Box5 W b v0 v1 v2 v3 v4) (hb : Below W.heap.size W W') : Box5 W' b v0 v1 v2 v3 v4 := by
  obtain ⟨hl, h0, h1, h2, h3, h4⟩ := h
  exact ⟨Nat.lt_of_lt_of_le hl hb.size, (hb.cell (p := ⟨b, 0, none⟩) hl).trans h0, (hb.cell (p := ⟨b, 1, none⟩) hl).trans h1, (hb.cell (p := ⟨b, 2, none⟩) hl).trans h2, (hb.cell (p := ⟨b, 3, none⟩) hl).trans h3, (hb.cell (p := ⟨b, 4, none⟩) hl).trans h4⟩
theorem Box5.new (w : World) (t : TypeId) (v0 v1 v2 v3 v4 : Value) : Box5 (w.alloc (.cells #[v0, v1, v2, v3, v4] t)) w.heap.size v0 v1 v2 v3 v4 := by
  refine ⟨by simp, ?_, ?_, ?_, ?_, ?_⟩ <;> simp

set_option maxHeartbeats 400000 in
theorem law_any (a1 a2 : Option Addr) (c1 c2 : Nat) (s1 s2 : List ByteArray) (t d c : Int) (w : World)
   (hm1 : s1.length ≤ maxLen) (hs1 : ∀ s ∈ s1, s.size ≤ maxLen) (hc1 : StrsAt w a1 s1)
   (hm2 : s2.length ≤ maxLen) (hs2 : ∀ s ∈ s2, s.size ≤ maxLen) (hc2 : StrsAt w a2 s2) :
    Calls Try.prog 3 #[.agg #[.slice a1 s1.length c1, .slice a2 s2.length c2, .int .i64 t, .int .i64 d, .int .i64 c]] w fun e w' => e = .returned (.bool true) ∧ Below w.heap.size w w' := by
  have hb1 : ∀ o, Below w.heap.size w (w.alloc o) := fun o => (Below.refl _ _).alloc (Nat.le_refl _) o
  have X0 := Box5.new w 24 (.slice a1 s1.length c1) (.slice a2 s2.length c2) (.int .i64 t) (.int .i64 d) (.int .i64 c)
  go_enter Try.func3, Try.ntmps3
  go_wp2_with fail
  refine (szInput_any a1 a2 c1 c2 s1 s2 t d c 1048576 _ (by omega) (by omega) hm1 hs1 (hc1.later (hb1 _)) hm2 hs2 (hc2.later (hb1 _))).mono ?_
  rintro e w1 ⟨rfl, hw1⟩
  have B1 := (hb1 _).trans (hw1.mono (by simp))
  by_cases hn : szI s1 s2 1048576 < 0
  · clear X0
    go_wp2_with fail
    go_ret
    exact ⟨rfl, B1⟩
  · obtain ⟨hl1, hl2⟩ := szI_len (by omega : 0 ≤ szI s1 s2 1048576)
    generalize szI s1 s2 1048576 = q at *
    have X1 := X0.later hw1
    have z1 := B1.size
    clear hw1 X0
    obtain ⟨hx, q0, q1, q2, q3, q4⟩ := id X1
    go_wp2_with fail
    refine (toInput_any a1 a2 c1 c2 s1 s2 t d c _ hl1 (hc1.later B1) hl2 (hc2.later B1)).mono ?_
    rintro e w2 ⟨b1, b2, rfl, hb1', hb2', hS1, hS2, hw2⟩
    have B2 := B1.trans (hw2.mono z1)
    have X2 := X1.later hw2
    clear q0 q1 q2 q3 q4 X1 hw2 hb1' hb2'
    have z2 := B2.size
    go_wp2_with fail
    refine (specInputOk_any (some ⟨b1, 0, none⟩) (some ⟨b2, 0, none⟩) _ _ s1 s2 t d c _ hl1 hS1 hl2 hS2).mono ?_
    rintro e w3 ⟨rfl, hw3⟩
    have B3 := B2.trans (hw3.mono z2)
    have X3 := X2.later hw3
    clear hS1 hS2 hw3 X2
    have z3 := B3.size
    obtain ⟨hx, q0, q1, q2, q3, q4⟩ := id X3
    go_wp2_with fail
    refine (toInput_any a1 a2 c1 c2 s1 s2 t d c _ hl1 (hc1.later B3) hl2 (hc2.later B3)).mono ?_
    rintro e w4 ⟨b3, b4, rfl, hb3', hb4', hS3, hS4, hw4⟩
    have B4 := B3.trans (hw4.mono z3)
    have X4 := X3.later hw4
    clear q0 q1 q2 q3 q4 X3
    have z4 := B4.size
    have hb4 : ∀ o, Below w4.heap.size w4 (w4.alloc o) := fun o => (Below.refl _ _).alloc (Nat.le_refl _) o
    have Y4 := Box5.new w4 27 (.slice (some ⟨b3, 0, none⟩) s1.length s1.length) (.slice (some ⟨b4, 0, none⟩) s2.length s2.length) (.int .i64 t) (.int .i64 d) (.int .i64 c)
    have X5 := X4.later (hb4 (.cells #[.slice (some ⟨b3, 0, none⟩) s1.length s1.length, .slice (some ⟨b4, 0, none⟩) s2.length s2.length, .int .i64 t, .int .i64 d, .int .i64 c] 27))
    go_wp2_with fail
    refine (implInputOk_any (some ⟨b3, 0, none⟩) (some ⟨b4, 0, none⟩) _ _ s1 s2 t d c _ hl1 (hS3.later (hb4 _)) hl2 (hS4.later (hb4 _))).mono ?_
    rintro e w5 ⟨rfl, hw5⟩
    have T3 := (hS3.later (hb4 _)).later hw5
    have T4 := (hS4.later (hb4 _)).later hw5
    have B5 := (B4.trans ((hb4 _).mono z4)).trans (hw5.mono (by simp; omega))
    have X6 := X5.later hw5
    have Y6 := Y4.later hw5
    clear X4 X5 Y4 hw4 hS3 hS4 hb4
    have z5 := B5.size
    obtain ⟨hx, q0, q1, q2, q3, q4⟩ := id X6
    obtain ⟨hy, r0, r1, r2, r3, r4⟩ := id Y6
    generalize okI s1 s2 t d c = ok at *
    go_wp2_with fail
    have D5 : Below w5.heap.size w5 w5.drew := (Below.refl _ _).drew
    have Xd := X6.later D5
    have Yd := Y6.later D5
    have Td3 := T3.later D5
    have Td4 := T4.later D5
    go_region_held3 (fun w' => w'.cell? ⟨w.heap.size, 0, none⟩ = some (.slice a1 s1.length c1) ∧ w'.cell? ⟨w.heap.size, 1, none⟩ = some (.slice a2 s2.length c2) ∧ w'.cell? ⟨w.heap.size, 2, none⟩ = some (.int .i64 t) ∧ w'.cell? ⟨w.heap.size, 3, none⟩ = some (.int .i64 d) ∧ w'.cell? ⟨w.heap.size, 4, none⟩ = some (.int .i64 c) ∧
        w'.cell? ⟨w4.heap.size, 0, none⟩ = some (.slice (some ⟨b3, 0, none⟩) s1.length s1.length) ∧ w'.cell? ⟨w4.heap.size, 1, none⟩ = some (.slice (some ⟨b4, 0, none⟩) s2.length s2.length) ∧ w'.cell? ⟨w4.heap.size, 2, none⟩ = some (.int .i64 t) ∧ w'.cell? ⟨w4.heap.size, 3, none⟩ = some (.int .i64 d) ∧ w'.cell? ⟨w4.heap.size, 4, none⟩ = some (.int .i64 c)) (go_keep)
      (first
        | (go_at_call 6; refine (toInput_any a1 a2 c1 c2 s1 s2 t d c w5.drew hl1 (hc1.later B5.drew) hl2 (hc2.later B5.drew)).mono ?_; rintro e w6 ⟨b5, b6, rfl, -, -, hS5, hS6, hw6⟩; obtain ⟨-, p0, p1, p2, p3, p4⟩ := Xd.later hw6; obtain ⟨-, p5, p6, p7, p8, p9⟩ := Yd.later hw6)
        | (go_at_call 8; refine (eqInput_any (some ⟨b3, 0, none⟩) (some ⟨b4, 0, none⟩) (some ⟨b5, 0, none⟩) (some ⟨b6, 0, none⟩) _ _ _ _ s1 s2 t d c w6 hl1 (Td3.later hw6) hl2 (Td4.later hw6) hS5 hS6).mono ?_; rintro e w7 ⟨rfl, hw7⟩; obtain ⟨-, p10, p11, p12, p13, p14⟩ := (Xd.later hw6).later hw7; obtain ⟨-, p15, p16, p17, p18, p19⟩ := (Yd.later hw6).later hw7))
    go_wp2_with fail
    go_ret
    have z6 : w.heap.size ≤ w6.heap.size := Nat.le_trans z5 hw6.size
    exact ⟨rfl, (B5.drew.trans (hw6.mono z5)).trans (hw7.mono z6)⟩
end Go.Proofs.Ytaakadmnhpboiaa
