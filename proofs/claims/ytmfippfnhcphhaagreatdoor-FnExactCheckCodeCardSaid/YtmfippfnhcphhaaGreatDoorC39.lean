import Derived.Test.YtmfippfnhcphhaaGreatDoorC24
import Derived.Test.YtmfippfnhcphhaaGreatDoorC23
import Derived.Test.YtmfippfnhcphhaaGreatDoorC16
import Derived.Test.YtmfippfnhcphhaaGreatDoorC35
import Derived.Test.YtmfippfnhcphhaaGreatDoorC37
import Derived.Test.YtmfippfnhcphhaaGreatDoorC38
import Derived.Deep.RegionLaw
namespace Go.Proofs.YtmfippfnhcphhaaGreatDoor
open Go.RowKit Go.Deep

theorem equalInt_at (o1 o2 : Option Addr) (c1 c2 n m : Nat) (t1 t2 : List Int) (w : World) (e1 : t1.length = n) (e2 : t2.length = m) (l1 : n ≤ 1048576) (h1 : IntsAt 0 w o1 t1) (h2 : IntsAt 0 w o2 t2) :
    Calls Tryz.prog 137 #[.slice o1 n c1, .slice o2 m c2] w fun e w' => e = .returned (.bool (decide (t1 = t2))) ∧ Below w.heap.size w w' := by
  subst e1
  subst e2
  exact equalInt_any o1 o2 c1 c2 t1 t2 w l1 h1 h2

set_option maxRecDepth 100000 in
set_option maxHeartbeats 1600000 in
theorem keptStay_any (keep : Nat) (to bo ao : Option Addr) (tc bc ac : Nat) (tk bs cs : List Int) (w : World) (ht : tk.length ≤ 1000) (hb : keep ≤ bs.length) (hc : keep ≤ cs.length) (hbl : bs.length ≤ 250) (hbc : keep ≤ bc) (hac : keep ≤ ac) (h1 : IntsAt 0 w to tk) (h2 : IntsAt 0 w bo bs) (h3 : IntsAt 0 w ao cs) :
    Calls Tryz.prog 146 #[.int .i64 keep, .slice to tk.length tc, .slice bo bs.length bc, .slice ao cs.length ac] w fun e w' => e = .returned (.bool (stayB keep tk bs cs)) ∧ Below w.heap.size w w' := by
  have HE : Hid (∀ W, Below w.heap.size w W → Calls Tryz.prog 137 #[.slice bo keep bc, .slice ao keep ac] W fun e w' => e = .returned (.bool (sameBelow keep bs cs)) ∧ Below W.heap.size W w') :=
    fun W hW => equalInt_at bo ao bc ac keep keep (bs.take keep) (cs.take keep) W (by simp; omega) (by simp; omega) (by omega) (AllAt.take (h2.later (Keeps.of_below hW)) keep) (AllAt.take (h3.later (Keeps.of_below hW)) keep)
  have kb : (keep : Int) ≤ bc := by omega
  have ka : (keep : Int) ≤ ac := by omega
  clear hb hc h2 h3 hbc hac
  go_enter Tryz.func146, Tryz.ntmps146
  go_wp2_with fail
  go_loopw [13] (fun y wr => ∃ j : Nat, j ≤ tk.length ∧ y = .int .i64 j ∧ Hid (notBelow keep (tk.drop j) = notBelow keep tk) ∧ wr = w) (fun y _ => tk.length - (intOf y).toNat)
  case atStart => exact ⟨0, Nat.zero_le _, rfl, rfl, rfl⟩
  case round =>
    obtain ⟨j, hj, rfl, HQ, rfl⟩ := hrel
    by_cases hjl : j < tk.length
    · obtain ⟨t, htk⟩ := some_of_lt hjl
      obtain ⟨bb, off, rfl, _, hbl2, p0⟩ := h1 j t htk
      unfold IntAt at p0
      rw [Nat.mul_one] at p0
      have HD : Hid _ := HQ.out.symm.trans (notBelow_drop htk)
      clear htk HQ
      by_cases hlt : t < keep
      · have HN : Hid (stayB keep tk bs cs = false) := by
          show _ = _
          unfold stayB
          rw [HD.out]
          simp [hlt]
        clear HD
        go_wp2_with fail
        go_ret
        exact ⟨ret_bool HN.out.symm, Below.refl _ _⟩
      · have HN : Hid (notBelow keep (tk.drop (j + 1)) = notBelow keep tk) := by show _ = _; rw [HD.out]; simp [hlt]
        clear HD
        go_wp2_with fail
        go_roundw
        case rel => exact ⟨j + 1, by omega, by go_num, HN.out, trivial⟩
        case measure => simp [intOf]; omega
    · have HN : Hid (stayB keep tk bs cs = sameBelow keep bs cs) := by
        have h := HQ.out
        rw [List.drop_of_length_le (by omega)] at h
        show _ = _
        unfold stayB
        rw [← h]
        rfl
      clear HQ
      go_wp2_with fail
      go_region_held3 (fun _ => True) (trivial)
        (first | (go_at_call 137; refine (HE.out wr.drew (Below.refl _ _).drew).mono ?_; rintro e w2 ⟨rfl, hw2⟩))
      go_wp2_with fail
      go_ret
      exact ⟨ret_bool HN.out.symm, (Below.refl _ _).drew.trans hw2⟩
end Go.Proofs.YtmfippfnhcphhaaGreatDoor

namespace Go.Proofs.YtmfippfnhcphhaaGreatDoor
open Go.RowKit Go.Deep

/-! ### Whether the guards fit -/
theorem keptBelow_at (ao : Option Addr) (cap m : Nat) (gs : List Gd) (w : World) (hm : Hid (gs.length = m)) (hml : m ≤ 50) (hx : GdsAt 0 w ao gs) :
    Calls Tryz.prog 147 #[.slice ao m cap] w fun e w' => e = .returned (.int .i64 (maxKeep gs)) ∧ Below w.heap.size w w' := by
  obtain rfl := hm.out
  exact keptBelow_any ao cap gs w (by omega) hx

set_option maxRecDepth 100000 in
set_option maxHeartbeats 3200000 in
theorem guardsFit_31 (a b c d : Int) (ao : Option Addr) (cap m : Nat) (gs : List Gd) (w : World) (hm : Hid (gs.length = m)) (hml : m ≤ 50) (hx : GdsAt 0 w ao gs) :
    Calls Tryz.prog 143 #[.agg #[.int .i64 31, .int .i64 a, .int .i64 b, .int .i64 c, .int .i64 d], .slice ao m cap] w fun e w' => e = .returned (.bool (gfitB ⟨31, a, b, c, d⟩ gs)) ∧ Below w.heap.size w w' := by
  have N0 := Blk.new w #[.int .i64 31, .int .i64 a, .int .i64 b, .int .i64 c, .int .i64 d] 47
  have B0 := (Below.refl w.heap.size w).alloc (Nat.le_refl _) (.cells #[.int .i64 31, .int .i64 a, .int .i64 b, .int .i64 c, .int .i64 d] 47)
  have HB : Hid (gfitB ⟨31, a, b, c, d⟩ gs = (decide (m < 50) && decide (maxKeep gs ≤ b))) := by
    show _ = _
    try rw [← hm.out]
    unfold gfitB
    simp
  go_enter Tryz.func143, Tryz.ntmps143
  go_wp2_with fail
  refine (keptBelow_at ao cap m gs _ hm hml (hx.later (Keeps.of_below B0))).mono ?_
  rintro e w1 ⟨rfl, hw1⟩
  have B1 := B0.trans (hw1.mono (by simp))
  have n1 := (N0.later hw1).cell
  have hx1 := hx.later (Keeps.of_below B1)
  generalize maxKeep gs = mk at *
  clear hw1 N0 B0 hx
  rcases m with _ | k
  · have HL : Hid (lastTr gs = none) := by have : gs = [] := List.length_eq_zero_iff.1 hm.out; show _ = _; rw [this]; rfl
    have hx1' := hx1
    clear hx1 hx1'
    go_wp2_with fail
    all_goals
      go_ret
      refine ⟨ret_bool ?_, B1⟩
      rw [HB.out]
      simp
      try omega
  · obtain ⟨q, hq⟩ := some_of_lt (show k < gs.length by rw [hm.out]; omega)
    obtain ⟨gb, gof, rfl, _, hgl, q0, _, _⟩ := hx1 k q hq
    have HL : Hid (lastTr gs = some q.tr) := lastTr_of hm.out hq
    obtain ⟨t0, t1, t2⟩ := q
    dsimp only at *
    have k1 : ((k : Int) + 1 - 1) = k := by omega
    have k2 : (0 : Int) < (k : Int) + 1 := by omega
    clear hq hx1
    cases t0
    · go_wp2_with fail
      all_goals
        go_ret
        refine ⟨ret_bool ?_, B1⟩
        rw [HB.out]
        simp
        try omega
    · go_wp2_with fail
      all_goals
        go_ret
        refine ⟨ret_bool ?_, B1⟩
        rw [HB.out]
        simp
        try omega

set_option maxRecDepth 100000 in
set_option maxHeartbeats 3200000 in
theorem guardsFit_33 (a b c d : Int) (ao : Option Addr) (cap m : Nat) (gs : List Gd) (w : World) (hm : Hid (gs.length = m)) (hml : m ≤ 50) (hx : GdsAt 0 w ao gs) :
    Calls Tryz.prog 143 #[.agg #[.int .i64 33, .int .i64 a, .int .i64 b, .int .i64 c, .int .i64 d], .slice ao m cap] w fun e w' => e = .returned (.bool (gfitB ⟨33, a, b, c, d⟩ gs)) ∧ Below w.heap.size w w' := by
  have N0 := Blk.new w #[.int .i64 33, .int .i64 a, .int .i64 b, .int .i64 c, .int .i64 d] 47
  have B0 := (Below.refl w.heap.size w).alloc (Nat.le_refl _) (.cells #[.int .i64 33, .int .i64 a, .int .i64 b, .int .i64 c, .int .i64 d] 47)
  have HB : Hid (gfitB ⟨33, a, b, c, d⟩ gs = (decide (m < 50) && decide (maxKeep gs ≤ a))) := by
    show _ = _
    try rw [← hm.out]
    unfold gfitB
    simp
  go_enter Tryz.func143, Tryz.ntmps143
  go_wp2_with fail
  refine (keptBelow_at ao cap m gs _ hm hml (hx.later (Keeps.of_below B0))).mono ?_
  rintro e w1 ⟨rfl, hw1⟩
  have B1 := B0.trans (hw1.mono (by simp))
  have n1 := (N0.later hw1).cell
  have hx1 := hx.later (Keeps.of_below B1)
  generalize maxKeep gs = mk at *
  clear hw1 N0 B0 hx
  rcases m with _ | k
  · have HL : Hid (lastTr gs = none) := by have : gs = [] := List.length_eq_zero_iff.1 hm.out; show _ = _; rw [this]; rfl
    have hx1' := hx1
    clear hx1 hx1'
    go_wp2_with fail
    all_goals
      go_ret
      refine ⟨ret_bool ?_, B1⟩
      rw [HB.out]
      simp
      try omega
  · obtain ⟨q, hq⟩ := some_of_lt (show k < gs.length by rw [hm.out]; omega)
    obtain ⟨gb, gof, rfl, _, hgl, q0, _, _⟩ := hx1 k q hq
    have HL : Hid (lastTr gs = some q.tr) := lastTr_of hm.out hq
    obtain ⟨t0, t1, t2⟩ := q
    dsimp only at *
    have k1 : ((k : Int) + 1 - 1) = k := by omega
    have k2 : (0 : Int) < (k : Int) + 1 := by omega
    clear hq hx1
    cases t0
    · go_wp2_with fail
      all_goals
        go_ret
        refine ⟨ret_bool ?_, B1⟩
        rw [HB.out]
        simp
        try omega
    · go_wp2_with fail
      all_goals
        go_ret
        refine ⟨ret_bool ?_, B1⟩
        rw [HB.out]
        simp
        try omega

set_option maxRecDepth 100000 in
set_option maxHeartbeats 3200000 in
theorem guardsFit_32 (a b c d : Int) (ao : Option Addr) (cap m : Nat) (gs : List Gd) (w : World) (hm : Hid (gs.length = m)) (hml : m ≤ 50) (hx : GdsAt 0 w ao gs) :
    Calls Tryz.prog 143 #[.agg #[.int .i64 32, .int .i64 a, .int .i64 b, .int .i64 c, .int .i64 d], .slice ao m cap] w fun e w' => e = .returned (.bool (gfitB ⟨32, a, b, c, d⟩ gs)) ∧ Below w.heap.size w w' := by
  have N0 := Blk.new w #[.int .i64 32, .int .i64 a, .int .i64 b, .int .i64 c, .int .i64 d] 47
  have B0 := (Below.refl w.heap.size w).alloc (Nat.le_refl _) (.cells #[.int .i64 32, .int .i64 a, .int .i64 b, .int .i64 c, .int .i64 d] 47)
  have HB : Hid (gfitB ⟨32, a, b, c, d⟩ gs = decide (lastTr gs = some true)) := by
    show _ = _
    try rw [← hm.out]
    unfold gfitB
    simp
  go_enter Tryz.func143, Tryz.ntmps143
  go_wp2_with fail
  refine (keptBelow_at ao cap m gs _ hm hml (hx.later (Keeps.of_below B0))).mono ?_
  rintro e w1 ⟨rfl, hw1⟩
  have B1 := B0.trans (hw1.mono (by simp))
  have n1 := (N0.later hw1).cell
  have hx1 := hx.later (Keeps.of_below B1)
  generalize maxKeep gs = mk at *
  clear hw1 N0 B0 hx
  rcases m with _ | k
  · have HL : Hid (lastTr gs = none) := by have : gs = [] := List.length_eq_zero_iff.1 hm.out; show _ = _; rw [this]; rfl
    have hx1' := hx1
    clear hx1 hx1'
    go_wp2_with fail
    all_goals
      go_ret
      refine ⟨ret_bool ?_, B1⟩
      rw [HB.out]
      simp [HL.out]
      try omega
  · obtain ⟨q, hq⟩ := some_of_lt (show k < gs.length by rw [hm.out]; omega)
    obtain ⟨gb, gof, rfl, _, hgl, q0, _, _⟩ := hx1 k q hq
    have HL : Hid (lastTr gs = some q.tr) := lastTr_of hm.out hq
    obtain ⟨t0, t1, t2⟩ := q
    dsimp only at *
    have k1 : ((k : Int) + 1 - 1) = k := by omega
    have k2 : (0 : Int) < (k : Int) + 1 := by omega
    clear hq hx1
    cases t0
    · go_wp2_with fail
      all_goals
        go_ret
        refine ⟨ret_bool ?_, B1⟩
        rw [HB.out]
        simp [HL.out]
        try omega
    · go_wp2_with fail
      all_goals
        go_ret
        refine ⟨ret_bool ?_, B1⟩
        rw [HB.out]
        simp [HL.out]
        try omega

set_option maxRecDepth 100000 in
set_option maxHeartbeats 3200000 in
theorem guardsFit_34 (a b c d : Int) (ao : Option Addr) (cap m : Nat) (gs : List Gd) (w : World) (hm : Hid (gs.length = m)) (hml : m ≤ 50) (hx : GdsAt 0 w ao gs) :
    Calls Tryz.prog 143 #[.agg #[.int .i64 34, .int .i64 a, .int .i64 b, .int .i64 c, .int .i64 d], .slice ao m cap] w fun e w' => e = .returned (.bool (gfitB ⟨34, a, b, c, d⟩ gs)) ∧ Below w.heap.size w w' := by
  have N0 := Blk.new w #[.int .i64 34, .int .i64 a, .int .i64 b, .int .i64 c, .int .i64 d] 47
  have B0 := (Below.refl w.heap.size w).alloc (Nat.le_refl _) (.cells #[.int .i64 34, .int .i64 a, .int .i64 b, .int .i64 c, .int .i64 d] 47)
  have HB : Hid (gfitB ⟨34, a, b, c, d⟩ gs = (decide (lastTr gs = some false) && decide (maxKeep gs ≤ a))) := by
    show _ = _
    try rw [← hm.out]
    unfold gfitB
    simp
  go_enter Tryz.func143, Tryz.ntmps143
  go_wp2_with fail
  refine (keptBelow_at ao cap m gs _ hm hml (hx.later (Keeps.of_below B0))).mono ?_
  rintro e w1 ⟨rfl, hw1⟩
  have B1 := B0.trans (hw1.mono (by simp))
  have n1 := (N0.later hw1).cell
  have hx1 := hx.later (Keeps.of_below B1)
  generalize maxKeep gs = mk at *
  clear hw1 N0 B0 hx
  rcases m with _ | k
  · have HL : Hid (lastTr gs = none) := by have : gs = [] := List.length_eq_zero_iff.1 hm.out; show _ = _; rw [this]; rfl
    have hx1' := hx1
    clear hx1 hx1'
    go_wp2_with fail
    all_goals
      go_ret
      refine ⟨ret_bool ?_, B1⟩
      rw [HB.out]
      simp [HL.out]
      try omega
  · obtain ⟨q, hq⟩ := some_of_lt (show k < gs.length by rw [hm.out]; omega)
    obtain ⟨gb, gof, rfl, _, hgl, q0, _, _⟩ := hx1 k q hq
    have HL : Hid (lastTr gs = some q.tr) := lastTr_of hm.out hq
    obtain ⟨t0, t1, t2⟩ := q
    dsimp only at *
    have k1 : ((k : Int) + 1 - 1) = k := by omega
    have k2 : (0 : Int) < (k : Int) + 1 := by omega
    clear hq hx1
    cases t0
    · go_wp2_with fail
      all_goals
        go_ret
        refine ⟨ret_bool ?_, B1⟩
        rw [HB.out]
        simp [HL.out]
        try omega
    · go_wp2_with fail
      all_goals
        go_ret
        refine ⟨ret_bool ?_, B1⟩
        rw [HB.out]
        simp [HL.out]
        try omega

set_option maxRecDepth 100000 in
set_option maxHeartbeats 3200000 in
theorem guardsFit_35 (a b c d : Int) (ao : Option Addr) (cap m : Nat) (gs : List Gd) (w : World) (hm : Hid (gs.length = m)) (hml : m ≤ 50) (hx : GdsAt 0 w ao gs) :
    Calls Tryz.prog 143 #[.agg #[.int .i64 35, .int .i64 a, .int .i64 b, .int .i64 c, .int .i64 d], .slice ao m cap] w fun e w' => e = .returned (.bool (gfitB ⟨35, a, b, c, d⟩ gs)) ∧ Below w.heap.size w w' := by
  have N0 := Blk.new w #[.int .i64 35, .int .i64 a, .int .i64 b, .int .i64 c, .int .i64 d] 47
  have B0 := (Below.refl w.heap.size w).alloc (Nat.le_refl _) (.cells #[.int .i64 35, .int .i64 a, .int .i64 b, .int .i64 c, .int .i64 d] 47)
  have HB : Hid (gfitB ⟨35, a, b, c, d⟩ gs = decide (lastTr gs = some false)) := by
    show _ = _
    try rw [← hm.out]
    unfold gfitB
    simp
  go_enter Tryz.func143, Tryz.ntmps143
  go_wp2_with fail
  refine (keptBelow_at ao cap m gs _ hm hml (hx.later (Keeps.of_below B0))).mono ?_
  rintro e w1 ⟨rfl, hw1⟩
  have B1 := B0.trans (hw1.mono (by simp))
  have n1 := (N0.later hw1).cell
  have hx1 := hx.later (Keeps.of_below B1)
  generalize maxKeep gs = mk at *
  clear hw1 N0 B0 hx
  rcases m with _ | k
  · have HL : Hid (lastTr gs = none) := by have : gs = [] := List.length_eq_zero_iff.1 hm.out; show _ = _; rw [this]; rfl
    have hx1' := hx1
    clear hx1 hx1'
    go_wp2_with fail
    all_goals
      go_ret
      refine ⟨ret_bool ?_, B1⟩
      rw [HB.out]
      simp [HL.out]
      try omega
  · obtain ⟨q, hq⟩ := some_of_lt (show k < gs.length by rw [hm.out]; omega)
    obtain ⟨gb, gof, rfl, _, hgl, q0, _, _⟩ := hx1 k q hq
    have HL : Hid (lastTr gs = some q.tr) := lastTr_of hm.out hq
    obtain ⟨t0, t1, t2⟩ := q
    dsimp only at *
    have k1 : ((k : Int) + 1 - 1) = k := by omega
    have k2 : (0 : Int) < (k : Int) + 1 := by omega
    clear hq hx1
    cases t0
    · go_wp2_with fail
      all_goals
        go_ret
        refine ⟨ret_bool ?_, B1⟩
        rw [HB.out]
        simp [HL.out]
        try omega
    · go_wp2_with fail
      all_goals
        go_ret
        refine ⟨ret_bool ?_, B1⟩
        rw [HB.out]
        simp [HL.out]
        try omega

set_option maxRecDepth 100000 in
set_option maxHeartbeats 3200000 in
theorem guardsFit_36 (a b c d : Int) (ao : Option Addr) (cap m : Nat) (gs : List Gd) (w : World) (hm : Hid (gs.length = m)) (hml : m ≤ 50) (hx : GdsAt 0 w ao gs) :
    Calls Tryz.prog 143 #[.agg #[.int .i64 36, .int .i64 a, .int .i64 b, .int .i64 c, .int .i64 d], .slice ao m cap] w fun e w' => e = .returned (.bool (gfitB ⟨36, a, b, c, d⟩ gs)) ∧ Below w.heap.size w w' := by
  have N0 := Blk.new w #[.int .i64 36, .int .i64 a, .int .i64 b, .int .i64 c, .int .i64 d] 47
  have B0 := (Below.refl w.heap.size w).alloc (Nat.le_refl _) (.cells #[.int .i64 36, .int .i64 a, .int .i64 b, .int .i64 c, .int .i64 d] 47)
  have HB : Hid (gfitB ⟨36, a, b, c, d⟩ gs = decide (lastTr gs = some false)) := by
    show _ = _
    try rw [← hm.out]
    unfold gfitB
    simp
  go_enter Tryz.func143, Tryz.ntmps143
  go_wp2_with fail
  refine (keptBelow_at ao cap m gs _ hm hml (hx.later (Keeps.of_below B0))).mono ?_
  rintro e w1 ⟨rfl, hw1⟩
  have B1 := B0.trans (hw1.mono (by simp))
  have n1 := (N0.later hw1).cell
  have hx1 := hx.later (Keeps.of_below B1)
  generalize maxKeep gs = mk at *
  clear hw1 N0 B0 hx
  rcases m with _ | k
  · have HL : Hid (lastTr gs = none) := by have : gs = [] := List.length_eq_zero_iff.1 hm.out; show _ = _; rw [this]; rfl
    have hx1' := hx1
    clear hx1 hx1'
    go_wp2_with fail
    all_goals
      go_ret
      refine ⟨ret_bool ?_, B1⟩
      rw [HB.out]
      simp [HL.out]
      try omega
  · obtain ⟨q, hq⟩ := some_of_lt (show k < gs.length by rw [hm.out]; omega)
    obtain ⟨gb, gof, rfl, _, hgl, q0, _, _⟩ := hx1 k q hq
    have HL : Hid (lastTr gs = some q.tr) := lastTr_of hm.out hq
    obtain ⟨t0, t1, t2⟩ := q
    dsimp only at *
    have k1 : ((k : Int) + 1 - 1) = k := by omega
    have k2 : (0 : Int) < (k : Int) + 1 := by omega
    clear hq hx1
    cases t0
    · go_wp2_with fail
      all_goals
        go_ret
        refine ⟨ret_bool ?_, B1⟩
        rw [HB.out]
        simp [HL.out]
        try omega
    · go_wp2_with fail
      all_goals
        go_ret
        refine ⟨ret_bool ?_, B1⟩
        rw [HB.out]
        simp [HL.out]
        try omega

set_option maxRecDepth 100000 in
set_option maxHeartbeats 3200000 in
theorem guardsFit_other (op a b c d : Int) (ao : Option Addr) (cap m : Nat) (gs : List Gd) (w : World) (hm : Hid (gs.length = m)) (hml : m ≤ 50) (hx : GdsAt 0 w ao gs) (h31 : op ≠ 31) (h33 : op ≠ 33) (h32 : op ≠ 32) (h34 : op ≠ 34) (h35 : op ≠ 35) (h36 : op ≠ 36) :
    Calls Tryz.prog 143 #[.agg #[.int .i64 op, .int .i64 a, .int .i64 b, .int .i64 c, .int .i64 d], .slice ao m cap] w fun e w' => e = .returned (.bool (gfitB ⟨op, a, b, c, d⟩ gs)) ∧ Below w.heap.size w w' := by
  have N0 := Blk.new w #[.int .i64 op, .int .i64 a, .int .i64 b, .int .i64 c, .int .i64 d] 47
  have B0 := (Below.refl w.heap.size w).alloc (Nat.le_refl _) (.cells #[.int .i64 op, .int .i64 a, .int .i64 b, .int .i64 c, .int .i64 d] 47)
  have HB : Hid (gfitB ⟨op, a, b, c, d⟩ gs = true) := by
    show _ = _
    try rw [← hm.out]
    unfold gfitB
    simp [h31, h33, h32, h34, h35, h36]
  have t31 : (op == 31) = false := by simpa using h31
  have t33 : (op == 33) = false := by simpa using h33
  have t32 : (op == 32) = false := by simpa using h32
  have t34 : (op == 34) = false := by simpa using h34
  have t35 : (op == 35) = false := by simpa using h35
  have t36 : (op == 36) = false := by simpa using h36
  clear h31 h33 h32 h34 h35 h36
  go_enter Tryz.func143, Tryz.ntmps143
  go_wp2_with fail
  refine (keptBelow_at ao cap m gs _ hm hml (hx.later (Keeps.of_below B0))).mono ?_
  rintro e w1 ⟨rfl, hw1⟩
  have B1 := B0.trans (hw1.mono (by simp))
  have n1 := (N0.later hw1).cell
  have hx1 := hx.later (Keeps.of_below B1)
  generalize maxKeep gs = mk at *
  clear hw1 N0 B0 hx
  rcases m with _ | k
  · have HL : Hid (lastTr gs = none) := by have : gs = [] := List.length_eq_zero_iff.1 hm.out; show _ = _; rw [this]; rfl
    have hx1' := hx1
    clear hx1 hx1'
    go_wp2_with fail
    all_goals
      go_ret
      exact ⟨ret_bool HB.out.symm, B1⟩
  · obtain ⟨q, hq⟩ := some_of_lt (show k < gs.length by rw [hm.out]; omega)
    obtain ⟨gb, gof, rfl, _, hgl, q0, _, _⟩ := hx1 k q hq
    have HL : Hid (lastTr gs = some q.tr) := lastTr_of hm.out hq
    obtain ⟨t0, t1, t2⟩ := q
    dsimp only at *
    have k1 : ((k : Int) + 1 - 1) = k := by omega
    have k2 : (0 : Int) < (k : Int) + 1 := by omega
    clear hq hx1
    cases t0
    · go_wp2_with fail
      all_goals
        go_ret
        exact ⟨ret_bool HB.out.symm, B1⟩
    · go_wp2_with fail
      all_goals
        go_ret
        exact ⟨ret_bool HB.out.symm, B1⟩

theorem guardsFit_any (n : Nd) (ao : Option Addr) (cap m : Nat) (gs : List Gd) (w : World) (hm : Hid (gs.length = m)) (hml : m ≤ 50) (hx : GdsAt 0 w ao gs) :
    Calls Tryz.prog 143 #[n.val, .slice ao m cap] w fun e w' => e = .returned (.bool (gfitB n gs)) ∧ Below w.heap.size w w' := by
  obtain ⟨op, a, b, c, d⟩ := n
  by_cases h31 : op = 31
  · subst h31; exact guardsFit_31 a b c d ao cap m gs w hm hml hx
  by_cases h33 : op = 33
  · subst h33; exact guardsFit_33 a b c d ao cap m gs w hm hml hx
  by_cases h32 : op = 32
  · subst h32; exact guardsFit_32 a b c d ao cap m gs w hm hml hx
  by_cases h34 : op = 34
  · subst h34; exact guardsFit_34 a b c d ao cap m gs w hm hml hx
  by_cases h35 : op = 35
  · subst h35; exact guardsFit_35 a b c d ao cap m gs w hm hml hx
  by_cases h36 : op = 36
  · subst h36; exact guardsFit_36 a b c d ao cap m gs w hm hml hx
  exact guardsFit_other op a b c d ao cap m gs w hm hml hx h31 h33 h32 h34 h35 h36
end Go.Proofs.YtmfippfnhcphhaaGreatDoor

namespace Go.Proofs.YtmfippfnhcphhaaGreatDoor
open Go.RowKit Go.Deep

theorem below_al {w w' : World} (h : Below w.heap.size w w') (o : Obj) : Below w.heap.size w (w'.alloc o) := h.alloc h.size o
theorem below_st {w w' : World} (h : Below w.heap.size w w') {p : Addr} (hp : w.heap.size ≤ p.block) (v : Value) : Below w.heap.size w (w'.setCell p v) := h.setCell hp v
noncomputable def pcS1 : Code := pathC [1, 0] (Tryz.f83.body.getD .skip)
noncomputable def pcS2 : Code := pathC [1, 1, 0] (Tryz.f83.body.getD .skip)
noncomputable def pcS4 : Code := pathC [1, 1, 1, 1, 0, 0, 0] (Tryz.f83.body.getD .skip)
noncomputable def pcS8 : Code := pathC [1, 1, 1, 1, 1, 0] (Tryz.f83.body.getD .skip)
noncomputable def pcS9 : Code := pathC [1, 1, 1, 1, 1, 1, 0, 0] (Tryz.f83.body.getD .skip)

set_option maxRecDepth 1000000 in
set_option maxHeartbeats 8000000 in
theorem stp_r1 (vb sb ib iof i : Nat) (p : Pd) (h : Ph) (op na nb nc nd : Int) (s : St) (ao ago : Option Addr) (ac agc : Nat) (w : World) (c2 c3 c4 c5 c6 c7 c8 c9 c10 c11 c12 c13 c14 c15 c16 c17 c18 c19 c20 c21 c22 c23 c24 c25 c26 c27 c28 c29 c30 c31 c32 c33 c34 c35 c36 c37 c38 c39 c40 c41 c42 c43 c44 c45 c46 c47 c48 c49 c50 c51 c52 c53 c54 c55 c56 c57 c58 c59 c60 c61 c62 c63 c64 c65 c66 c67 c68 c69 c70 c71 c72 c73 c74 c75 c76 c77 c78 c79 c80 c81 c82 c83 c84 c85 c86 c87 c88 c89 c90 c91 c92 c93 c94 c95 c96 c97 c98 c99 c100 : Value) (Q : Exit → Act → World → Prop)
    (hq : ∀ (u10 u11 u12 u13 u14 u15 u16 u17 u18 u19 u20 u21 u22 u23 u24 : Value) (x5 x6 : Nat) (wx : World), x5 ≠ x6 → w.heap.size ≤ x5 → w.heap.size ≤ x6 → Blk wx x5 #[.int .i64 op, .int .i64 na, .int .i64 nb, .int .i64 nc, .int .i64 nd] 47 → Blk wx x6 #[.bool true, .slice ao s.types.length ac, .slice ago s.guards.length agc] 123 → Below w.heap.size w wx → Q .normal ⟨List.toArray (.pointer (some ⟨vb, 0, none⟩) :: .int .i64 i :: c2 :: c3 :: c4 :: .pointer (some ⟨x5, 0, none⟩) :: .pointer (some ⟨x6, 0, none⟩) :: c7 :: c8 :: c9 :: u10 :: u11 :: u12 :: u13 :: u14 :: u15 :: u16 :: u17 :: u18 :: u19 :: u20 :: u21 :: u22 :: u23 :: u24 :: c25 :: c26 :: c27 :: c28 :: c29 :: c30 :: c31 :: c32 :: c33 :: c34 :: c35 :: c36 :: c37 :: c38 :: c39 :: c40 :: c41 :: c42 :: c43 :: c44 :: c45 :: c46 :: c47 :: c48 :: c49 :: c50 :: c51 :: c52 :: c53 :: c54 :: c55 :: c56 :: c57 :: c58 :: c59 :: c60 :: c61 :: c62 :: c63 :: c64 :: c65 :: c66 :: c67 :: c68 :: c69 :: c70 :: c71 :: c72 :: c73 :: c74 :: c75 :: c76 :: c77 :: c78 :: c79 :: c80 :: c81 :: c82 :: c83 :: c84 :: c85 :: c86 :: c87 :: c88 :: c89 :: c90 :: c91 :: c92 :: c93 :: c94 :: c95 :: c96 :: c97 :: c98 :: c99 :: c100 :: []), []⟩ wx)
    (_k1 : (i : Int) < p.ins.length) (_hv : vb < w.heap.size) (_hs : sb < w.heap.size) (_hi : ib < w.heap.size) (e0 : w.cell? ⟨vb, 8, none⟩ = some (.slice (some ⟨ib, iof, none⟩) p.ins.length h.ic)) (e1 : w.cell? ⟨vb, 10, none⟩ = some (.slice (some ⟨sb, 0, none⟩) p.ins.length p.ins.length)) (e2 : w.cell? ⟨ib, iof + i * 5, none⟩ = some (.int .i64 op)) (e3 : w.cell? ⟨ib, iof + i * 5 + 1, none⟩ = some (.int .i64 na)) (e4 : w.cell? ⟨ib, iof + i * 5 + 2, none⟩ = some (.int .i64 nb)) (e5 : w.cell? ⟨ib, iof + i * 5 + 3, none⟩ = some (.int .i64 nc)) (e6 : w.cell? ⟨ib, iof + i * 5 + 4, none⟩ = some (.int .i64 nd)) (e7 : w.cell? ⟨sb, i * 3, none⟩ = some (.bool true)) (e8 : w.cell? ⟨sb, i * 3 + 1, none⟩ = some (.slice ao s.types.length ac)) (e9 : w.cell? ⟨sb, i * 3 + 2, none⟩ = some (.slice ago s.guards.length agc)) :
    Code.wp Tryz.prog pcS1 Q ⟨List.toArray (.pointer (some ⟨vb, 0, none⟩) :: .int .i64 i :: c2 :: c3 :: c4 :: c5 :: c6 :: c7 :: c8 :: c9 :: c10 :: c11 :: c12 :: c13 :: c14 :: c15 :: c16 :: c17 :: c18 :: c19 :: c20 :: c21 :: c22 :: c23 :: c24 :: c25 :: c26 :: c27 :: c28 :: c29 :: c30 :: c31 :: c32 :: c33 :: c34 :: c35 :: c36 :: c37 :: c38 :: c39 :: c40 :: c41 :: c42 :: c43 :: c44 :: c45 :: c46 :: c47 :: c48 :: c49 :: c50 :: c51 :: c52 :: c53 :: c54 :: c55 :: c56 :: c57 :: c58 :: c59 :: c60 :: c61 :: c62 :: c63 :: c64 :: c65 :: c66 :: c67 :: c68 :: c69 :: c70 :: c71 :: c72 :: c73 :: c74 :: c75 :: c76 :: c77 :: c78 :: c79 :: c80 :: c81 :: c82 :: c83 :: c84 :: c85 :: c86 :: c87 :: c88 :: c89 :: c90 :: c91 :: c92 :: c93 :: c94 :: c95 :: c96 :: c97 :: c98 :: c99 :: c100 :: []), []⟩ w := by
  conv => arg 2; whnf
  have HQ : Hid _ := hq
  clear hq
  go_region_held3 (fun w' => w'.cell? ⟨vb, 8, none⟩ = some (.slice (some ⟨ib, iof, none⟩) p.ins.length h.ic) ∧ w'.cell? ⟨vb, 10, none⟩ = some (.slice (some ⟨sb, 0, none⟩) p.ins.length p.ins.length) ∧ w'.cell? ⟨ib, iof + i * 5, none⟩ = some (.int .i64 op) ∧ w'.cell? ⟨ib, iof + i * 5 + 1, none⟩ = some (.int .i64 na) ∧ w'.cell? ⟨ib, iof + i * 5 + 2, none⟩ = some (.int .i64 nb) ∧ w'.cell? ⟨ib, iof + i * 5 + 3, none⟩ = some (.int .i64 nc) ∧ w'.cell? ⟨ib, iof + i * 5 + 4, none⟩ = some (.int .i64 nd) ∧ w'.cell? ⟨sb, i * 3, none⟩ = some (.bool true) ∧ w'.cell? ⟨sb, i * 3 + 1, none⟩ = some (.slice ao s.types.length ac) ∧ w'.cell? ⟨sb, i * 3 + 2, none⟩ = some (.slice ago s.guards.length agc)) (first | exact ⟨e0, e1, e2, e3, e4, e5, e6, e7, e8, e9⟩ | (go_keep; done)) (fail)
  · refine HQ.out _ _ _ _ _ _ _ _ _ _ _ _ _ _ _ w.heap.size (w.heap.size + 1) _ (by omega) (Nat.le_refl _) (by omega) ?_ ?_ ?_
    · exact (Blk.new w #[.int .i64 op, .int .i64 na, .int .i64 nb, .int .i64 nc, .int .i64 nd] 47).alloc (.cells #[.bool true, .slice ao s.types.length ac, .slice ago s.guards.length agc] 123)
    · have := Blk.new (w.alloc (.cells #[.int .i64 op, .int .i64 na, .int .i64 nb, .int .i64 nc, .int .i64 nd] 47)) #[.bool true, .slice ao s.types.length ac, .slice ago s.guards.length agc] 123
      simp only [nblk_alloc] at this
      exact this
    · exact (below_al (below_al (Below.refl _ _) _) _).drew
  · refine HQ.out _ _ _ _ _ _ _ _ _ _ _ _ _ _ _ (w.heap.size + 1) w.heap.size _ (by omega) (by omega) (Nat.le_refl _) ?_ ?_ ?_
    · have := Blk.new (w.alloc (.cells #[.bool true, .slice ao s.types.length ac, .slice ago s.guards.length agc] 123)) #[.int .i64 op, .int .i64 na, .int .i64 nb, .int .i64 nc, .int .i64 nd] 47
      simp only [nblk_alloc] at this
      exact this
    · exact (Blk.new w #[.bool true, .slice ao s.types.length ac, .slice ago s.guards.length agc] 123).alloc (.cells #[.int .i64 op, .int .i64 na, .int .i64 nb, .int .i64 nc, .int .i64 nd] 47)
    · exact (below_al (below_al (Below.refl _ _) _) _).drew
end Go.Proofs.YtmfippfnhcphhaaGreatDoor
