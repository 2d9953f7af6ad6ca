import Derived.Test.YtmfippfnhcphhaaGreatDoorC24
import Derived.Test.YtmfippfnhcphhaaGreatDoorC16
import Derived.Lib.SliceRun
import Derived.Lib.Walk
namespace Go.Proofs.YtmfippfnhcphhaaGreatDoor
open Go.RowKit Go.Deep

/-! ### slices.Clone -/
theorem ints_at {w : World} {b off : Nat} {xs : List Int} (h : IntsAt 0 w (some ⟨b, off, none⟩) xs) {j : Nat} {u : Value} (hj : (ints xs)[j]? = some u) : w.cell? ⟨b, off + j, none⟩ = some u ∧ b < w.heap.size := by
  simp only [ints, List.getElem?_map, Option.map_eq_some_iff] at hj
  obtain ⟨x, hx, rfl⟩ := hj
  obtain ⟨b', off', e, _, hl, hc⟩ := h j x hx
  simp at e
  obtain ⟨rfl, rfl⟩ := e
  unfold IntAt at hc
  rw [Nat.mul_one] at hc
  exact ⟨hc, hl⟩
theorem gds_at {w : World} {b off : Nat} {xs : List Gd} (h : GdsAt 0 w (some ⟨b, off, none⟩) xs) {j : Nat} {u : Value} (hj : (gds xs)[j]? = some u) : w.cell? ⟨b, off + j, none⟩ = some u ∧ b < w.heap.size := by
  have hl := (List.getElem?_eq_some_iff.1 hj).1
  rw [gds_length] at hl
  obtain ⟨x, hx⟩ := some_of_lt (show j / 3 < xs.length by omega)
  obtain ⟨b', off', e, _, hb, c0, c1, c2⟩ := h (j / 3) x hx
  simp at e
  obtain ⟨rfl, rfl⟩ := e
  have hg := gds_get hx
  rcases (by omega : j % 3 = 0 ∨ j % 3 = 1 ∨ j % 3 = 2) with h3 | h3 | h3
  · have := hg 0 _ rfl
    rw [show j / 3 * 3 + 0 = j by omega, hj] at this
    rw [Option.some.inj this, show off + j = off + j / 3 * 3 by omega]
    exact ⟨c0, hb⟩
  · have := hg 1 _ rfl
    rw [show j / 3 * 3 + 1 = j by omega, hj] at this
    rw [Option.some.inj this, show off + j = off + j / 3 * 3 + 1 by omega]
    exact ⟨c1, hb⟩
  · have := hg 2 _ rfl
    rw [show j / 3 * 3 + 2 = j by omega, hj] at this
    rw [Option.some.inj this, show off + j = off + j / 3 * 3 + 2 by omega]
    exact ⟨c2, hb⟩

set_option maxRecDepth 100000 in
set_option maxHeartbeats 1600000 in
theorem cloneInt_any (ao : Option Addr) (cap m : Nat) (xs : List Int) (w : World) (hm : xs.length = m) (hml : m ≤ 1048576) (hnil : ao = none → m = 0) (hx : IntsAt 0 w ao xs) (hoff : ∀ a, ao = some a → ∃ b o, a = ⟨b, o, none⟩) :
    Calls Tryz.prog 140 #[.slice ao m cap] w fun e w' => ∃ v, e = .returned v ∧ w'.ownsRow w.heap.size 3 1 v m (ints xs) ∧ Below w.heap.size w w' := by
  have q22 : ∀ (w : World) (a : Option Addr) (n c n' c' : Nat), (binOp .eql 82 (.slice a n c) (.slice none n' c')).run Tryz.prog w = .ok (.bool a.isNone) w := fun w a n c n' c' => Lib.run_eql_slice_nil w _ _ a n c n' c' Tryz.underlying82
  cases ao with
  | none =>
    obtain rfl := hnil rfl
    have : xs = [] := List.length_eq_zero_iff.1 hm
    subst this
    go_enter Tryz.func140, Tryz.ntmps140
    go_wp2_with fail
    go_ret
    exact ⟨_, rfl, World.ownsRow_nil _ _ _ _, Below.refl _ _⟩
  | some ad =>
    obtain ⟨b, off, rfl⟩ := hoff _ rfl
    obtain ⟨i0, hi, hz0, hz1, hz2⟩ := info_parts Tryz.info_int
    have HC : Hid (∀ j u, (ints xs)[j]? = some u → w.cell? ⟨b, off + j, none⟩ = some u ∧ b < w.heap.size) := by
      intro j u hj
      exact ints_at hx hj
    have HL : Hid ((ints xs).length = m * 1) := by show _ = _; simp [ints, hm]
    clear hx hm hoff hnil
    go_enter Tryz.func140, Tryz.ntmps140
    go_wp2_with (at_builtin; refine wpList_append_own _ rfl _ _ 82 rfl w.heap.size 3 i0 (.int .i64 0) 1 8 Tryz.underlying82 hi hz0 hz1 hz2 rfl (by decide) _ _ _ rfl (World.ownsRow_made w #[] 0 (Nat.le_refl _) (Nat.zero_le _) (by simp)) ⟨b, off, none⟩ m cap (ints xs) rfl ?qc1 ?qc2 ?qc3 ?qc4 ?qc5 ?qc6 ?_)
    case qc1 => exact HL.out
    case qc2 =>
      intro j u hj
      rw [Addr.add_lit]
      obtain ⟨h1, h2⟩ := HC.out j u hj
      exact (((Below.refl w.heap.size w).alloc (Nat.le_refl _) _).cell (p := ⟨b, off + j, none⟩) h2).trans h1
    case qc3 =>
      intro u hu
      simp [ints] at hu; obtain ⟨x, _, rfl⟩ := hu; rfl
    case qc4 => unfold maxLen; omega
    case qc5 => omega
    case qc6 => simp
    · intro v' w1 hown hgrow _
      have hown : w1.ownsRow w.heap.size 3 1 v' m (ints xs) := by simpa using hown
      have B1 : Below w.heap.size w w1 := ((Below.refl _ w).alloc (Nat.le_refl _) _).grown hgrow (by simp) (by intro k hk; simp [Value.ownBlock] at hk; omega)
      obtain ⟨vo, vc, rfl⟩ := owns_slice hown
      clear hgrow
      go_wp2_with fail
      go_ret
      exact ⟨_, rfl, hown, B1⟩

set_option maxRecDepth 100000 in
set_option maxHeartbeats 1600000 in
theorem cloneGd_any (ao : Option Addr) (cap m : Nat) (xs : List Gd) (w : World) (hm : xs.length = m) (hml : m ≤ 1048576) (hnil : ao = none → m = 0) (hx : GdsAt 0 w ao xs) (hoff : ∀ a, ao = some a → ∃ b o, a = ⟨b, o, none⟩) :
    Calls Tryz.prog 190 #[.slice ao m cap] w fun e w' => ∃ v, e = .returned v ∧ w'.ownsRow w.heap.size 194 3 v m (gds xs) ∧ Below w.heap.size w w' := by
  have q22 : ∀ (w : World) (a : Option Addr) (n c n' c' : Nat), (binOp .eql 121 (.slice a n c) (.slice none n' c')).run Tryz.prog w = .ok (.bool a.isNone) w := fun w a n c n' c' => Lib.run_eql_slice_nil w _ _ a n c n' c' Tryz.underlying121
  cases ao with
  | none =>
    obtain rfl := hnil rfl
    have : xs = [] := List.length_eq_zero_iff.1 hm
    subst this
    go_enter Tryz.func190, Tryz.ntmps190
    go_wp2_with fail
    go_ret
    exact ⟨_, rfl, World.ownsRow_nil _ _ _ _, Below.refl _ _⟩
  | some ad =>
    obtain ⟨b, off, rfl⟩ := hoff _ rfl
    obtain ⟨i0, hi, hz0, hz1, hz2⟩ := info_parts Tryz.info_Guard
    have HC : Hid (∀ j u, (gds xs)[j]? = some u → w.cell? ⟨b, off + j, none⟩ = some u ∧ b < w.heap.size) := by
      intro j u hj
      exact gds_at hx hj
    have HL : Hid ((gds xs).length = m * 3) := by show _ = _; rw [gds_length, hm]
    clear hx hm hoff hnil
    go_enter Tryz.func190, Tryz.ntmps190
    go_wp2_with (at_builtin; refine wpList_append_own _ rfl _ _ 121 rfl w.heap.size 194 i0 (.agg #[.bool false, .int .i64 0, .int .i64 0]) 3 24 Tryz.underlying121 hi hz0 hz1 hz2 rfl (by decide) _ _ _ rfl (World.ownsRow_made w #[] 0 (Nat.le_refl _) (Nat.zero_le _) (by simp)) ⟨b, off, none⟩ m cap (gds xs) rfl ?qc1 ?qc2 ?qc3 ?qc4 ?qc5 ?qc6 ?_)
    case qc1 => exact HL.out
    case qc2 =>
      intro j u hj
      rw [Addr.add_lit]
      obtain ⟨h1, h2⟩ := HC.out j u hj
      exact (((Below.refl w.heap.size w).alloc (Nat.le_refl _) _).cell (p := ⟨b, off + j, none⟩) h2).trans h1
    case qc3 =>
      intro u hu
      simp [gds, Gd.vals] at hu; obtain ⟨x, _, rfl | rfl | rfl⟩ := hu <;> rfl
    case qc4 => unfold maxLen; omega
    case qc5 => omega
    case qc6 => simp
    · intro v' w1 hown hgrow _
      have hown : w1.ownsRow w.heap.size 194 3 v' m (gds xs) := by simpa using hown
      have B1 : Below w.heap.size w w1 := ((Below.refl _ w).alloc (Nat.le_refl _) _).grown hgrow (by simp) (by intro k hk; simp [Value.ownBlock] at hk; omega)
      obtain ⟨vo, vc, rfl⟩ := owns_slice hown
      clear hgrow
      go_wp2_with fail
      go_ret
      exact ⟨_, rfl, hown, B1⟩
end Go.Proofs.YtmfippfnhcphhaaGreatDoor

namespace Go.Proofs.YtmfippfnhcphhaaGreatDoor
open Go.RowKit Go.Deep

/-! ### The guards behind an instruction, as the other one has them -/
theorem owns_cap {w : World} {base e size n : Nat} {v : Value} {xs : List Value} (h : w.ownsRow base e size v n xs) : ∀ ao c, v = .slice ao n c → n ≤ c := by
  intro ao c hv
  obtain ⟨_, ⟨h1, h2⟩ | ⟨g, cap, cur, rfl, _, _, hc, _⟩⟩ := h
  · omega
  · simp at hv; omega
/-- Where a row lies: at the head of a block of its type. -/
def RTag (w : World) (ao : Option Addr) (t : TypeId) : Prop := ∀ x, ao = some x → ∃ b, x = ⟨b, 0, none⟩ ∧ ∃ arr, w.heap[b]? = some (.cells arr t (0, 0))
theorem owns_tag {w : World} {base e size n : Nat} {ao : Option Addr} {c : Nat} {xs : List Value} (h : w.ownsRow base e size (.slice ao n c) n xs) : RTag w ao e := by
  obtain ⟨_, ⟨h1, h2⟩ | ⟨g, cap, cur, h3, hg, hh, _⟩⟩ := h
  · rintro x rfl; simp at h1
  · rintro x rfl; simp at h3; exact ⟨g, h3.1, cur, hh⟩
def GbPost (w : World) (l : List Gd) (e : Ending) (w' : World) : Prop := (∃ ao cap, e = .returned (.slice ao l.length cap) ∧ l.length ≤ cap ∧ GdsAt w.heap.size w' ao l ∧ RTag w' ao 194) ∧ Below w.heap.size w w'

set_option maxRecDepth 100000 in
set_option maxHeartbeats 3200000 in
theorem guardsBehind_31 (a b c d : Int) (ao : Option Addr) (cap m : Nat) (gs : List Gd) (w : World) (hm : Hid (gs.length = m)) (hml : m ≤ 50) (hnil : ao = none → m = 0) (hoff : ∀ x, ao = some x → ∃ b o, x = ⟨b, o, none⟩) (hx : GdsAt 0 w ao gs) :
    Calls Tryz.prog 145 #[.agg #[.int .i64 31, .int .i64 a, .int .i64 b, .int .i64 c, .int .i64 d], .slice ao m cap] w (GbPost w (gbehF ⟨31, a, b, c, d⟩ gs)) := by
  have N0 := Blk.new w #[.int .i64 31, .int .i64 a, .int .i64 b, .int .i64 c, .int .i64 d] 47
  have B0 := (Below.refl w.heap.size w).alloc (Nat.le_refl _) (.cells #[.int .i64 31, .int .i64 a, .int .i64 b, .int .i64 c, .int .i64 d] 47)
  have HC : Hid (gbehF ⟨31, a, b, c, d⟩ gs = gs ++ [(⟨true, b, a⟩ : Gd)]) := by
    show _ = _
    unfold gbehF
    simp
  go_enter Tryz.func145, Tryz.ntmps145
  go_wp2_with fail
  refine (cloneGd_any ao cap m gs _ hm.out (by omega) hnil (hx.later (Keeps.of_below B0)) hoff).mono ?_
  rintro e w1 ⟨v, rfl, hown, hw1⟩
  have B1 := B0.trans (hw1.mono (by simp))
  have N1 := N0.later hw1
  have n1 := N1.cell
  clear hw1 N0 B0 hnil hoff hx
  have H1 := hown
  obtain ⟨ao1, cap1, rfl⟩ := owns_slice hown
  clear hown
  go_wp2_with (at_builtin; refine app_gd rfl _ _ rfl _ _ m gs (⟨true, b, a⟩ : Gd) w1.heap.size rfl (H1.alloc _) rfl ?c1 (by omega) ?c2 ?_)
  case c1 => exact ⟨by simp, by simp, by simp⟩
  case c2 => have := B1.size; have := N1.lt; simp at *; omega
  · intro v' w2 H2 G2 _
    have hcap := owns_cap H2
    obtain ⟨ao2, cap2, rfl⟩ := owns_slice H2
    have B2 : Below w.heap.size w w2 := (B1.alloc B1.size _).grown G2 (by have := B1.size; simp; omega) (fun k hk => by have := (H1.lt k hk).1; simp at this; omega)
    have HG : Hid (GdsAt w.heap.size w2 ao2 (gs ++ [(⟨true, b, a⟩ : Gd)])) := AllAt.lower (owns_gds H2).1 (by simp)
    have HTG : Hid (RTag w2 ao2 194) := owns_tag H2
    have HLEN : Hid ((gs ++ [(⟨true, b, a⟩ : Gd)]).length = m + 1) := by show _ = _; have := hm.out; simp; omega
    have HCAP : Hid (∀ ao c, (Value.slice ao2 (m + 1) cap2) = .slice ao (m + 1) c → m + 1 ≤ c) := hcap
    clear n1 N1 H1 G2 B1 H2 hcap
    go_wp2_with fail
    go_ret
    rw [HC.out]
    refine ⟨⟨ao2, cap2, ?_, ?_, HG.out, HTG.out⟩, B2⟩
    · rw [HLEN.out]; rfl
    · rw [HLEN.out]; exact HCAP.out _ _ rfl

set_option maxRecDepth 100000 in
set_option maxHeartbeats 3200000 in
theorem guardsBehind_33 (a b c d : Int) (ao : Option Addr) (cap m : Nat) (gs : List Gd) (w : World) (hm : Hid (gs.length = m)) (hml : m ≤ 50) (hnil : ao = none → m = 0) (hoff : ∀ x, ao = some x → ∃ b o, x = ⟨b, o, none⟩) (hx : GdsAt 0 w ao gs) :
    Calls Tryz.prog 145 #[.agg #[.int .i64 33, .int .i64 a, .int .i64 b, .int .i64 c, .int .i64 d], .slice ao m cap] w (GbPost w (gbehF ⟨33, a, b, c, d⟩ gs)) := by
  have N0 := Blk.new w #[.int .i64 33, .int .i64 a, .int .i64 b, .int .i64 c, .int .i64 d] 47
  have B0 := (Below.refl w.heap.size w).alloc (Nat.le_refl _) (.cells #[.int .i64 33, .int .i64 a, .int .i64 b, .int .i64 c, .int .i64 d] 47)
  have HC : Hid (gbehF ⟨33, a, b, c, d⟩ gs = gs ++ [(⟨false, a, 0⟩ : Gd)]) := by
    show _ = _
    unfold gbehF
    simp
  go_enter Tryz.func145, Tryz.ntmps145
  go_wp2_with fail
  refine (cloneGd_any ao cap m gs _ hm.out (by omega) hnil (hx.later (Keeps.of_below B0)) hoff).mono ?_
  rintro e w1 ⟨v, rfl, hown, hw1⟩
  have B1 := B0.trans (hw1.mono (by simp))
  have N1 := N0.later hw1
  have n1 := N1.cell
  clear hw1 N0 B0 hnil hoff hx
  have H1 := hown
  obtain ⟨ao1, cap1, rfl⟩ := owns_slice hown
  clear hown
  go_wp2_with (at_builtin; refine app_gd rfl _ _ rfl _ _ m gs (⟨false, a, 0⟩ : Gd) w1.heap.size rfl (H1.alloc _) rfl ?c1 (by omega) ?c2 ?_)
  case c1 => exact ⟨by simp, by simp, by simp⟩
  case c2 => have := B1.size; have := N1.lt; simp at *; omega
  · intro v' w2 H2 G2 _
    have hcap := owns_cap H2
    obtain ⟨ao2, cap2, rfl⟩ := owns_slice H2
    have B2 : Below w.heap.size w w2 := (B1.alloc B1.size _).grown G2 (by have := B1.size; simp; omega) (fun k hk => by have := (H1.lt k hk).1; simp at this; omega)
    have HG : Hid (GdsAt w.heap.size w2 ao2 (gs ++ [(⟨false, a, 0⟩ : Gd)])) := AllAt.lower (owns_gds H2).1 (by simp)
    have HTG : Hid (RTag w2 ao2 194) := owns_tag H2
    have HLEN : Hid ((gs ++ [(⟨false, a, 0⟩ : Gd)]).length = m + 1) := by show _ = _; have := hm.out; simp; omega
    have HCAP : Hid (∀ ao c, (Value.slice ao2 (m + 1) cap2) = .slice ao (m + 1) c → m + 1 ≤ c) := hcap
    clear n1 N1 H1 G2 B1 H2 hcap
    go_wp2_with fail
    go_ret
    rw [HC.out]
    refine ⟨⟨ao2, cap2, ?_, ?_, HG.out, HTG.out⟩, B2⟩
    · rw [HLEN.out]; rfl
    · rw [HLEN.out]; exact HCAP.out _ _ rfl

set_option maxRecDepth 100000 in
set_option maxHeartbeats 3200000 in
theorem guardsBehind_32 (a b c d : Int) (ao : Option Addr) (cap m : Nat) (gs : List Gd) (w : World) (hm : Hid (gs.length = m)) (hml : m ≤ 50) (hnil : ao = none → m = 0) (hoff : ∀ x, ao = some x → ∃ b o, x = ⟨b, o, none⟩) (hx : GdsAt 0 w ao gs) (hne : m ≠ 0) :
    Calls Tryz.prog 145 #[.agg #[.int .i64 32, .int .i64 a, .int .i64 b, .int .i64 c, .int .i64 d], .slice ao m cap] w (GbPost w (gbehF ⟨32, a, b, c, d⟩ gs)) := by
  have N0 := Blk.new w #[.int .i64 32, .int .i64 a, .int .i64 b, .int .i64 c, .int .i64 d] 47
  have B0 := (Below.refl w.heap.size w).alloc (Nat.le_refl _) (.cells #[.int .i64 32, .int .i64 a, .int .i64 b, .int .i64 c, .int .i64 d] 47)
  have HC : Hid (gbehF ⟨32, a, b, c, d⟩ gs = gs.dropLast) := by
    show _ = _
    unfold gbehF
    simp
  go_enter Tryz.func145, Tryz.ntmps145
  go_wp2_with fail
  refine (cloneGd_any ao cap m gs _ hm.out (by omega) hnil (hx.later (Keeps.of_below B0)) hoff).mono ?_
  rintro e w1 ⟨v, rfl, hown, hw1⟩
  have B1 := B0.trans (hw1.mono (by simp))
  have N1 := N0.later hw1
  have n1 := N1.cell
  clear hw1 N0 B0 hnil hoff hx
  rcases m with _ | k
  · exact absurd rfl hne
  · obtain ⟨g, cap1, q, rfl, hg1, hg2, hcap, hq, hqa, hfr, HG0, HS⟩ := owns_last hown hm.out
    have HG : Hid (GdsAt w.heap.size w1 (some ⟨g, 0, none⟩) gs) := AllAt.lower HG0 (by simp)
    have HTG : Hid (RTag w1 (some ⟨g, 0, none⟩) 194) := owns_tag hown
    have k1 : ((k : Int) + 1 - 1) = k := by omega
    have k2 : (k : Int) ≤ cap1 := by omega
    have HK : Hid (gs.dropLast.length = k) := by show _ = _; have := hm.out; simp; omega
    have HCAP : Hid (k ≤ cap1) := by show _ ≤ _; omega
    clear hq HS HG0 hown hfr hg1 hqa hne
    go_wp2_with fail
    go_ret
    rw [HC.out]
    refine ⟨⟨some ⟨g, 0, none⟩, cap1, ?_, ?_, AllAt.dropLast HG.out, HTG.out⟩, B1⟩
    · rw [HK.out]; rfl
    · rw [HK.out]; exact HCAP.out

set_option maxRecDepth 100000 in
set_option maxHeartbeats 3200000 in
theorem guardsBehind_36 (a b c d : Int) (ao : Option Addr) (cap m : Nat) (gs : List Gd) (w : World) (hm : Hid (gs.length = m)) (hml : m ≤ 50) (hnil : ao = none → m = 0) (hoff : ∀ x, ao = some x → ∃ b o, x = ⟨b, o, none⟩) (hx : GdsAt 0 w ao gs) (hne : m ≠ 0) :
    Calls Tryz.prog 145 #[.agg #[.int .i64 36, .int .i64 a, .int .i64 b, .int .i64 c, .int .i64 d], .slice ao m cap] w (GbPost w (gbehF ⟨36, a, b, c, d⟩ gs)) := by
  have N0 := Blk.new w #[.int .i64 36, .int .i64 a, .int .i64 b, .int .i64 c, .int .i64 d] 47
  have B0 := (Below.refl w.heap.size w).alloc (Nat.le_refl _) (.cells #[.int .i64 36, .int .i64 a, .int .i64 b, .int .i64 c, .int .i64 d] 47)
  have HC : Hid (gbehF ⟨36, a, b, c, d⟩ gs = gs.dropLast) := by
    show _ = _
    unfold gbehF
    simp
  go_enter Tryz.func145, Tryz.ntmps145
  go_wp2_with fail
  refine (cloneGd_any ao cap m gs _ hm.out (by omega) hnil (hx.later (Keeps.of_below B0)) hoff).mono ?_
  rintro e w1 ⟨v, rfl, hown, hw1⟩
  have B1 := B0.trans (hw1.mono (by simp))
  have N1 := N0.later hw1
  have n1 := N1.cell
  clear hw1 N0 B0 hnil hoff hx
  rcases m with _ | k
  · exact absurd rfl hne
  · obtain ⟨g, cap1, q, rfl, hg1, hg2, hcap, hq, hqa, hfr, HG0, HS⟩ := owns_last hown hm.out
    have HG : Hid (GdsAt w.heap.size w1 (some ⟨g, 0, none⟩) gs) := AllAt.lower HG0 (by simp)
    have HTG : Hid (RTag w1 (some ⟨g, 0, none⟩) 194) := owns_tag hown
    have k1 : ((k : Int) + 1 - 1) = k := by omega
    have k2 : (k : Int) ≤ cap1 := by omega
    have HK : Hid (gs.dropLast.length = k) := by show _ = _; have := hm.out; simp; omega
    have HCAP : Hid (k ≤ cap1) := by show _ ≤ _; omega
    clear hq HS HG0 hown hfr hg1 hqa hne
    go_wp2_with fail
    go_ret
    rw [HC.out]
    refine ⟨⟨some ⟨g, 0, none⟩, cap1, ?_, ?_, AllAt.dropLast HG.out, HTG.out⟩, B1⟩
    · rw [HK.out]; rfl
    · rw [HK.out]; exact HCAP.out

set_option maxRecDepth 100000 in
set_option maxHeartbeats 3200000 in
theorem guardsBehind_34 (a b c d : Int) (ao : Option Addr) (cap m : Nat) (gs : List Gd) (w : World) (hm : Hid (gs.length = m)) (hml : m ≤ 50) (hnil : ao = none → m = 0) (hoff : ∀ x, ao = some x → ∃ b o, x = ⟨b, o, none⟩) (hx : GdsAt 0 w ao gs) (hne : m ≠ 0) :
    Calls Tryz.prog 145 #[.agg #[.int .i64 34, .int .i64 a, .int .i64 b, .int .i64 c, .int .i64 d], .slice ao m cap] w (GbPost w (gbehF ⟨34, a, b, c, d⟩ gs)) := by
  have N0 := Blk.new w #[.int .i64 34, .int .i64 a, .int .i64 b, .int .i64 c, .int .i64 d] 47
  have B0 := (Below.refl w.heap.size w).alloc (Nat.le_refl _) (.cells #[.int .i64 34, .int .i64 a, .int .i64 b, .int .i64 c, .int .i64 d] 47)
  have HC : Hid (gbehF ⟨34, a, b, c, d⟩ gs = keepLast gs a) := by
    show _ = _
    unfold gbehF
    simp
  go_enter Tryz.func145, Tryz.ntmps145
  go_wp2_with fail
  refine (cloneGd_any ao cap m gs _ hm.out (by omega) hnil (hx.later (Keeps.of_below B0)) hoff).mono ?_
  rintro e w1 ⟨v, rfl, hown, hw1⟩
  have B1 := B0.trans (hw1.mono (by simp))
  have N1 := N0.later hw1
  have n1 := N1.cell
  clear hw1 N0 B0 hnil hoff hx
  rcases m with _ | k
  · exact absurd rfl hne
  · obtain ⟨g, cap1, q, rfl, hg1, hg2, hcap, hq, hqa, hfr, HG0, HS⟩ := owns_last hown hm.out
    have hgw : w.heap.size < g := by simp at hg1; omega
    have HO : Hid ((w1.setCell ⟨g, k * 3 + 1, none⟩ (.int .i64 a)).ownsRow (w.alloc (.cells #[.int .i64 34, .int .i64 a, .int .i64 b, .int .i64 c, .int .i64 d] 47)).heap.size 194 3 (.slice (some ⟨g, 0, none⟩) (k + 1) cap1) (k + 1) (gds (keepLast gs a))) := by
      have h0 := HS a
      rw [gds_set hm.out] at h0
      exact h0
    have HB3 : Hid (Below w.heap.size w (w1.setCell ⟨g, k * 3 + 1, none⟩ (.int .i64 a))) := B1.setCell (by dsimp only; omega) _
    have HCAP : Hid (k + 1 ≤ cap1) := hcap
    obtain ⟨q0, q1, q2⟩ := hqa
    have f1 := hfr (k * 3 + 1)
    have k1 : ((k : Int) + 1 - 1) = k := by omega
    clear hq HS HG0 hown hfr hg1 hgw hne
    go_wp2_with fail
    go_ret
    rw [HC.out]
    obtain ⟨h1, h2⟩ := owns_gds HO.out
    refine ⟨⟨some ⟨g, 0, none⟩, cap1, ?_, ?_, AllAt.lower h1 (by simp), owns_tag HO.out⟩, HB3.out⟩
    · rw [← h2]; simp
    · rw [← h2]; exact HCAP.out

set_option maxRecDepth 100000 in
set_option maxHeartbeats 3200000 in
theorem guardsBehind_other (op a b c d : Int) (ao : Option Addr) (cap m : Nat) (gs : List Gd) (w : World) (hm : Hid (gs.length = m)) (hml : m ≤ 50) (hnil : ao = none → m = 0) (hoff : ∀ x, ao = some x → ∃ b o, x = ⟨b, o, none⟩) (hx : GdsAt 0 w ao gs) (h31 : op ≠ 31) (h33 : op ≠ 33) (h32 : op ≠ 32) (h36 : op ≠ 36) (h34 : op ≠ 34) :
    Calls Tryz.prog 145 #[.agg #[.int .i64 op, .int .i64 a, .int .i64 b, .int .i64 c, .int .i64 d], .slice ao m cap] w (GbPost w (gbehF ⟨op, a, b, c, d⟩ gs)) := by
  have N0 := Blk.new w #[.int .i64 op, .int .i64 a, .int .i64 b, .int .i64 c, .int .i64 d] 47
  have B0 := (Below.refl w.heap.size w).alloc (Nat.le_refl _) (.cells #[.int .i64 op, .int .i64 a, .int .i64 b, .int .i64 c, .int .i64 d] 47)
  have HC : Hid (gbehF ⟨op, a, b, c, d⟩ gs = gs) := by
    show _ = _
    unfold gbehF
    simp [h31, h33, h32, h36, h34]
  have t31 : (op == 31) = false := by simpa using h31
  have t33 : (op == 33) = false := by simpa using h33
  have t32 : (op == 32) = false := by simpa using h32
  have t36 : (op == 36) = false := by simpa using h36
  have t34 : (op == 34) = false := by simpa using h34
  clear h31 h33 h32 h36 h34
  go_enter Tryz.func145, Tryz.ntmps145
  go_wp2_with fail
  refine (cloneGd_any ao cap m gs _ hm.out (by omega) hnil (hx.later (Keeps.of_below B0)) hoff).mono ?_
  rintro e w1 ⟨v, rfl, hown, hw1⟩
  have B1 := B0.trans (hw1.mono (by simp))
  have N1 := N0.later hw1
  have n1 := N1.cell
  clear hw1 N0 B0 hnil hoff hx
  have hcap := owns_cap hown
  obtain ⟨ao1, cap1, rfl⟩ := owns_slice hown
  have HG : Hid (GdsAt w.heap.size w1 ao1 gs) := AllAt.lower (owns_gds hown).1 (by simp)
  have HCAP : Hid (m ≤ cap1) := hcap _ _ rfl
  have HTG : Hid (RTag w1 ao1 194) := owns_tag hown
  clear hown hcap
  go_wp2_with fail
  go_ret
  rw [HC.out]
  refine ⟨⟨ao1, cap1, ?_, ?_, HG.out, HTG.out⟩, B1⟩
  · rw [hm.out]; rfl
  · rw [hm.out]; exact HCAP.out

theorem guardsBehind_any (n : Nd) (ao : Option Addr) (cap m : Nat) (gs : List Gd) (w : World) (hm : Hid (gs.length = m)) (hml : m ≤ 50) (hnil : ao = none → m = 0) (hoff : ∀ x, ao = some x → ∃ b o, x = ⟨b, o, none⟩) (hx : GdsAt 0 w ao gs) (hne : n.op = 32 ∨ n.op = 34 ∨ n.op = 36 → m ≠ 0) :
    Calls Tryz.prog 145 #[n.val, .slice ao m cap] w (GbPost w (gbehF n gs)) := by
  obtain ⟨op, a, b, c, d⟩ := n
  dsimp only at hne
  by_cases h31 : op = 31
  · subst h31; exact guardsBehind_31 a b c d ao cap m gs w hm hml hnil hoff hx
  by_cases h33 : op = 33
  · subst h33; exact guardsBehind_33 a b c d ao cap m gs w hm hml hnil hoff hx
  by_cases h32 : op = 32
  · subst h32; exact guardsBehind_32 a b c d ao cap m gs w hm hml hnil hoff hx (hne (by simp))
  by_cases h36 : op = 36
  · subst h36; exact guardsBehind_36 a b c d ao cap m gs w hm hml hnil hoff hx (hne (by simp))
  by_cases h34 : op = 34
  · subst h34; exact guardsBehind_34 a b c d ao cap m gs w hm hml hnil hoff hx (hne (by simp))
  exact guardsBehind_other op a b c d ao cap m gs w hm hml hnil hoff hx h31 h33 h32 h36 h34
end Go.Proofs.YtmfippfnhcphhaaGreatDoor

namespace Go.Proofs.YtmfippfnhcphhaaGreatDoor
open Go.RowKit Go.Deep
attribute [local go_sem] run_eqg_Guard run_neq_Guard

set_option maxRecDepth 100000 in
set_option maxHeartbeats 1600000 in
theorem equalGd_any (p1 p2 : Option Addr) (d1 d2 : Nat) (g1 g2 : List Gd) (w : World) (l3 : g1.length ≤ 1048576) (h3 : GdsAt 0 w p1 g1) (h4 : GdsAt 0 w p2 g2) :
    Calls Tryz.prog 138 #[.slice p1 g1.length d1, .slice p2 g2.length d2] w fun e w' => e = .returned (.bool (decide (g1 = g2))) ∧ Below w.heap.size w w' := by
  go_enter Tryz.func138, Tryz.ntmps138
  by_cases e2 : g1.length = g2.length
  rotate_left
  · have k2 : ((g1.length : Int) != g2.length) = true := by simp; omega
    have HN : Hid (¬ g1 = g2) := fun h => e2 (by rw [h])
    clear e2
    go_wp2_with fail
    go_ret
    exact ⟨ret_bool (by simp [HN.out]), Below.refl _ _⟩
  · have k2 : ((g1.length : Int) != g2.length) = false := by simp; omega
    have E2 : Hid (g1.length = g2.length) := e2
    clear e2
    go_wp2_with fail
    go_loopw [13] (fun y wr => ∃ k : Nat, k ≤ g1.length ∧ y = .int .i64 k ∧ Hid ((g1 = g2) ↔ (g1.drop k = g2.drop k)) ∧ Below w.heap.size w wr) (fun y _ => g1.length - (intOf y).toNat)
    case atStart => exact ⟨0, Nat.zero_le _, rfl, Iff.rfl, Below.refl _ _⟩
    case round =>
      obtain ⟨k', hk', rfl, HQ, hb'⟩ := hrel
      by_cases hkl2 : k' < g1.length
      · obtain ⟨x, hxk⟩ := some_of_lt hkl2
        have hkl3 : k' < g2.length := by rw [← E2.out]; exact hkl2
        obtain ⟨y, hyk⟩ := some_of_lt hkl3
        obtain ⟨b, off, rfl, _, hbl, q0, q1, q2⟩ := h3.later (Keeps.of_below hb') k' x hxk
        obtain ⟨b', off', rfl, _, hbl', q3, q4, q5⟩ := h4.later (Keeps.of_below hb') k' y hyk
        have HD : Hid ((g1 = g2) ↔ (x = y ∧ g1.drop (k' + 1) = g2.drop (k' + 1))) := HQ.out.trans (drop_eq_step hxk hyk)
        have k3 : (k' : Int) < g2.length := by omega
        obtain ⟨x0, x1, x2'⟩ := x
        obtain ⟨y0, y1, y2'⟩ := y
        dsimp only at *
        clear HQ h3 h4 hxk hyk
        by_cases hxy : (⟨x0, x1, x2'⟩ : Gd) = ⟨y0, y1, y2'⟩
        · have HN : Hid ((g1 = g2) ↔ g1.drop (k' + 1) = g2.drop (k' + 1)) := by
            show _ ↔ _
            rw [HD.out]
            exact ⟨fun h => h.2, fun h => ⟨hxy, h⟩⟩
          simp only [Gd.mk.injEq] at hxy
          obtain ⟨rfl, rfl, rfl⟩ := hxy
          clear HD
          go_wp2_with fail
          go_quiet (fail)
          go_wp2_with fail
          go_roundw
          case rel => exact ⟨k' + 1, by omega, by go_num, HN.out, below_drewN hb' _⟩
          case measure => simp [intOf]; omega
        · have HN : Hid (¬ g1 = g2) := by
            intro h
            exact hxy (HD.out.1 h).1
          have k4 : (¬ x0 = y0) ∨ (x0 = y0 ∧ ¬ x1 = y1) ∨ (x0 = y0 ∧ x1 = y1 ∧ ¬ x2' = y2') := by
            simp only [Gd.mk.injEq] at hxy
            by_cases z0 : x0 = y0 <;> by_cases z1 : x1 = y1 <;> by_cases z2 : x2' = y2' <;> simp_all
          clear HD hxy
          rcases k4 with k4 | ⟨rfl, k4⟩ | ⟨rfl, rfl, k4⟩
          · have k5 : (x0 == y0) = false := by simpa using k4
            go_wp2_with fail
            go_quiet (fail)
            go_wp2_with fail
            go_ret
            exact ⟨ret_bool (by simp [HN.out]), below_drewN hb' _⟩
          · have k5 : (x1 == y1) = false := by simpa using k4
            go_wp2_with fail
            go_quiet (fail)
            go_wp2_with fail
            go_ret
            exact ⟨ret_bool (by simp [HN.out]), below_drewN hb' _⟩
          · have k5 : (x2' == y2') = false := by simpa using k4
            go_wp2_with fail
            go_quiet (fail)
            go_wp2_with fail
            go_ret
            exact ⟨ret_bool (by simp [HN.out]), below_drewN hb' _⟩
      · have HG : Hid (g1 = g2) := by
          show _ = _
          rw [HQ.out, List.drop_of_length_le (by omega), List.drop_of_length_le (by rw [← E2.out]; omega)]
        clear HQ
        go_wp2_with fail
        go_ret
        exact ⟨ret_bool (by simp [HG.out]), hb'⟩
end Go.Proofs.YtmfippfnhcphhaaGreatDoor
