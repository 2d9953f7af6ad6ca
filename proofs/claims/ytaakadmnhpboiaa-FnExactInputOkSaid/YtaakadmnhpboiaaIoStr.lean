import Derived.Test.YtaakadmnhpboiaaRows
import Derived.WalkKit
import Derived.WalkSpells
import Derived.WalkLawsBesides
import Derived.Deep.QuietTactic
import Derived.BigQuiet
import Derived.Deep.OwnRows
namespace Go.Proofs.Ytaakadmnhpboiaa
open Go.RowKit Go.Deep

/-- A slice of strings that lies in memory: each string in its cell. -/
def StrsAt (w : World) (ao : Option Addr) (ss : List ByteArray) : Prop :=
  ∀ i, i < ss.length → ∃ b off, ao = some ⟨b, off, none⟩ ∧ b < w.heap.size ∧ w.cell? ⟨b, off + i, none⟩ = some (.string (ss.getD i ByteArray.empty))

theorem StrsAt.later {w w' : World} {ao : Option Addr} {ss : List ByteArray} (h : StrsAt w ao ss) (hb : Below w.heap.size w w') : StrsAt w' ao ss := by
  intro i hi
  obtain ⟨b, off, e, hl, hc⟩ := h i hi
  exact ⟨b, off, e, Nat.lt_of_lt_of_le hl hb.size, (hb.cell (p := ⟨b, off + i, none⟩) hl).trans hc⟩

theorem StrsAt.of_row {w : World} {b : Nat} {t : TypeId} {ss : List ByteArray} (h : w.rowIs b t ss.length (fun i => .string (ss.getD i ByteArray.empty))) : StrsAt w (some ⟨b, 0, none⟩) ss :=
  fun i hi => ⟨b, 0, rfl, h.lt, by rw [Nat.zero_add]; exact h.cell hi⟩

theorem ret_bool {a b : Bool} (h : a = b) : Ending.returned (.bool a) = .returned (.bool b) := by rw [h]
theorem ret_int {k : IntKind} {a b : Int} (h : a = b) : Ending.returned (.int k a) = .returned (.int k b) := by rw [h]

def withinB (x lo hi : Int) : Bool := decide (lo ≤ x) && decide (x ≤ hi)

set_option maxHeartbeats 400000 in
theorem within_any (x lo hi : Int) (w : World) :
    Calls Try.prog 12 #[.int .i64 x, .int .i64 lo, .int .i64 hi] w fun e w' => e = .returned (.bool (withinB x lo hi)) ∧ w' = w := by
  go_enter Try.func12, Try.ntmps12
  go_wp2
  · go_ret
    exact ⟨ret_bool (by simp [withinB, *]), rfl⟩
  · go_ret
    exact ⟨ret_bool (by simp [withinB]; omega), rfl⟩

def szs : List ByteArray → Int → Int
  | [], left => left
  | s :: r, left => if left - s.size < 0 then -1 else szs r (left - s.size)

def szS (ss : List ByteArray) (left : Int) : Int := if left - ss.length < 0 then -1 else szs ss (left - ss.length)

theorem szs_drop {ss : List ByteArray} {k : Nat} (hk : k < ss.length) (l : Int) :
    szs (ss.drop k) l = if l - (ss.getD k ByteArray.empty).size < 0 then -1 else szs (ss.drop (k + 1)) (l - (ss.getD k ByteArray.empty).size) := by
  rw [List.drop_eq_getElem_cons hk, szs]
  simp [List.getD, hk]

set_option maxHeartbeats 400000 in
theorem szStringS_any (ao : Option Addr) (cap : Nat) (ss : List ByteArray) (left : Int) (w : World) (h0 : 0 ≤ left) (h1 : left ≤ 1048576)
   (hm : ss.length ≤ maxLen) (hs : ∀ s ∈ ss, s.size ≤ maxLen) (hc : StrsAt w ao ss) :
    Calls Try.prog 9 #[.slice ao ss.length cap, .int .i64 left] w fun e w' => e = .returned (.int .i64 (szS ss left)) ∧ w' = w := by
  unfold maxLen at hm
  go_enter Try.func9, Try.ntmps9
  go_wp2
  · go_ret
    exact ⟨ret_int (by simp [szS, *]), rfl⟩
  · have hge : 0 ≤ left - (ss.length : Int) := by assumption
    have E0 : Hid (szS ss left = szs ss (left - ss.length)) := by show szS ss left = _; simp [szS]; omega
    go_loop [1, 5] (fun l i => ∃ (k : Nat) (q : Int), k ≤ ss.length ∧ i = .int .i64 k ∧ l = .int .i64 q ∧ 0 ≤ q ∧ q ≤ 1048576 ∧ Hid (szs (ss.drop k) q = szs ss (left - ss.length))) (fun _ i => ss.length - (intOf i).toNat)
    case atStart => exact ⟨0, _, Nat.zero_le _, rfl, rfl, by omega, by omega, rfl⟩
    case round =>
      obtain ⟨k, q, hk, rfl, rfl, hq0, hq1, HQ⟩ := hrel
      by_cases hlt : k < ss.length
      · have hsk : (ss.getD k ByteArray.empty).size ≤ maxLen := by simp [List.getD, hlt]; exact hs _ (List.getElem_mem hlt)
        obtain ⟨b, off, rfl, hbl, hcell⟩ := hc k hlt
        have HD : Hid _ := szs_drop hlt q
        generalize ss.getD k ByteArray.empty = s at *
        unfold maxLen at hsk
        clear hc hs
        go_wp2
        · go_ret
          exact ⟨ret_int (by rw [E0.out, ← HQ.out, HD.out, if_pos (by assumption)]), rfl⟩
        · go_round
          case rel => exact ⟨k + 1, _, by omega, by go_num, rfl, by omega, by omega, by rw [← HQ.out, HD.out, if_neg (by omega)]; rfl⟩
          case measure => simp [intOf]; omega
      · go_wp2
        go_ret
        have := HQ.out
        rw [List.drop_of_length_le (by omega)] at this
        exact ⟨ret_int (by rw [E0.out, ← this]; rfl), rfl⟩
theorem Try.info9 : (Try.prog.info? 9).map (fun i => (i.zero, i.size, i.bytes)) = some (some (.string ByteArray.empty), 1, 16) := by kernel_rfl

/-- the row while the first k are laid -/
def part (ss : List ByteArray) (k : Nat) : Nat → Value := fun i => if i < k then .string (ss.getD i ByteArray.empty) else .string ByteArray.empty

theorem part_step {w : World} {b n k : Nat} {ss : List ByteArray} (h : w.rowIs b 9 n (part ss k)) :
    (w.setCell ⟨b, k, none⟩ (.string (ss.getD k ByteArray.empty))).rowIs b 9 n (part ss (k + 1)) := by
  refine (h.set k _).congr (fun j _ => ?_)
  unfold part
  by_cases e : j = k
  · subst e; simp
  · rw [if_neg e]
    by_cases hl : j < k
    · rw [if_pos hl, if_pos (by omega)]
    · rw [if_neg hl, if_neg (by omega)]

set_option maxHeartbeats 400000 in
theorem toStringS_any (ao : Option Addr) (cap : Nat) (ss : List ByteArray) (w : World) 
   (hm : ss.length ≤ 1048576) (hc : StrsAt w ao ss) :
    Calls Try.prog 10 #[.slice ao ss.length cap] w fun e w' => e = .returned (.slice (some ⟨w.heap.size, 0, none⟩) ss.length ss.length) ∧
      w'.rowIs w.heap.size 9 ss.length (fun i => .string (ss.getD i ByteArray.empty)) ∧ Below w.heap.size w w' ∧ w'.heap.size = w.heap.size + 1 := by
  have hmk := run_make_row' (P := Try.prog) 22 9 (.string ByteArray.empty) 16 Try.underlying22 Try.info9 rfl .i64 .i64 ss.length (by omega) (by omega)
  go_enter Try.func10, Try.ntmps10
  go_wp2
  clear hmk
  go_loopw [4] (fun i wr => ∃ k : Nat, k ≤ ss.length ∧ i = .int .i64 k ∧ wr.rowIs w.heap.size 9 ss.length (part ss k) ∧ Below w.heap.size w wr ∧ Hid (wr.heap.size = w.heap.size + 1)) (fun i _ => ss.length - (intOf i).toNat)
  case atStart => exact ⟨0, Nat.zero_le _, rfl, (World.rowIs_made w _ _ _).congr (fun i _ => by simp [part]), (Below.refl _ _).alloc (Nat.le_refl _) _, by show (w.alloc _).heap.size = _; simp⟩
  case round =>
    obtain ⟨k, hk, rfl, hrow, hb, HS⟩ := hrel
    by_cases hlt : k < ss.length
    · obtain ⟨b, off, rfl, hbl, hcell⟩ := hc k hlt
      have hcell' : wr.cell? ⟨b, off + k, none⟩ = some (.string (ss.getD k ByteArray.empty)) := (hb.cell (p := ⟨b, off + k, none⟩) hbl).trans hcell
      have hst : wr.cell? ⟨w.heap.size, k, none⟩ = some (part ss k k) := hrow.cell hlt
      have hfr : wr.frozen? ⟨w.heap.size, k, none⟩ = false := hrow.frozen k
      have R := part_step hrow
      have R2 := hb.setCell (p := ⟨w.heap.size, k, none⟩) (Nat.le_refl _) (.string (ss.getD k ByteArray.empty))
      have R3 : Hid ((wr.setCell ⟨w.heap.size, k, none⟩ (.string (ss.getD k ByteArray.empty))).heap.size = w.heap.size + 1) := by have := HS.out; show _ = _; simpa using this
      generalize ss.getD k ByteArray.empty = s at *
      clear hcell hrow hb hc
      go_wp2
      go_roundw
      case rel => exact ⟨k + 1, by omega, by go_num, R, R2, R3⟩
      case measure => simp [intOf]; omega
    · go_wp2
      go_ret
      refine ⟨rfl, hrow.congr (fun i hi => by simp [part, show i < k by omega]), hb, HS.out⟩
def short (ss : List ByteArray) : Bool := ss.all (fun s => decide (s.size ≤ 4000))
def fitsB (ss : List ByteArray) : Bool := decide (ss.length ≤ 200) && short ss
theorem short_drop {ss : List ByteArray} {k : Nat} (hk : k < ss.length) :
    short (ss.drop k) = (decide ((ss.getD k ByteArray.empty).size ≤ 4000) && short (ss.drop (k + 1))) := by
  rw [List.drop_eq_getElem_cons hk]
  unfold short
  rw [List.all_cons]
  simp [List.getD, hk]

set_option maxHeartbeats 400000 in
theorem textsFit_any (ao : Option Addr) (cap : Nat) (ss : List ByteArray) (w : World) (hm : ss.length ≤ 1048576) (hc : StrsAt w ao ss) :
    Calls Try.prog 11 #[.slice ao ss.length cap] w fun e w' => e = .returned (.bool (fitsB ss)) ∧ w' = w := by
  go_enter Try.func11, Try.ntmps11
  go_wp2
  · go_ret
    exact ⟨ret_bool (by simp [fitsB]; omega), rfl⟩
  · have hle : (ss.length : Int) ≤ 200 := by assumption
    have E0 : Hid (fitsB ss = short ss) := by show fitsB ss = _; simp [fitsB]; omega
    go_loop [10] (fun i => ∃ k : Nat, k ≤ ss.length ∧ i = .int .i64 k ∧ Hid (short (ss.drop k) = short ss)) (fun i => ss.length - (intOf i).toNat)
    case atStart => exact ⟨0, Nat.zero_le _, rfl, rfl⟩
    case round =>
      obtain ⟨k, hk, rfl, HQ⟩ := hrel
      by_cases hlt : k < ss.length
      · obtain ⟨b, off, rfl, hbl, hcell⟩ := hc k hlt
        have HD : Hid _ := short_drop hlt
        generalize ss.getD k ByteArray.empty = s at *
        clear hc
        go_wp2
        · go_ret
          exact ⟨ret_bool (by rw [E0.out, ← HQ.out, HD.out]; simp; omega), rfl⟩
        · go_round
          case rel => exact ⟨k + 1, by omega, by go_num, by have h := HD.out; rw [HQ.out] at h; show _ = _; rw [h]; simp; omega⟩
          case measure => simp [intOf]; omega
      · go_wp2
        go_ret
        have h := HQ.out
        rw [List.drop_of_length_le (by omega)] at h
        exact ⟨ret_bool (by rw [E0.out, ← h]; rfl), rfl⟩

set_option maxHeartbeats 400000 in
theorem eqStringS_any (ao bo : Option Addr) (c1 c2 : Nat) (ss : List ByteArray) (w : World) (hm : ss.length ≤ 1048576)
   (h1 : StrsAt w ao ss) (h2 : StrsAt w bo ss) :
    Calls Try.prog 13 #[.slice ao ss.length c1, .slice bo ss.length c2] w fun e w' => e = .returned (.bool true) ∧ ∃ n, w' = w.drewN n := by
  go_enter Try.func13, Try.ntmps13
  go_wp2
  go_loopw [5] (fun i wr => ∃ (k n : Nat), k ≤ ss.length ∧ i = .int .i64 k ∧ wr = w.drewN n) (fun i _ => ss.length - (intOf i).toNat)
  case atStart => exact ⟨0, 0, Nat.zero_le _, rfl, rfl⟩
  case round =>
    obtain ⟨k, n, hk, rfl, rfl⟩ := hrel
    by_cases hlt : k < ss.length
    · obtain ⟨b1, o1, rfl, _, hcell1⟩ := h1 k hlt
      obtain ⟨b2, o2, rfl, _, hcell2⟩ := h2 k hlt
      generalize ss.getD k ByteArray.empty = s at *
      clear h1 h2
      go_wp2
      go_quiet (fail)
      go_wp2
      go_roundw
      case rel => exact ⟨k + 1, n + nq, by omega, by go_num, rfl⟩
      case measure => simp [intOf]; omega
    · go_wp2
      go_ret
      exact ⟨rfl, n, rfl⟩
end Go.Proofs.Ytaakadmnhpboiaa
