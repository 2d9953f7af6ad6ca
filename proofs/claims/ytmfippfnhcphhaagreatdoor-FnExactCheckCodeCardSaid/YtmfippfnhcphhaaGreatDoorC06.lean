import Derived.Test.YtmfippfnhcphhaaGreatDoorC05
namespace Go.Proofs.YtmfippfnhcphhaaGreatDoor
open Go.RowKit Go.Deep

def upB (p : Pd) (u : Ud) : Bool := if u.loc then inR u.idx 0 (p.regs - 1) else inR u.idx 0 (p.ups.length - 1)
def upsB (p : Pd) (us : List Ud) : Bool := us.all (upB p)
theorem upsB_drop {p : Pd} {l : List Ud} {k : Nat} {u : Ud} (h : l[k]? = some u) : upsB p (l.drop k) = (upB p u && upsB p (l.drop (k + 1))) := by
  rw [drop_some h]; rfl

set_option maxRecDepth 100000 in
set_option maxHeartbeats 2000000 in
theorem upsFit_any (p : Pd) (h : Ph) (ao : Option Addr) (cap : Nat) (us : List Ud) (w : World) (hm : us.length ≤ 1048576) (hz : PFew p) (hr : 0 ≤ p.regs ∧ p.regs ≤ 250) (hu : UpsAt 0 w ao us) :
    Calls Tryz.prog 135 #[.agg (p.cells h), .slice ao us.length cap] w fun e w' => e = .returned (.bool (upsB p us)) ∧ Below w.heap.size w w' := by
  have hb1 : ∀ o, Below w.heap.size w (w.alloc o) := fun o => (Below.refl _ _).alloc (Nat.le_refl _) o
  obtain ⟨hr1, hr2⟩ := hr
  have z1 := hz.ups
  have X0 := Blk.new w (p.cells h) 43
  unfold Pd.cells at *
  go_enter Tryz.func135, Tryz.ntmps135
  go_wp2_with fail
  go_loopw [10] (fun y wr => ∃ k : Nat, k ≤ us.length ∧ y = .int .i64 k ∧ Hid (upsB p (us.drop k) = upsB p us) ∧ Below w.heap.size w wr ∧ Blk wr w.heap.size #[.string p.name, .int .i64 p.line, .int .i64 p.params, .bool p.rest, .int .i64 p.regs, .slice h.uo p.ups.length h.uc, .slice h.co p.consts.length h.cc, .slice h.io p.ins.length h.ic, .slice h.no p.named.length h.nc] 43) (fun y _ => us.length - (intOf y).toNat)
  case atStart => exact ⟨0, Nat.zero_le _, rfl, rfl, hb1 _, X0⟩
  case round =>
    obtain ⟨k, hk, rfl, HQ, hb, X1⟩ := hrel
    clear X0
    by_cases hkl : k < us.length
    · obtain ⟨u, huk⟩ := some_of_lt hkl
      obtain ⟨b, off, rfl, _, hbl, q0, q1⟩ := hu.later (Keeps.of_below hb) k u huk
      have HD : Hid (upsB p us = (upB p u && upsB p (us.drop (k + 1)))) := HQ.out.symm.trans (upsB_drop huk)
      have HU : Hid (upB p u = if u.loc then inR u.idx 0 (p.regs - 1) else inR u.idx 0 (p.ups.length - 1)) := rfl
      have hba : ∀ o, Below w.heap.size w (wr.alloc o) := fun o => hb.alloc hb.size o
      have XA : Hid (∀ o, Blk (wr.alloc o) w.heap.size #[.string p.name, .int .i64 p.line, .int .i64 p.params, .bool p.rest, .int .i64 p.regs, .slice h.uo p.ups.length h.uc, .slice h.co p.consts.length h.cc, .slice h.io p.ins.length h.ic, .slice h.no p.named.length h.nc] 43) := fun o => X1.alloc o
      have x1 := fun o => (X1.alloc o).cell
      obtain ⟨l, x⟩ := u
      dsimp only at *
      clear hu HQ huk
      cases l
      · go_wp2_with (go_at_call 131; refine (within_any _ _ _ _).mono ?_; rintro e w' ⟨rfl, rfl⟩)
        · go_ret
          exact ⟨ret_bool (by rw [HD.out, HU.out]; simp_all), hba _⟩
        · go_roundw
          case rel => exact ⟨k + 1, by omega, by go_num, by show _ = _; rw [HD.out, HU.out]; simp_all, hba _, XA.out _⟩
          case measure => simp [intOf]; omega
      · go_wp2_with (go_at_call 131; refine (within_any _ _ _ _).mono ?_; rintro e w' ⟨rfl, rfl⟩)
        · go_ret
          exact ⟨ret_bool (by rw [HD.out, HU.out]; simp_all), hba _⟩
        · go_roundw
          case rel => exact ⟨k + 1, by omega, by go_num, by show _ = _; rw [HD.out, HU.out]; simp_all, hba _, XA.out _⟩
          case measure => simp [intOf]; omega
    · go_wp2_with fail
      go_ret
      have h1 := HQ.out
      rw [List.drop_of_length_le (by omega)] at h1
      exact ⟨ret_bool h1, hb⟩

set_option maxRecDepth 100000 in
set_option maxHeartbeats 2000000 in
theorem l3upsOk_any (ao : Option Addr) (cap : Nat) (ps : List Pd) (i j : Nat) (p q : Pd) (w : World) (hi : ps[i]? = some p) (hj : ps[j]? = some q) (hz : PFew p) (hzq : PFew q) (hr : 0 ≤ p.regs ∧ p.regs ≤ 250) (hv : ProtosAt 0 w ao ps) :
    Calls Tryz.prog 62 #[.agg #[.slice ao ps.length cap], .int .i64 i, .int .i64 j] w fun e w' => e = .returned (.bool (upsB p q.ups)) ∧ Below w.heap.size w w' := by
  have hlt : i < ps.length := (List.getElem?_eq_some_iff.1 hi).1
  have hltj : j < ps.length := (List.getElem?_eq_some_iff.1 hj).1
  have hb1 : ∀ o, Below w.heap.size w (w.alloc o) := fun o => (Below.refl _ _).alloc (Nat.le_refl _) o
  obtain ⟨b, off, e0, _, hbl, h, ⟨p0, p1, p2, p3, p4, p5, p6, p7, p8⟩, i1⟩ := hv i p hi
  obtain ⟨b2, off2, e2, _, _, h2, ⟨q0, q1, q2, q3, q4, q5, q6, q7, q8⟩, i2⟩ := hv j q hj
  obtain ⟨rfl, rfl⟩ : b = b2 ∧ off = off2 := by rw [e0] at e2; simpa using e2
  subst e0
  have hu := i2.ups
  clear hv i1 i2 e2 hi hj
  obtain ⟨hr1, hr2⟩ := hr
  have z1 := hz.ups
  have z2 := hzq.ups
  have C0 := Blk.new w #[.slice (some ⟨b, off, none⟩) ps.length cap] 25
  clear p0 p1 p2 p3 p6 p7 p8 q0 q1 q2 q3 q4 q6 q7 q8
  go_enter Tryz.func62, Tryz.ntmps62
  go_wp2_with fail
  go_loopw [16] (fun y wr => ∃ k : Nat, k ≤ q.ups.length ∧ y = .int .i64 k ∧ Hid (upsB p (q.ups.drop k) = upsB p q.ups) ∧ Below w.heap.size w wr ∧ Blk wr w.heap.size #[.slice (some ⟨b, off, none⟩) ps.length cap] 25) (fun y _ => q.ups.length - (intOf y).toNat)
  case atStart => exact ⟨0, Nat.zero_le _, rfl, rfl, hb1 _, C0⟩
  case round =>
    obtain ⟨k, hk, rfl, HQ, hb, C1⟩ := hrel
    clear C0
    by_cases hkl : k < q.ups.length
    · obtain ⟨u, huk⟩ := some_of_lt hkl
      obtain ⟨b', off', e', _, hbl', q0, q1⟩ := hu.later (Keeps.of_below hb) k u huk
      have HD : Hid (upsB p q.ups = (upB p u && upsB p (q.ups.drop (k + 1)))) := HQ.out.symm.trans (upsB_drop huk)
      have HU : Hid (upB p u = if u.loc then inR u.idx 0 (p.regs - 1) else inR u.idx 0 (p.ups.length - 1)) := rfl
      have hba : ∀ o, Below w.heap.size w (wr.alloc o) := fun o => hb.alloc hb.size o
      have CA : Hid (∀ o, Blk (wr.alloc o) w.heap.size #[.slice (some ⟨b, off, none⟩) ps.length cap] 25) := fun o => C1.alloc o
      have c1 := fun o => (C1.alloc o).cell
      have r4 : ∀ o, (wr.alloc o).cell? ⟨b, off + i * 9 + 4, none⟩ = some (.int .i64 p.regs) := fun o => ((hba o).cell (p := ⟨b, off + i * 9 + 4, none⟩) hbl).trans p4
      have r5 : ∀ o, (wr.alloc o).cell? ⟨b, off + i * 9 + 5, none⟩ = some (.slice h.uo p.ups.length h.uc) := fun o => ((hba o).cell (p := ⟨b, off + i * 9 + 5, none⟩) hbl).trans p5
      obtain ⟨l, x⟩ := u
      obtain ⟨uo, uc, co, cc, io, ic, no, nc⟩ := h2
      dsimp only at *
      subst e'
      clear hu HQ huk p4 p5 q5
      cases l
      · cases hin : inR x 0 (p.ups.length - 1)
        · go_wp2_with fail
          go_quiet ((go_at_call 121; exact Calls.quiet_of_same (l3in_any _ _ _ _)))
          go_wp2_with fail
          go_ret
          exact ⟨ret_bool (by rw [HD.out, HU.out]; simp [hin]), below_drewN (hba _) _⟩
        · go_wp2_with fail
          go_quiet ((go_at_call 121; exact Calls.quiet_of_same (l3in_any _ _ _ _)))
          go_wp2_with fail
          go_roundw
          case rel => exact ⟨k + 1, by omega, by go_num, by show _ = _; rw [HD.out, HU.out]; simp [hin], below_drewN (hba _) _, CA.out _⟩
          case measure => simp [intOf]; omega
      · cases hin : inR x 0 (p.regs - 1)
        · go_wp2_with fail
          go_quiet ((go_at_call 121; exact Calls.quiet_of_same (l3in_any _ _ _ _)))
          go_wp2_with fail
          go_ret
          exact ⟨ret_bool (by rw [HD.out, HU.out]; simp [hin]), below_drewN (hba _) _⟩
        · go_wp2_with fail
          go_quiet ((go_at_call 121; exact Calls.quiet_of_same (l3in_any _ _ _ _)))
          go_wp2_with fail
          go_roundw
          case rel => exact ⟨k + 1, by omega, by go_num, by show _ = _; rw [HD.out, HU.out]; simp [hin], below_drewN (hba _) _, CA.out _⟩
          case measure => simp [intOf]; omega
    · go_wp2_with fail
      go_ret
      have h1 := HQ.out
      rw [List.drop_of_length_le (by omega)] at h1
      exact ⟨ret_bool h1, hb⟩

set_option maxHeartbeats 400000 in
theorem l3fault_any (c p a : Int) (w : World) :
    Calls Tryz.prog 63 #[.int .i64 c, .int .i64 p, .int .i64 a] w fun e w' => e = .returned (.agg #[.int .i64 c, .int .i64 p, .int .i64 a]) ∧ Below w.heap.size w w' := by
  go_enter Tryz.func63, Tryz.ntmps63
  go_wp2_with fail
  refine bodyPost_ret ?_ rfl ⟨rfl, (Below.refl _ _).alloc (Nat.le_refl _) _⟩
  simp [results, Tryz.results63, go_sem]
end Go.Proofs.YtmfippfnhcphhaaGreatDoor

namespace Go.Proofs.YtmfippfnhcphhaaGreatDoor
open Go.RowKit Go.Deep

/-! ### Which protos are made -/
def boolArr (m : List Bool) : Array Value := (m.map Value.bool).toArray
theorem boolArr_set (m : List Bool) (i : Nat) (b : Bool) : (boolArr m).setIfInBounds i (.bool b) = boolArr (m.set i b) := by
  unfold boolArr
  rw [List.setIfInBounds_toArray, List.map_set]
theorem boolArr_get {m : List Bool} {i : Nat} (h : i < m.length) : (boolArr m)[i]? = some (.bool (m.getD i false)) := by
  unfold boolArr
  simp [h]

def firstIdx (v : Bool) : List Bool → Nat → Int
  | [], _ => -1
  | b :: r, k => if b = v then k else firstIdx v r (k + 1)
theorem firstIdx_drop {v : Bool} {l : List Bool} {k : Nat} (h : k < l.length) : firstIdx v (l.drop k) k = if l.getD k false = v then (k : Int) else firstIdx v (l.drop (k + 1)) (k + 1) := by
  rw [List.drop_eq_getElem_cons h, firstIdx]
  simp [h]

set_option maxRecDepth 100000 in
set_option maxHeartbeats 400000 in
theorem indexBool_any (g c : Nat) (m : List Bool) (v : Bool) (w : World) (hm : m.length ≤ 1048576) (hB : Blk w g (boolArr m) 4) :
    Calls Tryz.prog 136 #[.slice (some ⟨g, 0, none⟩) m.length c, .bool v] w fun e w' => e = .returned (.int .i64 (firstIdx v m 0)) ∧ Below w.heap.size w w' := by
  go_enter Tryz.func136, Tryz.ntmps136
  go_wp2_with fail
  go_loop [8] (fun y => ∃ k : Nat, k ≤ m.length ∧ y = .int .i64 k ∧ Hid (firstIdx v (m.drop k) k = firstIdx v m 0)) (fun y => m.length - (intOf y).toNat)
  case atStart => exact ⟨0, Nat.zero_le _, rfl, rfl⟩
  case round =>
    obtain ⟨k, hk, rfl, HQ⟩ := hrel
    by_cases hkl : k < m.length
    · have HD : Hid (firstIdx v m 0 = if m.getD k false = v then (k : Int) else firstIdx v (m.drop (k + 1)) (k + 1)) := HQ.out.symm.trans (firstIdx_drop hkl)
      have c1 := (hB.cell k).trans (boolArr_get hkl)
      generalize m.getD k false = x at *
      clear hB HQ
      by_cases hx : x = v
      · subst hx
        go_wp2_with fail
        go_ret
        exact ⟨ret_int (by rw [HD.out]; simp), Below.refl _ _⟩
      · have hx' : (v == x) = false := by cases x <;> cases v <;> simp_all
        have HX : Hid (¬ x = v) := hx
        clear hx
        go_wp2_with fail
        go_round
        case rel => exact ⟨k + 1, by omega, by go_num, by show _ = _; rw [HD.out, if_neg HX.out]⟩
        case measure => simp [intOf]; omega
    · go_wp2_with fail
      go_ret
      have h1 := HQ.out
      rw [List.drop_of_length_le (by omega)] at h1
      exact ⟨ret_int h1, Below.refl _ _⟩

def fnBad (ps : List Pd) (pi : Nat) (p : Pd) (m : List Bool) (n : Nd) : Bool :=
  decide (n.b ≤ pi) || (m.getD n.b.toNat false || !upsB p ((ps[n.b.toNat]?.map Pd.ups).getD []))
/-- The IFns of one proto: the first that is bad, and which protos are made then. -/
def mkIns (ps : List Pd) (pi : Nat) (p : Pd) : Nat → List Nd → List Bool → Option Nat × List Bool
  | _, [], m => (none, m)
  | k, n :: r, m => if n.op == 11 then (if fnBad ps pi p m n then (some k, m) else mkIns ps pi p (k + 1) r (m.set n.b.toNat true)) else mkIns ps pi p (k + 1) r m
theorem mkIns_drop {ps : List Pd} {pi : Nat} {p : Pd} {l : List Nd} {k : Nat} {n : Nd} (h : l[k]? = some n) (m : List Bool) :
    mkIns ps pi p k (l.drop k) m = if n.op == 11 then (if fnBad ps pi p m n then (some k, m) else mkIns ps pi p (k + 1) (l.drop (k + 1)) (m.set n.b.toNat true)) else mkIns ps pi p (k + 1) (l.drop (k + 1)) m := by
  rw [drop_some h]; rfl
def mkAll (ps : List Pd) : Nat → List Pd → List Bool → Option (Nat × Nat) × List Bool
  | _, [], m => (none, m)
  | pi, p :: r, m => match mkIns ps pi p 0 p.ins m with
    | (some k, m') => (some (pi, k), m')
    | (none, m') => mkAll ps (pi + 1) r m'
theorem mkAll_drop {ps l : List Pd} {k : Nat} {p : Pd} (h : l[k]? = some p) (m : List Bool) :
    mkAll ps k (l.drop k) m = match mkIns ps k p 0 p.ins m with
    | (some j, m') => (some (k, j), m')
    | (none, m') => mkAll ps (k + 1) (l.drop (k + 1)) m' := by
  rw [drop_some h]; rfl
theorem mkIns_length {ps : List Pd} {pi : Nat} {p : Pd} : ∀ (l : List Nd) (k : Nat) (m : List Bool), (mkIns ps pi p k l m).2.length = m.length
  | [], _, _ => rfl
  | n :: r, k, m => by
    unfold mkIns
    split
    · split
      · rfl
      · rw [mkIns_length r]; simp
    · rw [mkIns_length r]
end Go.Proofs.YtmfippfnhcphhaaGreatDoor

namespace Go.Proofs.YtmfippfnhcphhaaGreatDoor
open Go.RowKit Go.Deep
attribute [local go_sem] run_store_float

def fz (x : Nat) : Bool := FloatKind.f64.format.order x 0 == some .eq
def zeroB (v : Vd) (n f s r : Bool) : Bool := (n || v.num == 0) && (f || fz v.flt) && (s || v.str.toList.isEmpty) && (r || v.ref == 0)

set_option maxHeartbeats 1000000 in
theorem l1zero_any (v : Vd) (n f s r : Bool) (w : World) :
    Calls Tryz.prog 222 #[v.val, .bool n, .bool f, .bool s, .bool r] w fun e w' => e = .returned (.bool (zeroB v n f s r)) ∧ Below w.heap.size w w' := by
  obtain ⟨x0, x1, x2, x3, x4⟩ := v
  dsimp only [Vd.val]
  go_enter Tryz.func222, Tryz.ntmps222
  go_wp2_with fail
  all_goals
    go_ret
    refine ⟨ret_bool ?_, (Below.refl _ _).alloc (Nat.le_refl _) _⟩
    simp_all [zeroB, fz]

def validB (v : Vd) : Bool :=
  if v.kind = 0 then zeroB v false false false false
  else if v.kind = 1 then zeroB v true false false false && (v.num == 0 || v.num == 1)
  else if v.kind = 2 then zeroB v true false false false
  else if v.kind = 3 then zeroB v false true false false
  else if v.kind = 4 then zeroB v false false true false && decide ((v.str.size : Int) ≤ 4000)
  else if v.kind = 5 ∨ v.kind = 6 ∨ v.kind = 7 then zeroB v false false false true && decide (0 ≤ v.ref)
  else if v.kind = 8 then zeroB v true false false false && (decide (0 ≤ v.num) && decide (v.num < 15))
  else false

theorem kinds (k : Int) : k = 0 ∨ k = 1 ∨ k = 2 ∨ k = 3 ∨ k = 4 ∨ k = 5 ∨ k = 6 ∨ k = 7 ∨ k = 8 ∨ (k ≠ 0 ∧ k ≠ 1 ∧ k ≠ 2 ∧ k ≠ 3 ∧ k ≠ 4 ∧ k ≠ 5 ∧ k ≠ 6 ∧ k ≠ 7 ∧ k ≠ 8) := by omega

set_option maxHeartbeats 2000000 in
theorem ValueOk_any (v : Vd) (w : World) :
    Calls Tryz.prog 179 #[v.val] w fun e w' => e = .returned (.bool (validB v)) ∧ Below w.heap.size w w' := by
  obtain ⟨x0, x1, x2, x3, x4⟩ := v
  have hl : ∀ (n f s r : Bool) (w : World), Hid (Calls Tryz.prog 222 #[.agg #[.int .i64 x0, .int .i64 x1, .float .f64 x2, .string x3, .int .i64 x4], .bool n, .bool f, .bool s, .bool r] w fun e w' => e = .returned (.bool (zeroB ⟨x0, x1, x2, x3, x4⟩ n f s r)) ∧ Below w.heap.size w w') := fun n f s r w => l1zero_any ⟨x0, x1, x2, x3, x4⟩ n f s r w
  have hb1 : ∀ o, Below w.heap.size w (w.alloc o) := fun o => (Below.refl _ _).alloc (Nat.le_refl _) o
  have X0 := Blk.new w #[.int .i64 x0, .int .i64 x1, .float .f64 x2, .string x3, .int .i64 x4] 167
  dsimp only [Vd.val]
  rcases kinds x0 with rfl | rfl | rfl | rfl | rfl | rfl | rfl | rfl | rfl | hk
  rotate_right
  · obtain ⟨h0, h1, h2, h3, h4, h5, h6, h7, h8⟩ := hk
    have k0 : (x0 == 0) = false := by simpa using h0
    have k1 : (x0 == 1) = false := by simpa using h1
    have k2 : (x0 == 2) = false := by simpa using h2
    have k3 : (x0 == 3) = false := by simpa using h3
    have k4 : (x0 == 4) = false := by simpa using h4
    have k5 : (x0 == 5) = false := by simpa using h5
    have k6 : (x0 == 6) = false := by simpa using h6
    have k7 : (x0 == 7) = false := by simpa using h7
    have k8 : (x0 == 8) = false := by simpa using h8
    go_enter Tryz.func179, Tryz.ntmps179
    go_wp2_with fail
    go_ret
    exact ⟨ret_bool (by simp [validB, h0, h1, h2, h3, h4, h5, h6, h7, h8]), hb1 _⟩
  all_goals
    go_enter Tryz.func179, Tryz.ntmps179
    go_wp2_with (go_at_call 222; refine (hl _ _ _ _ _).out.mono ?_; rintro e w1 ⟨rfl, hw1⟩; have y1 := (X0.later hw1).cell)
    all_goals
      go_ret
      refine ⟨ret_bool ?_, (hb1 _).trans (hw1.mono (by simp))⟩
      clear y1 X0 hl hb1 hw1
      first | (simp_all [validB]; done) | (simp_all [validB]; omega)

end Go.Proofs.YtmfippfnhcphhaaGreatDoor

namespace Go.Proofs.YtmfippfnhcphhaaGreatDoor
open Go.RowKit Go.Deep
attribute [local go_sem] run_store_float

theorem run_eq_float' (d : Nat) (w : World) (x y : Nat) : (Op.equalIn (d + 1) 165 (.float .f64 x) (.float .f64 y)).run Tryz.prog w = .ok (FloatKind.f64.format.order x y == some .eq) w := by
  simp [Op.equalIn, run_underlying Tryz.underlying165, Op.floatEq]
theorem run_eq_float (w : World) (x y : Nat) : (Op.equalIn 9999 165 (.float .f64 x) (.float .f64 y)).run Tryz.prog w = .ok (FloatKind.f64.format.order x y == some .eq) w := run_eq_float' 9998 w x y

set_option maxRecDepth 100000 in
set_option maxHeartbeats 2000000 in
theorem valid_any (v : Vd) (w : World) :
    Calls Tryz.prog 185 #[v.val] w fun e w' => e = .returned (.bool (validB v)) ∧ Below w.heap.size w w' := by
  obtain ⟨x0, x1, x2, x3, x4⟩ := v
  have hb2 : ∀ o1 o2, Below w.heap.size w ((w.alloc o1).alloc o2) := fun o1 o2 => ((Below.refl _ _).alloc (Nat.le_refl _) o1).alloc (by simp) o2
  have he := run_eq_float
  dsimp only [Vd.val]
  rcases kinds x0 with rfl | rfl | rfl | rfl | rfl | rfl | rfl | rfl | rfl | hk
  rotate_right
  · obtain ⟨h0, h1, h2, h3, h4, h5, h6, h7, h8⟩ := hk
    have k0 : (x0 == 0) = false := by simpa using h0
    have k1 : (x0 == 1) = false := by simpa using h1
    have k2 : (x0 == 2) = false := by simpa using h2
    have k3 : (x0 == 3) = false := by simpa using h3
    have k4 : (x0 == 4) = false := by simpa using h4
    have k5 : (x0 == 5) = false := by simpa using h5
    have k6 : (x0 == 6) = false := by simpa using h6
    have k7 : (x0 == 7) = false := by simpa using h7
    have k8 : (x0 == 8) = false := by simpa using h8
    go_enter Tryz.func185, Tryz.ntmps185
    go_wp2_with fail
    go_ret
    exact ⟨ret_bool (by simp [validB, h0, h1, h2, h3, h4, h5, h6, h7, h8]), hb2 _ _⟩
  · go_enter Tryz.func185, Tryz.ntmps185
    go_wp2_with fail
    all_goals
      go_ret
      refine ⟨ret_bool ?_, hb2 _ _⟩
      clear hb2 he
      simp_all [validB, zeroB, fz]
  · have h1 : (x1 == 0) = true ∧ (x1 == 1) = false ∨ (x1 == 0) = false ∧ (x1 == 1) = true ∨ (x1 == 0) = false ∧ (x1 == 1) = false := by simp; omega
    rcases h1 with ⟨k1, k2⟩ | ⟨k1, k2⟩ | ⟨k1, k2⟩
    all_goals
      go_enter Tryz.func185, Tryz.ntmps185
      go_wp2_with fail
      go_region
      all_goals go_wp2_with fail
      all_goals
        go_ret
        refine ⟨ret_bool ?_, (hb2 _ _).drew⟩
        clear hb2 he
        first | (simp_all [validB, zeroB, fz]; done) | (simp_all [validB, zeroB, fz]; omega)
  · go_enter Tryz.func185, Tryz.ntmps185
    go_wp2_with fail
    all_goals
      go_ret
      refine ⟨ret_bool ?_, hb2 _ _⟩
      clear hb2 he
      simp_all [validB, zeroB, fz]
  · go_enter Tryz.func185, Tryz.ntmps185
    go_wp2_with fail
    all_goals
      go_ret
      refine ⟨ret_bool ?_, hb2 _ _⟩
      clear hb2 he
      simp_all [validB, zeroB, fz]
  · go_enter Tryz.func185, Tryz.ntmps185
    go_wp2_with fail
    go_region
    all_goals go_wp2_with fail
    all_goals
      go_ret
      refine ⟨ret_bool ?_, (hb2 _ _).drew⟩
      clear hb2 he
      first | (simp_all [validB, zeroB, fz]; done) | (simp_all [validB, zeroB, fz]; omega)
  · go_enter Tryz.func185, Tryz.ntmps185
    go_wp2_with fail
    go_region
    all_goals go_wp2_with fail
    all_goals
      go_ret
      refine ⟨ret_bool ?_, (hb2 _ _).drew⟩
      clear hb2 he
      first | (simp_all [validB, zeroB, fz]; done) | (simp_all [validB, zeroB, fz]; omega)
  · go_enter Tryz.func185, Tryz.ntmps185
    go_wp2_with fail
    go_region
    all_goals go_wp2_with fail
    all_goals
      go_ret
      refine ⟨ret_bool ?_, (hb2 _ _).drew⟩
      clear hb2 he
      first | (simp_all [validB, zeroB, fz]; done) | (simp_all [validB, zeroB, fz]; omega)
  · go_enter Tryz.func185, Tryz.ntmps185
    go_wp2_with fail
    go_region
    all_goals go_wp2_with fail
    all_goals
      go_ret
      refine ⟨ret_bool ?_, (hb2 _ _).drew⟩
      clear hb2 he
      first | (simp_all [validB, zeroB, fz]; done) | (simp_all [validB, zeroB, fz]; omega)
  · have h1 : decide (0 ≤ x1) = false ∨ (0 ≤ x1 ∧ x1 < 15) ∨ (0 ≤ x1 ∧ decide (x1 < 15) = false) := by simp; omega
    rcases h1 with k1 | ⟨k1, k2⟩ | ⟨k1, k2⟩
    all_goals
      go_enter Tryz.func185, Tryz.ntmps185
      go_wp2_with fail
      go_region
      all_goals go_wp2_with fail
      all_goals
        go_ret
        refine ⟨ret_bool ?_, (hb2 _ _).drew⟩
        clear hb2 he
        first | (simp_all [validB, zeroB, fz]; done) | (simp_all [validB, zeroB, fz]; omega)
end Go.Proofs.YtmfippfnhcphhaaGreatDoor

namespace Go.Proofs.YtmfippfnhcphhaaGreatDoor
open Go.RowKit Go.Deep
attribute [local go_sem] run_store_float

set_option maxHeartbeats 400000 in
theorem isNaN_any (x : Nat) (w : World) :
    Calls Tryz.prog 186 #[.float .f64 x] w fun e w' => e = .returned (.bool (FloatKind.f64.format.order x x != some .eq)) ∧ w' = w := by
  go_enter Tryz.func186, Tryz.ntmps186
  go_wp2_with fail
  go_ret
  exact ⟨rfl, rfl⟩

theorem run_bits (x : Nat) (w : World) : (callFunc 223 #[.float .f64 x]).run Tryz.prog w = .ok (.value (.int .u64 x)) w := by
  rw [run_callFunc_extern (e := Extern.MathFloatBits.float64bits) Tryz.func223 (by kernel_rfl) (by kernel_rfl) (by kernel_rfl) (by kernel_rfl)]
  rfl

set_option maxRecDepth 100000 in
set_option maxHeartbeats 400000 in
theorem signbit_any (x : Nat) (w : World) :
    Calls Tryz.prog 187 #[.float .f64 x] w fun e w' => e = .returned (.bool (decide (wrap64 x < 0))) ∧ w' = w := by
  have hb := run_bits
  go_enter Tryz.func187, Tryz.ntmps187
  go_wp2_with fail
  go_ret
  exact ⟨rfl, rfl⟩

def constB (v : Vd) : Bool := validB v && (!decide (v.kind = 5 ∨ v.kind = 6 ∨ v.kind = 7) && (if v.kind = 3 then FloatKind.f64.format.order v.flt v.flt == some .eq else decide (v.flt = 0)))

theorem valid_fz {v : Vd} (h : validB v = true) (hk : v.kind ≠ 3) : fz v.flt = true := by
  unfold validB at h
  rcases kinds v.kind with e | e | e | e | e | e | e | e | e | e <;> simp_all [zeroB]

theorem quo_pos {x : Nat} (hx : x < 18446744073709551616) (h : fz x = true) : ∃ r, floatBits .quo .f64 4607182418800017408 x = some r ∧ (FloatKind.f64.format.order r 0 == some .gt) = decide (x = 0) := by
  rcases zero_bits x hx h with rfl | rfl
  · exact ⟨_, div_zero, by rw [pos_inf]; rfl⟩
  · exact ⟨_, div_minus, by rw [neg_inf]; rfl⟩

theorem sign_pos {x : Nat} (hx : x < 18446744073709551616) (h : fz x = true) : decide (wrap64 x < 0) = !decide (x = 0) := by
  rcases zero_bits x hx h with rfl | rfl <;> decide +kernel

set_option maxHeartbeats 2000000 in
theorem l3constOk_any (v : Vd) (hf : v.flt < 18446744073709551616) (w : World) :
    Calls Tryz.prog 118 #[v.val] w fun e w' => e = .returned (.bool (constB v)) ∧ Below w.heap.size w w' := by
  have hv := ValueOk_any v
  have hz := @valid_fz v
  have hq := @quo_pos v.flt hf
  clear hf
  have HC : Hid (constB v = (validB v && (!decide (v.kind = 5 ∨ v.kind = 6 ∨ v.kind = 7) && (if v.kind = 3 then FloatKind.f64.format.order v.flt v.flt == some .eq else decide (v.flt = 0))))) := rfl
  obtain ⟨x0, x1, x2, x3, x4⟩ := v
  dsimp only [Vd.val] at *
  generalize constB ⟨x0, x1, x2, x3, x4⟩ = cb at *
  generalize validB ⟨x0, x1, x2, x3, x4⟩ = vb at *
  have hb1 : ∀ o, Below w.heap.size w (w.alloc o) := fun o => (Below.refl _ _).alloc (Nat.le_refl _) o
  have X0 := Blk.new w #[.int .i64 x0, .int .i64 x1, .float .f64 x2, .string x3, .int .i64 x4] 167
  have HV : Hid (∀ w, Calls Tryz.prog 179 #[.agg #[.int .i64 x0, .int .i64 x1, .float .f64 x2, .string x3, .int .i64 x4]] w fun e w' => e = .returned (.bool vb) ∧ Below w.heap.size w w') := hv
  clear hv
  cases vb
  · clear hz hq
    go_enter Tryz.func118, Tryz.ntmps118
    go_wp2_with (go_at_call 179; refine (HV.out _).mono ?_; rintro e w1 ⟨rfl, hw1⟩; have y1 := (X0.later hw1).cell)
    go_ret
    exact ⟨ret_bool (by rw [HC.out]; simp), (hb1 _).trans (hw1.mono (by simp))⟩
  · by_cases h3 : x0 = 3
    · subst h3
      clear hz hq
      go_enter Tryz.func118, Tryz.ntmps118
      go_wp2_with (go_at_call 179; refine (HV.out _).mono ?_; rintro e w1 ⟨rfl, hw1⟩; have y1 := (X0.later hw1).cell)
      go_ret
      exact ⟨ret_bool (by rw [HC.out]; simp), (hb1 _).trans (hw1.mono (by simp))⟩
    · have z0 := hz rfl h3
      obtain ⟨r, hr1, hr2⟩ := hq z0
      have hd := fun (w : World) (t : TypeId) => run_float_arith (P := Tryz.prog) w .quo t .f64 _ x2 r hr1
      have z1 : (FloatKind.f64.format.order x2 0 == some .eq) = true := z0
      have HR : Hid ((FloatKind.f64.format.order r 0 == some .gt) = decide (x2 = 0)) := hr2
      have k3 : (x0 == 3) = false := by simpa using h3
      clear hz hq hr1 hr2 z0
      by_cases h5 : x0 = 5 ∨ x0 = 6 ∨ x0 = 7
      · rcases h5 with rfl | rfl | rfl
        all_goals
          go_enter Tryz.func118, Tryz.ntmps118
          go_wp2_with (go_at_call 179; refine (HV.out _).mono ?_; rintro e w1 ⟨rfl, hw1⟩; have y1 := (X0.later hw1).cell)
          go_ret
          exact ⟨ret_bool (by rw [HC.out]; simp), (hb1 _).trans (hw1.mono (by simp))⟩
      · have e5 : (x0 == 5) = false := by simp; omega
        have e6 : (x0 == 6) = false := by simp; omega
        have e7 : (x0 == 7) = false := by simp; omega
        have H5 : Hid (¬ (x0 = 5 ∨ x0 = 6 ∨ x0 = 7)) := h5
        have H3 : Hid (¬ x0 = 3) := h3
        clear h5 h3
        go_enter Tryz.func118, Tryz.ntmps118
        go_wp2_with (go_at_call 179; refine (HV.out _).mono ?_; rintro e w1 ⟨rfl, hw1⟩; have y1 := (X0.later hw1).cell)
        all_goals
          go_ret
          exact ⟨ret_bool (by rw [HC.out, decide_eq_false H5.out, if_neg H3.out, ← HR.out]; simp), (hb1 _).trans (hw1.mono (by simp))⟩

set_option maxHeartbeats 2000000 in
theorem constFits_any (v : Vd) (hf : v.flt < 18446744073709551616) (w : World) :
    Calls Tryz.prog 132 #[v.val] w fun e w' => e = .returned (.bool (constB v)) ∧ Below w.heap.size w w' := by
  have hv := valid_any v
  have hz := @valid_fz v
  have hq := @sign_pos v.flt hf
  clear hf
  have HC : Hid (constB v = (validB v && (!decide (v.kind = 5 ∨ v.kind = 6 ∨ v.kind = 7) && (if v.kind = 3 then FloatKind.f64.format.order v.flt v.flt == some .eq else decide (v.flt = 0))))) := rfl
  obtain ⟨x0, x1, x2, x3, x4⟩ := v
  dsimp only [Vd.val] at *
  generalize constB ⟨x0, x1, x2, x3, x4⟩ = cb at *
  generalize validB ⟨x0, x1, x2, x3, x4⟩ = vb at *
  have hb1 : ∀ o, Below w.heap.size w (w.alloc o) := fun o => (Below.refl _ _).alloc (Nat.le_refl _) o
  have X0 := Blk.new w #[.int .i64 x0, .int .i64 x1, .float .f64 x2, .string x3, .int .i64 x4] 167
  have HV : Hid (∀ w, Calls Tryz.prog 185 #[.agg #[.int .i64 x0, .int .i64 x1, .float .f64 x2, .string x3, .int .i64 x4]] w fun e w' => e = .returned (.bool vb) ∧ Below w.heap.size w w') := hv
  clear hv
  by_cases h5 : x0 = 5 ∨ x0 = 6 ∨ x0 = 7
  · rcases h5 with rfl | rfl | rfl
    all_goals
      clear hz hq HV
      go_enter Tryz.func132, Tryz.ntmps132
      go_wp2_with fail
      go_ret
      exact ⟨ret_bool (by rw [HC.out]; simp), hb1 _⟩
  · have e5 : (x0 == 5) = false := by simp; omega
    have e6 : (x0 == 6) = false := by simp; omega
    have e7 : (x0 == 7) = false := by simp; omega
    have H5 : Hid (¬ (x0 = 5 ∨ x0 = 6 ∨ x0 = 7)) := h5
    clear h5
    by_cases h3 : x0 = 3
    · subst h3
      clear hz hq
      cases vb
      · go_enter Tryz.func132, Tryz.ntmps132
        go_wp2_with (go_at_call 185; refine (HV.out _).mono ?_; rintro e w1 ⟨rfl, hw1⟩; have y1 := (X0.later hw1).cell)
        go_ret
        exact ⟨ret_bool (by rw [HC.out]; simp), (hb1 _).trans (hw1.mono (by simp))⟩
      · go_enter Tryz.func132, Tryz.ntmps132
        go_wp2_with (first | (go_at_call 185; refine (HV.out _).mono ?_; rintro e w1 ⟨rfl, hw1⟩; have y1 := (X0.later hw1).cell) | (go_at_call 186; refine (isNaN_any x2 _).mono ?_; rintro e w2 ⟨rfl, rfl⟩))
        go_ret
        exact ⟨ret_bool (by rw [HC.out]; simp; first | done | rfl), (hb1 _).trans (hw1.mono (by simp))⟩
    · have k3 : (x0 == 3) = false := by simpa using h3
      have H3 : Hid (¬ x0 = 3) := h3
      cases vb
      · clear hz hq h3
        go_enter Tryz.func132, Tryz.ntmps132
        go_wp2_with (go_at_call 185; refine (HV.out _).mono ?_; rintro e w1 ⟨rfl, hw1⟩; have y1 := (X0.later hw1).cell)
        go_ret
        exact ⟨ret_bool (by rw [HC.out]; simp), (hb1 _).trans (hw1.mono (by simp))⟩
      · have HR : Hid (decide (wrap64 x2 < 0) = !decide (x2 = 0)) := hq (hz rfl h3)
        clear hz hq h3
        go_enter Tryz.func132, Tryz.ntmps132
        go_wp2_with (first | (go_at_call 185; refine (HV.out _).mono ?_; rintro e w1 ⟨rfl, hw1⟩; have y1 := (X0.later hw1).cell) | (go_at_call 187; refine (signbit_any x2 _).mono ?_; rintro e w2 ⟨rfl, rfl⟩))
        all_goals
          go_ret
          exact ⟨ret_bool (by rw [HC.out, decide_eq_false H5.out, if_neg H3.out]; have h := HR.out; simp at h ⊢; first | exact h | (by_cases hh : x2 = 0 <;> simp_all <;> omega)), (hb1 _).trans (hw1.mono (by simp))⟩
end Go.Proofs.YtmfippfnhcphhaaGreatDoor
