import Derived.Test.YtmfippfnhcphhaaGreatDoorC13
import Derived.Laws.StructEq
namespace Go.Proofs.YtmfippfnhcphhaaGreatDoor
open Go.RowKit Go.Deep

set_option maxRecDepth 100000 in
set_option maxHeartbeats 800000 in
theorem l3guards_any (ao : Option Addr) (cap : Nat) (xs : List Gd) (w : World) (hm : xs.length ≤ 1048576) (hx : GdsAt 0 w ao xs) :
    Calls Tryz.prog 71 #[.slice ao xs.length cap] w fun e w' => ∃ v, e = .returned v ∧ w'.ownsRow w.heap.size 194 3 v xs.length (gds xs) ∧ Below w.heap.size w w' := by
  obtain ⟨i0, hi, hz0, hz1, hz2⟩ := info_parts Tryz.info_Guard
  go_enter Tryz.func71, Tryz.ntmps71
  go_wp2_with fail
  go_loopw [3, 8] (fun v y wr => ∃ k : Nat, k ≤ xs.length ∧ y = .int .i64 k ∧ wr.ownsRow w.heap.size 194 3 v k (gds (xs.take k)) ∧ Below w.heap.size w wr) (fun _ y _ => xs.length - (intOf y).toNat)
  case atStart => exact ⟨0, Nat.zero_le _, rfl, World.ownsRow_nil _ _ _ _, Below.refl _ _⟩
  case round =>
    obtain ⟨k, hk, rfl, hown, hb⟩ := hrel
    by_cases hkl : k < xs.length
    · obtain ⟨x, hxk⟩ := some_of_lt hkl
      obtain ⟨b, off, rfl, _, hbl, q0, q1, q2⟩ := hx.later (Keeps.of_below hb) k x hxk
      have hT : Hid (gds (xs.take (k + 1)) = gds (xs.take k) ++ [.bool x.tr, .int .i64 x.keep, .int .i64 x.hd]) := by
        show _ = _
        rw [List.take_add_one, hxk, gds_append]
        rfl
      obtain ⟨x0, x1, x2⟩ := x
      dsimp only at *
      go_wp2_with (at_builtin; refine wpList_append_own _ rfl _ _ 121 rfl w.heap.size 194 i0 (.agg #[.bool false, .int .i64 0, .int .i64 0]) 3 24 Tryz.underlying121 hi hz0 hz1 hz2 rfl (by decide) _ _ _ rfl ((hown.alloc _).alloc _) ⟨wr.heap.size + 1, 0, none⟩ 1 1 [.bool x0, .int .i64 x1, .int .i64 x2] (by first | rfl | simp) rfl ?c1 ?c2 ?c3 ?c4 ?c5 ?_)
      case c1 =>
        intro j u hj
        match j, hj with
        | 0, hj => simp at hj; subst hj; simp [Addr.add]
        | 1, hj => simp at hj; subst hj; simp [Addr.add]
        | 2, hj => simp at hj; subst hj; simp [Addr.add]
      case c2 => intro u hu; simp at hu; rcases hu with rfl | rfl | rfl <;> rfl
      case c3 => unfold maxLen; omega
      case c4 => omega
      case c5 => have := hb.size; simp; omega
      · intro v' w1 hown' hgrow _
        have B1 := ((hb.alloc hb.size _).alloc (by have := hb.size; simp; omega) _).grown hgrow (by have := hb.size; simp; omega) (fun k hk => (hown.lt k hk).1)
        rw [← hT.out] at hown'
        clear hgrow hown hT q0 q1 q2
        go_wp2_with fail
        go_roundw
        case rel => exact ⟨k + 1, by omega, by go_num, hown', B1⟩
        case measure => simp [intOf]; omega
    · go_wp2_with fail
      go_ret
      obtain rfl : k = xs.length := by omega
      rw [List.take_length] at hown
      exact ⟨_, rfl, hown, hb⟩

/-! ### What a role reads -/
def wantsR (r : Nat) : Int × Bool :=
  match r with
  | 2 => (1, true)
  | 3 => (3, true)
  | 4 => (1, false)
  | 18 => (1, false)
  | 19 => (1, false)
  | 20 => (1, false)
  | 5 => (2, false)
  | 6 => (3, false)
  | _ => (0, false)
set_option maxRecDepth 100000 in
set_option maxHeartbeats 2000000 in
theorem l3wants_any (r : Nat) (w : World) (hr : r ≤ 21) : Calls Tryz.prog 125 #[.int .i64 r] w fun e w' => e = .returned (.tuple #[.int .i64 (wantsR r).1, .bool (wantsR r).2]) ∧ w' = w := by
  rcases roles_all r hr with rfl | rfl | rfl | rfl | rfl | rfl | rfl | rfl | rfl | rfl | rfl | rfl | rfl | rfl | rfl | rfl | rfl | rfl | rfl | rfl | rfl | rfl
  all_goals
    go_enter Tryz.func125, Tryz.ntmps125
    go_wp2_with fail
    go_ret2
    exact ⟨rfl, rfl⟩

/-! ### Keeps of guards that catch -/
def aboveB (gs : List Gd) (keep : Int) : Bool := gs.all fun g => !(g.tr && decide (keep < g.keep))
theorem aboveB_drop {gs : List Gd} {k : Nat} {g : Gd} {keep : Int} (h : gs[k]? = some g) : aboveB (gs.drop k) keep = (!(g.tr && decide (keep < g.keep)) && aboveB (gs.drop (k + 1)) keep) := by
  rw [drop_some h]; rfl
set_option maxRecDepth 100000 in
set_option maxHeartbeats 800000 in
theorem l3above_any (ao : Option Addr) (cap : Nat) (gs : List Gd) (keep : Int) (w : World) (hm : gs.length ≤ 1048576) (hx : GdsAt 0 w ao gs) :
    Calls Tryz.prog 126 #[.slice ao gs.length cap, .int .i64 keep] w fun e w' => e = .returned (.bool (aboveB gs keep)) ∧ Below w.heap.size w w' := by
  go_enter Tryz.func126, Tryz.ntmps126
  go_wp2_with fail
  go_loopw [9] (fun y wr => ∃ k : Nat, k ≤ gs.length ∧ y = .int .i64 k ∧ Hid (aboveB (gs.drop k) keep = aboveB gs keep) ∧ Below w.heap.size w wr) (fun y _ => gs.length - (intOf y).toNat)
  case atStart => exact ⟨0, Nat.zero_le _, rfl, rfl, Below.refl _ _⟩
  case round =>
    obtain ⟨k, hk, rfl, HQ, hb⟩ := hrel
    by_cases hkl : k < gs.length
    · obtain ⟨x, hxk⟩ := some_of_lt hkl
      obtain ⟨b, off, rfl, _, hbl, q0, q1, q2⟩ := hx.later (Keeps.of_below hb) k x hxk
      have HD : Hid (aboveB gs keep = _) := HQ.out.symm.trans (aboveB_drop hxk)
      have hba : ∀ o, Below w.heap.size w (wr.alloc o) := fun o => hb.alloc hb.size o
      obtain ⟨x0, x1, x2⟩ := x
      dsimp only at *
      clear hx HQ hxk
      cases x0
      · have HN : Hid (aboveB (gs.drop (k + 1)) keep = aboveB gs keep) := by show _ = _; rw [HD.out]; simp
        clear HD
        go_wp2_with fail
        go_roundw
        case rel => exact ⟨k + 1, by omega, by go_num, HN.out, hba _⟩
        case measure => simp [intOf]; omega
      · by_cases hlt : keep < x1
        · have HN : Hid (aboveB gs keep = false) := by show _ = _; rw [HD.out]; simp [hlt]
          clear HD
          go_wp2_with fail
          go_ret
          exact ⟨ret_bool HN.out.symm, hba _⟩
        · have HN : Hid (aboveB (gs.drop (k + 1)) keep = aboveB gs keep) := by show _ = _; rw [HD.out]; simp [hlt]
          clear HD
          go_wp2_with fail
          go_roundw
          case rel => exact ⟨k + 1, by omega, by go_num, HN.out, hba _⟩
          case measure => simp [intOf]; omega
    · have HN : Hid (aboveB gs keep = true) := by
        have h1 := HQ.out
        rw [List.drop_of_length_le (by omega)] at h1
        exact h1.symm
      clear HQ
      go_wp2_with fail
      go_ret
      exact ⟨ret_bool HN.out.symm, hb⟩
end Go.Proofs.YtmfippfnhcphhaaGreatDoor

namespace Go.Proofs.YtmfippfnhcphhaaGreatDoor
open Go.RowKit Go.Deep

/-! ### Guards are compared -/
theorem Tryz.guard_und : Tryz.prog.underlying 194 = some (.struct (Tryz.prog.fieldsOf 194)) := by kernel_rfl
theorem Tryz.guard_held : Tryz.prog.stoodInHeld 194 = false := by kernel_rfl
theorem Tryz.guard_eqg : Tryz.prog.eqGuardType Tryz.prog.depth 194 = false := by kernel_rfl
theorem run_eqg_Guard (x y : Operand) (xs ys : Array Value) (w : World) : (eqGuard .neq 194 x y (.agg xs) (.agg ys)).run Tryz.prog w = .ok () w := run_eqGuard_agg w .neq _ x y xs ys Tryz.guard_eqg
theorem Tryz.guard_fields : (Tryz.prog.fieldsOf 194).toList.map (fun f => (f.name == "_", f.type, f.offset)) = [(false, 4, 0), (false, 3, 1), (false, 3, 2)] := by kernel_rfl
theorem Tryz.und_bool : Tryz.prog.underlying 4 = some .bool := by kernel_rfl
theorem Tryz.und_int : Tryz.prog.underlying 3 = some (.int .i64) := by kernel_rfl
set_option maxRecDepth 100000 in
theorem run_neq_Guard (a0 b0 : Bool) (a1 a2 b1 b2 : Int) (w : World) : (binOp .neq 194 (.agg #[.bool a0, .int .i64 a1, .int .i64 a2]) (.agg #[.bool b0, .int .i64 b1, .int .i64 b2])).run Tryz.prog w = .ok (.bool (!(a0 == b0 && (a1 == b1 && a2 == b2)))) w := by
  rw [run_neq_struct, run_equalIn_struct w 9999 _ _ _ Tryz.guard_und Tryz.guard_held]
  have hf := Tryz.guard_fields
  generalize (Tryz.prog.fieldsOf 194).toList = fs at hf
  obtain ⟨⟨n0, t0, o0, e0, g0, p0, y0⟩, r0, rfl, h0, hf⟩ := List.map_eq_cons_iff.1 hf
  obtain ⟨⟨n1, t1, o1, e1, g1, p1, y1⟩, r1, rfl, h1, hf⟩ := List.map_eq_cons_iff.1 hf
  obtain ⟨⟨n2, t2, o2, e2, g2, p2, y2⟩, r2, rfl, h2, hf⟩ := List.map_eq_cons_iff.1 hf
  obtain rfl := List.map_eq_nil_iff.1 hf
  simp only [Prod.mk.injEq] at h0 h1 h2
  obtain ⟨h0, rfl, rfl⟩ := h0
  obtain ⟨h1, rfl, rfl⟩ := h1
  obtain ⟨h2, rfl, rfl⟩ := h2
  have i0 : ¬ n0 = "_" := by simpa using h0
  have i1 : ¬ n1 = "_" := by simpa using h1
  have i2 : ¬ n2 = "_" := by simpa using h2
  simp [go_sem, part, i0, i1, i2]
  by_cases z0 : a0 = b0 <;> by_cases z1 : a1 = b1 <;> by_cases z2 : a2 = b2 <;> simp [z0, z1, z2]
attribute [local go_sem] run_eqg_Guard run_neq_Guard

/-! ### Two states -/
def stV (r : Bool) (to : Option Addr) (tn tc : Nat) (go : Option Addr) (gn gc : Nat) : Value := .agg #[.bool r, .slice to tn tc, .slice go gn gc]

theorem drop_eq_step {α : Type} {a b : List α} {k : Nat} {x y : α} (hx : a[k]? = some x) (hy : b[k]? = some y) : (a.drop k = b.drop k) ↔ (x = y ∧ a.drop (k + 1) = b.drop (k + 1)) := by
  rw [drop_some hx, drop_some hy, List.cons.injEq]

set_option maxRecDepth 100000 in
set_option maxHeartbeats 1600000 in
theorem l3same_any (r1 r2 : Bool) (o1 o2 p1 p2 : Option Addr) (c1 c2 d1 d2 : Nat) (t1 t2 : List Int) (g1 g2 : List Gd) (w : World) (l1 : t1.length ≤ 1048576) (l3 : g1.length ≤ 1048576)
    (h1 : IntsAt 0 w o1 t1) (h2 : IntsAt 0 w o2 t2) (h3 : GdsAt 0 w p1 g1) (h4 : GdsAt 0 w p2 g2) :
    Calls Tryz.prog 72 #[stV r1 o1 t1.length c1 p1 g1.length d1, stV r2 o2 t2.length c2 p2 g2.length d2] w fun e w' => e = .returned (.bool (decide (t1 = t2) && decide (g1 = g2))) ∧ Below w.heap.size w w' := by
  unfold stV
  have X0 := (Blk.new w #[.bool r1, .slice o1 t1.length c1, .slice p1 g1.length d1] 123).alloc (.cells #[.bool r2, .slice o2 t2.length c2, .slice p2 g2.length d2] 123)
  have Y0 := Blk.new (w.alloc (.cells #[.bool r1, .slice o1 t1.length c1, .slice p1 g1.length d1] 123)) #[.bool r2, .slice o2 t2.length c2, .slice p2 g2.length d2] 123
  rw [nblk_alloc] at Y0
  have hb2 : ∀ o1 o2, Below w.heap.size w ((w.alloc o1).alloc o2) := fun o1 o2 => ((Below.refl _ _).alloc (Nat.le_refl _) o1).alloc (by simp) o2
  have HB : Hid (∀ o1 o2, Below w.heap.size w ((w.alloc o1).alloc o2)) := hb2
  clear hb2
  go_enter Tryz.func72, Tryz.ntmps72
  by_cases e1 : t1.length = t2.length
  rotate_left
  · have k1 : ((t1.length : Int) != t2.length) = true := by simp; omega
    have HN : Hid (¬ t1 = t2) := fun h => e1 (by rw [h])
    clear e1
    go_wp2_with fail
    go_ret
    refine ⟨ret_bool ?_, HB.out _ _⟩
    simp [HN.out]
  · have k1 : ((t1.length : Int) != t2.length) = false := by simp; omega
    by_cases e2 : g1.length = g2.length
    rotate_left
    · have k2 : ((g1.length : Int) != g2.length) = true := by simp; omega
      have HN : Hid (¬ g1 = g2) := fun h => e2 (by rw [h])
      clear e1 e2
      go_wp2_with fail
      go_ret
      refine ⟨ret_bool ?_, HB.out _ _⟩
      simp [HN.out]
    · have k2 : ((g1.length : Int) != g2.length) = false := by simp; omega
      have E1 : Hid (t1.length = t2.length) := e1
      have E2 : Hid (g1.length = g2.length) := e2
      clear e1 e2
      go_wp2_with fail
      have B0 := HB.out (.cells #[.bool r1, .slice o1 t1.length c1, .slice p1 g1.length d1] 123) (.cells #[.bool r2, .slice o2 t2.length c2, .slice p2 g2.length d2] 123)
      clear HB
      go_loopw [26] (fun y wr => ∃ k : Nat, k ≤ t1.length ∧ y = .int .i64 k ∧ Hid ((t1 = t2) ↔ (t1.drop k = t2.drop k)) ∧ Below w.heap.size w wr ∧ Blk wr w.heap.size #[.bool r1, .slice o1 t1.length c1, .slice p1 g1.length d1] 123 ∧ Blk wr (w.heap.size + 1) #[.bool r2, .slice o2 t2.length c2, .slice p2 g2.length d2] 123) (fun y _ => t1.length - (intOf y).toNat)
      case atStart => exact ⟨0, Nat.zero_le _, rfl, Iff.rfl, B0, X0, Y0⟩
      case round =>
        obtain ⟨k, hk, rfl, HQ, hb, X1, Y1⟩ := hrel
        clear B0 X0 Y0
        have x1 := X1.cell
        have y1 := Y1.cell
        by_cases hkl : k < t1.length
        · obtain ⟨x, hxk⟩ := some_of_lt hkl
          have hkl2 : k < t2.length := by rw [← E1.out]; exact hkl
          obtain ⟨y, hyk⟩ := some_of_lt hkl2
          obtain ⟨b, off, rfl, _, hbl, q0⟩ := h1.later (Keeps.of_below hb) k x hxk
          obtain ⟨b', off', rfl, _, hbl', q1⟩ := h2.later (Keeps.of_below hb) k y hyk
          have HD : Hid ((t1 = t2) ↔ (x = y ∧ t1.drop (k + 1) = t2.drop (k + 1))) := HQ.out.trans (drop_eq_step hxk hyk)
          unfold IntAt at q0 q1
          rw [Nat.mul_one] at q0 q1
          have k3 : (k : Int) < t2.length := by omega
          clear HQ h1 h2 h3 h4 hxk hyk
          by_cases hxy : x = y
          · subst hxy
            have HN : Hid ((t1 = t2) ↔ t1.drop (k + 1) = t2.drop (k + 1)) := by
              show _ ↔ _
              rw [HD.out]
              exact ⟨fun h => h.2, fun h => ⟨rfl, h⟩⟩
            clear HD
            go_wp2_with fail
            go_quiet (fail)
            go_wp2_with fail
            go_roundw
            case rel => exact ⟨k + 1, by omega, by go_num, HN.out, below_drewN hb _, X1, Y1⟩
            case measure => simp [intOf]; omega
          · have k4 : (x != y) = true := by simpa using hxy
            have HN : Hid (¬ t1 = t2) := by
              intro h
              exact hxy (HD.out.1 h).1
            clear HD hxy
            go_wp2_with fail
            go_quiet (fail)
            go_wp2_with fail
            go_ret
            refine ⟨ret_bool ?_, below_drewN hb _⟩
            simp [HN.out]
        · have HT : Hid (t1 = t2) := by
            show _ = _
            rw [HQ.out, List.drop_of_length_le (by omega), List.drop_of_length_le (by rw [← E1.out]; omega)]
          clear HQ
          go_wp2_with fail
          go_loopw [44] (fun y wr => ∃ k : Nat, k ≤ g1.length ∧ y = .int .i64 k ∧ Hid ((g1 = g2) ↔ (g1.drop k = g2.drop k)) ∧ Below w.heap.size w wr ∧ Blk wr w.heap.size #[.bool r1, .slice o1 t1.length c1, .slice p1 g1.length d1] 123 ∧ Blk wr (w.heap.size + 1) #[.bool r2, .slice o2 t2.length c2, .slice p2 g2.length d2] 123) (fun y _ => g1.length - (intOf y).toNat)
          case atStart => exact ⟨0, Nat.zero_le _, rfl, Iff.rfl, hb, X1, Y1⟩
          case round =>
            obtain ⟨k', hk', rfl, HQ, hb', X2, Y2⟩ := hrel
            clear hb X1 Y1 x1 y1
            have x2 := X2.cell
            have y2 := Y2.cell
            by_cases hkl2 : k' < g1.length
            · obtain ⟨x, hxk⟩ := some_of_lt hkl2
              have hkl3 : k' < g2.length := by rw [← E2.out]; exact hkl2
              obtain ⟨y, hyk⟩ := some_of_lt hkl3
              obtain ⟨b, off, rfl, _, hbl, q0, q1, q2⟩ := h3.later (Keeps.of_below hb') k' x hxk
              obtain ⟨b', off', rfl, _, hbl', q3, q4, q5⟩ := h4.later (Keeps.of_below hb') k' y hyk
              have HD : Hid ((g1 = g2) ↔ (x = y ∧ g1.drop (k' + 1) = g2.drop (k' + 1))) := HQ.out.trans (drop_eq_step hxk hyk)
              have k3 : (k' : Int) < g2.length := by omega
              obtain ⟨x0, x1, x2'⟩ := x
              obtain ⟨y0, y1, y2'⟩ := y
              dsimp only at *
              clear HQ h1 h2 h3 h4 hxk hyk
              by_cases hxy : (⟨x0, x1, x2'⟩ : Gd) = ⟨y0, y1, y2'⟩
              · have HN : Hid ((g1 = g2) ↔ g1.drop (k' + 1) = g2.drop (k' + 1)) := by
                  show _ ↔ _
                  rw [HD.out]
                  exact ⟨fun h => h.2, fun h => ⟨hxy, h⟩⟩
                simp only [Gd.mk.injEq] at hxy
                obtain ⟨rfl, rfl, rfl⟩ := hxy
                clear HD
                go_wp2_with fail
                go_quiet (fail)
                go_wp2_with fail
                go_roundw
                case rel => exact ⟨k' + 1, by omega, by go_num, HN.out, below_drewN hb' _, X2, Y2⟩
                case measure => simp [intOf]; omega
              · have HN : Hid (¬ g1 = g2) := by
                  intro h
                  exact hxy (HD.out.1 h).1
                have k4 : (¬ x0 = y0) ∨ (x0 = y0 ∧ ¬ x1 = y1) ∨ (x0 = y0 ∧ x1 = y1 ∧ ¬ x2' = y2') := by
                  simp only [Gd.mk.injEq] at hxy
                  by_cases z0 : x0 = y0 <;> by_cases z1 : x1 = y1 <;> by_cases z2 : x2' = y2' <;> simp_all
                clear HD hxy
                rcases k4 with k4 | ⟨rfl, k4⟩ | ⟨rfl, rfl, k4⟩
                · have k5 : (x0 == y0) = false := by simpa using k4
                  go_wp2_with fail
                  go_quiet (fail)
                  go_wp2_with fail
                  go_ret
                  refine ⟨ret_bool ?_, below_drewN hb' _⟩
                  simp [HN.out]
                · have k5 : (x1 == y1) = false := by simpa using k4
                  go_wp2_with fail
                  go_quiet (fail)
                  go_wp2_with fail
                  go_ret
                  refine ⟨ret_bool ?_, below_drewN hb' _⟩
                  simp [HN.out]
                · have k5 : (x2' == y2') = false := by simpa using k4
                  go_wp2_with fail
                  go_quiet (fail)
                  go_wp2_with fail
                  go_ret
                  refine ⟨ret_bool ?_, below_drewN hb' _⟩
                  simp [HN.out]
            · have HG : Hid (g1 = g2) := by
                show _ = _
                rw [HQ.out, List.drop_of_length_le (by omega), List.drop_of_length_le (by rw [← E2.out]; omega)]
              clear HQ
              go_wp2_with fail
              go_ret
              refine ⟨ret_bool ?_, hb'⟩
              simp [HT.out, HG.out]
end Go.Proofs.YtmfippfnhcphhaaGreatDoor

namespace Go.Proofs.YtmfippfnhcphhaaGreatDoor
open Go.RowKit Go.Deep

/-! ### One row is written -/
theorem grown_trans {a b c : World} {row : Option Nat} (h : a.grownBy b row) (k : b.grownBy c row) : a.grownBy c row :=
  ⟨k.os.trans h.os, k.tape.trans h.tape, k.output.trans h.output, Nat.le_trans h.size k.size, fun i hi hn => (k.block i (Nat.lt_of_lt_of_le hi h.size) hn).trans (h.block i hi hn)⟩
theorem grown_of_below {a b : World} (h : Below a.heap.size a b) (row : Option Nat) : a.grownBy b row := ⟨h.os, h.tape, h.output, h.size, fun i hi _ => h.block i hi⟩
theorem below_of_grown {B : Nat} {a b : World} {row : Option Nat} (h : a.grownBy b row) (hB : B ≤ a.heap.size) (hr : ∀ k, row = some k → B ≤ k) : Below B a b := (Below.refl _ _).grown h hB hr
theorem blk_grown {a b : World} {row : Option Nat} {g : Nat} {arr : Array Value} {t : TypeId} (h : Blk a g arr t) (hg : a.grownBy b row) (hn : some g ≠ row) : Blk b g arr t := (hg.block g h.lt hn).trans h

/-- An instruction whose fields fit. -/
structure InsFit (np : Nat) (p : Pd) (n : Nd) : Prop where
  lo : 1 ≤ n.op
  hi : n.op ≤ 42
  fit : fitAll np p (rolesOf n.op.toNat) n.fs = true

def writeT (n : Nd) (ts : List Int) : List Int :=
  if n.op = 6 then ts.set n.a.toNat 2
  else if n.op = 22 ∨ n.op = 27 ∨ n.op = 28 then ts.set n.a.toNat 3
  else if n.op = 40 then ts.set (n.a.toNat + 1) 1
  else if n.op = 42 then ts.set n.a.toNat 0
  else if n.op = 41 then ts.set n.c.toNat 3
  else if (rolesOf n.op.toNat).getD 0 0 = 1 then ts.set n.a.toNat 1 else ts

theorem fit_into {np : Nat} {p : Pd} {n : Nd} (h : InsFit np p n) (h1 : (rolesOf n.op.toNat).getD 0 0 = 1 ∨ (rolesOf n.op.toNat).getD 0 0 = 21) : 0 ≤ n.a ∧ n.a < p.regs := by
  obtain ⟨r0, r1, r2, r3, hr, _⟩ := roles_four (n := n.op.toNat) (by have := h.lo; omega) (by have := h.hi; omega)
  have hf := h.fit
  rw [hr] at hf h1
  simp only [List.getD_cons_zero] at h1
  simp only [fitAll, Nd.fs, Bool.and_eq_true] at hf
  have h0 := hf.1
  rcases h1 with rfl | rfl
  · simp [fitsR, inR] at h0; omega
  · simp [fitsR, inR] at h0; omega

theorem ints_set (ts : List Int) (i : Nat) (x : Int) : (ints ts).set i (.int .i64 x) = ints (ts.set i x) := by simp [ints, List.map_set]
theorem ints_get {ts : List Int} {i : Nat} (h : i < ts.length) : (ints ts)[i]? = some (.int .i64 (ts.getD i 0)) := by simp [ints, h]

set_option maxRecDepth 100000 in
set_option maxHeartbeats 4000000 in
theorem l3write_any (np : Nat) (p : Pd) (n : Nd) (v : Value) (base : Nat) (ts : List Int) (w : World) (hn : InsFit np p n) (hl : (ts.length : Int) = p.regs) (hr : p.regs ≤ 250) (hown : w.ownsRow base 3 1 v ts.length (ints ts)) :
    Calls Tryz.prog 68 #[n.val, v] w fun e w' => e = .returned (.tuple #[]) ∧ w'.ownsRow base 3 1 v ts.length (ints (writeT n ts)) ∧ w.grownBy w' v.ownBlock := by
  have hf := hn.fit
  have ho1 := hn.lo
  have ho2 := hn.hi
  obtain ⟨ao, cap, rfl⟩ := owns_slice hown
  have hst : ∀ (i : Nat) (x : Int) (W : World), Below w.heap.size w W → i < ts.length → ∃ g, ao = some ⟨g, 0, none⟩ ∧ W.cell? ⟨g, i, none⟩ = some (.int .i64 (ts.getD i 0)) ∧ W.frozen? ⟨g, i, none⟩ = false ∧
      (W.setCell ⟨g, i, none⟩ (.int .i64 x)).ownsRow base 3 1 (.slice ao ts.length cap) ts.length (ints (ts.set i x)) ∧ w.grownBy (W.setCell ⟨g, i, none⟩ (.int .i64 x)) (Value.slice ao ts.length cap).ownBlock := by
    intro i x W hW hi
    rcases owns_form hown with ⟨h1, h2⟩ | ⟨g, cap', h1, h2, h3⟩
    · omega
    · simp only [Value.slice.injEq] at h1
      obtain ⟨rfl, _, rfl⟩ := h1
      have ho := owns_below hown hW
      obtain ⟨s1, s2⟩ := ho.stored i (.int .i64 x)
      rw [ints_set] at s1
      exact ⟨g, rfl, (ho.cellAt i (by omega)).trans (ints_get hi), ho.frozenAt i, s1, grown_trans (grown_of_below hW _) s2⟩
  have HST : Hid _ := hst
  have HGR : Hid (∀ W, Below w.heap.size w W → W.ownsRow base 3 1 (.slice ao ts.length cap) ts.length (ints ts) ∧ w.grownBy W (Value.slice ao ts.length cap).ownBlock) := fun W hW => ⟨owns_below hown hW, grown_of_below hW _⟩
  have HI : Hid _ := @fit_into np p n hn
  obtain ⟨op, a, b, c, d⟩ := n
  dsimp only at *
  obtain ⟨opN, rfl⟩ : ∃ k : Nat, op = k := Int.eq_ofNat_of_zero_le (by omega)
  simp only [Int.toNat_natCast] at *
  unfold Nd.val
  dsimp only
  have hw : ∀ q : Nat, ((opN : Int) = (q : Int)) ↔ opN = q := fun q => by omega
  clear hst hown
  by_cases h6 : opN = 6
  · subst h6
    obtain ⟨ha1, ha2⟩ := HI.out (by decide)
    obtain ⟨aN, rfl⟩ := Int.eq_ofNat_of_zero_le ha1
    obtain ⟨g, rfl, c1, f1, S1, S2⟩ := HST.out aN 2 (w.alloc (.cells #[.int .i64 6, .int .i64 aN, .int .i64 b, .int .i64 c, .int .i64 d] 47)) ((Below.refl _ _).alloc (Nat.le_refl _) _) (by omega)
    clear HST HGR HI
    have k1 : (aN : Int) < ts.length := by omega
    go_enter Tryz.func68, Tryz.ntmps68
    go_wp2_with fail
    go_end0
    exact ⟨rfl, S1, S2⟩
  by_cases h22 : opN = 22
  · subst h22
    obtain ⟨ha1, ha2⟩ := HI.out (by decide)
    obtain ⟨aN, rfl⟩ := Int.eq_ofNat_of_zero_le ha1
    obtain ⟨g, rfl, c1, f1, S1, S2⟩ := HST.out aN 3 (w.alloc (.cells #[.int .i64 22, .int .i64 aN, .int .i64 b, .int .i64 c, .int .i64 d] 47)) ((Below.refl _ _).alloc (Nat.le_refl _) _) (by omega)
    clear HST HGR HI
    have k1 : (aN : Int) < ts.length := by omega
    go_enter Tryz.func68, Tryz.ntmps68
    go_wp2_with fail
    go_end0
    exact ⟨rfl, S1, S2⟩
  by_cases h27 : opN = 27
  · subst h27
    obtain ⟨ha1, ha2⟩ := HI.out (by decide)
    obtain ⟨aN, rfl⟩ := Int.eq_ofNat_of_zero_le ha1
    obtain ⟨g, rfl, c1, f1, S1, S2⟩ := HST.out aN 3 (w.alloc (.cells #[.int .i64 27, .int .i64 aN, .int .i64 b, .int .i64 c, .int .i64 d] 47)) ((Below.refl _ _).alloc (Nat.le_refl _) _) (by omega)
    clear HST HGR HI
    have k1 : (aN : Int) < ts.length := by omega
    go_enter Tryz.func68, Tryz.ntmps68
    go_wp2_with fail
    go_end0
    exact ⟨rfl, S1, S2⟩
  by_cases h28 : opN = 28
  · subst h28
    obtain ⟨ha1, ha2⟩ := HI.out (by decide)
    obtain ⟨aN, rfl⟩ := Int.eq_ofNat_of_zero_le ha1
    obtain ⟨g, rfl, c1, f1, S1, S2⟩ := HST.out aN 3 (w.alloc (.cells #[.int .i64 28, .int .i64 aN, .int .i64 b, .int .i64 c, .int .i64 d] 47)) ((Below.refl _ _).alloc (Nat.le_refl _) _) (by omega)
    clear HST HGR HI
    have k1 : (aN : Int) < ts.length := by omega
    go_enter Tryz.func68, Tryz.ntmps68
    go_wp2_with fail
    go_end0
    exact ⟨rfl, S1, S2⟩
  by_cases h42 : opN = 42
  · subst h42
    obtain ⟨ha1, ha2⟩ := HI.out (by decide)
    obtain ⟨aN, rfl⟩ := Int.eq_ofNat_of_zero_le ha1
    obtain ⟨g, rfl, c1, f1, S1, S2⟩ := HST.out aN 0 (w.alloc (.cells #[.int .i64 42, .int .i64 aN, .int .i64 b, .int .i64 c, .int .i64 d] 47)) ((Below.refl _ _).alloc (Nat.le_refl _) _) (by omega)
    clear HST HGR HI
    have k1 : (aN : Int) < ts.length := by omega
    go_enter Tryz.func68, Tryz.ntmps68
    go_wp2_with fail
    go_end0
    exact ⟨rfl, S1, S2⟩
  by_cases h40 : opN = 40
  · subst h40
    simp [fitAll, Nd.fs, rolesOf, roleTab, fitsR, inR] at hf
    obtain ⟨aN, rfl⟩ := Int.eq_ofNat_of_zero_le hf.1.1
    obtain ⟨g, rfl, c1, f1, S1, S2⟩ := HST.out (aN + 1) 1 (w.alloc (.cells #[.int .i64 40, .int .i64 aN, .int .i64 b, .int .i64 c, .int .i64 d] 47)) ((Below.refl _ _).alloc (Nat.le_refl _) _) (by omega)
    clear HST HGR HI
    have k1 : (aN : Int) + 1 < ts.length := by omega
    clear hf
    go_enter Tryz.func68, Tryz.ntmps68
    go_wp2_with fail
    go_end0
    exact ⟨rfl, S1, S2⟩
  by_cases h41 : opN = 41
  · subst h41
    simp [fitAll, Nd.fs, rolesOf, roleTab, fitsR, inR] at hf
    obtain ⟨cN, rfl⟩ := Int.eq_ofNat_of_zero_le hf.2.2.1.1
    obtain ⟨g, rfl, c1, f1, S1, S2⟩ := HST.out cN 3 (w.alloc (.cells #[.int .i64 41, .int .i64 a, .int .i64 b, .int .i64 cN, .int .i64 d] 47)) ((Below.refl _ _).alloc (Nat.le_refl _) _) (by omega)
    clear HST HGR HI
    have k1 : (cN : Int) < ts.length := by omega
    clear hf
    go_enter Tryz.func68, Tryz.ntmps68
    go_wp2_with fail
    go_end0
    exact ⟨rfl, S1, S2⟩
  have hW : writeT ⟨opN, a, b, c, d⟩ ts = if (rolesOf opN).getD 0 0 = 1 then ts.set a.toNat 1 else ts := by
    unfold writeT
    dsimp only
    rw [if_neg (by omega), if_neg (by omega), if_neg (by omega), if_neg (by omega), if_neg (by omega), Int.toNat_natCast]
  have HW : Hid _ := hW
  clear hW
  obtain ⟨r0, r1, r2, r3, hro, _⟩ := roles_four (n := opN) (by omega) (by omega)
  rw [hro] at HW HI
  have HR : Hid _ := fun W => l3roles_any opN r0 r1 r2 r3 W (by omega) (by omega) hro
  have t1 : ((opN : Int) == 6) = false := by simp; omega
  have t2 : ((opN : Int) == 22) = false := by simp; omega
  have t3 : ((opN : Int) == 27) = false := by simp; omega
  have t4 : ((opN : Int) == 28) = false := by simp; omega
  have t5 : ((opN : Int) == 40) = false := by simp; omega
  have t6 : ((opN : Int) == 41) = false := by simp; omega
  have t7 : ((opN : Int) == 42) = false := by simp; omega
  clear hf hro hw h6 h22 h27 h28 h40 h41 h42
  by_cases hr0 : r0 = 1
  · subst hr0
    obtain ⟨ha1, ha2⟩ := HI.out (Or.inl rfl)
    obtain ⟨aN, rfl⟩ := Int.eq_ofNat_of_zero_le ha1
    have HW2 : Hid (writeT ⟨opN, aN, b, c, d⟩ ts = ts.set aN 1) := HW.out
    obtain ⟨g, rfl, c1, f1, S1, S2⟩ := HST.out aN 1 ((w.alloc (.cells #[.int .i64 opN, .int .i64 aN, .int .i64 b, .int .i64 c, .int .i64 d] 47)).alloc (.cells #[.int .i64 1, .int .i64 r1, .int .i64 r2, .int .i64 r3] 3)) (((Below.refl _ _).alloc (Nat.le_refl _) _).alloc (by simp) _) (by omega)
    have k1 : (aN : Int) < ts.length := by omega
    clear HI HW HST HGR
    go_enter Tryz.func68, Tryz.ntmps68
    go_wp2_with fail
    refine (HR.out _).mono ?_
    rintro e w' ⟨rfl, rfl⟩
    go_wp2_with fail
    go_end0
    refine ⟨rfl, ?_, S2⟩
    rw [HW2.out]
    exact S1
  · have HW2 : Hid (writeT ⟨opN, a, b, c, d⟩ ts = ts) := HW.out.trans (if_neg hr0)
    have k0 : ((r0 : Int) == 1) = false := by simp; omega
    obtain ⟨S1, S2⟩ := HGR.out ((w.alloc (.cells #[.int .i64 opN, .int .i64 a, .int .i64 b, .int .i64 c, .int .i64 d] 47)).alloc (.cells #[.int .i64 r0, .int .i64 r1, .int .i64 r2, .int .i64 r3] 3)) (((Below.refl _ _).alloc (Nat.le_refl _) _).alloc (by simp) _)
    clear HI HW HST HGR hr0
    go_enter Tryz.func68, Tryz.ntmps68
    go_wp2_with fail
    refine (HR.out _).mono ?_
    rintro e w' ⟨rfl, rfl⟩
    go_wp2_with fail
    go_end0
    refine ⟨rfl, ?_, S2⟩
    rw [HW2.out]
    exact S1
end Go.Proofs.YtmfippfnhcphhaaGreatDoor
