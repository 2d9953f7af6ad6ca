import Derived.Test.YtmfippfnhcphhaaGreatDoorC36
namespace Go.Proofs.YtmfippfnhcphhaaGreatDoor
open Go.RowKit Go.Deep

theorem rdI_len {r : Nat} {x : Int} {s s' : Rd} (h : rdI r x s = some s') : s'.types.length = s.types.length ∧ s'.stay.length ≤ s.stay.length + 3 ∧ s'.taken.length ≤ s.taken.length + 1 := by
  have hop : ∀ w, rdOp w x s = some s' → s'.types.length = s.types.length ∧ s'.stay.length ≤ s.stay.length + 3 ∧ s'.taken.length ≤ s.taken.length + 1 := by
    intro w h
    unfold rdOp at h
    split at h
    · split at h
      · split at h
        · cases h
        · obtain rfl := Option.some.inj h; simp
      · obtain rfl := Option.some.inj h; simp
    · cases h
  have hpl : ∀ w, rdPlace w x s = some s' → s'.types.length = s.types.length ∧ s'.stay.length ≤ s.stay.length + 3 ∧ s'.taken.length ≤ s.taken.length + 1 := by
    intro w h
    unfold rdPlace at h
    split at h
    · obtain rfl := Option.some.inj h; simp
    · cases h
  unfold rdI at h
  split at h
  · exact hop _ h
  · exact hop _ h
  · exact hpl _ h
  · exact hpl _ h
  · exact hpl _ h
  · split at h
    · obtain rfl := Option.some.inj h; simp
    · cases h
  · split at h
    · obtain rfl := Option.some.inj h; simp
    · cases h
  · split at h
    · obtain rfl := Option.some.inj h; simp
    · cases h
  · obtain rfl := Option.some.inj h; simp
theorem rds_drop {rs : List Nat} {xs : List Int} {k r : Nat} {x : Int} (h1 : rs[k]? = some r) (h2 : xs[k]? = some x) (s : Rd) : rdsI (rs.drop k) (xs.drop k) s = (rdI r x s).bind (rdsI (rs.drop (k + 1)) (xs.drop (k + 1))) := by
  rw [drop_some h1, drop_some h2]; rfl

set_option maxRecDepth 100000 in
set_option maxHeartbeats 8000000 in
theorem all_any (np : Nat) (p : Pd) (B rb m r0 r1 r2 r3 : Nat) (x0 x1 x2 x3 : Int) (ts : List Int) (to : Option Addr) (tc : Nat) (vr vk : Value) (w : World) (h : RgAt B rb m w ⟨ts, [], []⟩ (.slice to m tc) vr vk) (hB : B ≤ w.heap.size) (hm : ts.length = m) (hm2 : m ≤ 250) (hmr : (m : Int) = p.regs) (g0 : r0 ≤ 23) (g1 : r1 ≤ 23) (g2 : r2 ≤ 23) (g3 : r3 ≤ 23)
    (f0 : fitsR np p (convR r0) x0 = true) (f1 : fitsR np p (convR r1) x1 = true) (f2 : fitsR np p (convR r2) x2 = true) (f3 : fitsR np p (convR r3) x3 = true) :
    Calls Tryz.prog 141 #[.pointer (some ⟨rb, 0, none⟩), .agg #[fieldVal np p r0 x0, fieldVal np p r1 x1, fieldVal np p r2 x2, fieldVal np p r3 x3]] w (RdPost B rb m (.slice to m tc) w (rdsI [r0, r1, r2, r3] [x0, x1, x2, x3] ⟨ts, [], []⟩)) := by
  obtain ⟨t0, v0, e0⟩ := fieldVal_iface np p r0 x0
  have H0 : Hid (∀ (W : World) (rd : Rd) (vr vk : Value), RgAt B rb m W rd (.slice to m tc) vr vk → B ≤ W.heap.size → rd.types.length = m → rd.stay.length ≤ 90 → rd.taken.length ≤ 90 → Calls Tryz.prog 189 #[.pointer (some ⟨rb, 0, none⟩), .iface t0 v0] W (RdPost B rb m (.slice to m tc) W (rdI r0 x0 rd))) := fun W rd vr vk hR hB hm hs hk => by
    have := one_any np p B rb m r0 x0 rd to tc vr vk W hR hB hm hm2 hs hk hmr g0 f0
    rw [e0] at this
    exact this
  obtain ⟨t1, v1, e1⟩ := fieldVal_iface np p r1 x1
  have H1 : Hid (∀ (W : World) (rd : Rd) (vr vk : Value), RgAt B rb m W rd (.slice to m tc) vr vk → B ≤ W.heap.size → rd.types.length = m → rd.stay.length ≤ 90 → rd.taken.length ≤ 90 → Calls Tryz.prog 189 #[.pointer (some ⟨rb, 0, none⟩), .iface t1 v1] W (RdPost B rb m (.slice to m tc) W (rdI r1 x1 rd))) := fun W rd vr vk hR hB hm hs hk => by
    have := one_any np p B rb m r1 x1 rd to tc vr vk W hR hB hm hm2 hs hk hmr g1 f1
    rw [e1] at this
    exact this
  obtain ⟨t2, v2, e2⟩ := fieldVal_iface np p r2 x2
  have H2 : Hid (∀ (W : World) (rd : Rd) (vr vk : Value), RgAt B rb m W rd (.slice to m tc) vr vk → B ≤ W.heap.size → rd.types.length = m → rd.stay.length ≤ 90 → rd.taken.length ≤ 90 → Calls Tryz.prog 189 #[.pointer (some ⟨rb, 0, none⟩), .iface t2 v2] W (RdPost B rb m (.slice to m tc) W (rdI r2 x2 rd))) := fun W rd vr vk hR hB hm hs hk => by
    have := one_any np p B rb m r2 x2 rd to tc vr vk W hR hB hm hm2 hs hk hmr g2 f2
    rw [e2] at this
    exact this
  obtain ⟨t3, v3, e3⟩ := fieldVal_iface np p r3 x3
  have H3 : Hid (∀ (W : World) (rd : Rd) (vr vk : Value), RgAt B rb m W rd (.slice to m tc) vr vk → B ≤ W.heap.size → rd.types.length = m → rd.stay.length ≤ 90 → rd.taken.length ≤ 90 → Calls Tryz.prog 189 #[.pointer (some ⟨rb, 0, none⟩), .iface t3 v3] W (RdPost B rb m (.slice to m tc) W (rdI r3 x3 rd))) := fun W rd vr vk hR hB hm hs hk => by
    have := one_any np p B rb m r3 x3 rd to tc vr vk W hR hB hm hm2 hs hk hmr g3 f3
    rw [e3] at this
    exact this
  rw [e0, e1, e2, e3]
  have i0 : ∀ w : World, (Instr.index 208 (.agg #[.iface t0 v0, .iface t1 v1, .iface t2 v2, .iface t3 v3]) (.int .i64 0)).run Tryz.prog w = .ok (.iface t0 v0) w := fun _ => by kernel_rfl
  have i1 : ∀ w : World, (Instr.index 208 (.agg #[.iface t0 v0, .iface t1 v1, .iface t2 v2, .iface t3 v3]) (.int .i64 1)).run Tryz.prog w = .ok (.iface t1 v1) w := fun _ => by kernel_rfl
  have i2 : ∀ w : World, (Instr.index 208 (.agg #[.iface t0 v0, .iface t1 v1, .iface t2 v2, .iface t3 v3]) (.int .i64 2)).run Tryz.prog w = .ok (.iface t2 v2) w := fun _ => by kernel_rfl
  have i3 : ∀ w : World, (Instr.index 208 (.agg #[.iface t0 v0, .iface t1 v1, .iface t2 v2, .iface t3 v3]) (.int .i64 3)).run Tryz.prog w = .ok (.iface t3 v3) w := fun _ => by kernel_rfl
  have A := (Below.refl w.heap.size w).alloc (Nat.le_refl _) (.cells #[.iface t0 v0, .iface t1 v1, .iface t2 v2, .iface t3 v3] 208)
  have R0 := h.later A
  have B0 : Below B w (w.alloc (.cells #[.iface t0 v0, .iface t1 v1, .iface t2 v2, .iface t3 v3] 208)) := A.mono hB
  clear A h e0 e1 e2 e3 f0 f1 f2 f3 g0 g1 g2 g3 hmr
  go_enter Tryz.func141, Tryz.ntmps141
  go_wp2_with fail
  go_loopg [8] 5 (fun g y wr => ∃ (k : Nat) (rd1 : Rd) (vr1 vk1 : Value), k ≤ 4 ∧ y = .int .i64 k ∧ Hid (rdsI ([r0, r1, r2, r3].drop k) ([x0, x1, x2, x3].drop k) rd1 = rdsI [r0, r1, r2, r3] [x0, x1, x2, x3] ⟨ts, [], []⟩) ∧ Hid (rd1.types.length = m ∧ rd1.stay.length ≤ 3 * k ∧ rd1.taken.length ≤ k) ∧ Hid (5 - k ≤ g) ∧ RgAt B rb m wr rd1 (.slice to m tc) vr1 vk1 ∧ Below B w wr)
  case atStart => exact ⟨0, _, _, _, by omega, rfl, rfl, ⟨hm, by simp, by simp⟩, by show _ ≤ _; omega, R0, B0⟩
  case round =>
    obtain ⟨k, rd1, vr1, vk1, hk, rfl, HQ, HL, HG, R1, B1⟩ := hrel
    clear R0 B0
    have HBw : Hid (B ≤ wr.heap.size) := Nat.le_trans R1.low (Nat.le_of_lt R1.blk.lt)
    have HB1 : Hid _ := B1
    have HR1 : Hid (RgAt B rb m wr rd1 (.slice to m tc) vr1 vk1) := R1
    clear B1 R1
    rcases (by omega : k = 0 ∨ k = 1 ∨ k = 2 ∨ k = 3 ∨ k = 4) with rfl | rfl | rfl | rfl | rfl
    · have HD : Hid (rdsI [r0, r1, r2, r3] [x0, x1, x2, x3] ⟨ts, [], []⟩ = (rdI r0 x0 rd1).bind (rdsI ([r0, r1, r2, r3].drop (0 + 1)) ([x0, x1, x2, x3].drop (0 + 1)))) := HQ.out.symm.trans (rds_drop rfl rfl rd1)
      have HG2 : Hid (5 - (0 + 1) ≤ gk - 1 ∧ gk - 1 < gk) := by have := HG.out; show _ ∧ _; omega
      clear HQ HG
      go_wp2_with fail
      refine (H0.out wr rd1 vr1 vk1 HR1.out HBw.out HL.out.1 (by have := HL.out.2.1; omega) (by have := HL.out.2.2; omega)).mono ?_
      unfold RdPost
      have hlen := fun s' => @rdI_len r0 x0 rd1 s'
      generalize rdI r0 x0 rd1 = o at *
      cases o with
      | none =>
        rintro e w2 ⟨rfl, hb⟩
        have HN : Hid (rdsI [r0, r1, r2, r3] [x0, x1, x2, x3] ⟨ts, [], []⟩ = none) := HD.out
        clear HD hlen
        go_wp2_with fail
        go_ret
        unfold RdPost
        rw [HN.out]
        exact ⟨rfl, HB1.out.trans hb⟩
      | some rd2 =>
        rintro e w2 ⟨⟨rfl, vr2, vk2, hR⟩, hb⟩
        have HN : Hid (rdsI ([r0, r1, r2, r3].drop (0 + 1)) ([x0, x1, x2, x3].drop (0 + 1)) rd2 = rdsI [r0, r1, r2, r3] [x0, x1, x2, x3] ⟨ts, [], []⟩) := HD.out.symm
        have HL2 : Hid (rd2.types.length = m ∧ rd2.stay.length ≤ 3 * (0 + 1) ∧ rd2.taken.length ≤ 0 + 1) := by
          obtain ⟨a1, a2, a3⟩ := hlen rd2 rfl
          obtain ⟨b1, b2, b3⟩ := HL.out
          exact ⟨a1.trans b1, by omega, by omega⟩
        have HR2 : Hid (RgAt B rb m w2 rd2 (.slice to m tc) vr2 vk2) := hR
        clear HD hlen hR
        go_wp2_with fail
        go_roundg (gk - 1)
        case measure => exact HG2.out.2
        case rel => exact ⟨0 + 1, rd2, vr2, vk2, by omega, by go_num, HN.out, HL2.out, HG2.out.1, HR2.out, HB1.out.trans hb⟩
    · have HD : Hid (rdsI [r0, r1, r2, r3] [x0, x1, x2, x3] ⟨ts, [], []⟩ = (rdI r1 x1 rd1).bind (rdsI ([r0, r1, r2, r3].drop (1 + 1)) ([x0, x1, x2, x3].drop (1 + 1)))) := HQ.out.symm.trans (rds_drop rfl rfl rd1)
      have HG2 : Hid (5 - (1 + 1) ≤ gk - 1 ∧ gk - 1 < gk) := by have := HG.out; show _ ∧ _; omega
      clear HQ HG
      go_wp2_with fail
      refine (H1.out wr rd1 vr1 vk1 HR1.out HBw.out HL.out.1 (by have := HL.out.2.1; omega) (by have := HL.out.2.2; omega)).mono ?_
      unfold RdPost
      have hlen := fun s' => @rdI_len r1 x1 rd1 s'
      generalize rdI r1 x1 rd1 = o at *
      cases o with
      | none =>
        rintro e w2 ⟨rfl, hb⟩
        have HN : Hid (rdsI [r0, r1, r2, r3] [x0, x1, x2, x3] ⟨ts, [], []⟩ = none) := HD.out
        clear HD hlen
        go_wp2_with fail
        go_ret
        unfold RdPost
        rw [HN.out]
        exact ⟨rfl, HB1.out.trans hb⟩
      | some rd2 =>
        rintro e w2 ⟨⟨rfl, vr2, vk2, hR⟩, hb⟩
        have HN : Hid (rdsI ([r0, r1, r2, r3].drop (1 + 1)) ([x0, x1, x2, x3].drop (1 + 1)) rd2 = rdsI [r0, r1, r2, r3] [x0, x1, x2, x3] ⟨ts, [], []⟩) := HD.out.symm
        have HL2 : Hid (rd2.types.length = m ∧ rd2.stay.length ≤ 3 * (1 + 1) ∧ rd2.taken.length ≤ 1 + 1) := by
          obtain ⟨a1, a2, a3⟩ := hlen rd2 rfl
          obtain ⟨b1, b2, b3⟩ := HL.out
          exact ⟨a1.trans b1, by omega, by omega⟩
        have HR2 : Hid (RgAt B rb m w2 rd2 (.slice to m tc) vr2 vk2) := hR
        clear HD hlen hR
        go_wp2_with fail
        go_roundg (gk - 1)
        case measure => exact HG2.out.2
        case rel => exact ⟨1 + 1, rd2, vr2, vk2, by omega, by go_num, HN.out, HL2.out, HG2.out.1, HR2.out, HB1.out.trans hb⟩
    · have HD : Hid (rdsI [r0, r1, r2, r3] [x0, x1, x2, x3] ⟨ts, [], []⟩ = (rdI r2 x2 rd1).bind (rdsI ([r0, r1, r2, r3].drop (2 + 1)) ([x0, x1, x2, x3].drop (2 + 1)))) := HQ.out.symm.trans (rds_drop rfl rfl rd1)
      have HG2 : Hid (5 - (2 + 1) ≤ gk - 1 ∧ gk - 1 < gk) := by have := HG.out; show _ ∧ _; omega
      clear HQ HG
      go_wp2_with fail
      refine (H2.out wr rd1 vr1 vk1 HR1.out HBw.out HL.out.1 (by have := HL.out.2.1; omega) (by have := HL.out.2.2; omega)).mono ?_
      unfold RdPost
      have hlen := fun s' => @rdI_len r2 x2 rd1 s'
      generalize rdI r2 x2 rd1 = o at *
      cases o with
      | none =>
        rintro e w2 ⟨rfl, hb⟩
        have HN : Hid (rdsI [r0, r1, r2, r3] [x0, x1, x2, x3] ⟨ts, [], []⟩ = none) := HD.out
        clear HD hlen
        go_wp2_with fail
        go_ret
        unfold RdPost
        rw [HN.out]
        exact ⟨rfl, HB1.out.trans hb⟩
      | some rd2 =>
        rintro e w2 ⟨⟨rfl, vr2, vk2, hR⟩, hb⟩
        have HN : Hid (rdsI ([r0, r1, r2, r3].drop (2 + 1)) ([x0, x1, x2, x3].drop (2 + 1)) rd2 = rdsI [r0, r1, r2, r3] [x0, x1, x2, x3] ⟨ts, [], []⟩) := HD.out.symm
        have HL2 : Hid (rd2.types.length = m ∧ rd2.stay.length ≤ 3 * (2 + 1) ∧ rd2.taken.length ≤ 2 + 1) := by
          obtain ⟨a1, a2, a3⟩ := hlen rd2 rfl
          obtain ⟨b1, b2, b3⟩ := HL.out
          exact ⟨a1.trans b1, by omega, by omega⟩
        have HR2 : Hid (RgAt B rb m w2 rd2 (.slice to m tc) vr2 vk2) := hR
        clear HD hlen hR
        go_wp2_with fail
        go_roundg (gk - 1)
        case measure => exact HG2.out.2
        case rel => exact ⟨2 + 1, rd2, vr2, vk2, by omega, by go_num, HN.out, HL2.out, HG2.out.1, HR2.out, HB1.out.trans hb⟩
    · have HD : Hid (rdsI [r0, r1, r2, r3] [x0, x1, x2, x3] ⟨ts, [], []⟩ = (rdI r3 x3 rd1).bind (rdsI ([r0, r1, r2, r3].drop (3 + 1)) ([x0, x1, x2, x3].drop (3 + 1)))) := HQ.out.symm.trans (rds_drop rfl rfl rd1)
      have HG2 : Hid (5 - (3 + 1) ≤ gk - 1 ∧ gk - 1 < gk) := by have := HG.out; show _ ∧ _; omega
      clear HQ HG
      go_wp2_with fail
      refine (H3.out wr rd1 vr1 vk1 HR1.out HBw.out HL.out.1 (by have := HL.out.2.1; omega) (by have := HL.out.2.2; omega)).mono ?_
      unfold RdPost
      have hlen := fun s' => @rdI_len r3 x3 rd1 s'
      generalize rdI r3 x3 rd1 = o at *
      cases o with
      | none =>
        rintro e w2 ⟨rfl, hb⟩
        have HN : Hid (rdsI [r0, r1, r2, r3] [x0, x1, x2, x3] ⟨ts, [], []⟩ = none) := HD.out
        clear HD hlen
        go_wp2_with fail
        go_ret
        unfold RdPost
        rw [HN.out]
        exact ⟨rfl, HB1.out.trans hb⟩
      | some rd2 =>
        rintro e w2 ⟨⟨rfl, vr2, vk2, hR⟩, hb⟩
        have HN : Hid (rdsI ([r0, r1, r2, r3].drop (3 + 1)) ([x0, x1, x2, x3].drop (3 + 1)) rd2 = rdsI [r0, r1, r2, r3] [x0, x1, x2, x3] ⟨ts, [], []⟩) := HD.out.symm
        have HL2 : Hid (rd2.types.length = m ∧ rd2.stay.length ≤ 3 * (3 + 1) ∧ rd2.taken.length ≤ 3 + 1) := by
          obtain ⟨a1, a2, a3⟩ := hlen rd2 rfl
          obtain ⟨b1, b2, b3⟩ := HL.out
          exact ⟨a1.trans b1, by omega, by omega⟩
        have HR2 : Hid (RgAt B rb m w2 rd2 (.slice to m tc) vr2 vk2) := hR
        clear HD hlen hR
        go_wp2_with fail
        go_roundg (gk - 1)
        case measure => exact HG2.out.2
        case rel => exact ⟨3 + 1, rd2, vr2, vk2, by omega, by go_num, HN.out, HL2.out, HG2.out.1, HR2.out, HB1.out.trans hb⟩
    · have HN : Hid (rdsI [r0, r1, r2, r3] [x0, x1, x2, x3] ⟨ts, [], []⟩ = some rd1) := HQ.out.symm
      clear HQ HG
      go_wp2_with fail
      go_ret
      unfold RdPost
      rw [HN.out]
      exact ⟨⟨rfl, _, _, HR1.out⟩, HB1.out⟩
end Go.Proofs.YtmfippfnhcphhaaGreatDoor
