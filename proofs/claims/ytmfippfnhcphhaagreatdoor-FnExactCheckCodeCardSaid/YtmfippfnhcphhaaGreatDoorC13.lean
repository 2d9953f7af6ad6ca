import Derived.Test.YtmfippfnhcphhaaGreatDoorC12
import Derived.Test.YtmfippfnhcphhaaGreatDoorC09
import Derived.Deep.LoopGhost
namespace Go.Proofs.YtmfippfnhcphhaaGreatDoor
open Go.RowKit Go.Deep

theorem partsF_shape (ps : List Pd) : (if (partsF ps).1 = 0 then mkFault ps else partsF ps) = shapeF ps := by
  unfold partsF shapeF
  rw [firstP_congr (fun k p => insQ_eq ps.length k p)]
  split
  · cases firstP headP 0 ps with
    | some x => rfl
    | none =>
      cases firstP constP 0 ps with
      | some x => rfl
      | none =>
        cases firstP namedP 0 ps with
        | some x => rfl
        | none =>
          cases firstP (insP ps.length) 0 ps with
          | some x => rfl
          | none => rfl
  · rfl
theorem passed_of_parts {ps : List Pd} (h : (partsF ps).1 = 0) : 1 ≤ ps.length ∧ firstP headP 0 ps = none ∧ FnsOk ps := by
  unfold partsF at h
  split at h
  · rename_i hs
    cases h1 : firstP headP 0 ps with
    | some x => rw [h1] at h; cases h
    | none =>
      rw [h1] at h
      cases h2 : firstP constP 0 ps with
      | some x => rw [h2] at h; cases h
      | none =>
        rw [h2] at h
        cases h3 : firstP namedP 0 ps with
        | some x => rw [h3] at h; cases h
        | none =>
          rw [h3] at h
          cases h4 : firstP (insQ ps.length) 0 ps with
          | some x => rw [h4] at h; cases h
          | none =>
            refine ⟨?_, rfl, ?_⟩
            · unfold sizeB at hs; simp [inR] at hs; omega
            · rw [firstP_congr (fun k p => insQ_eq ps.length k p)] at h4
              exact fns_of_ins h4
  · cases h

set_option maxRecDepth 100000 in
set_option maxHeartbeats 8000000 in
theorem CheckShape_any (ao : Option Addr) (cap : Nat) (ps : List Pd) (w : World) (hfi : Fine ps) (hv : ProtosAt 0 w ao ps) :
    Calls Tryz.prog 34 #[.agg #[.slice ao ps.length cap]] w fun e w' => e = .returned (faultV (shapeF ps)) ∧ Below w.heap.size w w' := by
  have hl : ps.length ≤ 1048576 := by have := hfi.bulk; unfold bulkPs at this; omega
  have hmk := run_make_k (P := Tryz.prog) 118 4 _ 1 1 Tryz.underlying118 Tryz.info_bool .i64 .i64 ps.length (by omega) (by omega)
  simp only [Nat.mul_one] at hmk
  have hb2 : ∀ o1 o2, Below w.heap.size w ((w.alloc o1).alloc o2) := fun o1 o2 => ((Below.refl _ _).alloc (Nat.le_refl _) o1).alloc (by simp) o2
  have C0 := (Blk.new w #[.slice ao ps.length cap] 25).alloc (.cells #[.int .i64 0, .int .i64 0, .int .i64 0] 55)
  have R0 := Blk.new (w.alloc (.cells #[.slice ao ps.length cap] 25)) #[.int .i64 0, .int .i64 0, .int .i64 0] 55
  rw [nblk_alloc] at R0
  go_enter Tryz.func34, Tryz.ntmps34
  go_wp2_with fail
  refine (l3parts_any ao cap ps _ hfi (hv.later (Keeps.of_below (hb2 _ _)))).mono ?_
  rintro e w1 ⟨rfl, hw1⟩
  have B1 := (hb2 _ _).trans (hw1.mono (by simp; omega))
  have C1 := C0.later hw1
  have R1 := R0.later hw1
  clear C0 R0 hw1
  have HV0 : Hid _ := partsF_shape ps
  have HP0 : Hid _ := @passed_of_parts ps
  unfold faultV
  generalize partsF ps = pf at *
  obtain ⟨fc, fp, fa⟩ := pf
  dsimp only at *
  have c1 := C1.cell 0
  have r1 := R1.cell
  have f1 := R1.frozen
  by_cases hfc : fc = 0
  · subst hfc
    obtain ⟨hl1, hh, hfn⟩ := HP0.out rfl
    have HV1 : Hid (shapeF ps = mkFault ps) := HV0.out.symm
    have hr := regs_of_heads hh
    have hz := hfi.few
    clear HP0 HV0 hh hfi
    have C2 := (C1.alloc (.cells #[.int .i64 0, .int .i64 fp, .int .i64 fa] 55)).alloc (.cells (madeCells #[.bool false] ps.length) 4)
    have R2 := (R1.alloc (.cells #[.int .i64 0, .int .i64 fp, .int .i64 fa] 55)).alloc (.cells (madeCells #[.bool false] ps.length) 4)
    have M2 := made_blk (w1.alloc (.cells #[.int .i64 0, .int .i64 fp, .int .i64 fa] 55)) ps.length
    rw [nblk_alloc] at M2
    have B2 := (B1.alloc B1.size (.cells #[.int .i64 0, .int .i64 fp, .int .i64 fa] 55)).alloc (by have := B1.size; simp; omega) (.cells (madeCells #[.bool false] ps.length) 4)
    have hMB : w.heap.size + 1 < w1.heap.size + 1 := by have := R1.lt; omega
    have cA := (C1.alloc (.cells #[.int .i64 0, .int .i64 fp, .int .i64 fa] 55)).cell 0
    have cB := C2.cell 0
    go_wp2_with fail
    clear hmk c1 r1 f1 C1 R1 cA cB
    generalize w1.heap.size + 1 = MB at *
    go_loopw [23] (fun y wr => ∃ (k : Nat) (m : List Bool), k ≤ ps.length ∧ y = .int .i64 k ∧ m.length = ps.length ∧ Hid (mkAll ps k (ps.drop k) m = mkAll ps 0 ps (List.replicate ps.length false)) ∧ Below w.heap.size w wr ∧ Blk wr w.heap.size #[.slice ao ps.length cap] 25 ∧ Blk wr (w.heap.size + 1) #[.int .i64 0, .int .i64 0, .int .i64 0] 55 ∧ Blk wr MB (boolArr m) 4) (fun y _ => ps.length - (intOf y).toNat)
    case atStart => exact ⟨0, _, Nat.zero_le _, rfl, by simp, rfl, B2, C2, R2, M2⟩
    case round =>
      obtain ⟨k, m, hk, rfl, hml, HQ, hb, C1, R1, M1⟩ := hrel
      clear C2 R2 M2 B2
      by_cases hkl : k < ps.length
      · obtain ⟨p, hpk⟩ := some_of_lt hkl
        have HD : Hid (mkAll ps 0 ps (List.replicate ps.length false) = _) := HQ.out.symm.trans (mkAll_drop hpk m)
        obtain ⟨b, off, e0, _, hbl, h, n0, pin⟩ := hv k p hpk
        obtain ⟨p0, p1, p2, p3, p4, p5, p6, p7, p8⟩ := n0.later hb hbl
        subst e0
        have hba : ∀ o, Below w.heap.size w (wr.alloc o) := fun o => hb.alloc hb.size o
        have C2 := C1.alloc (.cells #[.string p.name, .int .i64 p.line, .int .i64 p.params, .bool p.rest, .int .i64 p.regs, .slice h.uo p.ups.length h.uc, .slice h.co p.consts.length h.cc, .slice h.io p.ins.length h.ic, .slice h.no p.named.length h.nc] 43)
        have R2 := R1.alloc (.cells #[.string p.name, .int .i64 p.line, .int .i64 p.params, .bool p.rest, .int .i64 p.regs, .slice h.uo p.ups.length h.uc, .slice h.co p.consts.length h.cc, .slice h.io p.ins.length h.ic, .slice h.no p.named.length h.nc] 43)
        have M2 := M1.alloc (.cells #[.string p.name, .int .i64 p.line, .int .i64 p.params, .bool p.rest, .int .i64 p.regs, .slice h.uo p.ups.length h.uc, .slice h.co p.consts.length h.cc, .slice h.io p.ins.length h.ic, .slice h.no p.named.length h.nc] 43)
        have hins : p.ins.length ≤ 1048576 := (hz p (List.mem_of_getElem? hpk)).ins
        have hPB1 := M1.lt
        have Bw := hba (.cells #[.string p.name, .int .i64 p.line, .int .i64 p.params, .bool p.rest, .int .i64 p.regs, .slice h.uo p.ups.length h.uc, .slice h.co p.consts.length h.cc, .slice h.io p.ins.length h.ic, .slice h.no p.named.length h.nc] 43)
        clear C1 R1 M1 HQ hba
        have HM : Hid (m.length = ps.length) := hml
        clear hml
        go_wp2_with fail
        clear p0 p1 p2 p3 p4 p5 p6 p7 p8 hb
        generalize hPB : wr.heap.size = PB at *
        clear hPB
        go_loopw [31] (fun y wi => ∃ (j : Nat) (m' : List Bool), j ≤ p.ins.length ∧ y = .int .i64 j ∧ Hid (m'.length = ps.length) ∧ Hid (mkIns ps k p j (p.ins.drop j) m' = mkIns ps k p 0 p.ins m) ∧ Below w.heap.size w wi ∧ Blk wi w.heap.size #[.slice (some ⟨b, off, none⟩) ps.length cap] 25 ∧ Blk wi (w.heap.size + 1) #[.int .i64 0, .int .i64 0, .int .i64 0] 55 ∧ Blk wi MB (boolArr m') 4) (fun y _ => p.ins.length - (intOf y).toNat)
        case atStart => exact ⟨0, m, Nat.zero_le _, rfl, HM, rfl, Bw, C2, R2, M2⟩
        case round =>
          obtain ⟨j, m', hj, rfl, HM', HQ', hb', C3, R3, M3⟩ := hrel
          clear C2 R2 M2 Bw
          by_cases hjl : j < p.ins.length
          · obtain ⟨n, hnj⟩ := some_of_lt hjl
            obtain ⟨b', off', e', _, hbl', q0, q1, q2, q3, q4⟩ := pin.ins.later (Keeps.of_below hb') j n hnj
            have HE : Hid (mkIns ps k p 0 p.ins m = _) := HQ'.out.symm.trans (mkIns_drop hnj m')
            have hba : ∀ o, Below w.heap.size w (wr.alloc o) := fun o => hb'.alloc hb'.size o
            have CA : Hid (∀ o, Blk (wr.alloc o) w.heap.size _ _) := fun o => C3.alloc o
            have RA : Hid (∀ o, Blk (wr.alloc o) (w.heap.size + 1) _ _) := fun o => R3.alloc o
            have MA : Hid (∀ o, Blk (wr.alloc o) MB _ _) := fun o => M3.alloc o
            have hio : h.io = some ⟨b', off', none⟩ := e'
            by_cases hop : n.op = 11
            · obtain ⟨hn1, hn2⟩ := hfn p (List.mem_of_getElem? hpk) n (List.mem_of_getElem? hnj) hop
              obtain ⟨op, a1, b1, c1, d1⟩ := n
              dsimp only at *
              subst hop
              obtain ⟨bN, rfl⟩ := Int.eq_ofNat_of_zero_le hn1
              obtain ⟨q, hq⟩ := some_of_lt (l := ps) (k := bN) (by omega)
              have hmb : bN < m'.length := by rw [HM'.out]; omega
              have HFn : Hid (fnBad ps k p m' ⟨11, a1, bN, c1, d1⟩ = (decide ((bN : Int) ≤ k) || (m'.getD bN false || !upsB p q.ups))) := by
                show _ = _
                unfold fnBad
                simp [hq]
              have HE2 : Hid (mkIns ps k p 0 p.ins m = if fnBad ps k p m' ⟨11, a1, bN, c1, d1⟩ then (some j, m') else mkIns ps k p (j + 1) (p.ins.drop (j + 1)) (m'.set bN true)) := by
                show _ = _
                rw [HE.out]
                rfl
              have hz1 := hz p (List.mem_of_getElem? hpk)
              have hzq := hz q (List.mem_of_getElem? hq)
              have hr1 := hr p (List.mem_of_getElem? hpk)
              have HUP : Hid (∀ W, Below w.heap.size w W → _) := fun W hW => l3upsOk_any (some ⟨b, off, none⟩) cap ps k bN p q W hpk hq hz1 hzq hr1 (hv.later (Keeps.of_below hW))
              clear HE HQ' pin n0 e' hv hfn hz hr hnj hpk hq
              generalize hmbv : m'.getD bN false = mb at *
              obtain ⟨uo, uc, co, cc, io, ic, no, nc⟩ := h
              dsimp only at *
              subst hio
              have hfault : fnBad ps k p m' ⟨11, a1, bN, c1, d1⟩ = true → shapeF ps = (6, (k : Int), (j : Int)) := by
                intro hbad
                rw [HV1.out]
                refine mkFault_six (m := m') ?_
                rw [HD.out, HE2.out, if_pos hbad]
              have HFa : Hid _ := hfault
              clear hfault
              have N4 := Blk.new wr #[.int .i64 11, .int .i64 a1, .int .i64 bN, .int .i64 c1, .int .i64 d1] 47
              have M4 := MA.out (.cells #[.int .i64 11, .int .i64 a1, .int .i64 bN, .int .i64 c1, .int .i64 d1] 47)
              have C4 := CA.out (.cells #[.int .i64 11, .int .i64 a1, .int .i64 bN, .int .i64 c1, .int .i64 d1] 47)
              have R4 := RA.out (.cells #[.int .i64 11, .int .i64 a1, .int .i64 bN, .int .i64 c1, .int .i64 d1] 47)
              have B4 := hba (.cells #[.int .i64 11, .int .i64 a1, .int .i64 bN, .int .i64 c1, .int .i64 d1] 47)
              have cm4 : (wr.alloc (.cells #[.int .i64 11, .int .i64 a1, .int .i64 bN, .int .i64 c1, .int .i64 d1] 47)).cell? ⟨MB, bN, none⟩ = some (.bool mb) := (M4.cell bN).trans ((boolArr_get hmb).trans (by rw [hmbv]))
              have cC := C4.cell 0
              clear hmbv CA RA MA hba C3 R3 M3 hb'
              by_cases g1 : (bN : Int) ≤ k
              · have HV : Hid (shapeF ps = (6, (k : Int), (j : Int))) := HFa.out (by rw [HFn.out, decide_eq_true g1]; rfl)
                clear HFa HFn HUP
                go_wp2_with fail
                refine (l3fault_any 6 k j _).mono ?_
                rintro e w9 ⟨rfl, hw9⟩
                have B9 := B4.trans (hw9.mono B4.size)
                have r9 := (R4.later hw9).cell
                have f9 := (R4.later hw9).frozen
                go_wp2_with fail
                refine bodyPost_ret (v := .agg #[.int .i64 6, .int .i64 k, .int .i64 j]) ?_ rfl ⟨?_, ?_⟩
                · simp [results, Tryz.results34, go_sem, r9]
                · rw [HV.out]; rfl
                · iterate 3 (refine Below.setCell ?_ (by simp; try omega) _)
                  exact B9
              · have g1' : decide ((bN : Int) ≤ k) = false := decide_eq_false g1
                have gn : decide (bN ≤ k) = false := decide_eq_false (by omega)
                have gl : k < bN := by omega
                have gi : (k : Int) < bN := by omega
                clear g1
                cases mb
                rotate_left
                · have HV : Hid (shapeF ps = (6, (k : Int), (j : Int))) := HFa.out (by rw [HFn.out, g1']; rfl)
                  clear HFa HFn HUP
                  go_wp2_with fail
                  refine (l3fault_any 6 k j _).mono ?_
                  rintro e w9 ⟨rfl, hw9⟩
                  have B9 := B4.trans (hw9.mono B4.size)
                  have r9 := (R4.later hw9).cell
                  have f9 := (R4.later hw9).frozen
                  go_wp2_with fail
                  refine bodyPost_ret (v := .agg #[.int .i64 6, .int .i64 k, .int .i64 j]) ?_ rfl ⟨?_, ?_⟩
                  · simp [results, Tryz.results34, go_sem, r9]
                  · rw [HV.out]; rfl
                  · iterate 3 (refine Below.setCell ?_ (by simp; try omega) _)
                    exact B9
                · have HFn2 : Hid (fnBad ps k p m' ⟨11, a1, bN, c1, d1⟩ = !upsB p q.ups) := by show _ = _; rw [HFn.out, g1']; rfl
                  clear HFn
                  go_wp2_with fail
                  refine (HUP.out _ B4).mono ?_
                  rintro e w5 ⟨rfl, hw5⟩
                  have B5 := B4.trans (hw5.mono B4.size)
                  have M5 := M4.later hw5
                  have C5 := C4.later hw5
                  have R5 := R4.later hw5
                  have N5 := N4.later hw5
                  clear N4 M4 C4 R4 B4 cm4 hw5 cC HUP
                  generalize upsB p q.ups = ub at *
                  cases ub
                  · have HV : Hid (shapeF ps = (6, (k : Int), (j : Int))) := HFa.out (by rw [HFn2.out]; rfl)
                    clear HFa HFn2
                    go_wp2_with fail
                    refine (l3fault_any 6 k j _).mono ?_
                    rintro e w9 ⟨rfl, hw9⟩
                    have B9 := B5.trans (hw9.mono B5.size)
                    have r9 := (R5.later hw9).cell
                    have f9 := (R5.later hw9).frozen
                    go_wp2_with fail
                    refine bodyPost_ret (v := .agg #[.int .i64 6, .int .i64 k, .int .i64 j]) ?_ rfl ⟨?_, ?_⟩
                    · simp [results, Tryz.results34, go_sem, r9]
                    · rw [HV.out]; rfl
                    · iterate 3 (refine Below.setCell ?_ (by simp; try omega) _)
                      exact B9
                  · have HE3 : Hid (mkIns ps k p 0 p.ins m = mkIns ps k p (j + 1) (p.ins.drop (j + 1)) (m'.set bN true)) := by
                      show _ = _
                      rw [HE2.out, HFn2.out]
                      rfl
                    clear HFa HFn2 HE2
                    have n5 := N5.cell
                    have m5 := (M5.cell bN).trans (boolArr_get hmb)
                    have f5 := M5.frozen
                    have Q1 := B5.setCell (p := ⟨MB, bN, none⟩) (by show w.heap.size ≤ MB; omega) (.bool true)
                    have Q2 := C5.setOther (p := ⟨MB, bN, none⟩) (by show w.heap.size ≠ MB; omega) (.bool true)
                    have Q3 := R5.setOther (p := ⟨MB, bN, none⟩) (by show w.heap.size + 1 ≠ MB; omega) (.bool true)
                    have Q4 := M5.set bN (.bool true)
                    rw [boolArr_set] at Q4
                    have HL : Hid ((m'.set bN true).length = ps.length) := by show _ = _; rw [List.length_set]; exact HM'.out
                    clear N5 M5 C5 R5 B5
                    go_wp2_with fail
                    go_roundw
                    case rel => exact ⟨j + 1, m'.set bN true, by omega, by go_num, HL, HE3.out.symm, Q1, Q2, Q3, Q4⟩
                    case measure => simp [intOf]; omega
            · have ho : (n.op != 11) = true := by simpa using hop
              have HE2 : Hid (mkIns ps k p 0 p.ins m = mkIns ps k p (j + 1) (p.ins.drop (j + 1)) m') := by
                show _ = _
                rw [HE.out, if_neg (by simpa using hop)]
              clear HE hop
              clear C3 R3 M3 pin n0 e'
              obtain ⟨uo, uc, co, cc, io, ic, no, nc⟩ := h
              dsimp only at *
              subst hio
              go_wp2_with fail
              go_roundw
              case rel => exact ⟨j + 1, m', by omega, by go_num, HM', HE2.out.symm, hba _, CA.out _, RA.out _, MA.out _⟩
              case measure => simp [intOf]; omega
          · have HI : Hid (mkIns ps k p 0 p.ins m = (none, m')) := by
              have h1 := HQ'.out
              rw [List.drop_of_length_le (by omega)] at h1
              exact h1.symm
            go_wp2_with fail
            go_roundw
            case rel => exact ⟨k + 1, m', by omega, by go_num, HM'.out, by show _ = _; rw [HD.out, HI.out], hb', C3, R3, M3⟩
            case measure => simp [intOf]; omega
      · have HN : Hid (mkAll ps 0 ps (List.replicate ps.length false) = (none, m)) := by
          have h2 := HQ.out
          rw [List.drop_of_length_le (by omega)] at h2
          exact h2.symm
        clear HQ
        go_wp2_with fail
        have HVm : Hid (shapeF ps = if 0 ≤ firstIdx false (m.set 0 true) 0 then (7, firstIdx false (m.set 0 true) 0, 0) else (0, 0, 0)) := by
          show _ = _
          rw [HV1.out]
          unfold mkFault
          rw [HN.out]
        have HSt : Hid (firstIdx false ((m.set 0 true).drop 1) 1 = firstIdx false (m.set 0 true) 0) := by
          show _ = _
          cases m with
          | nil => simp at hml; omega
          | cons x r => rfl
        have hml2 : (m.set 0 true).length = ps.length := by rw [List.length_set]; exact hml
        clear HN HV1 hv hz hr hfn
        go_loopw [9] (fun y wr => ∃ k : Nat, 1 ≤ k ∧ k ≤ ps.length ∧ y = .int .i64 k ∧ Hid (firstIdx false ((m.set 0 true).drop k) k = firstIdx false (m.set 0 true) 0) ∧ Below w.heap.size w wr ∧ Blk wr w.heap.size #[.slice ao ps.length cap] 25 ∧ Blk wr (w.heap.size + 1) #[.int .i64 0, .int .i64 0, .int .i64 0] 55 ∧ Blk wr MB (boolArr m) 4) (fun y _ => ps.length - (intOf y).toNat)
        case atStart => exact ⟨1, Nat.le_refl _, hl1, rfl, HSt, hb, C1, R1, M1⟩
        case round =>
          obtain ⟨k, hk1, hk, rfl, HQ, hb', C3, R3, M3⟩ := hrel
          clear C1 R1 M1 hb HSt
          have c3 := C3.cell 0
          by_cases hkl : k < ps.length
          · have HD : Hid (firstIdx false (m.set 0 true) 0 = if (m.set 0 true).getD k false = false then (k : Int) else firstIdx false ((m.set 0 true).drop (k + 1)) (k + 1)) := HQ.out.symm.trans (firstIdx_drop (by omega))
            have hg : (m.set 0 true).getD k false = m.getD k false := by
              simp [List.getD, List.getElem?_set]
              split <;> first | omega | rfl
            rw [hg] at HD
            have m3 := (M3.cell k).trans (boolArr_get (by omega))
            generalize m.getD k false = mb at *
            clear HQ hg
            cases mb
            · have HV : Hid (shapeF ps = (7, (k : Int), 0)) := by
                show _ = _
                rw [HVm.out, HD.out]
                simp
              go_wp2_with fail
              refine (l3fault_any 7 k 0 _).mono ?_
              rintro e w9 ⟨rfl, hw9⟩
              have B9 := hb'.trans (hw9.mono hb'.size)
              have r9 := (R3.later hw9).cell
              have f9 := (R3.later hw9).frozen
              go_wp2_with fail
              refine bodyPost_ret (v := .agg #[.int .i64 7, .int .i64 k, .int .i64 0]) ?_ rfl ⟨?_, ?_⟩
              · simp [results, Tryz.results34, go_sem, r9]
              · rw [HV.out]; rfl
              · iterate 3 (refine Below.setCell ?_ (by simp; try omega) _)
                exact B9
            · have HN : Hid (firstIdx false ((m.set 0 true).drop (k + 1)) (k + 1) = firstIdx false (m.set 0 true) 0) := by
                show _ = _
                rw [HD.out]
                simp
              go_wp2_with fail
              go_roundw
              case rel => exact ⟨k + 1, by omega, by omega, by go_num, HN.out, hb', C3, R3, M3⟩
              case measure => simp [intOf]; omega
          · have HV : Hid (shapeF ps = (0, 0, 0)) := by
              have h1 := HQ.out
              rw [List.drop_of_length_le (by omega)] at h1
              show _ = _
              rw [HVm.out, ← h1]
              rfl
            have r9 := R3.cell
            have f9 := R3.frozen
            go_wp2_with fail
            refine bodyPost_ret (v := .agg #[.int .i64 0, .int .i64 0, .int .i64 0]) ?_ rfl ⟨?_, ?_⟩
            · simp [results, Tryz.results34, go_sem, r9]
            · rw [HV.out]; rfl
            · iterate 3 (refine Below.setCell ?_ (by simp; try omega) _)
              exact hb'
  · have hfc2 : (fc != 0) = true := by simpa using hfc
    have HV1 : Hid (shapeF ps = (fc, fp, fa)) := by
      have := HV0.out
      rw [if_neg hfc] at this
      exact this.symm
    clear HP0 HV0 hfc
    have B9 := B1.alloc B1.size (.cells #[.int .i64 fc, .int .i64 fp, .int .i64 fa] 55)
    have R9 := R1.alloc (.cells #[.int .i64 fc, .int .i64 fp, .int .i64 fa] 55)
    have r9 := R9.cell
    have f9 := R9.frozen
    go_wp2_with fail
    refine bodyPost_ret (v := .agg #[.int .i64 fc, .int .i64 fp, .int .i64 fa]) ?_ rfl ⟨?_, ?_⟩
    · simp [results, Tryz.results34, go_sem, r9]
    · rw [HV1.out]; rfl
    · iterate 3 (refine Below.setCell ?_ (by simp; try omega) _)
      exact B9
end Go.Proofs.YtmfippfnhcphhaaGreatDoor

namespace Go.Proofs.YtmfippfnhcphhaaGreatDoor
open Go.RowKit Go.Deep

/-! ### Numbers and guards -/
structure Gd where
  tr : Bool
  keep : Int
  hd : Int
  deriving DecidableEq
def Gd.vals (g : Gd) : List Value := [.bool g.tr, .int .i64 g.keep, .int .i64 g.hd]
def Gd.val (g : Gd) : Value := .agg #[.bool g.tr, .int .i64 g.keep, .int .i64 g.hd]
def IntAt (w : World) (b o : Nat) (x : Int) : Prop := w.cell? ⟨b, o, none⟩ = some (.int .i64 x)
def GdAt (w : World) (b o : Nat) (g : Gd) : Prop := w.cell? ⟨b, o, none⟩ = some (.bool g.tr) ∧ w.cell? ⟨b, o + 1, none⟩ = some (.int .i64 g.keep) ∧ w.cell? ⟨b, o + 2, none⟩ = some (.int .i64 g.hd)
def IntsAt (lo : Nat) (w : World) (ao : Option Addr) (xs : List Int) : Prop := AllAt lo w ao 1 (IntAt w) xs
def GdsAt (lo : Nat) (w : World) (ao : Option Addr) (xs : List Gd) : Prop := AllAt lo w ao 3 (GdAt w) xs
theorem IntsAt.later {lo : Nat} {w w' : World} {ao : Option Addr} {xs : List Int} (h : IntsAt lo w ao xs) (hk : Keeps lo w w') : IntsAt lo w' ao xs :=
  AllAt.later h hk fun _ _ _ hl hb _ hx => (hk.cell hl hb).trans hx
theorem GdsAt.later {lo : Nat} {w w' : World} {ao : Option Addr} {xs : List Gd} (h : GdsAt lo w ao xs) (hk : Keeps lo w w') : GdsAt lo w' ao xs :=
  AllAt.later h hk fun _ _ _ hl hb _ hx => ⟨(hk.cell hl hb).trans hx.1, (hk.cell hl hb).trans hx.2.1, (hk.cell hl hb).trans hx.2.2⟩

/-! ### What a call has made itself -/
def ints (xs : List Int) : List Value := xs.map (Value.int .i64)
def gds (xs : List Gd) : List Value := xs.flatMap Gd.vals
theorem gds_length (xs : List Gd) : (gds xs).length = xs.length * 3 := by
  induction xs with
  | nil => rfl
  | cons x r ih => simp only [gds, List.flatMap_cons, List.length_append, List.length_cons] at *; rw [ih]; simp [Gd.vals]; omega
theorem gds_get : ∀ {xs : List Gd} {i : Nat} {g : Gd}, xs[i]? = some g → ∀ j v, g.vals[j]? = some v → (gds xs)[i * 3 + j]? = some v
  | [], i, g, h, _, _, _ => by simp at h
  | x :: r, 0, g, h, j, v, hv => by
    simp at h; subst h
    have hj : j < 3 := (List.getElem?_eq_some_iff.1 hv).1
    simp only [gds, List.flatMap_cons]
    rw [List.getElem?_append_left (by simp [Gd.vals]; omega)]
    simpa using hv
  | x :: r, i + 1, g, h, j, v, hv => by
    simp at h
    simp only [gds, List.flatMap_cons]
    rw [List.getElem?_append_right (by simp [Gd.vals]; omega)]
    have := gds_get h j v hv
    have e : (i + 1) * 3 + j - x.vals.length = i * 3 + j := by simp [Gd.vals]; omega
    rw [e]
    exact this
theorem gds_append (xs ys : List Gd) : gds (xs ++ ys) = gds xs ++ gds ys := by simp [gds]
theorem ints_append (xs ys : List Int) : ints (xs ++ ys) = ints xs ++ ints ys := by simp [ints]

theorem owns_form {w : World} {base e size n : Nat} {v : Value} {xs : List Value} (h : w.ownsRow base e size v n xs) :
    (v = .slice none 0 0 ∧ n = 0) ∨ ∃ g cap, v = .slice (some ⟨g, 0, none⟩) n cap ∧ base ≤ g ∧ g < w.heap.size := by
  obtain ⟨_, h | ⟨g, cap, cur, rfl, hg, hb, _⟩⟩ := h
  · exact .inl h
  · exact .inr ⟨g, cap, rfl, hg, (Array.getElem?_eq_some_iff.1 hb).1⟩
theorem owns_cell {w : World} {base e size n g cap : Nat} {xs : List Value} (h : w.ownsRow base e size (.slice (some ⟨g, 0, none⟩) n cap) n xs) {j : Nat} {u : Value} (hj : xs[j]? = some u) : w.cell? ⟨g, j, none⟩ = some u := by
  have h1 := h.1
  have h2 := (List.getElem?_eq_some_iff.1 hj).1
  exact (h.cellAt j (by omega)).trans hj
theorem owns_later {w w' : World} {base e size n : Nat} {v : Value} {xs : List Value} (h : w.ownsRow base e size v n xs) (hk : Keeps base w w') : w'.ownsRow base e size v n xs := by
  obtain ⟨h1, h2 | ⟨g, cap, cur, e1, hg, hb, r⟩⟩ := h
  · exact ⟨h1, .inl h2⟩
  · exact ⟨h1, .inr ⟨g, cap, cur, e1, hg, (hk.block g hg (Array.getElem?_eq_some_iff.1 hb).1).trans hb, r⟩⟩
theorem owns_below {w w' : World} {base e size n : Nat} {v : Value} {xs : List Value} (h : w.ownsRow base e size v n xs) (hk : Below w.heap.size w w') : w'.ownsRow base e size v n xs := owns_later h (Keeps.of_below hk)
/-- The slice as an address, a length and a capacity. -/
theorem owns_slice {w : World} {base e size n : Nat} {v : Value} {xs : List Value} (h : w.ownsRow base e size v n xs) : ∃ ao cap, v = .slice ao n cap := by
  rcases owns_form h with ⟨rfl, rfl⟩ | ⟨g, cap, rfl, _⟩
  · exact ⟨_, _, rfl⟩
  · exact ⟨_, _, rfl⟩
theorem owns_ints {w : World} {base n cap : Nat} {ao : Option Addr} {xs : List Int} (h : w.ownsRow base 3 1 (.slice ao n cap) n (ints xs)) : IntsAt base w ao xs ∧ n = xs.length := by
  have hl : n = xs.length := by have := h.1; simp [ints] at this; omega
  refine ⟨?_, hl⟩
  intro i x hi
  rcases owns_form h with ⟨h1, h2⟩ | ⟨g, cap', h1, h2, h3⟩
  · subst h2
    have : xs = [] := List.length_eq_zero_iff.1 hl.symm
    subst this
    simp at hi
  · simp only [Value.slice.injEq] at h1
    obtain ⟨rfl, _, rfl⟩ := h1
    refine ⟨g, 0, rfl, h2, h3, ?_⟩
    rw [Nat.zero_add, Nat.mul_one]
    exact owns_cell h (by simp [ints, hi])
theorem owns_gds {w : World} {base n cap : Nat} {ao : Option Addr} {xs : List Gd} (h : w.ownsRow base 194 3 (.slice ao n cap) n (gds xs)) : GdsAt base w ao xs ∧ n = xs.length := by
  have hl : n = xs.length := by have := h.1; rw [gds_length] at this; omega
  refine ⟨?_, hl⟩
  intro i x hi
  rcases owns_form h with ⟨h1, h2⟩ | ⟨g, cap', h1, h2, h3⟩
  · subst h2
    have : xs = [] := List.length_eq_zero_iff.1 hl.symm
    subst this
    simp at hi
  · simp only [Value.slice.injEq] at h1
    obtain ⟨rfl, _, rfl⟩ := h1
    refine ⟨g, 0, rfl, h2, h3, ?_⟩
    rw [Nat.zero_add]
    exact ⟨owns_cell h (gds_get hi 0 _ rfl), owns_cell h (gds_get hi 1 _ rfl), owns_cell h (gds_get hi 2 _ rfl)⟩

theorem Tryz.info_int : (Tryz.prog.info? 3).map (fun i => (i.zero, i.size, i.bytes)) = some (some (.int .i64 0), 1, 8) := by kernel_rfl
theorem Tryz.info_Guard : (Tryz.prog.info? 194).map (fun i => (i.zero, i.size, i.bytes)) = some (some (.agg #[.bool false, .int .i64 0, .int .i64 0]), 3, 24) := by kernel_rfl

set_option maxRecDepth 100000 in
set_option maxHeartbeats 400000 in
theorem l3copy_any (ao : Option Addr) (cap : Nat) (xs : List Int) (w : World) (hm : xs.length ≤ 1048576) (hx : IntsAt 0 w ao xs) :
    Calls Tryz.prog 65 #[.slice ao xs.length cap] w fun e w' => ∃ v, e = .returned v ∧ w'.ownsRow w.heap.size 3 1 v xs.length (ints xs) ∧ Below w.heap.size w w' := by
  obtain ⟨i0, hi, hz0, hz1, hz2⟩ := info_parts Tryz.info_int
  go_enter Tryz.func65, Tryz.ntmps65
  go_wp2_with fail
  go_loopw [3, 8] (fun v y wr => ∃ k : Nat, k ≤ xs.length ∧ y = .int .i64 k ∧ wr.ownsRow w.heap.size 3 1 v k (ints (xs.take k)) ∧ Below w.heap.size w wr) (fun _ y _ => xs.length - (intOf y).toNat)
  case atStart => exact ⟨0, Nat.zero_le _, rfl, World.ownsRow_nil _ _ _ _, Below.refl _ _⟩
  case round =>
    obtain ⟨k, hk, rfl, hown, hb⟩ := hrel
    by_cases hkl : k < xs.length
    · obtain ⟨x, hxk⟩ := some_of_lt hkl
      obtain ⟨b, off, rfl, _, hbl, q0⟩ := hx.later (Keeps.of_below hb) k x hxk
      unfold IntAt at q0
      rw [Nat.mul_one] at q0
      have hT : Hid (ints (xs.take (k + 1)) = ints (xs.take k) ++ [.int .i64 x]) := by
        show _ = _
        rw [List.take_add_one, hxk, ints_append]
        rfl
      go_wp2_with (at_builtin; refine wpList_append_own _ rfl _ _ 82 rfl w.heap.size 3 i0 (.int .i64 0) 1 8 Tryz.underlying82 hi hz0 hz1 hz2 rfl (by decide) _ _ _ rfl (hown.alloc _) ⟨wr.heap.size, 0, none⟩ 1 1 [.int .i64 x] rfl rfl ?c1 ?c2 ?c3 ?c4 ?c5 ?_)
      case c1 =>
        intro j u hj
        match j, hj with
        | 0, hj => simp at hj; subst hj; simp [Addr.add]
      case c2 => intro u hu; simp at hu; subst hu; rfl
      case c3 => unfold maxLen; omega
      case c4 => omega
      case c5 => have := hb.size; simp; omega
      · intro v' w1 hown' hgrow _
        have B1 := (hb.alloc hb.size _).grown hgrow (by have := hb.size; simp; omega) (fun k hk => (hown.lt k hk).1)
        rw [← hT.out] at hown'
        clear hgrow hown hT q0
        go_wp2_with fail
        go_roundw
        case rel => exact ⟨k + 1, by omega, by go_num, hown', B1⟩
        case measure => simp [intOf]; omega
    · go_wp2_with fail
      go_ret
      obtain rfl : k = xs.length := by omega
      rw [List.take_length] at hown
      exact ⟨_, rfl, hown, hb⟩
end Go.Proofs.YtmfippfnhcphhaaGreatDoor
