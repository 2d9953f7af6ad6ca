import Derived.Test.YtmfippfnhcphhaaGreatDoorC11
namespace Go.Proofs.YtmfippfnhcphhaaGreatDoor
open Go.RowKit Go.Deep
attribute [local go_sem] run_store_float

/-- Codes 1 to 5. -/
def partsF (ps : List Pd) : Int × Int × Int :=
  if sizeB ps then
    match firstP headP 0 ps with
    | some (p, i) => (2, p, i)
    | none => match firstP constP 0 ps with
      | some (p, i) => (3, p, i)
      | none => match firstP namedP 0 ps with
        | some (p, i) => (4, p, i)
        | none => match firstP (insQ ps.length) 0 ps with
          | some (p, i) => (5, p, i)
          | none => (0, 0, 0)
  else (1, 0, 0)

set_option maxRecDepth 100000 in
set_option maxHeartbeats 8000000 in
theorem l3parts_any (ao : Option Addr) (cap : Nat) (ps : List Pd) (w : World) (hfi : Fine ps) (hv : ProtosAt 0 w ao ps) :
    Calls Tryz.prog 61 #[.agg #[.slice ao ps.length cap]] w fun e w' => e = .returned (faultV (partsF ps)) ∧ Below w.heap.size w w' := by
  have hl : ps.length ≤ 1048576 := by have := hfi.bulk; unfold bulkPs at this; omega
  have hsum : sumL bulkP ps ≤ 1048576 := by have := hfi.bulk; unfold bulkPs at this; omega
  have hb2 : ∀ o1 o2, Below w.heap.size w ((w.alloc o1).alloc o2) := fun o1 o2 => ((Below.refl _ _).alloc (Nat.le_refl _) o1).alloc (by simp) o2
  have C0 := (Blk.new w #[.slice ao ps.length cap] 25).alloc (.cells #[.int .i64 0, .int .i64 0, .int .i64 0] 55)
  have R0 := Blk.new (w.alloc (.cells #[.slice ao ps.length cap] 25)) #[.int .i64 0, .int .i64 0, .int .i64 0] 55
  rw [nblk_alloc] at R0
  go_enter Tryz.func61, Tryz.ntmps61
  go_wp2_with fail
  go_loopw [3, 20] (fun s y wr => ∃ k : Nat, k ≤ ps.length ∧ y = .int .i64 k ∧ s = .int .i64 (sumL (fun p => p.ins.length) (ps.take k) : Nat) ∧ Below w.heap.size w wr ∧ Blk wr w.heap.size #[.slice ao ps.length cap] 25 ∧ Blk wr (w.heap.size + 1) #[.int .i64 0, .int .i64 0, .int .i64 0] 55) (fun _ y _ => ps.length - (intOf y).toNat)
  case atStart => exact ⟨0, Nat.zero_le _, rfl, rfl, hb2 _ _, C0, R0⟩
  case round =>
    obtain ⟨k, hk, rfl, rfl, hb, C1, R1⟩ := hrel
    clear C0 R0
    by_cases hkl : k < ps.length
    · obtain ⟨p, hpk⟩ := some_of_lt hkl
      obtain ⟨b, off, rfl, _, hbl, h, ⟨p0, p1, p2, p3, p4, p5, p6, p7, p8⟩, _⟩ := hv.later (Keeps.of_below hb) k p hpk
      have HT : Hid _ := insSum_take hpk
      have h1 := sumIns_le ps k
      have h2 := sumIns_le ps (k + 1)
      rw [HT.out] at h2
      have hba : ∀ o, Below w.heap.size w (wr.alloc o) := fun o => hb.alloc hb.size o
      have CA : Hid (∀ o, Blk (wr.alloc o) w.heap.size #[.slice (some ⟨b, off, none⟩) ps.length cap] 25) := fun o => C1.alloc o
      have RA : Hid (∀ o, Blk (wr.alloc o) (w.heap.size + 1) _ _) := fun o => R1.alloc o
      generalize hq : sumL (fun p => p.ins.length) (ps.take k) = q at *
      clear hv hq hfi
      go_wp2_with fail
      go_roundw
      case rel => exact ⟨k + 1, by omega, by go_num, by rw [HT.out]; go_num, hba _, CA.out _, RA.out _⟩
      case measure => simp [intOf]; omega
    · have hall : ps.take k = ps := List.take_of_length_le (by omega)
      rw [hall]
      have E0 : Hid (sizeB ps = (inR ps.length 1 200 && decide (((sumL (fun p => p.ins.length) ps : Nat) : Int) ≤ 6000))) := rfl
      have hle := sumIns_le ps ps.length
      rw [List.take_length] at hle
      have c1 := C1.cell 0
      have r1 := R1.cell
      have f1 := R1.frozen
      generalize sumL (fun p => p.ins.length) ps = q at *
      clear hall
      by_cases hsz : sizeB ps = true
      · have hsz2 : (1 ≤ ps.length ∧ ps.length ≤ 200) ∧ (q : Int) ≤ 6000 := by rw [E0.out] at hsz; simp [inR] at hsz; omega
        obtain ⟨⟨l1, l2⟩, l3⟩ := hsz2
        have k0 : ((ps.length : Int) == 0) = false := beq_eq_false_iff_ne.2 (by omega)
        have HS : Hid (sizeB ps = true) := hsz
        clear hsz E0
        go_wp2_with fail
        clear c1 r1 f1
        go_loopw [48] (fun y wi => ∃ k : Nat, k ≤ ps.length ∧ y = .int .i64 k ∧ Hid (firstP headP k (ps.drop k) = firstP headP 0 ps) ∧ Below w.heap.size w wi ∧ Blk wi w.heap.size #[.slice ao ps.length cap] 25 ∧ Blk wi (w.heap.size + 1) #[.int .i64 0, .int .i64 0, .int .i64 0] 55) (fun y _ => ps.length - (intOf y).toNat)
        case atStart => exact ⟨0, Nat.zero_le _, rfl, rfl, hb, C1, R1⟩
        case round =>
          obtain ⟨k2, hk2, rfl, HQ, hb3, C3, R3⟩ := hrel
          clear hb C1 R1
          by_cases hkl2 : k2 < ps.length
          · obtain ⟨p, hpk⟩ := some_of_lt hkl2
            have HD : Hid (firstP headP 0 ps = _) := HQ.out.symm.trans (firstP_drop hpk)
            have c3 := C3.cell 0
            have HC : Hid _ := l3headOk_any ao cap ps k2 p wr hpk (hfi.few p (List.mem_of_getElem? hpk)) hl (hv.later (Keeps.of_below hb3))
            go_wp2_with fail
            refine Calls.mono (Hid.out HC) ?_
            rintro e w5 ⟨rfl, hw5⟩
            have B5 := hb3.trans (hw5.mono hb3.size)
            have C5 := C3.later hw5
            have R5 := R3.later hw5
            clear c3 C3 R3 hw5 hb3 HC
            cases ho : headOk p k2
            · have HV : Hid (partsF ps = (2, (k2 : Int), 0)) := by
                have h1 := HD.out
                unfold headP at h1
                rw [ho] at h1
                show _ = _
                unfold partsF
                rw [HS.out]
                unfold headP
                rw [h1]
                rfl
              go_wp2_with fail
              refine (l3fault_any 2 k2 0 _).mono ?_
              rintro e w9 ⟨rfl, hw9⟩
              have B9 := B5.trans (hw9.mono B5.size)
              have r9 := (R5.later hw9).cell
              have f9 := (R5.later hw9).frozen
              go_wp2_with fail
              refine bodyPost_ret (v := .agg #[.int .i64 2, .int .i64 k2, .int .i64 0]) ?_ rfl ⟨?_, ?_⟩
              · simp [results, Tryz.results61, go_sem, r9]
              · rw [HV.out]; rfl
              · iterate 3 (refine Below.setCell ?_ (by simp; try omega) _)
                exact B9
            · have HN : Hid (firstP headP (k2 + 1) (ps.drop (k2 + 1)) = firstP headP 0 ps) := by
                have h1 := HD.out
                have h2 : headP k2 p = none := by unfold headP; rw [ho]; rfl
                rw [h2] at h1
                exact h1.symm
              clear HQ HD ho
              go_wp2_with fail
              go_roundw
              case rel => first | exact ⟨k2 + 1, by omega, by go_num, HN.out, B5, C5, R5⟩ | ((repeat apply Exists.intro); exact ⟨⟨k2 + 1, by omega, by go_num, HN.out, B5, C5, R5⟩, rfl⟩)
              case measure => simp [intOf]; omega
          · have HH : Hid (firstP headP 0 ps = none) := by
              have h1 := HQ.out
              rw [List.drop_of_length_le (by omega)] at h1
              exact h1.symm
            clear HQ
            have c3 := C3.cell 0
            go_wp2_with fail
            clear c3
            go_loopw [61] (fun y wi => ∃ k : Nat, k ≤ ps.length ∧ y = .int .i64 k ∧ Hid (firstP constP k (ps.drop k) = firstP constP 0 ps) ∧ Below w.heap.size w wi ∧ Blk wi w.heap.size #[.slice ao ps.length cap] 25 ∧ Blk wi (w.heap.size + 1) #[.int .i64 0, .int .i64 0, .int .i64 0] 55) (fun y _ => ps.length - (intOf y).toNat)
            case atStart => exact ⟨0, Nat.zero_le _, rfl, rfl, hb3, C3, R3⟩
            case round =>
              obtain ⟨k3, hk3, rfl, HQ, hb4, C4, R4⟩ := hrel
              clear hb3 C3 R3
              by_cases hkl3 : k3 < ps.length
              · obtain ⟨p, hpk⟩ := some_of_lt hkl3
                have HD : Hid (firstP constP 0 ps = _) := HQ.out.symm.trans (firstP_drop hpk)
                obtain ⟨b, off, e0, _, hbl, h, n0, pin⟩ := hv k3 p hpk
                obtain ⟨p0, p1, p2, p3, p4, p5, p6, p7, p8⟩ := n0.later hb4 hbl
                have hz1 := hfi.few p (List.mem_of_getElem? hpk)
                have hz2 := hz1.consts
                have hfl := hfi.flts p (List.mem_of_getElem? hpk)
                have Bw := hb4.alloc hb4.size (.cells #[.string p.name, .int .i64 p.line, .int .i64 p.params, .bool p.rest, .int .i64 p.regs, .slice h.uo p.ups.length h.uc, .slice h.co p.consts.length h.cc, .slice h.io p.ins.length h.ic, .slice h.no p.named.length h.nc] 43)
                have C5 := C4.alloc (.cells #[.string p.name, .int .i64 p.line, .int .i64 p.params, .bool p.rest, .int .i64 p.regs, .slice h.uo p.ups.length h.uc, .slice h.co p.consts.length h.cc, .slice h.io p.ins.length h.ic, .slice h.no p.named.length h.nc] 43)
                have R5 := R4.alloc (.cells #[.string p.name, .int .i64 p.line, .int .i64 p.params, .bool p.rest, .int .i64 p.regs, .slice h.uo p.ups.length h.uc, .slice h.co p.consts.length h.cc, .slice h.io p.ins.length h.ic, .slice h.no p.named.length h.nc] 43)
                clear C4 R4 HQ
                have hao : ao = some ⟨b, off, none⟩ := e0
                clear e0
                subst hao
                go_wp2_with fail
                clear p0 p1 p2 p3 p4 p5 p6 p7 p8 hb4 n0
                have hcs := pin.consts
                clear pin
                go_loopw [69] (fun y wi => ∃ j : Nat, j ≤ p.consts.length ∧ y = .int .i64 j ∧ Hid (firstBad constG j (p.consts.drop j) = firstBad constG 0 p.consts) ∧ Below w.heap.size w wi ∧ Blk wi w.heap.size #[.slice (some ⟨b, off, none⟩) ps.length cap] 25 ∧ Blk wi (w.heap.size + 1) #[.int .i64 0, .int .i64 0, .int .i64 0] 55) (fun y _ => p.consts.length - (intOf y).toNat)
                case atStart => exact ⟨0, Nat.zero_le _, rfl, rfl, Bw, C5, R5⟩
                case round =>
                  obtain ⟨j, hj, rfl, HQj, hb6, C6, R6⟩ := hrel
                  clear Bw C5 R5
                  by_cases hjl : j < p.consts.length
                  · obtain ⟨v, hvj⟩ := some_of_lt hjl
                    obtain ⟨b', off', e', _, hbl', q0, q1, q2, q3, q4⟩ := hcs.later (Keeps.of_below hb6) j v hvj
                    have HE : Hid (firstBad constG 0 p.consts = if constB v then firstBad constG (j + 1) (p.consts.drop (j + 1)) else some j) := HQj.out.symm.trans (firstBad_drop hvj)
                    have HM : Hid (v.flt < 18446744073709551616) := hfl v (List.mem_of_getElem? hvj)
                    have hba : ∀ o, Below w.heap.size w (wr.alloc o) := fun o => hb6.alloc hb6.size o
                    have RA : Hid (∀ o, Blk (wr.alloc o) (w.heap.size + 1) #[.int .i64 0, .int .i64 0, .int .i64 0] 55) := fun o => R6.alloc o
                    have CA : Hid (∀ o, Blk (wr.alloc o) w.heap.size #[.slice (some ⟨b, off, none⟩) ps.length cap] 25) := fun o => C6.alloc o
                    clear hcs HQj hvj C6 R6 hfl
                    have hco : h.co = some ⟨b', off', none⟩ := e'
                    clear e'
                    obtain ⟨uo, uc, co, cc, io, ic, no, nc⟩ := h
                    dsimp only at *
                    subst hco
                    go_wp2_with fail
                    refine (l3constOk_any v HM.out _).mono ?_
                    rintro e w7 ⟨rfl, hw7⟩
                    have B7 := (hba _).trans (hw7.mono (hba _).size)
                    have R7 := (RA.out _).later hw7
                    have C7 := (CA.out _).later hw7
                    clear q0 q1 q2 q3 q4 hba RA CA hw7 hb6
                    generalize constB v = cb at *
                    cases cb
                    · have HV : Hid (partsF ps = (3, (k3 : Int), (j : Int))) := by
                        have h1 := HD.out
                        have h2 : constP k3 p = some j := by unfold constP; rw [HE.out]; rfl
                        rw [h2] at h1
                        show _ = _
                        unfold partsF
                        rw [HS.out, HH.out, h1]
                        rfl
                      go_wp2_with fail
                      refine (l3fault_any 3 k3 j _).mono ?_
                      rintro e w9 ⟨rfl, hw9⟩
                      have B9 := B7.trans (hw9.mono B7.size)
                      have r9 := (R7.later hw9).cell
                      have f9 := (R7.later hw9).frozen
                      go_wp2_with fail
                      refine bodyPost_ret (v := .agg #[.int .i64 3, .int .i64 k3, .int .i64 j]) ?_ rfl ⟨?_, ?_⟩
                      · simp [results, Tryz.results61, go_sem, r9]
                      · rw [HV.out]; rfl
                      · iterate 3 (refine Below.setCell ?_ (by simp; try omega) _)
                        exact B9
                    · go_wp2_with fail
                      go_roundw
                      case rel => first | exact ⟨j + 1, by omega, by go_num, by show _ = _; rw [HE.out]; rfl, B7, C7, R7⟩ | ((repeat apply Exists.intro); exact ⟨⟨j + 1, by omega, by go_num, by show _ = _; rw [HE.out]; rfl, B7, C7, R7⟩, rfl⟩)
                      case measure => simp [intOf]; omega
                  · have HN : Hid (firstP constP (k3 + 1) (ps.drop (k3 + 1)) = firstP constP 0 ps) := by
                      have h1 := HD.out
                      have h3 := HQj.out
                      rw [List.drop_of_length_le (by omega)] at h3
                      have h2 : constP k3 p = none := h3.symm
                      rw [h2] at h1
                      exact h1.symm
                    clear HQj HD
                    go_wp2_with fail
                    go_roundw
                    case rel => first | exact ⟨k3 + 1, by omega, by go_num, HN.out, hb6, C6, R6⟩ | ((repeat apply Exists.intro); exact ⟨⟨k3 + 1, by omega, by go_num, HN.out, hb6, C6, R6⟩, rfl⟩)
                    case measure => simp [intOf]; omega
              · have HC3 : Hid (firstP constP 0 ps = none) := by
                  have h1 := HQ.out
                  rw [List.drop_of_length_le (by omega)] at h1
                  exact h1.symm
                clear HQ
                have c4 := C4.cell 0
                go_wp2_with fail
                clear c4
                have HRg : Hid (∀ p ∈ ps, 0 ≤ p.regs ∧ p.regs ≤ 250) := regs_of_heads HH.out
                go_loopw [85] (fun y wi => ∃ k : Nat, k ≤ ps.length ∧ y = .int .i64 k ∧ Hid (firstP namedP k (ps.drop k) = firstP namedP 0 ps) ∧ Below w.heap.size w wi ∧ Blk wi w.heap.size #[.slice ao ps.length cap] 25 ∧ Blk wi (w.heap.size + 1) #[.int .i64 0, .int .i64 0, .int .i64 0] 55) (fun y _ => ps.length - (intOf y).toNat)
                case atStart => exact ⟨0, Nat.zero_le _, rfl, rfl, hb4, C4, R4⟩
                case round =>
                  obtain ⟨k4, hk4, rfl, HQ, hb5, C5, R5⟩ := hrel
                  clear hb4 C4 R4
                  by_cases hkl4 : k4 < ps.length
                  · obtain ⟨p, hpk⟩ := some_of_lt hkl4
                    have HD : Hid (firstP namedP 0 ps = _) := HQ.out.symm.trans (firstP_drop hpk)
                    obtain ⟨b, off, e0, _, hbl, h, n0, pin⟩ := hv k4 p hpk
                    obtain ⟨p0, p1, p2, p3, p4, p5, p6, p7, p8⟩ := n0.later hb5 hbl
                    have hz1 := hfi.few p (List.mem_of_getElem? hpk)
                    have hz2 := hz1.named
                    have hrg := HRg.out p (List.mem_of_getElem? hpk)
                    have Bw := hb5.alloc hb5.size (.cells #[.string p.name, .int .i64 p.line, .int .i64 p.params, .bool p.rest, .int .i64 p.regs, .slice h.uo p.ups.length h.uc, .slice h.co p.consts.length h.cc, .slice h.io p.ins.length h.ic, .slice h.no p.named.length h.nc] 43)
                    have C6 := C5.alloc (.cells #[.string p.name, .int .i64 p.line, .int .i64 p.params, .bool p.rest, .int .i64 p.regs, .slice h.uo p.ups.length h.uc, .slice h.co p.consts.length h.cc, .slice h.io p.ins.length h.ic, .slice h.no p.named.length h.nc] 43)
                    have R6 := R5.alloc (.cells #[.string p.name, .int .i64 p.line, .int .i64 p.params, .bool p.rest, .int .i64 p.regs, .slice h.uo p.ups.length h.uc, .slice h.co p.consts.length h.cc, .slice h.io p.ins.length h.ic, .slice h.no p.named.length h.nc] 43)
                    have P6 := Blk.new wr #[.string p.name, .int .i64 p.line, .int .i64 p.params, .bool p.rest, .int .i64 p.regs, .slice h.uo p.ups.length h.uc, .slice h.co p.consts.length h.cc, .slice h.io p.ins.length h.ic, .slice h.no p.named.length h.nc] 43
                    clear C5 R5 HQ
                    have hao : ao = some ⟨b, off, none⟩ := e0
                    clear e0
                    subst hao
                    go_wp2_with fail
                    clear p0 p1 p2 p3 p4 p5 p6 p7 p8 hb5 n0
                    generalize hPB : wr.heap.size = PB at *
                    clear hPB
                    go_loopw [93] (fun y wi => ∃ j : Nat, j ≤ p.named.length ∧ y = .int .i64 j ∧ Hid (firstBad (namedB p) j (p.named.drop j) = firstBad (namedB p) 0 p.named) ∧ Below w.heap.size w wi ∧ Blk wi w.heap.size #[.slice (some ⟨b, off, none⟩) ps.length cap] 25 ∧ Blk wi (w.heap.size + 1) #[.int .i64 0, .int .i64 0, .int .i64 0] 55 ∧ Blk wi PB #[.string p.name, .int .i64 p.line, .int .i64 p.params, .bool p.rest, .int .i64 p.regs, .slice h.uo p.ups.length h.uc, .slice h.co p.consts.length h.cc, .slice h.io p.ins.length h.ic, .slice h.no p.named.length h.nc] 43) (fun y _ => p.named.length - (intOf y).toNat)
                    case atStart => exact ⟨0, Nat.zero_le _, rfl, rfl, Bw, C6, R6, P6⟩
                    case round =>
                      obtain ⟨j, hj, rfl, HQj, hb7, C7, R7, P7⟩ := hrel
                      clear Bw C6 R6 P6
                      by_cases hjl : j < p.named.length
                      · obtain ⟨m, hmj⟩ := some_of_lt hjl
                        have HE : Hid (firstBad (namedB p) 0 p.named = if namedB p j m then firstBad (namedB p) (j + 1) (p.named.drop (j + 1)) else some j) := HQj.out.symm.trans (firstBad_drop hmj)
                        have c7 := P7.cell
                        have HC : Hid _ := l3namedOk_any p h j m wr hmj hz1 hrg (pin.later (Keeps.of_below hb7))
                        clear HQj
                        go_wp2_with fail
                        refine Calls.mono (Hid.out HC) ?_
                        rintro e w8 ⟨rfl, hw8⟩
                        have B8 := hb7.trans (hw8.mono hb7.size)
                        have C8 := C7.later hw8
                        have R8 := R7.later hw8
                        have P8 := P7.later hw8
                        clear HC c7 C7 R7 P7 hw8 hb7
                        generalize namedB p j m = cb at *
                        cases cb
                        · have HV : Hid (partsF ps = (4, (k4 : Int), (j : Int))) := by
                            have h1 := HD.out
                            have h2 : namedP k4 p = some j := by unfold namedP; rw [HE.out]; rfl
                            rw [h2] at h1
                            show _ = _
                            unfold partsF
                            rw [HS.out, HH.out, HC3.out, h1]
                            rfl
                          go_wp2_with fail
                          refine (l3fault_any 4 k4 j _).mono ?_
                          rintro e w9 ⟨rfl, hw9⟩
                          have B9 := B8.trans (hw9.mono B8.size)
                          have r9 := (R8.later hw9).cell
                          have f9 := (R8.later hw9).frozen
                          go_wp2_with fail
                          refine bodyPost_ret (v := .agg #[.int .i64 4, .int .i64 k4, .int .i64 j]) ?_ rfl ⟨?_, ?_⟩
                          · simp [results, Tryz.results61, go_sem, r9]
                          · rw [HV.out]; rfl
                          · iterate 3 (refine Below.setCell ?_ (by simp; try omega) _)
                            exact B9
                        · go_wp2_with fail
                          go_roundw
                          case rel => first | exact ⟨j + 1, by omega, by go_num, by show _ = _; rw [HE.out]; rfl, B8, C8, R8, P8⟩ | ((repeat apply Exists.intro); exact ⟨⟨j + 1, by omega, by go_num, by show _ = _; rw [HE.out]; rfl, B8, C8, R8, P8⟩, rfl⟩)
                          case measure => simp [intOf]; omega
                      · have HN : Hid (firstP namedP (k4 + 1) (ps.drop (k4 + 1)) = firstP namedP 0 ps) := by
                          have h1 := HD.out
                          have h3 := HQj.out
                          rw [List.drop_of_length_le (by omega)] at h3
                          have h2 : namedP k4 p = none := h3.symm
                          rw [h2] at h1
                          exact h1.symm
                        clear HQj HD
                        go_wp2_with fail
                        go_roundw
                        case rel => first | exact ⟨k4 + 1, by omega, by go_num, HN.out, hb7, C7, R7⟩ | ((repeat apply Exists.intro); exact ⟨⟨k4 + 1, by omega, by go_num, HN.out, hb7, C7, R7⟩, rfl⟩)
                        case measure => simp [intOf]; omega
                  · have HC4 : Hid (firstP namedP 0 ps = none) := by
                      have h1 := HQ.out
                      rw [List.drop_of_length_le (by omega)] at h1
                      exact h1.symm
                    clear HQ
                    have c5 := C5.cell 0
                    go_wp2_with fail
                    clear c5
                    go_loopw [108] (fun y wi => ∃ k : Nat, k ≤ ps.length ∧ y = .int .i64 k ∧ Hid (firstP (insQ ps.length) k (ps.drop k) = firstP (insQ ps.length) 0 ps) ∧ Below w.heap.size w wi ∧ Blk wi w.heap.size #[.slice ao ps.length cap] 25 ∧ Blk wi (w.heap.size + 1) #[.int .i64 0, .int .i64 0, .int .i64 0] 55) (fun y _ => ps.length - (intOf y).toNat)
                    case atStart => exact ⟨0, Nat.zero_le _, rfl, rfl, hb5, C5, R5⟩
                    case round =>
                      obtain ⟨k5, hk5, rfl, HQ, hb6, C6, R6⟩ := hrel
                      clear hb5 C5 R5
                      by_cases hkl5 : k5 < ps.length
                      · obtain ⟨p, hpk⟩ := some_of_lt hkl5
                        have HD : Hid (firstP (insQ ps.length) 0 ps = _) := HQ.out.symm.trans (firstP_drop hpk)
                        obtain ⟨b, off, e0, _, hbl, h, n0, pin⟩ := hv k5 p hpk
                        obtain ⟨p0, p1, p2, p3, p4, p5, p6, p7, p8⟩ := n0.later hb6 hbl
                        have hz1 := hfi.few p (List.mem_of_getElem? hpk)
                        have hz2 := hz1.ins
                        have hrg := HRg.out p (List.mem_of_getElem? hpk)
                        have Bw := hb6.alloc hb6.size (.cells #[.string p.name, .int .i64 p.line, .int .i64 p.params, .bool p.rest, .int .i64 p.regs, .slice h.uo p.ups.length h.uc, .slice h.co p.consts.length h.cc, .slice h.io p.ins.length h.ic, .slice h.no p.named.length h.nc] 43)
                        have C7 := C6.alloc (.cells #[.string p.name, .int .i64 p.line, .int .i64 p.params, .bool p.rest, .int .i64 p.regs, .slice h.uo p.ups.length h.uc, .slice h.co p.consts.length h.cc, .slice h.io p.ins.length h.ic, .slice h.no p.named.length h.nc] 43)
                        have R7 := R6.alloc (.cells #[.string p.name, .int .i64 p.line, .int .i64 p.params, .bool p.rest, .int .i64 p.regs, .slice h.uo p.ups.length h.uc, .slice h.co p.consts.length h.cc, .slice h.io p.ins.length h.ic, .slice h.no p.named.length h.nc] 43)
                        clear C6 R6 HQ
                        have hao : ao = some ⟨b, off, none⟩ := e0
                        clear e0
                        subst hao
                        by_cases hi0 : p.ins.length = 0
                        · have i0 : ((p.ins.length : Int) == 0) = true := beq_iff_eq.2 (by omega)
                          have HV : Hid (partsF ps = (5, (k5 : Int), 0)) := by
                            have h1 := HD.out
                            have h2 : insQ ps.length k5 p = some 0 := by unfold insQ; rw [if_pos hi0]
                            rw [h2] at h1
                            show _ = _
                            unfold partsF
                            rw [HS.out, HH.out, HC3.out, HC4.out, h1]
                            rfl
                          clear hi0
                          go_wp2_with fail
                          refine (l3fault_any 5 k5 0 _).mono ?_
                          rintro e w9 ⟨rfl, hw9⟩
                          have B9 := Bw.trans (hw9.mono Bw.size)
                          have r9 := (R7.later hw9).cell
                          have f9 := (R7.later hw9).frozen
                          go_wp2_with fail
                          refine bodyPost_ret (v := .agg #[.int .i64 5, .int .i64 k5, .int .i64 0]) ?_ rfl ⟨?_, ?_⟩
                          · simp [results, Tryz.results61, go_sem, r9]
                          · rw [HV.out]; rfl
                          · iterate 3 (refine Below.setCell ?_ (by simp; try omega) _)
                            exact B9
                        · have i0 : ((p.ins.length : Int) == 0) = false := beq_eq_false_iff_ne.2 (by omega)
                          have HI0 : Hid (¬ p.ins.length = 0) := hi0
                          clear hi0
                          go_wp2_with fail
                          clear p0 p1 p2 p3 p4 p5 p6 p7 p8 hb6 n0
                          generalize hPB : wr.heap.size = PB at *
                          clear hPB
                          go_loopw [122] (fun y wi => ∃ j : Nat, j ≤ p.ins.length ∧ y = .int .i64 j ∧ Hid (firstBad (insB ps.length p) j (p.ins.drop j) = firstBad (insB ps.length p) 0 p.ins) ∧ Below w.heap.size w wi ∧ Blk wi w.heap.size #[.slice (some ⟨b, off, none⟩) ps.length cap] 25 ∧ Blk wi (w.heap.size + 1) #[.int .i64 0, .int .i64 0, .int .i64 0] 55) (fun y _ => p.ins.length - (intOf y).toNat)
                          case atStart => exact ⟨0, Nat.zero_le _, rfl, rfl, Bw, C7, R7⟩
                          case round =>
                            obtain ⟨j, hj, rfl, HQj, hb8, C8, R8⟩ := hrel
                            clear Bw C7 R7
                            by_cases hjl : j < p.ins.length
                            · obtain ⟨n, hnj⟩ := some_of_lt hjl
                              have HE : Hid (firstBad (insB ps.length p) 0 p.ins = if insB ps.length p j n then firstBad (insB ps.length p) (j + 1) (p.ins.drop (j + 1)) else some j) := HQj.out.symm.trans (firstBad_drop hnj)
                              have c8 := C8.cell 0
                              have HC : Hid _ := l3insOk_any (some ⟨b, off, none⟩) cap ps k5 p j n wr hpk hnj hz1 hl hrg (hv.later (Keeps.of_below hb8))
                              clear HQj
                              go_wp2_with fail
                              refine Calls.mono (Hid.out HC) ?_
                              rintro e w9 ⟨rfl, hw9⟩
                              have B8 := hb8.trans (hw9.mono hb8.size)
                              have C9 := C8.later hw9
                              have R9 := R8.later hw9
                              clear HC c8 C8 R8 hw9 hb8
                              generalize insB ps.length p j n = cb at *
                              cases cb
                              · have HV : Hid (partsF ps = (5, (k5 : Int), (j : Int))) := by
                                  have h1 := HD.out
                                  have h2 : insQ ps.length k5 p = some j := by unfold insQ; rw [if_neg HI0.out, HE.out]; rfl
                                  rw [h2] at h1
                                  show _ = _
                                  unfold partsF
                                  rw [HS.out, HH.out, HC3.out, HC4.out, h1]
                                  rfl
                                go_wp2_with fail
                                refine (l3fault_any 5 k5 j _).mono ?_
                                rintro e w9 ⟨rfl, hw9⟩
                                have B9 := B8.trans (hw9.mono B8.size)
                                have r9 := (R9.later hw9).cell
                                have f9 := (R9.later hw9).frozen
                                go_wp2_with fail
                                refine bodyPost_ret (v := .agg #[.int .i64 5, .int .i64 k5, .int .i64 j]) ?_ rfl ⟨?_, ?_⟩
                                · simp [results, Tryz.results61, go_sem, r9]
                                · rw [HV.out]; rfl
                                · iterate 3 (refine Below.setCell ?_ (by simp; try omega) _)
                                  exact B9
                              · go_wp2_with fail
                                go_roundw
                                case rel => first | exact ⟨j + 1, by omega, by go_num, by show _ = _; rw [HE.out]; rfl, B8, C9, R9⟩ | ((repeat apply Exists.intro); exact ⟨⟨j + 1, by omega, by go_num, by show _ = _; rw [HE.out]; rfl, B8, C9, R9⟩, rfl⟩)
                                case measure => simp [intOf]; omega
                            · have HN : Hid (firstP (insQ ps.length) (k5 + 1) (ps.drop (k5 + 1)) = firstP (insQ ps.length) 0 ps) := by
                                have h1 := HD.out
                                have h3 := HQj.out
                                rw [List.drop_of_length_le (by omega)] at h3
                                have h2 : insQ ps.length k5 p = none := by unfold insQ; rw [if_neg HI0.out]; exact h3.symm
                                rw [h2] at h1
                                exact h1.symm
                              clear HQj HD
                              go_wp2_with fail
                              go_roundw
                              case rel => first | exact ⟨k5 + 1, by omega, by go_num, HN.out, hb8, C8, R8⟩ | ((repeat apply Exists.intro); exact ⟨⟨k5 + 1, by omega, by go_num, HN.out, hb8, C8, R8⟩, rfl⟩)
                              case measure => simp [intOf]; omega
                      · have HC5 : Hid (firstP (insQ ps.length) 0 ps = none) := by
                          have h1 := HQ.out
                          rw [List.drop_of_length_le (by omega)] at h1
                          exact h1.symm
                        have HV : Hid (partsF ps = (0, 0, 0)) := by
                          show _ = _
                          unfold partsF
                          rw [HS.out, HH.out, HC3.out, HC4.out, HC5.out]
                          rfl
                        clear HQ
                        have r6 := R6.cell
                        have f6 := R6.frozen
                        go_wp2_with fail
                        refine bodyPost_ret (v := .agg #[.int .i64 0, .int .i64 0, .int .i64 0]) ?_ rfl ⟨?_, ?_⟩
                        · simp [results, Tryz.results61, go_sem, r6]
                        · rw [HV.out]; rfl
                        · iterate 3 (refine Below.setCell ?_ (by simp; try omega) _)
                          exact hb6
      · have HV : Hid (partsF ps = (1, 0, 0)) := by show _ = _; unfold partsF; rw [if_neg hsz]
        have hsz2 : ps.length = 0 ∨ (1 ≤ ps.length ∧ 200 < ps.length) ∨ ((1 ≤ ps.length ∧ ps.length ≤ 200) ∧ 6000 < (q : Int)) := by rw [E0.out] at hsz; simp [inR] at hsz; omega
        clear hsz E0 hv hfi
        rcases hsz2 with h0 | ⟨g1, g2⟩ | ⟨⟨g1, g2⟩, g3⟩
        · have k0 : ((ps.length : Int) == 0) = true := beq_iff_eq.2 (by omega)
          go_wp2_with fail
          refine (l3fault_any 1 0 0 _).mono ?_
          rintro e w9 ⟨rfl, hw9⟩
          have B9 := hb.trans (hw9.mono hb.size)
          have r9 := (R1.later hw9).cell
          have f9 := (R1.later hw9).frozen
          go_wp2_with fail
          refine bodyPost_ret (v := .agg #[.int .i64 1, .int .i64 0, .int .i64 0]) ?_ rfl ⟨?_, ?_⟩
          · simp [results, Tryz.results61, go_sem, r9]
          · rw [HV.out]; rfl
          · iterate 3 (refine Below.setCell ?_ (by simp; try omega) _)
            exact B9

        · have k0 : ((ps.length : Int) == 0) = false := beq_eq_false_iff_ne.2 (by omega)
          go_wp2_with fail
          refine (l3fault_any 1 0 0 _).mono ?_
          rintro e w9 ⟨rfl, hw9⟩
          have B9 := hb.trans (hw9.mono hb.size)
          have r9 := (R1.later hw9).cell
          have f9 := (R1.later hw9).frozen
          go_wp2_with fail
          refine bodyPost_ret (v := .agg #[.int .i64 1, .int .i64 0, .int .i64 0]) ?_ rfl ⟨?_, ?_⟩
          · simp [results, Tryz.results61, go_sem, r9]
          · rw [HV.out]; rfl
          · iterate 3 (refine Below.setCell ?_ (by simp; try omega) _)
            exact B9

        · have k0 : ((ps.length : Int) == 0) = false := beq_eq_false_iff_ne.2 (by omega)
          go_wp2_with fail
          refine (l3fault_any 1 0 0 _).mono ?_
          rintro e w9 ⟨rfl, hw9⟩
          have B9 := hb.trans (hw9.mono hb.size)
          have r9 := (R1.later hw9).cell
          have f9 := (R1.later hw9).frozen
          go_wp2_with fail
          refine bodyPost_ret (v := .agg #[.int .i64 1, .int .i64 0, .int .i64 0]) ?_ rfl ⟨?_, ?_⟩
          · simp [results, Tryz.results61, go_sem, r9]
          · rw [HV.out]; rfl
          · iterate 3 (refine Below.setCell ?_ (by simp; try omega) _)
            exact B9
end Go.Proofs.YtmfippfnhcphhaaGreatDoor
