import Derived.Test.YtmfippfnhcphhaaGreatDoorC11
import Derived.Test.YtmfippfnhcphhaaGreatDoorC29
import Derived.Test.YtmfippfnhcphhaaGreatDoorC50
import Derived.Test.YtmfippfnhcphhaaGreatDoorC05
import Derived.Deep.RegionHeld3
import Derived.Test.YtmfippfnhcphhaaGreatDoorCards
import Derived.Test.YtmfippfnhcphhaaGreatDoorTie
import Derived.WalkKit
import Derived.ProofKit
import Derived.OpenShut
import Derived.OpenVars
import Derived.Deep.DeepHandedRow
import Derived.Lib.LaidTab
namespace Go.Proofs.YtmfippfnhcphhaaGreatDoor
open Go.RowKit Go.Deep

theorem ProtosAt.lower0 {lo : Nat} {w : World} {ao : Option Addr} {xs : List Pd} (h : ProtosAt lo w ao xs) : ProtosAt 0 w ao xs := by
  intro i x hx
  obtain ⟨b, off, e, h1, hs, g, ha, hp⟩ := h i x hx
  exact ⟨b, off, e, Nat.zero_le _, hs, g, ha, hp.lower (Nat.zero_le _)⟩
theorem fine_of {ps : List Pd} (hb : bulkPs ps ≤ 1048576) (hg : ∀ p ∈ ps, PdIn p) : Fine ps := by
  refine ⟨hb, fun p hp => ?_, fun p hp => (hg p hp).flts, fun p hp => (hg p hp).nds⟩
  have h1 : bulkP p ≤ sumL bulkP ps := sumL_mem hp
  unfold bulkPs at hb
  generalize sumL bulkP ps = S at *
  unfold bulkP bulkVs bulkMs at h1
  exact ⟨by omega, by omega, by omega, by omega⟩
set_option maxRecDepth 100000 in
set_option maxHeartbeats 8000000 in
theorem checkLaw_any (ao : Option Addr) (cap : Nat) (ps : List Pd) (w : World) (hm : ps.length ≤ 9223372036854775807) (hg : ∀ p ∈ ps, PdIn p) (hF : Forms w) (hv : ProtosAt 0 w ao ps) :
    Calls Tryz.prog 4 #[.agg #[.slice ao ps.length cap]] w fun e w' => e = .returned (.bool true) ∧ Below w.heap.size w w' := by
  have C0 := Blk.new w #[.slice ao ps.length cap] 52
  have B0 := below_al (Below.refl w.heap.size w) (.cells #[.slice ao ps.length cap] 52)
  have hsz := szCode_any ao cap ps 1048576 (w.alloc (.cells #[.slice ao ps.length cap] 52)) (by omega) (by omega) hm (fun p hp => (hg p hp).sz) (hv.later (Keeps.of_below B0))
  by_cases hn : bulkPs ps ≤ 1048576
  · have FI := fine_of hn hg
    have hps : ps.length ≤ 1048576 := by unfold bulkPs at hn; omega
    rw [szN_pos (by omega)] at hsz
    obtain ⟨q, hq⟩ : ∃ q : Nat, (q : Int) = 1048576 - (bulkPs ps : Int) := ⟨(1048576 - bulkPs ps), by omega⟩
    rw [← hq] at hsz
    have HSZ : Hid (∀ _ : Unit, _) := fun _ => hsz
    have HTO : Hid (∀ W, Below w.heap.size w W → Calls Tryz.prog 14 #[.agg #[.slice ao ps.length cap]] W fun e w' => ∃ g, e = .returned (.agg #[.slice (some ⟨g, 0, none⟩) ps.length ps.length]) ∧ ProtosAt 0 w' (some ⟨g, 0, none⟩) ps ∧ Below W.heap.size W w') := fun W hb => (toCode_any ao cap ps W hps FI.few (hv.later (Keeps.of_below hb))).mono fun e w' ⟨g, h1, h2, h3⟩ => ⟨g, h1, ProtosAt.lower0 h2, h3⟩
    have HFI : Hid (Fine ps) := FI
    have HF : Hid (Forms w) := hF
    obtain ⟨⟨f0, f1, f2⟩, hf⟩ : ∃ f, f = checkF ps := ⟨_, rfl⟩
    have HSP : Hid (∀ g W, ProtosAt 0 W (some ⟨g, 0, none⟩) ps → Calls Tryz.prog 13 #[.agg #[.slice (some ⟨g, 0, none⟩) ps.length ps.length]] W fun e w' => e = .returned (.agg #[.int .i64 f0, .int .i64 f1, .int .i64 f2]) ∧ Below W.heap.size W w') := fun g W hp => by have := specCheckCode_any (some ⟨g, 0, none⟩) ps.length ps W HFI.out hp; rw [← hf] at this; exact this
    have HIM : Hid (∀ g W, Below w.heap.size w W → ProtosAt 0 W (some ⟨g, 0, none⟩) ps → Calls Tryz.prog 15 #[.agg #[.slice (some ⟨g, 0, none⟩) ps.length ps.length]] W fun e w' => e = .returned (.agg #[.int .i64 f0, .int .i64 f1, .int .i64 f2]) ∧ Below W.heap.size W w') := fun g W hb hp => by have := implCheckCode_any (some ⟨g, 0, none⟩) ps.length ps W HFI.out (HF.out.later hb) hp; rw [← hf] at this; exact this
    have HEQ : Hid (∀ g k W, ProtosAt 0 W (some ⟨g, 0, none⟩) ps → ProtosAt 0 W (some ⟨k, 0, none⟩) ps → Calls Tryz.prog 17 #[.agg #[.slice (some ⟨g, 0, none⟩) ps.length ps.length], .agg #[.slice (some ⟨k, 0, none⟩) ps.length ps.length]] W fun e w' => e = .returned (.bool true) ∧ Below W.heap.size W w') := fun g k W h1 h2 => eqCode_any (some ⟨g, 0, none⟩) (some ⟨k, 0, none⟩) ps.length ps.length ps W hps HFI.out.few HFI.out.flts h1 h2
    have q0 : ¬ (q : Int) < 0 := by omega
    clear hsz hf hn hg hF hv FI hm hq
    go_enter Tryz.func4, Tryz.ntmps4
    have c0 := C0.cell 0
    go_wp2_with fail
    refine (HSZ.out ()).mono ?_
    rintro e w1 ⟨rfl, hw1⟩
    have B1 := B0.trans (hw1.mono B0.size)
    have C1 := C0.later hw1
    clear hw1 B0 C0 c0 HSZ
    have c1 := C1.cell 0
    go_wp2_with fail
    refine (HTO.out w1 B1).mono ?_
    rintro e w2 ⟨g2, rfl, P2, hw2⟩
    have B2 := B1.trans (hw2.mono B1.size)
    have C2 := C1.later hw2
    clear hw2 B1 C1 c1
    go_wp2_with fail
    refine (HSP.out g2 w2 P2).mono ?_
    rintro e w3 ⟨rfl, hw3⟩
    have A3 := below_al (Below.refl w3.heap.size w3) (.cells #[.int .i64 f0, .int .i64 f1, .int .i64 f2] 55)
    have B3 := B2.trans (hw3.mono B2.size)
    have B4 := B3.trans (A3.mono B3.size)
    have C4 := (C2.later hw3).later A3
    have F4 := Blk.new w3 #[.int .i64 f0, .int .i64 f1, .int .i64 f2] 55
    clear hw3 B2 B3 C2 P2 A3 HSP
    have c4 := C4.cell 0
    go_wp2_with fail
    generalize w3.alloc (.cells #[.int .i64 f0, .int .i64 f1, .int .i64 f2] 55) = w4 at *
    refine (HTO.out w4 B4).mono ?_
    rintro e w5 ⟨g5, rfl, P5, hw5⟩
    have A5 := below_al (Below.refl w5.heap.size w5) (.cells #[.slice (some ⟨g5, 0, none⟩) ps.length ps.length] 25)
    have B5 := B4.trans (hw5.mono B4.size)
    have B6 := B5.trans (A5.mono B5.size)
    have C6 := (C4.later hw5).later A5
    have F6 := (F4.later hw5).later A5
    have P6 : ProtosAt 0 _ _ ps := P5.later (Keeps.of_below A5)
    have K6 := Blk.new w5 #[.slice (some ⟨g5, 0, none⟩) ps.length ps.length] 25
    have HP6 : Hid _ := P6
    clear hw5 B4 B5 C4 F4 P5 A5 c4 P6
    have k6 := K6.cell 0
    go_wp2_with fail
    generalize w5.alloc (.cells #[.slice (some ⟨g5, 0, none⟩) ps.length ps.length] 25) = w6 at *
    refine (HIM.out g5 w6 B6 HP6.out).mono ?_
    rintro e w7 ⟨rfl, hw7⟩
    have A7 := below_al (Below.refl w7.heap.size w7) (.cells #[.int .i64 f0, .int .i64 f1, .int .i64 f2] 55)
    have B7 := B6.trans (hw7.mono B6.size)
    have B8 := B7.trans (A7.mono B7.size)
    have C8 := (C6.later hw7).later A7
    have F8 := (F6.later hw7).later A7
    have K8 := (K6.later hw7).later A7
    have G8 := Blk.new w7 #[.int .i64 f0, .int .i64 f1, .int .i64 f2] 55
    have HP8 : Hid (ProtosAt 0 (w7.alloc (.cells #[.int .i64 f0, .int .i64 f1, .int .i64 f2] 55)) (some ⟨g5, 0, none⟩) ps) := (ProtosAt.later HP6.out (Keeps.of_below hw7)).later (Keeps.of_below A7)
    clear hw7 B6 B7 C6 F6 K6 k6 A7 HP6 HIM
    have f8 := F8.cell
    have g8 := G8.cell
    go_wp2_with fail
    generalize w7.alloc (.cells #[.int .i64 f0, .int .i64 f1, .int .i64 f2] 55) = w8 at *
    refine (eqFault_any f0 f1 f2 w8).mono ?_
    rintro e w9 ⟨rfl, hw9⟩
    have B9 := B8.trans (hw9.mono B8.size)
    have C9 := C8.later hw9
    have K9 := K8.later hw9
    have HP9 : Hid (ProtosAt 0 w9 (some ⟨g5, 0, none⟩) ps) := ProtosAt.later HP8.out (Keeps.of_below hw9)
    clear hw9 B8 C8 F8 K8 G8 f8 g8 HP8
    have c9 := C9.cell 0
    have k9 := K9.cell 0
    go_wp2_with fail
    have Dd : Below w9.heap.size w9 w9.drew := (Below.refl _ _).drew
    have Cd := C9.later Dd
    have Kd := K9.later Dd
    have HPd : Hid (ProtosAt 0 w9.drew (some ⟨g5, 0, none⟩) ps) := ProtosAt.later HP9.out (Keeps.of_below Dd)
    go_region_held3 (fun w' => w'.cell? ⟨w.heap.size, 0, none⟩ = some (.slice ao ps.length cap) ∧ w'.cell? ⟨w5.heap.size, 0, none⟩ = some (.slice (some ⟨g5, 0, none⟩) ps.length ps.length)) (go_keep)
      (first
        | (go_at_call 14; refine (HTO.out w9.drew B9.drew).mono ?_; rintro e wa ⟨ga, rfl, Pa, hwa⟩; have ca := (Cd.later hwa).cell 0; have ka := (Kd.later hwa).cell 0; have HPa : Hid (ProtosAt 0 wa (some ⟨ga, 0, none⟩) ps) := Pa)
        | (go_at_call 17; refine (HEQ.out g5 ga wa (ProtosAt.later HPd.out (Keeps.of_below hwa)) HPa.out).mono ?_; rintro e wb ⟨rfl, hwb⟩; have cb := ((Cd.later hwa).later hwb).cell 0; have kb := ((Kd.later hwa).later hwb).cell 0))
    go_wp2_with fail
    go_ret
    exact ⟨rfl, (B9.drew.trans (hwa.mono B9.drew.size)).trans (hwb.mono (Nat.le_trans B9.drew.size hwa.size))⟩
  · rw [szN_neg (by omega)] at hsz
    have HSZ : Hid (∀ _ : Unit, _) := fun _ => hsz
    clear hsz hn hg hF hv hm
    go_enter Tryz.func4, Tryz.ntmps4
    have c0 := C0.cell 0
    go_wp2_with fail
    refine (HSZ.out ()).mono ?_
    rintro e w1 ⟨rfl, hw1⟩
    have B1 := B0.trans (hw1.mono B0.size)
    clear c0 C0
    go_wp2_with fail
    go_ret
    exact ⟨rfl, B1⟩
end Go.Proofs.YtmfippfnhcphhaaGreatDoor

namespace Go.Proofs.YtmfippfnhcphhaaGreatDoor
open Go.ChangeShapes Go.WideShapes Go.ChangeAt Go.RowKit

theorem Tryz.own : ownKnob Tryz.prog.godebug = none := by kernel_rfl
theorem Tryz.laidOut : laidOutB Tryz.prog = true := by kernel_rfl
theorem gForms : Tryz.prog.globalNamed "loop.example/loom/impl.forms" = some 1 := by kernel_rfl
theorem gFormsType : (Tryz.prog.globals[1]?).map (·.type) = some 270 := by kernel_rfl
theorem cells1_role : Tryz.prog.cellsOf 267 = 1 := by kernel_rfl
theorem cells_form : Tryz.prog.cellsOf 269 = 4 := by kernel_rfl
theorem cells_forms : Tryz.prog.cellsOf 270 = 172 := by kernel_rfl
theorem cells1_protos : Tryz.prog.cellsOf 50 = 1 := by kernel_rfl
theorem cells_code : Tryz.prog.cellsOf 52 = 1 := by kernel_rfl

def rowD {H : Type} (r : List Nat) : DataW H := .agg (r.map fun (z : Nat) => .lit (.int .i64 z))
theorem laid_rows {H : Type} : (Rows.laid_loop_example_loom_impl_forms : DataW H) = .agg (formTab.map rowD) := by kernel_rfl
set_option maxRecDepth 100000 in
/-- What reads as the table holds the table's numbers. -/
theorem forms_of {W : World} {fuel : Nat} {cs : List Value} {p : List MemPlace} (h : DataW.trod (fun _ => ()) Tryz.prog W 0 (fun _ => true) false fuel 270 cs = some (Rows.laid_loop_example_loom_impl_forms, p)) (op j r : Nat) (hr : (formOf op)[j]? = some r) :
    cs[op * 4 + j]? = some (.int .i64 r) := by
  rw [laid_rows] at h
  cases fuel with
  | zero => simp [DataW.trod] at h
  | succ fuel =>
    simp only [DataW.trod, Tryz.underlying270, cells_form, cells_forms] at h
    split at h
    · obtain ⟨xs, hm, hx⟩ := Option.map_eq_some_iff.1 h
      have hxs : xs.map (·.1) = formTab.map rowD := by
        have h1 := congrArg Prod.fst hx
        exact DataW.agg.inj h1
      have hop : op < 43 := by
        apply Classical.byContradiction
        intro hc
        have hlen : formTab.length = 43 := rfl
        have h0 : formOf op = [] := by unfold formOf; rw [List.getD_eq_getElem?_getD, List.getElem?_eq_none (by omega)]; rfl
        rw [h0] at hr
        simp at hr
      obtain ⟨b, hb, hf⟩ := Lib.mapM_at hm op op (by simp [hop])
      have hft : formTab[op]? = some (formOf op) := by
        unfold formOf
        have hlen : formTab.length = 43 := rfl
        rw [List.getD_eq_getElem?_getD, List.getElem?_eq_getElem (by omega)]
        rfl
      have h2 : b.1 = rowD (formOf op) := by
        have h1 : (xs.map (·.1))[op]? = some b.1 := by rw [List.getElem?_map, hb]; rfl
        rw [hxs, List.getElem?_map, hft] at h1
        exact (Option.some.inj h1).symm
      obtain ⟨r0, r1, r2, r3, hfo, _⟩ := form_four (n := op) (by omega)
      obtain ⟨ys, n, _, hy, _, hyl, hfld⟩ := DataW.trod_struct Tryz.underlying269 hf
      have h3 : ys.map (·.1) = [r0, r1, r2, r3].map fun (z : Nat) => (DataW.lit (.int .i64 z) : DataW Unit) := by
        rw [hy, hfo] at h2
        exact DataW.agg.inj h2
      simp only [List.size_toArray, List.length_cons, List.length_nil] at hyl
      have f0 := hfld 0 _ rfl
      simp [cells1_role] at f0
      rw [List.getElem?_eq_getElem (by omega)] at f0
      obtain ⟨z0, e0, y0, _⟩ := DataW.trod_int Tryz.underlying267 f0
      have k0 : cs[op * 4 + 0]? = some (.int .i64 z0) := by
        have h5 := congrArg (·[0]?) e0
        simpa [List.getElem?_take, List.getElem?_drop] using h5
      have l0 : (ys.map (·.1))[0]? = some (.lit (.int .i64 z0)) := by
        rw [List.getElem?_map, List.getElem?_eq_getElem (by omega), y0]; rfl
      rw [h3] at l0
      simp only [List.map_cons, List.map_nil, List.getElem?_cons_zero, Option.some.injEq, DataW.lit.injEq, Lit.int.injEq, true_and] at l0
      have f1 := hfld 1 _ rfl
      simp [cells1_role] at f1
      rw [List.getElem?_eq_getElem (by omega)] at f1
      obtain ⟨z1, e1, y1, _⟩ := DataW.trod_int Tryz.underlying267 f1
      have k1 : cs[op * 4 + 1]? = some (.int .i64 z1) := by
        have h5 := congrArg (·[0]?) e1
        simpa [List.getElem?_take, List.getElem?_drop] using h5
      have l1 : (ys.map (·.1))[1]? = some (.lit (.int .i64 z1)) := by
        rw [List.getElem?_map, List.getElem?_eq_getElem (by omega), y1]; rfl
      rw [h3] at l1
      simp only [List.map_cons, List.map_nil, List.getElem?_cons_zero, List.getElem?_cons_succ, Option.some.injEq, DataW.lit.injEq, Lit.int.injEq, true_and] at l1
      have f2 := hfld 2 _ rfl
      simp [cells1_role] at f2
      rw [List.getElem?_eq_getElem (by omega)] at f2
      obtain ⟨z2, e2, y2, _⟩ := DataW.trod_int Tryz.underlying267 f2
      have k2 : cs[op * 4 + 2]? = some (.int .i64 z2) := by
        have h5 := congrArg (·[0]?) e2
        simpa [List.getElem?_take, List.getElem?_drop] using h5
      have l2 : (ys.map (·.1))[2]? = some (.lit (.int .i64 z2)) := by
        rw [List.getElem?_map, List.getElem?_eq_getElem (by omega), y2]; rfl
      rw [h3] at l2
      simp only [List.map_cons, List.map_nil, List.getElem?_cons_zero, List.getElem?_cons_succ, Option.some.injEq, DataW.lit.injEq, Lit.int.injEq, true_and] at l2
      have f3 := hfld 3 _ rfl
      simp [cells1_role] at f3
      rw [List.getElem?_eq_getElem (by omega)] at f3
      obtain ⟨z3, e3, y3, _⟩ := DataW.trod_int Tryz.underlying267 f3
      have k3 : cs[op * 4 + 3]? = some (.int .i64 z3) := by
        have h5 := congrArg (·[0]?) e3
        simpa [List.getElem?_take, List.getElem?_drop] using h5
      have l3 : (ys.map (·.1))[3]? = some (.lit (.int .i64 z3)) := by
        rw [List.getElem?_map, List.getElem?_eq_getElem (by omega), y3]; rfl
      rw [h3] at l3
      simp only [List.map_cons, List.map_nil, List.getElem?_cons_zero, List.getElem?_cons_succ, Option.some.injEq, DataW.lit.injEq, Lit.int.injEq, true_and] at l3
      rw [hfo] at hr
      match j, hr with
      | 0, hr => simp at hr; rw [k0, ← l0, hr]
      | 1, hr => simp at hr; rw [k1, ← l1, hr]
      | 2, hr => simp at hr; rw [k2, ← l2, hr]
      | 3, hr => simp at hr; rw [k3, ← l3, hr]
      | j + 4, hr => simp at hr
    · cases h
/-- What the row's list gives. -/
theorem forms_at {W : World} (h : laidMetH Tryz.prog Rows.fnExactCheckCodeRow.laid W) : Forms W := by
  have h1 : laidMet Tryz.prog [("loop.example/loom/impl.forms", Rows.laid_loop_example_loom_impl_forms)] W := h
  obtain ⟨_, ⟨g, t, cs, fuel, p, q, hg, ht, hvar, htr, _⟩, _⟩ := h1
  obtain rfl : g = 1 := (Option.some.inj (gForms.symm.trans hg)).symm
  obtain rfl : t = 270 := (Option.some.inj (gFormsType.symm.trans ht)).symm
  have hc : ∀ (op j r : Nat), (formOf op)[j]? = some r → W.cell? ⟨1, op * 4 + j, none⟩ = some (.int .i64 r) := fun op j r hr => by
    rw [World.var?_cell gForms hvar, ← Array.getElem?_toList]
    exact forms_of htr op j r hr
  exact ⟨World.block_lt_of_cell? _ _ (hc 0 0 0 rfl), hc⟩
theorem array1 {α : Type} {cs : Array α} (h : cs.size = 1) : ∃ c0, cs = #[c0] := by
  obtain ⟨l⟩ := cs
  match l, h with
  | [c0], _ => exact ⟨c0, rfl⟩

set_option maxRecDepth 100000 in
theorem checkContract (H : Type) (enc : TypeId × Value → H) (W : World) (base : Nat) (args : Array Value) (ds gs : List (DataW H)) (before : List MemPlace)
    (hval0 : ∀ (j : Nat) t v, Tryz.f4.params[j]? = some t → args[j]? = some v → Value.okWide Tryz.prog W .any base t v)
    (hW : DataW.Whole enc Tryz.prog Tryz.f4.params.toList Rows.fnExactCheckCodeSpec.vars false W args.toList ds gs before) (hL : laidMetH Tryz.prog Rows.fnExactCheckCodeRow.laid W) :
    Calls Tryz.prog 4 args W fun e W' => ∃ v, e = .returned v ∧ Rows.fnExactCheckCodeSpec.post enc Tryz.prog Tryz.f4 false true false false W args v W' := by
  have hval := hval0
  have hW' := hW
  obtain ⟨p, q, hA0, hV, rfl, hfz, hnd⟩ := hW
  have hA : DataW.TrodAll enc Tryz.prog W 0 (fun _ => true) true Tryz.f4.params.toList args.toList ds p := hA0
  rw [Tryz.params4] at hA hval
  obtain ⟨v0, d0, rfl, rfl, h0⟩ := trodAll_one hA
  have hV1 : DataW.TrodVars enc Tryz.prog W (fun _ => true) ["loop.example/loom/impl.forms"] gs q := hV
  obtain ⟨_, _, _, _, dv, _, rfl, _, _, _, _, _⟩ := trodVars_one hV1
  obtain ⟨cs, rfl, hsz⟩ := okWide_struct Tryz.underlying52 (hval 0 52 v0 rfl rfl)
  obtain ⟨x0, rfl⟩ := array1 (hsz.trans cells_code)
  have h0k := h0
  obtain ⟨fuel, hf⟩ := h0
  obtain ⟨xs, n, _, hx, _, hlen, hfld⟩ := DataW.trod_struct Tryz.underlying52 hf
  clear hA0 hval0 hval
  have hlt : ∀ x ∈ p, x.block < W.heap.size := fun x hx => by simpa using hW'.lt x (List.mem_append_left _ hx)
  have f0 := hfld 0 _ rfl
  simp [Value.cells, cells1_protos] at f0
  simp only [List.size_toArray, List.length_cons, List.length_nil] at hlen
  rw [List.getElem?_eq_getElem (by omega)] at f0
  obtain ⟨ao, cap, ps, rfl, hm, hg, hv⟩ := code_of f0
  clear hfld hf hx f0
  refine (checkLaw_any ao cap ps W hm hg (forms_at hL) hv).mono fun e W' ⟨he, hb⟩ => ?_
  subst he
  refine ⟨_, rfl, _, _, _, [], p, q, hW', ?_, ?_, ?_, hb.frame _, fun h => by cases h⟩
  · exact trodAll_mk1 (shut_bool Tryz.underlying4 true)
  · exact trodAll_mk1 (Below.trod Tryz.laidOut (by kernel_rfl) (of_decide_eq_true (by kernel_rfl)) h0k hb hlt)
  · exact Below.trodVars Tryz.laidOut hb (by kernel_rfl) hV

/-- A world for the witness: the settled one, the table holding what its initialiser lays. -/
noncomputable def laidWorld (os : Os) : World :=
  { World.holding Tryz.prog os ⟨#[], #[], []⟩ with heap := (World.holding Tryz.prog os ⟨#[], #[], []⟩).heap.modify 1 fun
      | .cells _ t frozen => .cells (formTab.flatMap fun r => r.map fun (z : Nat) => Value.int .i64 z).toArray t frozen
      | o => o }
theorem laid_met (os : Os) : laidMet Tryz.prog Rows.fnExactCheckCodeRow.laid ((laidWorld os).forCall (fun _ _ => 0) ⟨#[], #[.agg #[.slice none 0 0]], []⟩).memory :=
  laidMet_of_run' 8 (by kernel_rfl) (by kernel_rfl)
theorem reads (os : Os) {H : Type} (enc : TypeId × Value → H) : ∃ places, DataW.whole enc Tryz.prog ((laidWorld os).forCall (fun _ _ => 0) ⟨#[], #[.agg #[.slice none 0 0]], []⟩).memory Tryz.f4.params.toList Rows.fnExactCheckCodeSpec.vars false #[Value.agg #[.slice none 0 0]].toList 8 = some ([.agg [.nil]], [Rows.laid_loop_example_loom_impl_forms], places) :=
  ⟨MemPlace.row ⟨1, 0, none⟩ 172, by kernel_rfl⟩

set_option maxRecDepth 100000 in
theorem checkLifted (os : Os) (started : os.Started) (H : Type) (enc : TypeId × Value → H) (F : Stop.Interp) :
    ReturnsInHanded {} Tryz.checked os 4 .any ((OpenSpec.ofChange Rows.fnExactCheckCodeSpec).preRow enc Tryz.prog Tryz.f4 Rows.fnExactCheckCodeRow.domain false Rows.fnExactCheckCodeRow.laid) (((OpenSpec.ofChange Rows.fnExactCheckCodeSpec).at F).post enc Tryz.prog Tryz.f4 false true false false) := by
  obtain ⟨places, hx⟩ := reads os enc
  refine returnsInHanded_of_row (C := Tryz.checked) (s := OpenSpec.ofChange Rows.fnExactCheckCodeSpec) Tryz.own started (by kernel_rfl) Tryz.func4
    (witness_row_at (enc := enc) (C := Tryz.checked) false (laidWorld os) #[.agg #[.slice none 0 0]] rfl (by kernel_rfl) (by kernel_rfl) (by kernel_rfl)
      (OpenSpec.preRow_of_cond 8 hx (by kernel_rfl) (fun k hk => by cases hk) (by kernel_rfl) (laid_met os))) ?_
  intro W base args ds gs before hval hW _ _ _ hL _ _
  exact checkContract H enc W base args ds gs before hval hW hL

theorem checkSaid : Rows.FnExactCheckCodeSaid :=
  OpenClaim.holds_of_cond 4 Tryz.f4 rfl rfl rfl rfl rfl rfl rfl ⟨rfl, rfl, rfl, rfl, rfl⟩ rfl rfl rfl rfl rfl (by kernel_rfl) Tryz.func4 (by kernel_rfl)
    (of_decide_eq_true (by kernel_rfl)) (by unfold Func.isWrapper; first | (rw [if_pos (by decide +kernel)]; kernel_rfl) | (rw [if_neg (by decide +kernel)]; exact ⟨rfl, rfl⟩))
    (fun os started H enc _ F => by rw [OpenClaim.pre_eq_preRow]; exact checkLifted os started H enc F)

theorem checkPlain (f : FuncId) (fn : Func) (hf : Tryz.pinned.checked.prog.funcNamed "loop.example/loom/laws.FnExactCheckCode" = some f) (hfn : Tryz.pinned.checked.prog.funcs[f]? = some fn) :
    true = Tryz.pinned.checked.prog.looks [] ∧ ∀ (j : Nat) t, fn.params[j]? = some t → Tryz.pinned.checked.prog.wantsStandIn t = false := by
  obtain rfl : f = 4 := Option.some.inj ((show Tryz.prog.funcNamed "loop.example/loom/laws.FnExactCheckCode" = some 4 by kernel_rfl).symm.trans hf) |>.symm
  obtain rfl : fn = Tryz.f4 := (Option.some.inj (Tryz.func4.symm.trans hfn)).symm
  refine ⟨by kernel_rfl, fun j t ht => ?_⟩
  rw [Tryz.params4] at ht
  obtain rfl : t = 52 := by simpa using Array.mem_of_getElem? ht
  exact (show Tryz.prog.wantsStandIn 52 = false by kernel_rfl)

theorem checkCode_holds : Rows.FnExactCheckCodeCardSaid :=
  Claim7.holds_tied_plain_at .later [] _ _ _ _ checkSaid (fun _ h => by cases h) (by kernel_rfl) (fun _ h => by cases h) fnExactCheckCode_row_tie rfl ⟨rfl, rfl⟩ (by kernel_rfl) rfl checkPlain (by kernel_rfl)

#print axioms checkCode_holds
end Go.Proofs.YtmfippfnhcphhaaGreatDoor
