import Derived.Test.YtmfippfnhcphhaaGreatDoorC47
import Derived.Test.YtmfippfnhcphhaaGreatDoorC48
import Derived.Test.YtmfippfnhcphhaaGreatDoorC32
namespace Go.Proofs.YtmfippfnhcphhaaGreatDoor
open Go.RowKit Go.Deep


theorem silR_E {p : Pd} {c : Cf} {x y : Nat} : y ∈ silR p c x ↔ c.E p x y := by
  unfold silR Cf.E Sil
  cases hn : p.ins[x]? with
  | none => simp
  | some n =>
    cases hs : c.st x with
    | none => simp
    | some s =>
      simp only [Option.isSome_some, true_and]
      constructor
      · intro h; exact ⟨n, rfl, (sil_eq n x y).1 h⟩
      · rintro ⟨n', e, h⟩
        obtain rfl := Option.some.inj e
        exact (sil_eq n x y).2 h
theorem silR_few {np : Nat} {p : Pd} {c : Cf} (hp : PFit np p) (j : Nat) : (silR p c j).length ≤ 2 ∧ ∀ z ∈ silR p c j, z < p.ins.length := by
  refine ⟨?_, ?_⟩
  · unfold silR
    split
    · unfold silI
      split
      · simp
      · rename_i n _ _ _ _
        rw [List.length_append]
        have h1 : (if (nextB n && n.op != 41) = true then [j + 1] else []).length ≤ 1 := by split <;> simp
        have h2 : (tgtF n).toList.length ≤ 1 := by cases tgtF n <;> simp
        omega
    · simp
  · intro z hz
    obtain ⟨_, n, hn, hy⟩ := silR_E.1 hz
    exact sil_lt hp hn hy
theorem leastC_congr {E F : Nat → Nat → Prop} (h : ∀ a b, E a b ↔ F a b) {N m : Nat} (hl : LeastC E N m) : LeastC F N m := by
  have e : E = F := by funext a b; exact propext (h a b)
  rw [← e]
  exact hl
noncomputable def pcVe : Code := pathC [1, 1, 1, 1, 1] (Tryz.f38.body.getD .skip)
set_option maxRecDepth 1000000 in
set_option maxHeartbeats 8000000 in
theorem vf_end (w0 : World) (B L vb sb db : Nat) (cao : Option Addr) (ccap : Nat) (ps : List Pd) (p : Pd) (h : Ph) (c : Cf) (l pi : Nat) (w W : World) (c0 c2 c3 c4 c6 c8 c9 c10 c11 c12 c13 c14 c15 c16 c17 c18 c19 c20 c21 c22 c23 c24 c25 c26 c27 c28 c29 c30 c31 c32 c33 c34 c35 c36 c37 c38 c39 c40 c41 c42 c43 c44 c45 c46 c47 c48 c49 c50 c51 c52 c53 c54 c55 c56 c57 c58 c59 c60 : Value) (Q : Exit → Act → World → Prop) (hq : ∀ a' w', bodyPost Tryz.prog Tryz.f38 (WkPost w ps p pi) .ret a' w' → Q .ret a' w')
    (X : Vctx w0 B L vb sb db ps p h) (H0 : VfAt L vb sb db cao ccap ps p h W c l) (hb0 : Below w0.heap.size w0 W) (hbw : Below w.heap.size w W) (FL : Blk W (w.heap.size + 1) #[.int .i64 0, .int .i64 0, .int .i64 0] 55) (hwo : walkF ps p (2 * p.ins.length + 2) (startC p) = .ok c) :
    Code.wp Tryz.prog pcVe Q ⟨List.toArray (c0 :: .int .i64 pi :: c2 :: c3 :: c4 :: .pointer (some ⟨w.heap.size + 1, 0, none⟩) :: c6 :: .pointer (some ⟨vb, 0, none⟩) :: c8 :: c9 :: c10 :: c11 :: c12 :: c13 :: c14 :: c15 :: c16 :: c17 :: c18 :: c19 :: c20 :: c21 :: c22 :: c23 :: c24 :: c25 :: c26 :: c27 :: c28 :: c29 :: c30 :: c31 :: c32 :: c33 :: c34 :: c35 :: c36 :: c37 :: c38 :: c39 :: c40 :: c41 :: c42 :: c43 :: c44 :: c45 :: c46 :: c47 :: c48 :: c49 :: c50 :: c51 :: c52 :: c53 :: c54 :: c55 :: c56 :: c57 :: c58 :: c59 :: c60 :: []), []⟩ W := by
  conv => arg 2; whnf
  have HQ : Hid _ := hq
  have HSS : Hid (∀ _ : Unit, _) := fun _ => silentSteps_any w0 B L vb sb db cao ccap ps p h c l W X H0 hb0
  have HWO : Hid _ := hwo
  clear hq hwo
  go_wp2_with fail
  refine (HSS.out ()).mono ?_
  rintro e w1 ⟨⟨gb, rfl, S1⟩, hw1⟩
  have HLC : Hid (∀ _ : Unit, _) := fun _ => leastOnCircle_any p.ins.length gb (gb + 1) (silR p c) w1 X.hz S1 (fun j _ => silR_few X.fit j)
  clear HSS S1
  go_wp2_with fail
  refine (HLC.out ()).mono ?_
  rintro e w2 ⟨⟨m, hm, rfl⟩, hw2⟩
  have hb2 : Below W.heap.size W w2 := hw1.trans (hw2.mono hw1.size)
  have HM : Hid (LeastC (c.E p) p.ins.length m) := leastC_congr (fun a b => silR_E) hm
  have F2 := FL.later hb2
  have H2 := H0.below hb2
  have f2 := F2.cell
  have z2 := F2.frozen
  have v2 := H2.blk.cell
  have HB2 : Hid (Below w.heap.size w w2) := hbw.trans (hb2.mono hbw.size)
  clear HLC hm hw1 hw2 hb2 FL
  by_cases hmN : m = p.ins.length
  · rw [if_pos hmN]
    have HVF : Hid (verF ps p pi = (0, 0, 0)) := verF_none HWO.out (by have := HM.out; rw [hmN] at this; exact this)
    clear hmN
    go_wp2_with fail
    refine HQ.out _ _ (bodyPost_ret (v := .tuple #[.slice (some ⟨sb, 0, none⟩) p.ins.length p.ins.length, .agg #[.int .i64 0, .int .i64 0, .int .i64 0]]) ?_ rfl ⟨⟨.slice (some ⟨sb, 0, none⟩) p.ins.length p.ins.length, ?_⟩, ?_⟩)
    · simp [results, Tryz.results38, go_sem, f2]
    · rw [HVF.out]; rfl
    · iterate 3 (refine Below.setCell ?_ (by simp) _)
      exact HB2.out
  · rw [if_neg hmN]
    have HVF : Hid (verF ps p pi = (14, (pi : Int), (m : Int))) := verF_circ HWO.out HM.out (by have := HM.out.1; omega)
    have km : (0 : Int) ≤ m := by omega
    clear hmN
    go_wp2_with fail
    refine HQ.out _ _ (bodyPost_ret (v := .tuple #[.slice none 0 0, .agg #[.int .i64 14, .int .i64 pi, .int .i64 m]]) ?_ rfl ⟨⟨.slice none 0 0, ?_⟩, ?_⟩)
    · simp [results, Tryz.results38, go_sem, f2]
    · rw [HVF.out]; rfl
    · iterate 3 (refine Below.setCell ?_ (by simp) _)
      exact HB2.out
end Go.Proofs.YtmfippfnhcphhaaGreatDoor

namespace Go.Proofs.YtmfippfnhcphhaaGreatDoor
open Go.RowKit Go.Deep


/-- What next has answered. -/
def NxSt (L vb sb db : Nat) (cao : Option Addr) (ccap : Nat) (ps : List Pd) (p : Pd) (h : Ph) (c : Cf) (y : Value) (w : World) : Prop :=
  ∃ l : Nat, l ≤ p.ins.length ∧ ((leastDue c.due = none ∧ y = .int .i64 (-1) ∧ VfAt L vb sb db cao ccap ps p h w c l) ∨ (leastDue c.due = some l ∧ y = .int .i64 l ∧ VfAt L vb sb db cao ccap ps p h w ⟨c.sts, c.due.set l false⟩ l))
theorem round_step {ps : List Pd} {p : Pd} {c : Cf} {i : Nat} {n : Nd} {s : St} {np : Nat} (hn : InsFit np p n) (hi : p.ins[i]? = some n) (hs : c.st i = some s) : stepR ps n i s ⟨c.sts, c.due.set i false⟩ = roundF ps p c i := by
  unfold stepR roundF
  rw [hi, hs, step_eq hn]
  dsimp only
  cases stepF ps n i s <;> rfl
theorem round_code {ps : List Pd} {n : Nd} {i : Nat} {s : St} {c : Cf} {k x : Nat} (h : stepR ps n i s c = .error (k, x)) : k ≠ 0 ∧ k ≤ 13 := by
  have hf : ∀ (l : List (Nat × St)) (c : Cf), followF c l = .error (k, x) → k = 13 := by
    intro l
    induction l with
    | nil => intro c h; cases h
    | cons a r ih =>
      intro c h
      obtain ⟨y, t⟩ := a
      rw [follow_cons] at h
      cases hr : reachF c y t with
      | none => rw [hr] at h; simp at h; omega
      | some c2 => rw [hr] at h; exact ih c2 h
  unfold stepR at h
  cases hs : stepI ps n i s with
  | bad k2 =>
    rw [hs] at h
    simp at h
    unfold stepI at hs
    split at hs
    · cases hs; omega
    · split at hs
      · split at hs
        · split at hs
          · cases hs
          · cases hs; omega
        · cases hs; omega
      · cases hs; omega
  | go l => rw [hs] at h; have := hf l c h; omega
noncomputable def pcVl : Code := pathC [1, 1, 1, 1, 0, 1, 0] (Tryz.f38.body.getD .skip)
set_option maxRecDepth 1000000 in
set_option maxHeartbeats 8000000 in
theorem vf_loop (w0 : World) (B L vb sb db : Nat) (cao : Option Addr) (ccap : Nat) (ps : List Pd) (p : Pd) (h : Ph) (pi : Nat) (w W : World) (c0 c2 c3 c4 c6 c8 c9 c10 c11 c12 c13 c14 c15 c16 c17 c18 c19 c20 c21 c22 c23 c24 c25 c26 c27 c28 c29 c30 c31 c32 c33 c34 c35 c36 c37 c38 c39 c40 c41 c42 c43 c44 c45 c46 c47 c48 c49 c50 c51 c52 c53 c54 c55 c56 c57 c58 c59 c60 : Value) (Q : Exit → Act → World → Prop) (hq : ∀ a' w', bodyPost Tryz.prog Tryz.f38 (WkPost w ps p pi) .ret a' w' → Q .ret a' w')
    (hx : ∀ (u4 u8 u9 u35 u36 u37 u38 u39 u40 u41 u42 u43 u44 u45 u46 u47 : Value) (c : Cf) (l : Nat) (w' : World), walkF ps p (2 * p.ins.length + 2) (startC p) = .ok c → VfAt L vb sb db cao ccap ps p h w' c l → Below w0.heap.size w0 w' → Q (.exit 0) ⟨List.toArray (c0 :: .int .i64 pi :: c2 :: c3 :: u4 :: .pointer (some ⟨w.heap.size + 1, 0, none⟩) :: c6 :: .pointer (some ⟨vb, 0, none⟩) :: u8 :: u9 :: c10 :: c11 :: c12 :: c13 :: c14 :: c15 :: c16 :: c17 :: c18 :: c19 :: c20 :: c21 :: c22 :: c23 :: c24 :: c25 :: c26 :: c27 :: c28 :: c29 :: c30 :: c31 :: c32 :: c33 :: c34 :: u35 :: u36 :: u37 :: u38 :: u39 :: u40 :: u41 :: u42 :: u43 :: u44 :: u45 :: u46 :: u47 :: c48 :: c49 :: c50 :: c51 :: c52 :: c53 :: c54 :: c55 :: c56 :: c57 :: c58 :: c59 :: c60 :: []), []⟩ w')
    (X : Vctx w0 B L vb sb db ps p h) (_hL0 : L = w0.heap.size + 3) (hLW : L ≤ W.heap.size) (N0 : NxSt L vb sb db cao ccap ps p h (startC p) c8 W) (hb0 : Below w0.heap.size w0 W) (hw0 : Below w.heap.size w w0) (FL : Blk w0 (w.heap.size + 1) #[.int .i64 0, .int .i64 0, .int .i64 0] 55) (hv : ProtosAt 0 w0 cao ps) (hu : ∀ n ∈ p.ins, ∀ u ∈ fnUps ps n, u.loc = true → 0 ≤ u.idx ∧ u.idx < p.regs) (hul : ∀ n, (fnUps ps n).length ≤ 1048576) :
    Code.wp Tryz.prog pcVl Q ⟨List.toArray (c0 :: .int .i64 pi :: c2 :: c3 :: c4 :: .pointer (some ⟨w.heap.size + 1, 0, none⟩) :: c6 :: .pointer (some ⟨vb, 0, none⟩) :: c8 :: c9 :: c10 :: c11 :: c12 :: c13 :: c14 :: c15 :: c16 :: c17 :: c18 :: c19 :: c20 :: c21 :: c22 :: c23 :: c24 :: c25 :: c26 :: c27 :: c28 :: c29 :: c30 :: c31 :: c32 :: c33 :: c34 :: c35 :: c36 :: c37 :: c38 :: c39 :: c40 :: c41 :: c42 :: c43 :: c44 :: c45 :: c46 :: c47 :: c48 :: c49 :: c50 :: c51 :: c52 :: c53 :: c54 :: c55 :: c56 :: c57 :: c58 :: c59 :: c60 :: []), []⟩ W := by
  conv => arg 2; whnf
  have HQ : Hid _ := hq
  have HX : Hid _ := hx
  have HST := start_ok X.fit
  have HV : Hid (ProtosAt 0 w0 cao ps) := hv
  have HU : Hid _ := hu
  have HUL : Hid _ := hul
  clear hq hx hv hu hul
  go_loopg [8] (2 * p.ins.length + 2) (fun gk y wr => ∃ c : Cf, Hid (CfOk p c) ∧ Hid (Closed p c none) ∧ Hid (walkF ps p gk c = walkF ps p (2 * p.ins.length + 2) (startC p)) ∧ Hid (c.meas < gk) ∧ Hid (NxSt L vb sb db cao ccap ps p h c y wr) ∧ Hid (Below w0.heap.size w0 wr) ∧ Hid (L ≤ wr.heap.size))
  case atStart => exact ⟨startC p, HST.1, HST.2.1, rfl, HST.2.2, N0, hb0, hLW⟩
  case round =>
    obtain ⟨c, HOK, HCL, HWK, HME, HN, HB, HLr⟩ := hrel
    clear HST N0
    have HFR : Hid (Blk wr (w.heap.size + 1) #[.int .i64 0, .int .i64 0, .int .i64 0] 55) := FL.later HB.out
    obtain ⟨l, hl, hN⟩ := HN.out
    rcases hN with ⟨hd, rfl, H1⟩ | ⟨hd, rfl, H1⟩
    · have HWO : Hid (walkF ps p (2 * p.ins.length + 2) (startC p) = .ok c) := HWK.out.symm.trans (walk_end (Nat.lt_of_le_of_lt (Nat.zero_le _) HME.out) hd)
      have HH1 : Hid (VfAt L vb sb db cao ccap ps p h wr c l) := H1
      clear hd H1 HN HWK HME HCL HOK
      go_wp2_with fail
      exact HX.out _ _ _ _ _ _ _ _ _ _ _ _ _ _ _ _ c l wr HWO.out HH1.out HB.out
    · obtain ⟨hd1, hd2, _⟩ := leastDue_some hd
      obtain ⟨s, hs⟩ := Option.isSome_iff_exists.1 (HOK.out.due l hd2)
      have hll : l < p.ins.length := by rw [← HOK.out.lenD]; exact hd1
      obtain ⟨n, hn⟩ := some_of_lt hll
      have hNF := X.fit.fit l n hn
      have HSP : Hid (∀ _ : Unit, _) := fun _ => step_any w0 B L vb sb db cao ccap ps p h ⟨c.sts, c.due.set l false⟩ l wr l n s X H1 hl HLr.out HB.out (cleared_ok HOK.out HCL.out).1 hn hs HV.out (HU.out n (List.mem_of_getElem? hn)) (HUL.out n)
      have HRS : Hid (stepR ps n l s ⟨c.sts, c.due.set l false⟩ = roundF ps p c l) := round_step hNF hn hs
      have HLD : Hid (leastDue c.due = some l) := hd
      have HRC : Hid (∀ k x, stepR ps n l s ⟨c.sts, c.due.set l false⟩ = .error (k, x) → k ≠ 0 ∧ k ≤ 13) := fun k x hh => round_code hh
      have k0 : (0 : Int) ≤ l := by omega
      clear hd hd1 hd2 hs hn hNF H1 HN
      go_wp2_with fail
      refine (HSP.out ()).mono ?_
      unfold FwPost
      cases hst : stepR ps n l s ⟨c.sts, c.due.set l false⟩ with
      | error kx =>
        obtain ⟨k, x⟩ := kx
        rintro e w2 ⟨rfl, hO2⟩
        have HVF : Hid (verF ps p pi = ((k : Int), (pi : Int), (x : Int))) := verF_error (HWK.out.symm.trans (walk_bad (Nat.lt_of_le_of_lt (Nat.zero_le _) HME.out) HLD.out (HRS.out.symm.trans hst)))
        have hkk := HRC.out k x hst
        have hBe := X.hB
        have hb2 : Below w0.heap.size wr w2 := by have := hO2.below; rw [hBe] at this; exact this
        have HB2 : Hid (Below w0.heap.size w0 w2) := HB.out.trans hb2
        have FL2 := FL.later HB2.out
        have ek : ((k : Int) != 0) = true := by simp; omega
        have hfw : w.heap.size + 1 < w2.heap.size := FL2.lt
        have hne : ¬ w2.heap.size = w.heap.size + 1 := by omega
        have P3 := Blk.new w2 #[.int .i64 k, .int .i64 pi, .int .i64 x] 55
        have A3 := below_al (Below.refl w2.heap.size w2) (.cells #[.int .i64 k, .int .i64 pi, .int .i64 x] 55)
        have F3 := FL2.later A3
        have HBW : Hid (Below w.heap.size w (w2.alloc (.cells #[.int .i64 k, .int .i64 pi, .int .i64 x] 55))) := (hw0.trans (HB2.out.mono hw0.size)).trans (A3.mono (Nat.le_trans hw0.size HB2.out.size))
        clear hst HSP HRS HOK HCL HWK HME HRC HLD hO2 hBe HB HLr HFR hb2 HB2 hkk FL2 A3
        go_wp2_with fail
        have p30 := P3.cell 0
        have p31 := P3.cell 1
        have p32 := P3.cell 2
        have f3 := F3.cell
        have z3 := F3.frozen
        generalize w2.alloc (.cells #[.int .i64 k, .int .i64 pi, .int .i64 x] 55) = w3 at *
        have hne2 : ¬ w.heap.size + 1 = w2.heap.size := fun e => hne e.symm
        go_region_held3 (fun w' => w'.cell? ⟨w2.heap.size, 0, none⟩ = some (.int .i64 k) ∧ w'.cell? ⟨w2.heap.size, 1, none⟩ = some (.int .i64 pi) ∧ w'.cell? ⟨w2.heap.size, 2, none⟩ = some (.int .i64 x)) (first | exact ⟨p30, p31, p32⟩ | (exact ⟨((World.cell?_setCell_far _ _ _ _ hne2).trans ((World.cell?_setCell_far _ _ _ _ hne2).trans (World.cell?_setCell_far _ _ _ _ hne2))).trans p30, ((World.cell?_setCell_far _ _ _ _ hne2).trans ((World.cell?_setCell_far _ _ _ _ hne2).trans (World.cell?_setCell_far _ _ _ _ hne2))).trans p31, ((World.cell?_setCell_far _ _ _ _ hne2).trans ((World.cell?_setCell_far _ _ _ _ hne2).trans (World.cell?_setCell_far _ _ _ _ hne2))).trans p32⟩) | (go_keep; done)) (fail)
        all_goals
          go_wp2_with fail
          have c9 := (F3.three (x' := .int .i64 k) (y' := .int .i64 pi) (z' := .int .i64 x)).cell
          refine HQ.out _ _ (bodyPost_ret (v := .tuple #[.slice none 0 0, .agg #[.int .i64 k, .int .i64 pi, .int .i64 x]]) ?_ rfl ⟨⟨.slice none 0 0, ?_⟩, ?_⟩)
          · simp [results, Tryz.results38, go_sem, c9]
          · rw [HVF.out]; rfl
          · first
            | exact (((HBW.out.setCell (by dsimp only; omega) _).setCell (by dsimp only; omega) _).setCell (by dsimp only; omega) _).drew
            | exact ((HBW.out.drew.setCell (by dsimp only; omega) _).setCell (by dsimp only; omega) _).setCell (by dsimp only; omega) _
      | ok c2 =>
        rintro e w2 ⟨⟨rfl, l2, hl2, H2⟩, hO2⟩
        have HRN : Hid (roundF ps p c l = .ok c2) := HRS.out.symm.trans hst
        have HRO : Hid _ := round_ok X.fit HOK.out HCL.out HLD.out HRN.out
        have HWN : Hid (walkF ps p (gk - 1) c2 = walkF ps p (2 * p.ins.length + 2) (startC p)) := (walk_on (Nat.lt_of_le_of_lt (Nat.zero_le _) HME.out) HLD.out HRN.out).symm.trans HWK.out
        have HMN : Hid (c2.meas < gk - 1 ∧ gk - 1 < gk) := by have h1 := HRO.out.2.2; have h2 := HME.out; show _ ∧ _; omega
        have A2 := below_al (Below.refl w2.heap.size w2) (.cells #[.int .i64 0, .int .i64 0, .int .i64 0] 55)
        have HNX : Hid (∀ _ : Unit, _) := fun _ => next_any B L vb sb db cao ccap ps p h c2 l2 (w2.alloc (.cells #[.int .i64 0, .int .i64 0, .int .i64 0] 55)) X.V X.hz (H2.below A2) hl2
        have hBe := X.hB
        have HB2 : Hid (Below w0.heap.size w0 (w2.alloc (.cells #[.int .i64 0, .int .i64 0, .int .i64 0] 55))) := HB.out.trans ((by have := hO2.below; rw [hBe] at this; exact this : Below w0.heap.size wr w2).trans (A2.mono (Nat.le_trans HB.out.size hO2.size)))
        have HL2 : Hid (L ≤ (w2.alloc (.cells #[.int .i64 0, .int .i64 0, .int .i64 0] 55)).heap.size) := Nat.le_trans HLr.out (Nat.le_trans hO2.size A2.size)
        clear hst HSP HRS HOK HCL HWK HME HRC HRN HLD H2 hO2 A2 hBe HB HLr HFR
        go_wp2_with fail
        refine (HNX.out ()).mono ?_
        rintro e w4 ⟨⟨l4, hl4, hN4⟩, hO4⟩
        have HB4 : Hid (Below w0.heap.size w0 w4) := HB2.out.trans (by have := hO4.below; rw [X.hB] at this; exact this)
        have HL4 : Hid (L ≤ w4.heap.size) := Nat.le_trans HL2.out hO4.size
        clear HNX HB2 HL2 hO4
        rcases hN4 with ⟨h1, rfl, h3⟩ | ⟨h1, rfl, h3⟩
        · have HNS : Hid (NxSt L vb sb db cao ccap ps p h c2 (.int .i64 (-1)) w4) := ⟨l4, hl4, .inl ⟨h1, rfl, h3⟩⟩
          clear h1 h3
          go_wp2_with fail
          go_roundg (gk - 1)
          case measure => exact HMN.out.2
          case rel => exact ⟨c2, HRO.out.1, HRO.out.2.1, HWN.out, HMN.out.1, HNS.out, HB4.out, HL4.out⟩
        · have HNS : Hid (NxSt L vb sb db cao ccap ps p h c2 (.int .i64 l4) w4) := ⟨l4, hl4, .inr ⟨h1, rfl, h3⟩⟩
          clear h1 h3
          go_wp2_with fail
          go_roundg (gk - 1)
          case measure => exact HMN.out.2
          case rel => exact ⟨c2, HRO.out.1, HRO.out.2.1, HWN.out, HMN.out.1, HNS.out, HB4.out, HL4.out⟩
end Go.Proofs.YtmfippfnhcphhaaGreatDoor
