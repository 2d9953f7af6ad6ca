import Derived.Test.YtmfippfnhcphhaaGreatDoorC10
import Derived.Test.YtmfippfnhcphhaaGreatDoorC22
import Derived.Test.YtmfippfnhcphhaaGreatDoorC15
namespace Go.Proofs.YtmfippfnhcphhaaGreatDoor
open Go.RowKit Go.Deep

/-! ### What a right shape gives -/
theorem mkIns_ok {ps : List Pd} {pi : Nat} {p : Pd} : ∀ {l : List Nd} {k : Nat} {m m' : List Bool}, mkIns ps pi p k l m = (none, m') → ∀ n ∈ l, n.op = 11 → upsB p ((ps[n.b.toNat]?.map Pd.ups).getD []) = true
  | [], _, _, _, _, n, hn, _ => by simp at hn
  | x :: r, k, m, m', h, n, hn, ho => by
    unfold mkIns at h
    by_cases hx : x.op = 11
    · rw [if_pos (by simpa using hx)] at h
      cases hb : fnBad ps pi p m x with
      | true => rw [hb] at h; simp at h
      | false =>
        rw [hb] at h
        rcases List.mem_cons.1 hn with rfl | hn
        · unfold fnBad at hb
          simp only [Bool.or_eq_false_iff, Bool.not_eq_false'] at hb
          exact hb.2.2
        · exact mkIns_ok (by simpa using h) n hn ho
    · rw [if_neg (by simpa using hx)] at h
      rcases List.mem_cons.1 hn with rfl | hn
      · exact absurd ho hx
      · exact mkIns_ok h n hn ho
theorem mkAll_ok {ps : List Pd} : ∀ {l : List Pd} {pi : Nat} {m m' : List Bool}, mkAll ps pi l m = (none, m') → ∀ p ∈ l, ∀ n ∈ p.ins, n.op = 11 → upsB p ((ps[n.b.toNat]?.map Pd.ups).getD []) = true
  | [], _, _, _, _, p, hp => by simp at hp
  | x :: r, pi, m, m', h, p, hp => by
    unfold mkAll at h
    cases hi : mkIns ps pi x 0 x.ins m with
    | mk o m2 =>
      rw [hi] at h
      cases o with
      | some k => simp at h
      | none =>
        dsimp only at h
        rcases List.mem_cons.1 hp with rfl | hp
        · exact mkIns_ok hi
        · exact mkAll_ok h p hp
structure Fits (ps : List Pd) (p : Pd) : Prop where
  fit : PFit ps.length p
  few : p.ins.length ≤ 6000
  ups : ∀ n ∈ p.ins, ∀ u ∈ fnUps ps n, u.loc = true → 0 ≤ u.idx ∧ u.idx < p.regs
theorem shape_parts {ps : List Pd} (h : (shapeF ps).1 = 0) : sizeB ps = true ∧ firstP headP 0 ps = none ∧ firstP (insP ps.length) 0 ps = none ∧ ∃ m, mkAll ps 0 ps (List.replicate ps.length false) = (none, m) := by
  unfold shapeF at h
  cases hs : sizeB ps with
  | false => rw [hs] at h; simp at h
  | true =>
    rw [hs, if_pos rfl] at h
    cases h1 : firstP headP 0 ps with
    | some x => rw [h1] at h; simp at h
    | none =>
      rw [h1] at h
      dsimp only at h
      cases h2 : firstP constP 0 ps with
      | some x => rw [h2] at h; simp at h
      | none =>
        rw [h2] at h
        dsimp only at h
        cases h3 : firstP namedP 0 ps with
        | some x => rw [h3] at h; simp at h
        | none =>
          rw [h3] at h
          dsimp only at h
          cases h4 : firstP (insP ps.length) 0 ps with
          | some x => rw [h4] at h; simp at h
          | none =>
            rw [h4] at h
            dsimp only at h
            refine ⟨rfl, rfl, rfl, ?_⟩
            unfold mkFault at h
            cases h5 : mkAll ps 0 ps (List.replicate ps.length false) with
            | mk o m =>
              rw [h5] at h
              cases o with
              | some x => simp at h
              | none => exact ⟨m, rfl⟩
theorem shape_few {ps : List Pd} (h : (shapeF ps).1 = 0) : ps.length ≤ 200 := by
  have := (shape_parts h).1
  unfold sizeB inR at this
  simp at this
  omega
theorem shape_fits {ps : List Pd} (h : (shapeF ps).1 = 0) : ∀ p ∈ ps, Fits ps p := by
  obtain ⟨hs, hh, hi, m, hm⟩ := shape_parts h
  intro p hp
  obtain ⟨k, hk⟩ := List.getElem?_of_mem hp
  have h1 := firstP_none hh k p hk
  have h2 := firstP_none hi k p hk
  have hreg := regs_of_heads hh p hp
  have hhead : headOk p (0 + k) = true := by
    unfold headP at h1
    split at h1
    · assumption
    · cases h1
  unfold insP insBad at h2
  cases h3 : firstBad (formsG ps.length p) 0 p.ins with
  | some x => rw [h3] at h2; cases h2
  | none =>
    rw [h3] at h2
    dsimp only at h2
    cases hl : p.ins.getLast? with
    | none => rw [hl] at h2; cases h2
    | some n =>
      rw [hl] at h2
      dsimp only at h2
      have hnx : nextB n = false := by
        cases hb : nextB n with
        | true => rw [hb] at h2; simp at h2
        | false => rfl
      have hpos : 0 < p.ins.length := by
        cases hh2 : p.ins with
        | nil => rw [hh2] at hl; simp at hl
        | cons a r => simp
      rw [List.getLast?_eq_getElem?] at hl
      refine ⟨⟨hreg, ?_, ?_, hpos, ?_⟩, ?_, ?_⟩
      · intro i x hx
        have := firstBad_none h3 i x hx
        unfold formsG formsB inR at this
        simp only [Bool.and_eq_true, decide_eq_true_iff] at this
        exact ⟨this.1.1, this.1.2, this.2⟩
      · intro i x hx hb
        have hil := (List.getElem?_eq_some_iff.1 hx).1
        refine Classical.byContradiction fun hn => ?_
        have : i = p.ins.length - 1 := by omega
        subst this
        rw [hx] at hl
        obtain rfl := Option.some.inj hl
        rw [hb] at hnx
        cases hnx
      · unfold headOk at hhead
        simp only [Bool.and_eq_true, decide_eq_true_iff] at hhead
        have hpar := hhead.1.1.1.2
        unfold inR most wrap64 at hpar
        cases hre : p.rest with
        | false => rw [hre] at hpar; simp at hpar; exact ⟨by omega, by omega, by simp⟩
        | true => rw [hre] at hpar; simp at hpar; exact ⟨by omega, by omega, fun _ => by omega⟩
      · unfold sizeB at hs
        simp only [Bool.and_eq_true, decide_eq_true_iff] at hs
        have h1 := sumL_mem (f := fun p : Pd => p.ins.length) hp
        have h2 := hs.2
        unfold insSum at h2
        omega
      · intro x hx u hu hloc
        unfold fnUps at hu
        split at hu
        · rename_i ho
          have := mkAll_ok hm p hp x hx ho
          cases hq : ps[x.b.toNat]? with
          | none => rw [hq] at hu; simp at hu
          | some q =>
            rw [hq] at hu this
            simp at this
            unfold upsB at this
            have := List.all_eq_true.1 this u hu
            unfold upB inR at this
            rw [hloc] at this
            simp at this
            omega
        · simp at hu
theorem fnUps_few {ps : List Pd} (hfi : ∀ p ∈ ps, PFew p) (n : Nd) : (fnUps ps n).length ≤ 1048576 := by
  unfold fnUps
  split
  · split
    · rename_i q hq; exact (hfi q (List.mem_of_getElem? hq)).ups
    · simp
  · simp
/-! ### CheckCode -/
noncomputable def verL (ps : List Pd) : Nat → List Pd → Int × Int × Int
  | _, [] => (0, 0, 0)
  | k, p :: r => if (verF ps p k).1 = 0 then verL ps (k + 1) r else verF ps p k
theorem verL_drop {ps l : List Pd} {k : Nat} {p : Pd} (h : l[k]? = some p) : verL ps k (l.drop k) = if (verF ps p k).1 = 0 then verL ps (k + 1) (l.drop (k + 1)) else verF ps p k := by
  rw [drop_some h]; rfl
noncomputable def checkF (ps : List Pd) : Int × Int × Int := if (shapeF ps).1 = 0 then verL ps 0 ps else shapeF ps
end Go.Proofs.YtmfippfnhcphhaaGreatDoor

namespace Go.Proofs.YtmfippfnhcphhaaGreatDoor
open Go.RowKit Go.Deep

/-! ### Code 12 -/
theorem keptL_drop {e : Bool} {tk b a : List Int} {gs : List Gd} {k : Nat} {g : Gd} (h : gs[k]? = some g) :
    keptL e tk b a (gs.drop k) = ((!g.tr || (notBelow g.keep tk && ((e && (gs.drop (k + 1)).isEmpty) || sameBelow g.keep b a))) && keptL e tk b a (gs.drop (k + 1))) := by
  rw [drop_some h]; rfl
theorem notBelow_drop {keep : Int} {tk : List Int} {j : Nat} {x : Int} (h : tk[j]? = some x) : notBelow keep (tk.drop j) = (!decide (x < keep) && notBelow keep (tk.drop (j + 1))) := by
  rw [drop_some h]; rfl
theorem same_true {K : Int} {b a : List Int} (h : ∀ j : Nat, (j : Int) < K → b[j]? = a[j]?) : sameBelow K b a = true := by
  unfold sameBelow
  rw [decide_eq_true_iff]
  apply List.ext_getElem?
  intro j
  rw [List.getElem?_take, List.getElem?_take]
  split
  · exact h j (by omega)
  · rfl
theorem same_false {K : Int} {b a : List Int} {j : Nat} {x y : Int} (hj : (j : Int) < K) (hx : b[j]? = some x) (hy : a[j]? = some y) (hn : ¬ x = y) : sameBelow K b a = false := by
  unfold sameBelow
  rw [decide_eq_false_iff_not]
  intro h
  have := congrArg (fun l => l[j]?) h
  have hj' : j < K.toNat := by omega
  simp only [List.getElem?_take, if_pos hj', hx, hy, Option.some.injEq] at this
  exact hn this
theorem drop_empty {α : Type} {l : List α} {k : Nat} (hk : k < l.length) : (l.drop (k + 1)).isEmpty = decide (k + 1 = l.length) := by
  rw [Bool.eq_iff_iff, List.isEmpty_iff, List.drop_eq_nil_iff, decide_eq_true_iff]
  omega

set_option maxRecDepth 100000 in
set_option maxHeartbeats 4000000 in
theorem l3kept_any (n : Nd) (go to bo ao : Option Addr) (gc tc bc ac : Nat) (gs : List Gd) (tk bs cs : List Int) (w : World) (hg : gs.length ≤ 50) (ht : tk.length ≤ 1000) (hb1 : bs.length ≤ 250) (hla : cs.length = bs.length) (hk : ∀ g ∈ gs, g.keep ≤ bs.length)
    (h1 : GdsAt 0 w go gs) (h2 : IntsAt 0 w to tk) (h3 : IntsAt 0 w bo bs) (h4 : IntsAt 0 w ao cs) :
    Calls Tryz.prog 69 #[n.val, .slice go gs.length gc, .slice to tk.length tc, .slice bo bs.length bc, .slice ao cs.length ac] w fun e w' => e = .returned (.bool (keptF n gs tk bs cs)) ∧ Below w.heap.size w w' := by
  have HLA : Hid _ := hla
  have HK : Hid _ := hk
  clear hla hk
  obtain ⟨op, a, b, c, d⟩ := n
  unfold Nd.val keptF
  dsimp only
  have N0 := Blk.new w #[.int .i64 op, .int .i64 a, .int .i64 b, .int .i64 c, .int .i64 d] 47
  have B0 := (Below.refl w.heap.size w).alloc (Nat.le_refl _) (.cells #[.int .i64 op, .int .i64 a, .int .i64 b, .int .i64 c, .int .i64 d] 47)
  go_enter Tryz.func69, Tryz.ntmps69
  go_wp2_with fail
  go_loopw [18] (fun y wr => ∃ k : Nat, k ≤ gs.length ∧ y = .int .i64 k ∧ Hid (keptL (op == 32) tk bs cs (gs.drop k) = keptL (op == 32) tk bs cs gs) ∧ Below w.heap.size w wr ∧ Blk wr w.heap.size #[.int .i64 op, .int .i64 a, .int .i64 b, .int .i64 c, .int .i64 d] 47) (fun y _ => gs.length - (intOf y).toNat)
  case atStart => exact ⟨0, Nat.zero_le _, rfl, rfl, B0, N0⟩
  case round =>
    obtain ⟨k, hk, rfl, HQ, hb, N1⟩ := hrel
    clear B0 N0
    by_cases hkl : k < gs.length
    · obtain ⟨x, hxk⟩ := some_of_lt hkl
      obtain ⟨bb, off, rfl, _, hbl, q0, q1, q2⟩ := h1.later (Keeps.of_below hb) k x hxk
      have HD : Hid _ := HQ.out.symm.trans (keptL_drop hxk)
      rw [drop_empty hkl] at HD
      have HX : Hid (x.keep ≤ bs.length) := HK.out x (List.mem_of_getElem? hxk)
      have hba : ∀ o, Below w.heap.size w (wr.alloc o) := fun o => hb.alloc hb.size o
      obtain ⟨x0, x1, x2⟩ := x
      dsimp only at *
      have n1 := N1.cell
      clear hxk HQ
      cases x0
      · have HN : Hid (keptL (op == 32) tk bs cs (gs.drop (k + 1)) = keptL (op == 32) tk bs cs gs) := by show _ = _; rw [HD.out]; simp
        clear HD
        go_wp2_with fail
        go_roundw
        case rel => exact ⟨k + 1, by omega, by go_num, HN.out, hba _, N1.alloc _⟩
        case measure => simp [intOf]; omega
      · have G1 := Blk.new wr #[.bool true, .int .i64 x1, .int .i64 x2] 194
        have N1a := N1.alloc (.cells #[.bool true, .int .i64 x1, .int .i64 x2] 194)
        have B1a := hba (.cells #[.bool true, .int .i64 x1, .int .i64 x2] 194)
        go_wp2_with fail
        clear n1 q0 q1 q2 hba hbl
        generalize hGB : wr.heap.size = GB at *
        clear hGB
        go_loopw [28] (fun y wi => ∃ j : Nat, j ≤ tk.length ∧ y = .int .i64 j ∧ Hid (notBelow x1 (tk.drop j) = notBelow x1 tk) ∧ Below w.heap.size w wi ∧ Blk wi w.heap.size #[.int .i64 op, .int .i64 a, .int .i64 b, .int .i64 c, .int .i64 d] 47 ∧ Blk wi GB #[.bool true, .int .i64 x1, .int .i64 x2] 194) (fun y _ => tk.length - (intOf y).toNat)
        case atStart => exact ⟨0, Nat.zero_le _, rfl, rfl, B1a, N1a, G1⟩
        case round =>
          obtain ⟨j, hj, rfl, HQ2, hb2, N2, G2⟩ := hrel
          clear N1 N1a B1a G1 hb
          have g2 := G2.cell
          have n2 := N2.cell
          by_cases hjl : j < tk.length
          · obtain ⟨t, htk⟩ := some_of_lt hjl
            obtain ⟨bb, off, rfl, _, hbl2, p0⟩ := h2.later (Keeps.of_below hb2) j t htk
            unfold IntAt at p0
            rw [Nat.mul_one] at p0
            have HD2 : Hid _ := HQ2.out.symm.trans (notBelow_drop htk)
            clear htk HQ2
            by_cases hlt : t < x1
            · have HN : Hid (keptL (op == 32) tk bs cs gs = false) := by
                show _ = _
                rw [HD.out, HD2.out]
                simp [hlt]
              clear HD HD2
              go_wp2_with fail
              go_ret
              exact ⟨ret_bool HN.out.symm, hb2⟩
            · have HN : Hid (notBelow x1 (tk.drop (j + 1)) = notBelow x1 tk) := by show _ = _; rw [HD2.out]; simp [hlt]
              clear HD2
              go_wp2_with fail
              go_roundw
              case rel => exact ⟨j + 1, by omega, by go_num, HN.out, hb2, N2, G2⟩
              case measure => simp [intOf]; omega
          · have HT : Hid (notBelow x1 tk = true) := by
              have h := HQ2.out
              rw [List.drop_of_length_le (by omega)] at h
              exact h.symm
            clear HQ2
            by_cases hend : op = 32 ∧ k + 1 = gs.length
            · have HN : Hid (keptL (op == 32) tk bs cs (gs.drop (k + 1)) = keptL (op == 32) tk bs cs gs) := by
                show _ = _
                rw [HD.out, HT.out, hend.1]
                simp [hend.2]
              obtain ⟨rfl, hend2⟩ := hend
              have k1 : ((k : Int) == (gs.length : Int) - 1) = true := by simp; omega
              clear HD HT hend2
              go_wp2_with fail
              go_roundw
              case rel => exact ⟨k + 1, by omega, by go_num, HN.out, hb2, N2⟩
              case measure => simp [intOf]; omega
            · have HS : Hid (keptL (op == 32) tk bs cs gs = (sameBelow x1 bs cs && keptL (op == 32) tk bs cs (gs.drop (k + 1)))) := by
                show _ = _
                rw [HD.out, HT.out]
                have : ((op == 32) && decide (k + 1 = gs.length)) = false := by
                  by_cases h32 : op = 32
                  · have : ¬ (k + 1 = gs.length) := fun h => hend ⟨h32, h⟩
                    simp [this]
                  · simp [h32]
                rw [this]
                simp
              have k1 : (op == 32) = false ∨ ((op == 32) = true ∧ ((k : Int) == (gs.length : Int) - 1) = false) := by
                by_cases h32 : op = 32
                · exact .inr ⟨by simpa using h32, by simp; omega⟩
                · exact .inl (by simpa using h32)
              have HE : Hid (∀ W, Below w.heap.size w W → Blk W w.heap.size #[.int .i64 op, .int .i64 a, .int .i64 b, .int .i64 c, .int .i64 d] 47 → True) := fun _ _ _ => trivial
              clear HD HT hend HE
              rcases k1 with k1 | ⟨k1, k2⟩
              all_goals
                go_wp2_with fail
                go_loopw [15] (fun y wi => ∃ r : Nat, y = .int .i64 r ∧ r ≤ bs.length ∧ Hid (∀ j : Nat, j < r → bs[j]? = cs[j]?) ∧ Below w.heap.size w wi ∧ Blk wi w.heap.size #[.int .i64 op, .int .i64 a, .int .i64 b, .int .i64 c, .int .i64 d] 47 ∧ Blk wi GB #[.bool true, .int .i64 x1, .int .i64 x2] 194) (fun y _ => bs.length - (intOf y).toNat)
                case atStart => exact ⟨0, rfl, Nat.zero_le _, fun j hj => absurd hj (Nat.not_lt_zero _), hb2, N2, G2⟩
                case round =>
                  obtain ⟨r, rfl, hrl, HR, hb3, N3, G3⟩ := hrel
                  clear g2 n2 N2 G2 hb2
                  have g3 := G3.cell
                  by_cases hrk : (r : Int) < x1
                  · have hrb : r < bs.length := by have := HX.out; omega
                    have hra : r < cs.length := by have := HLA.out; omega
                    obtain ⟨x, hxr⟩ := some_of_lt hrb
                    obtain ⟨y, hyr⟩ := some_of_lt hra
                    obtain ⟨bb, off, rfl, _, hbl3, p0⟩ := h3.later (Keeps.of_below hb3) r x hxr
                    obtain ⟨bb', off', rfl, _, hbl4, p1⟩ := h4.later (Keeps.of_below hb3) r y hyr
                    unfold IntAt at p0 p1
                    rw [Nat.mul_one] at p0 p1
                    have k3 : (r : Int) < bs.length := by omega
                    have k4 : (r : Int) < cs.length := by omega
                    by_cases hxy : x = y
                    · have HN : Hid (∀ j : Nat, j < r + 1 → bs[j]? = cs[j]?) := by
                        intro j hj
                        by_cases hjr : j = r
                        · rw [hjr, hxr, hyr, hxy]
                        · exact HR.out j (by omega)
                      subst hxy
                      clear HR hxr hyr
                      go_wp2_with fail
                      go_quiet (fail)
                      go_wp2_with fail
                      go_roundw
                      case rel => exact ⟨r + 1, by go_num, by omega, HN.out, below_drewN hb3 _, N3, G3⟩
                      case measure => simp [intOf]; omega
                    · have HN : Hid (keptL (op == 32) tk bs cs gs = false) := by
                        show _ = _
                        rw [HS.out, same_false hrk hxr hyr hxy]
                        rfl
                      have k5 : (x != y) = true := by simpa using hxy
                      clear HR hxr hyr hxy
                      go_wp2_with fail
                      go_quiet (fail)
                      go_wp2_with fail
                      go_ret
                      exact ⟨ret_bool HN.out.symm, below_drewN hb3 _⟩
                  · have HN : Hid (keptL (op == 32) tk bs cs (gs.drop (k + 1)) = keptL (op == 32) tk bs cs gs) := by
                      show _ = _
                      rw [HS.out, same_true fun j hj => HR.out j (by omega)]
                      rfl
                    clear HR
                    go_wp2_with fail
                    go_roundw
                    case rel => exact ⟨k + 1, by omega, by go_num, HN.out, hb3, N3⟩
                    case measure => simp [intOf]; omega
    · have HN : Hid (keptL (op == 32) tk bs cs gs = true) := by
        have h := HQ.out
        rw [List.drop_of_length_le (by omega)] at h
        exact h.symm
      clear HQ
      go_wp2_with fail
      go_ret
      exact ⟨ret_bool HN.out.symm, hb⟩
end Go.Proofs.YtmfippfnhcphhaaGreatDoor

namespace Go.Proofs.YtmfippfnhcphhaaGreatDoor
open Go.RowKit Go.Deep
/-- Code 12, as it is called. -/
theorem l3kept_at (op na nb nc nd : Int) (p : Pd) (s : St) (tk ts : List Int) (kb : Bool) (go uo to vo : Option Addr) (gc uc tc vc : Nat) (W : World) (hs : StOk p s) (hr : p.regs ≤ 250) (hk : tk.length ≤ 4) (hl : ts.length = s.types.length) (hkb : keptF ⟨op, na, nb, nc, nd⟩ s.guards tk s.types ts = kb)
    (h1 : GdsAt 0 W go s.guards) (h2 : IntsAt 0 W uo tk) (h3 : IntsAt 0 W to s.types) (h4 : IntsAt 0 W vo ts) :
    Calls Tryz.prog 69 #[.agg #[.int .i64 op, .int .i64 na, .int .i64 nb, .int .i64 nc, .int .i64 nd], .slice go s.guards.length gc, .slice uo tk.length uc, .slice to s.types.length tc, .slice vo s.types.length vc] W fun e w' => e = .returned (.bool kb) ∧ Below W.heap.size W w' := by
  have hlen := hs.len
  have h := l3kept_any ⟨op, na, nb, nc, nd⟩ go uo to vo gc uc tc vc s.guards tk s.types ts W hs.few (by omega) (by omega) hl (fun g hg => by have := (hs.keep g hg).2; omega) h1 h2 h3 h4
  rw [hl] at h
  subst hkb
  exact h
theorem l3followers_at (p : Pd) (h : Ph) (i lo np : Nat) (op na nb nc nd : Int) (bo bg to go : Option Addr) (bc bgc tc gc : Nat) (s : St) (ts : List Int) (gs : List Gd) (w : World) (hi : p.ins[i]? = some ⟨op, na, nb, nc, nd⟩) (hz : p.ins.length ≤ 6000) (hn : InsFit np p ⟨op, na, nb, nc, nd⟩) (hr : p.regs ≤ 250) (hs : StOk p s) (hl : ts.length = s.types.length)
    (hp : InssAt 0 w h.io p.ins) (hlo : lo ≤ w.heap.size) (hbt : IntsAt lo w bo s.types) (hbg : GdsAt lo w bg s.guards) (ht : IntsAt lo w to ts) (hg : GdsAt lo w go gs) :
    Calls Tryz.prog 70 #[.agg #[.string p.name, .int .i64 p.line, .int .i64 p.params, .bool p.rest, .int .i64 p.regs, .slice h.uo p.ups.length h.uc, .slice h.co p.consts.length h.cc, .slice h.io p.ins.length h.ic, .slice h.no p.named.length h.nc], .int .i64 i, .agg #[.bool true, .slice bo s.types.length bc, .slice bg s.guards.length bgc], .slice to s.types.length tc, .slice go gs.length gc] w
      fun e w' => (∃ ao cap, e = .returned (.slice ao (folF ⟨op, na, nb, nc, nd⟩ i s ts gs).length cap) ∧ FolsAt lo w' ao (folF ⟨op, na, nb, nc, nd⟩ i s ts gs)) ∧ Below w.heap.size w w' := by
  have h1 := l3followers_any p h i lo np ⟨op, na, nb, nc, nd⟩ true bo bg to go bc bgc tc gc s ts gs w hi hz hn hr hs.len (by rw [hl]; exact hs.len) hp hlo hbt hbg ht hg
  rw [hl] at h1
  exact h1
end Go.Proofs.YtmfippfnhcphhaaGreatDoor
