import Derived.Test.YtgopdffmnikhdaaGreatDoorT10
set_option linter.unusedSimpArgs false
namespace Go.Proofs.YtgopdffmnikhdaaGreatDoor
open Go.RowKit Go.Deep
attribute [local go_sem] run_store_float vi Oper.semAt_some
theorem owns0 {w : World} {lo e s n : Nat} {v : Value} {xs : List Value} (h : w.ownsRow lo e s v n xs) : w.ownsRow 0 e s v n xs := ⟨h.1, h.2.imp id fun ⟨g, c, cur, h1, _, h3⟩ => ⟨g, c, cur, h1, Nat.zero_le _, h3⟩⟩
theorem below_set {B : Nat} {w W : World} (h : Below B w W) (a : Addr) (v : Value) : Below B (w.setCell a v) (W.setCell a v) := by
  refine ⟨h.os, h.tape, h.output, by simpa [World.setCell] using h.size, fun k hk => ?_⟩
  unfold World.setCell
  simp only [Array.getElem?_modify, h.block k hk]
set_option maxHeartbeats 4000000 in
set_option maxRecDepth 8000 in
theorem giveBack_any (lo bm bts bt bf fc bc br bs L n p : Nat) (k x r : Int) (f : Nat) (s : ByteArray) (i nn st bo ve : Int) (cc : Cc) (t : Tc) (m : Mc) (xs : List Value) (w : World) (hk : k < 5) (hc : bc < w.heap.size) (hr : br < w.heap.size) (hL : L ≤ 1000000) (hn : n ≤ L) (hp : p < L) (h0 : st ≠ 0) (h1 : st ≠ 1)
    (S : SlSt lo w bm { m with tasks := .slice (some ⟨bts, 0, none⟩) 1 1, cur := .int .i64 0, got := .slice none 0 0, wv := .slice none 0 0 } L n xs) (TS : Blk w bts #[.pointer (some ⟨bt, 0, none⟩)] 93)
    (T : TAt w bt { t with state := .int .i64 st, fk := .int .i64 k, fn := .int .i64 x, ff := .float .f64 f, fs := .string s, fr := .int .i64 r, frames := .slice (some ⟨bf, 0, none⟩) 1 fc, waiter := .int .i64 (-1), dropped := .slice none 0 0 }) (F : w.cell? ⟨bf, 0, none⟩ = some (.iface 105 (.pointer (some ⟨bc, 0, none⟩))))
    (C : CAt w bc { cc with self := .pointer none, regs := .slice (some ⟨br, 0, none⟩) 6 6, wv := .slice none 0 0, fences := .slice none 0 0 }) (X : RAt w br ⟨.int i, .int nn, .int 1, .val 5 0 0 ByteArray.empty p, .none, .none⟩)
    (hxp : xs[p]? = some (pv bs)) (B : Blk w bs (sa (.int .i64 p) (.int .i64 1) (.int .i64 bo) (.int .i64 ve)) 167) (hx : ∀ i, i < L → xs[i]? = some (.pointer none) ∨ ∃ b, xs[i]? = some (pv b) ∧ b < w.heap.size ∧ TabB w b) :
    Calls Tryz.prog 18 #[.pointer (some ⟨bm, 0, none⟩)] w fun e w' => e = .returned (.tuple #[]) ∧ Chg [bm] w w' ∧ ∃ sv fv, SlSt lo w' bm { m with slots := sv, free := fv, due := .int .i64 0, tasks := .slice (some ⟨bts, 0, none⟩) 1 1, cur := .int .i64 0, got := .slice none 0 0, wv := .slice none 0 0 } (p + 1) p (List.replicate p (.pointer none) ++ [pv bs]) := by
  obtain ⟨so, sc, hms⟩ := owns_slice S.row
  have hb : w.cell? ⟨bts, 0, none⟩ = some (.pointer (some ⟨bt, 0, none⟩)) := TS.cell 0
  obtain ⟨o1, ho1⟩ : ∃ o1 : Nat, o1 = 1 := ⟨_, rfl⟩
  have M : MAt w bm { m with slots := .slice so L sc, tasks := .slice (some ⟨bts, 0, none⟩) o1 o1, cur := .int .i64 0, got := .slice none 0 0, wv := .slice none 0 0 } := by rw [← hms, ho1]; exact S.x
  have HO : Hid (o1 = 1) := ho1
  clear ho1
  have Y : Blk (w.alloc (.cells #[.pointer (some ⟨bm, 0, none⟩)] 61)) w.heap.size #[.pointer (some ⟨bm, 0, none⟩)] 61 := Blk.new w _ _
  have Ma := M.alloc (.cells #[.pointer (some ⟨bm, 0, none⟩)] 61)
  refine (callsIn_wide (n := 3)).1 ?_
  refine callsIn_of_wp_marks Tryz.func18 rfl trivial ?_ rfl
  simp only [Tryz.ntmps18, List.size_toArray, List.length_cons, List.length_nil, Nat.reduceAdd, Nat.reduceSub, Array.replicate_succ, Array.replicate_zero, List.push_toArray, List.append_toArray, List.nil_append, List.cons_append]
  refine wpIn_wide.2 ?_
  go_wp2_with fail
  obtain ⟨W0, hW0⟩ : ∃ z, z = (w.alloc (.cells #[.pointer (some ⟨bm, 0, none⟩)] 61)).drew := ⟨_, rfl⟩
  have Yd : Blk W0 w.heap.size #[.pointer (some ⟨bm, 0, none⟩)] 61 := hW0 ▸ Y
  have Md : MAt W0 bm { m with slots := .slice so L sc, tasks := .slice (some ⟨bts, 0, none⟩) o1 o1, cur := .int .i64 0, got := .slice none 0 0, wv := .slice none 0 0 } := hW0 ▸ Ma
  obtain ⟨A, hA⟩ : ∃ A, madeCells #[Value.pointer none] L = A := ⟨_, rfl⟩
  obtain ⟨A1, hA1⟩ : ∃ A, madeCells #[Value.pointer none] o1 = A := ⟨_, rfl⟩
  refine regCut (fun a W => ∃ v2 v3 v12 v18, a = { tmps := #[.pointer (some ⟨bm, 0, none⟩), .pointer (some ⟨w.heap.size, 0, none⟩), v2, v3, undef, undef, undef, .pointer (some ⟨bm, 0, none⟩), .pointer (some ⟨bm, 0, none⟩), .pointer (some ⟨bm, 5, none⟩), .slice so L sc, .int .i64 L, v12, .pointer (some ⟨bm, 0, none⟩), .pointer (some ⟨bm, 0, none⟩), .pointer (some ⟨bm, 10, none⟩), .slice (some ⟨bts, 0, none⟩) o1 o1, .int .i64 o1, v18, undef, undef, undef, undef, undef, undef, undef, undef, undef, undef, undef, undef, undef, undef, undef, undef, undef, undef, undef, undef, undef, undef, undef, undef, undef, undef, undef, undef, undef, undef, undef, undef, undef, undef, undef, undef, undef, undef, undef, undef, undef, undef, undef, undef, undef, undef, undef, undef, undef, undef, undef, undef, undef, undef, undef, undef, undef, undef], defers := [] } ∧ GB W0 L A o1 A1 [] v2 v3 v12 v18 W) ?_ ?_
  · refine rgM (fun W => (∀ o, W.cell? ⟨w.heap.size, o, none⟩ = (#[.pointer (some ⟨bm, 0, none⟩)] : Array Value)[o]?) ∧ (∀ o, W.cell? ⟨bm, o, none⟩ = (Mc.arr { m with slots := .slice so L sc, tasks := .slice (some ⟨bts, 0, none⟩) o1 o1, cur := .int .i64 0, got := .slice none 0 0, wv := .slice none 0 0 })[o]?)) (hW0 ▸ ⟨Yd.cell, Md.cell⟩) (fun hS => ?_)
    iterate 5 (refine tkM rfl (by kernel_rfl) (by rfl) hS ⟨?_, fun W hW => ?_, ?_⟩; rotate_left; (focus (obtain ⟨y1, y2⟩ := hW; go_simp; with_reducible rfl)); simp only [Act.put, List.getElem_toArray, List.getElem_cons_zero, List.getElem_cons_succ, List.setIfInBounds_toArray, List.set_cons_succ, List.set_cons_zero])
    refine permM [6, 7, 8, 9, 10, 5, 11, 12, 13, 14, 15] (by kernel_rfl) ?_
    iterate 5 (refine tkM rfl (by kernel_rfl) (by rfl) hS ⟨?_, fun W hW => ?_, ?_⟩; rotate_left; (focus (obtain ⟨y1, y2⟩ := hW; go_simp; with_reducible rfl)); simp only [Act.put, List.getElem_toArray, List.getElem_cons_zero, List.getElem_cons_succ, List.setIfInBounds_toArray, List.set_cons_succ, List.set_cons_zero])
    rw [← hW0]
    refine doAll famG depG (fun l a W => ∃ v2 v3 v12 v18, a = { tmps := #[.pointer (some ⟨bm, 0, none⟩), .pointer (some ⟨w.heap.size, 0, none⟩), v2, v3, undef, undef, undef, .pointer (some ⟨bm, 0, none⟩), .pointer (some ⟨bm, 0, none⟩), .pointer (some ⟨bm, 5, none⟩), .slice so L sc, .int .i64 L, v12, .pointer (some ⟨bm, 0, none⟩), .pointer (some ⟨bm, 0, none⟩), .pointer (some ⟨bm, 10, none⟩), .slice (some ⟨bts, 0, none⟩) o1 o1, .int .i64 o1, v18, undef, undef, undef, undef, undef, undef, undef, undef, undef, undef, undef, undef, undef, undef, undef, undef, undef, undef, undef, undef, undef, undef, undef, undef, undef, undef, undef, undef, undef, undef, undef, undef, undef, undef, undef, undef, undef, undef, undef, undef, undef, undef, undef, undef, undef, undef, undef, undef, undef, undef, undef, undef, undef, undef, undef, undef, undef, undef], defers := [] } ∧ GB W0 L A o1 A1 l v2 v3 v12 v18 W) (by kernel_rfl) ?hS ?step ?done 6 _ _ _ rfl rfl ⟨undef, undef, undef, undef, rfl, Below.refl _ _, by simp, by simp, by simp, by simp⟩
    case hS =>
      rintro l a W ⟨v2, v3, v12, v18, rfl, h⟩
      exact ⟨(Yd.later h.below).cell, (Md.later h.below).cell⟩
    case done =>
      rintro a W ⟨v2, v3, v12, v18, rfl, h⟩
      exact ⟨rfl, v2, v3, v12, v18, rfl, h⟩
    case step =>
      rintro l a W i ⟨v2, v3, v12, v18, rfl, h⟩ hd hne
      simp only [depG, Bool.or_eq_true, Bool.and_eq_true, beq_iff_eq, Bool.not_eq_true'] at hd
      have HG : Hid (GB W0 L A o1 A1 l v2 v3 v12 v18 W) := h
      clear h
      rcases hd with ((((⟨rfl, h⟩ | ⟨rfl, h⟩) | ⟨rfl, h⟩) | ⟨rfl, h⟩) | ⟨⟨rfl, h⟩, h'⟩) | ⟨⟨rfl, h⟩, h'⟩
      · refine ⟨_, rfl, by rfl, fun K hK => ?_⟩
        have hm := run_make_k (P := Tryz.prog) 73 94 _ 1 8 eltS.ht eltS.hi .i64 .i64 L (by omega) (by omega) W
        go_wp2_with fail
        exact hK.out _ _ ⟨_, _, _, _, rfl, HG.out.a5 h⟩
      · refine ⟨_, rfl, by rfl, fun K hK => ?_⟩
        have ho : o1 ≤ 1 := by rw [HO.out]; omega
        have hm := run_make_k (P := Tryz.prog) 77 93 _ 1 8 eltTs.ht eltTs.hi .i64 .i64 o1 (by omega) (by omega) W
        go_wp2_with fail
        exact hK.out _ _ ⟨_, _, _, _, rfl, HG.out.a11 h⟩
      · refine ⟨_, rfl, by rfl, fun K hK => ?_⟩
        go_wp2_with fail
        exact hK.out _ _ ⟨_, _, _, _, rfl, HG.out.a12 h⟩
      · refine ⟨_, rfl, by rfl, fun K hK => ?_⟩
        go_wp2_with fail
        exact hK.out _ _ ⟨_, _, _, _, rfl, HG.out.a13 h⟩
      · obtain ⟨b, rfl, hb1, B1⟩ := HG.out.sv h'
        obtain ⟨g, rfl, _, _⟩ := HG.out.s h
        refine ⟨_, rfl, by rfl, fun K hK => ?_⟩
        have bc1 := B1.cell
        have bf1 := B1.frozen
        go_wp2_with fail
        exact hK.out _ _ ⟨_, _, _, _, rfl, HG.out.a14 hne hb1 B1⟩
      · obtain ⟨b, rfl, hb1, B1⟩ := HG.out.tv h'
        obtain ⟨g, rfl, _, _⟩ := HG.out.t h
        refine ⟨_, rfl, by rfl, fun K hK => ?_⟩
        have bc1 := B1.cell
        have bf1 := B1.frozen
        go_wp2_with fail
        exact hK.out _ _ ⟨_, _, _, _, rfl, HG.out.a15 hne hb1 B1⟩
  · rintro a W1 ⟨v2, v3, v12, v18, rfl, G1⟩
    obtain ⟨ga, rfl, ga1, GA⟩ := G1.s (by simp)
    obtain ⟨gb, rfl, gb1, GT⟩ := G1.t (by simp)
    obtain ⟨b2, rfl, b21, B2⟩ := G1.sv (by simp)
    obtain ⟨b3, rfl, b31, B3⟩ := G1.tv (by simp)
    have hB1 := G1.below
    have hsW := hB1.size
    have hs0 : W0.heap.size = w.heap.size + 1 := by rw [hW0]; simp
    have hBw : Below w.heap.size w W1 := (hW0 ▸ ((Below.refl _ w).alloc (Nat.le_refl _) _).drew : Below w.heap.size w W0).trans (hB1.mono (by omega))
    have Y1 := Yd.later hB1
    obtain rfl := HO.out
    simp only [List.contains_nil, Bool.false_eq_true, if_false] at B2 B3
    clear HO G1 hB1
    have y1 := Y1.cell
    go_wp2_with (go_at_call 26; refine (met_any bm W1).mono ?_; rintro e W2 ⟨rfl, hW2⟩)
    rw [← hW2]
    have Z2 : Blk W2 W1.heap.size #[.pointer (some ⟨bm, 0, none⟩)] 61 := hW2 ▸ Blk.new W1 _ _
    have h12 : Below W1.heap.size W1 W2 := hW2 ▸ (Below.refl _ _).alloc (Nat.le_refl _) _
    have hs2 : W2.heap.size = W1.heap.size + 1 := by rw [hW2]; simp
    have hB2 : Below w.heap.size w W2 := hBw.trans (h12.mono hBw.size)
    have GA2 := GA.later h12
    have GT2 := GT.later h12
    have B22 := B2.later h12
    have B32 := B3.later h12
    have Y2 := Y1.later h12
    have gal := GA.lt
    have gbl := GT.lt
    have hgab : gb ≠ ga := blk_ne GT GA (by decide)
    have hbwl := hBw.size
    obtain ⟨fo, fcc, hmf⟩ : ∃ fo fcc, m.free = .slice fo n fcc := by
      rcases S.heap with ⟨rfl, fo, fcc, h⟩ | ⟨g, c, h, _⟩
      · exact ⟨fo, fcc, h⟩
      · exact ⟨_, _, h⟩
    have MF : MAt w bm { m with slots := .slice so L sc, free := .slice fo n fcc, tasks := .slice (some ⟨bts, 0, none⟩) 1 1, cur := .int .i64 0, got := .slice none 0 0, wv := .slice none 0 0 } := by rw [← hmf]; exact M
    obtain ⟨gs, rfl⟩ : ∃ gs, so = some ⟨gs, 0, none⟩ := by
      rcases owns_form S.row with ⟨_, h⟩ | ⟨g, c, h, _⟩
      · omega
      · rw [hms] at h; injection h with h _ _; exact ⟨g, h⟩
    have hR : w.ownsRow 0 94 1 (.slice (some ⟨gs, 0, none⟩) L sc) L xs := owns0 (hms ▸ S.row)
    have hsp := owns_cell hR hxp
    obtain ⟨wk, hwk⟩ : ∃ wk : Nat → World, wk = fun i => match i with | 0 => W2 | 1 => W2.setCell ⟨gb, 0, none⟩ (pv bt) | _ => (W2.setCell ⟨gb, 0, none⟩ (pv bt)).setCell ⟨ga, p, none⟩ (pv bs) := ⟨_, rfl⟩
    have Bk : ∀ i, Below w.heap.size w (wk i) := fun i => by
      rw [hwk]
      rcases i with _ | _ | i
      · exact hB2
      · exact hB2.setCell (p := ⟨gb, 0, none⟩) (by show w.heap.size ≤ gb; omega) _
      · exact (hB2.setCell (p := ⟨gb, 0, none⟩) (by show w.heap.size ≤ gb; omega) _).setCell (p := ⟨ga, p, none⟩) (by show w.heap.size ≤ ga; omega) _
    have Bw : ∀ i W, Below W2.heap.size (wk i) W → Below w.heap.size w W := fun i W h => (Bk i).trans (h.mono (by omega))
    have e0 : wk 0 = W2 := congrFun hwk 0
    have Bw0 : ∀ W, Below W2.heap.size W2 W → Below w.heap.size w W := fun W h => hB2.trans (h.mono (by omega))
    have HB : Hid (∀ i W, Below W2.heap.size (wk i) W → Below w.heap.size w W) := Bw
    refine range_met W1.heap.size bm p [gb, ga] wk (fun i bq => { tmps := #[.pointer (some ⟨bm, 0, none⟩), .pointer (some ⟨w.heap.size, 0, none⟩), pv b2, pv b3, pv bq, undef, undef, .pointer (some ⟨bm, 0, none⟩), .pointer (some ⟨bm, 0, none⟩), .pointer (some ⟨bm, 5, none⟩), .slice (some ⟨gs, 0, none⟩) L sc, .int .i64 L, sl1 ga L, .pointer (some ⟨bm, 0, none⟩), .pointer (some ⟨bm, 0, none⟩), .pointer (some ⟨bm, 10, none⟩), .slice (some ⟨bts, 0, none⟩) 1 1, .int .i64 1, sl1 gb 1, .pointer (some ⟨bm, 0, none⟩), .func (.func 105) #[] #[.pointer (some ⟨W1.heap.size, 0, none⟩)], .agg (thc p i), undef, undef, undef, undef, undef, undef, undef, undef, undef, undef, undef, undef, undef, undef, undef, undef, undef, undef, undef, undef, undef, undef, undef, undef, undef, undef, undef, undef, undef, undef, undef, undef, undef, undef, undef, undef, undef, undef, undef, undef, undef, undef, undef, undef, undef, undef, undef, undef, undef, undef, undef, undef, undef, undef, undef], defers := [] }) rfl rfl e0 (by omega) (by simp; omega) (Z2.cell 0) ?hU ?hF ?hN0 ?hN1 ?assign ?body ?done
    case hU => exact fun W h => (used_any bm { m with tasks := .slice (some ⟨bts, 0, none⟩) 1 1, cur := .int .i64 0, got := .slice none 0 0, wv := .slice none 0 0 } _ _ L sc n fcc W hn hL (MF.later (Bw0 W h))).mono fun e w' ⟨he, hb⟩ => ⟨_, he, hb⟩
    case hF =>
      intro W h
      have hb1 := Bw0 W h
      exact firstNamed_any bm bts bt bf fc bc br k x r f s i nn p cc { t with state := .int .i64 st } { m with slots := .slice (some ⟨gs, 0, none⟩) L sc } W hk (by have := hb1.size; omega) (by have := hb1.size; omega) (M.later hb1) (cb hb hb1) (T.later hb1) (cb F hb1) (C.later hb1) (X.later hb1) (fun W' h' => tablesBorn_any bm L _ xs { m with tasks := .slice (some ⟨bts, 0, none⟩) 1 1, cur := .int .i64 0, got := .slice none 0 0, wv := .slice none 0 0 } W' hL (M.later (bl2 hb1 h')) (owns_below hR (bl2 hb1 h')) (fun j hj => (hx j hj).imp id fun ⟨b, h1, h2, h3⟩ => ⟨b, h1, by have := (bl2 hb1 h').size; omega, h3.later h2 (bl2 hb1 h')⟩) (sortOk _ _))
    case hN0 => exact fun no nc W h => namedBy_task bm bts bt nc no st { m with slots := .slice (some ⟨gs, 0, none⟩) L sc, cur := .int .i64 0, got := .slice none 0 0, wv := .slice none 0 0 } { t with fk := .int .i64 k, fn := .int .i64 x, ff := .float .f64 f, fs := .string s, fr := .int .i64 r, frames := .slice (some ⟨bf, 0, none⟩) 1 fc, waiter := .int .i64 (-1), dropped := .slice none 0 0 } W h0 h1 (M.later (Bw 2 W h)) (cb hb (Bw 2 W h)) (T.later (Bw 2 W h))
    case hN1 => exact fun no nc W h => namedBy_tab bm gs L sc bs p nc no _ _ _ _ { m with tasks := .slice (some ⟨bts, 0, none⟩) 1 1, cur := .int .i64 0, got := .slice none 0 0, wv := .slice none 0 0 } W hp (M.later (Bw 2 W h)) (cb hsp (Bw 2 W h)) (B.later (Bw 2 W h))
    case assign =>
      intro i l W K hi hB hK
      clear hwk HB Bw Bk Bw0
      rcases (by omega : i = 0 ∨ i = 1) with rfl | rfl
      · dsimp only [thc] at hK ⊢
        gi_wp2
        exact hK _ _ rfl rfl
      · dsimp only [thc] at hK ⊢
        gi_wp2
        exact hK _ _ rfl rfl
    case body =>
      intro i l bq W hi hB hbq TQ
      rcases (by omega : i = 0 ∨ i = 1) with rfl | rfl
      · rw [e0] at hB
        have TQ : Blk W bq #[.bool true, .int .i64 0] 92 := TQ
        have BQ := B32.later hB
        have MQ := M.later (Bw0 W hB)
        have YQ := Y2.later hB
        have b3c := BQ.cell
        have mc := MQ.cell
        have yc := YQ.cell
        have n3 : b3 ∉ [gb, ga] := by simp; exact ⟨blk_ne B32 GT2 (by decide), blk_ne B32 GA2 (by decide)⟩
        have nq : bq ∉ [gb, ga] := by simp; omega
        have ny : w.heap.size ∉ [gb, ga] := by simp; omega
        have nm : bm ∉ [gb, ga] := by have := M.lt; simp; omega
        have nt : bts ∉ [gb, ga] := by have := World.block_lt_of_cell? _ _ hb; simp at this ⊢; omega
        have tc := cb hb (Bw0 W hB)
        have qc := TQ.cell
        have GW := GT2.later hB
        have e1 : Below W2.heap.size (wk 1) ((W.drew).setCell ⟨gb, 0, none⟩ (pv bt)) := (congrFun hwk 1) ▸ below_set hB.drew _ _
        have c1 : Chg [gb, ga] W ((W.drew).setCell ⟨gb, 0, none⟩ (pv bt)) := ((Chg.refl _ _).below (Below.refl _ _).drew).set (by simp) _ _
        clear hwk HB Bw Bk Bw0
        gi_wp2
        refine rgR (fun W => (∀ o, W.cell? ⟨b3, o, none⟩ = (#[sl1 gb 1] : Array Value)[o]?) ∧ (∀ o, W.cell? ⟨bq, o, none⟩ = (#[.bool true, .int .i64 0] : Array Value)[o]?) ∧ (∀ o, W.cell? ⟨w.heap.size, o, none⟩ = (#[.pointer (some ⟨bm, 0, none⟩)] : Array Value)[o]?) ∧ (∀ o, W.cell? ⟨bm, o, none⟩ = (Mc.arr { m with slots := .slice (some ⟨gs, 0, none⟩) L sc, tasks := .slice (some ⟨bts, 0, none⟩) 1 1, cur := .int .i64 0, got := .slice none 0 0, wv := .slice none 0 0 })[o]?) ∧ W.cell? ⟨bts, 0, none⟩ = some (.pointer (some ⟨bt, 0, none⟩))) (by kernel_rfl) (fun ⟨_, _, h⟩ => (by cases h.1)) ⟨b3c, qc, yc, mc, tc⟩ (fun hS => ?_)
        iterate 12 (refine tkM rfl (by kernel_rfl) (by rfl) hS ⟨?_, fun W hW => ?_, ?_⟩; rotate_left; (focus (obtain ⟨y1, y2, y3, y4, y5⟩ := hW; go_simp; with_reducible rfl)); simp only [Act.put, List.getElem_toArray, List.getElem_cons_zero, List.getElem_cons_succ, List.setIfInBounds_toArray, List.set_cons_succ, List.set_cons_zero])
        refine doM rfl (by kernel_rfl) (by rfl) (fun K2 hK2 => ?_)
        have gc : W.drew.cell? ⟨gb, 0, none⟩ = some (.pointer none) := (GW.cell 0).trans (by rw [← hA1, ← Array.getElem?_toList, toList_madeCells_one]; rfl)
        have gf : W.drew.frozen? ⟨gb, 0, none⟩ = false := GW.frozen 0
        go_wp2_with fail
        refine hK2.out _ _ ⟨(BQ.chg c1 n3).cell, (TQ.chg c1 nq).cell, (YQ.chg c1 ny).cell, (MQ.chg c1 nm).cell, c1.cell nt tc⟩ (fun _ => enM (by kernel_rfl) (NoPanic.normal ?_))
        exact ⟨rfl, e1, c1⟩
      · have TQ : Blk W bq #[.bool false, .int .i64 p] 92 := TQ
        have hBw1 := Bw 1 W hB
        have hB' : Below W2.heap.size (W2.setCell ⟨gb, 0, none⟩ (pv bt)) W := by have h := hB; rw [hwk] at h; exact h
        have s1 : (W2.setCell ⟨gb, 0, none⟩ (pv bt)).heap.size = W2.heap.size := by simp
        have hB1 : Below (W2.setCell ⟨gb, 0, none⟩ (pv bt)).heap.size (W2.setCell ⟨gb, 0, none⟩ (pv bt)) W := s1.symm ▸ hB'
        have BQ := (B22.setOther (p := ⟨gb, 0, none⟩) (blk_ne B22 GT2 (by decide)) (pv bt)).later hB1
        have MQ := M.later hBw1
        have YQ := (Y2.setOther (p := ⟨gb, 0, none⟩) (blk_ne Y2 GT2 (by decide)) (pv bt)).later hB1
        have GW := (GA2.setOther (p := ⟨gb, 0, none⟩) (Ne.symm hgab) (pv bt)).later hB1
        have b2c := BQ.cell
        have mc := MQ.cell
        have yc := YQ.cell
        have tc := cb hsp hBw1
        have qc := TQ.cell
        have e1 : Below W2.heap.size (wk 2) ((W.drew).setCell ⟨ga, p, none⟩ (pv bs)) := (congrFun hwk 2) ▸ below_set hB'.drew _ _
        have c1 : Chg [gb, ga] W ((W.drew).setCell ⟨ga, p, none⟩ (pv bs)) := ((Chg.refl _ _).below (Below.refl _ _).drew).set (by simp) _ _
        have p0 : (0 : Int) ≤ p := by omega
        have p1 : (p : Int) < L := by omega
        have n3 : b2 ∉ [gb, ga] := by simp; exact ⟨blk_ne B22 GT2 (by decide), blk_ne B22 GA2 (by decide)⟩
        have nq : bq ∉ [gb, ga] := by simp; omega
        have ny : w.heap.size ∉ [gb, ga] := by simp; omega
        have nm : bm ∉ [gb, ga] := by have := M.lt; simp; omega
        have nt : gs ∉ [gb, ga] := by have := World.block_lt_of_cell? _ _ hsp; simp at this ⊢; omega
        clear hwk HB Bw Bk Bw0
        gi_wp2
        refine rgR (fun W => (∀ o, W.cell? ⟨b2, o, none⟩ = (#[sl1 ga L] : Array Value)[o]?) ∧ (∀ o, W.cell? ⟨bq, o, none⟩ = (#[.bool false, .int .i64 p] : Array Value)[o]?) ∧ (∀ o, W.cell? ⟨w.heap.size, o, none⟩ = (#[.pointer (some ⟨bm, 0, none⟩)] : Array Value)[o]?) ∧ (∀ o, W.cell? ⟨bm, o, none⟩ = (Mc.arr { m with slots := .slice (some ⟨gs, 0, none⟩) L sc, tasks := .slice (some ⟨bts, 0, none⟩) 1 1, cur := .int .i64 0, got := .slice none 0 0, wv := .slice none 0 0 })[o]?) ∧ W.cell? ⟨gs, p, none⟩ = some (pv bs)) (by kernel_rfl) (fun ⟨_, _, h⟩ => (by cases h.1)) ⟨b2c, qc, yc, mc, tc⟩ (fun hS => ?_)
        iterate 12 (refine tkM rfl (by kernel_rfl) (by rfl) hS ⟨?_, fun W hW => ?_, ?_⟩; rotate_left; (focus (obtain ⟨y1, y2, y3, y4, y5⟩ := hW; go_simp; with_reducible rfl)); simp only [Act.put, List.getElem_toArray, List.getElem_cons_zero, List.getElem_cons_succ, List.setIfInBounds_toArray, List.set_cons_succ, List.set_cons_zero])
        refine doM rfl (by kernel_rfl) (by rfl) (fun K2 hK2 => ?_)
        have gc : W.drew.cell? ⟨ga, p, none⟩ = some (.pointer none) := (GW.cell p).trans (by rw [← hA, ← Array.getElem?_toList, toList_madeCells_one]; simp [hp])
        have gf : W.drew.frozen? ⟨ga, p, none⟩ = false := GW.frozen p
        go_wp2_with fail
        refine hK2.out _ _ ⟨(BQ.chg c1 n3).cell, (TQ.chg c1 nq).cell, (YQ.chg c1 ny).cell, (MQ.chg c1 nm).cell, c1.cell nt tc⟩ (fun _ => enM (by kernel_rfl) (NoPanic.normal ?_))
        exact ⟨rfl, e1, c1⟩
    case done =>
      intro D W hD hB hK
      have hBw1 := Bw 2 W hB
      have hB' : Below W2.heap.size ((W2.setCell ⟨gb, 0, none⟩ (pv bt)).setCell ⟨ga, p, none⟩ (pv bs)) W := by have h := hB; rw [hwk] at h; exact h
      have s1 : ((W2.setCell ⟨gb, 0, none⟩ (pv bt)).setCell ⟨ga, p, none⟩ (pv bs)).heap.size = W2.heap.size := by simp
      rw [← s1] at hB'
      have hsB := hB'.size
      rw [s1] at hsB
      have BQ2 := ((B22.setOther (p := ⟨gb, 0, none⟩) (blk_ne B22 GT2 (by decide)) (pv bt)).setOther (p := ⟨ga, p, none⟩) (blk_ne B22 GA2 (by decide)) (pv bs)).later hB'
      have BQ3 := ((B32.setOther (p := ⟨gb, 0, none⟩) (blk_ne B32 GT2 (by decide)) (pv bt)).setOther (p := ⟨ga, p, none⟩) (blk_ne B32 GA2 (by decide)) (pv bs)).later hB'
      have YQ := ((Y2.setOther (p := ⟨gb, 0, none⟩) (blk_ne Y2 GT2 (by decide)) (pv bt)).setOther (p := ⟨ga, p, none⟩) (blk_ne Y2 GA2 (by decide)) (pv bs)).later hB'
      have GAQ := ((GA2.setOther (p := ⟨gb, 0, none⟩) (Ne.symm hgab) (pv bt)).set p (pv bs)).later hB'
      have GTQ := ((GT2.set 0 (pv bt)).setOther (p := ⟨ga, p, none⟩) hgab (pv bs)).later hB'
      have MQ := M.later hBw1
      have hAs : A.size = L := by rw [← hA]; exact size_madeCells _ _
      have hAl : (A.setIfInBounds p (pv bs)).toList = (List.replicate L (.pointer none)).set p (pv bs) := by rw [Array.toList_setIfInBounds, ← hA, toList_madeCells_one]
      have hRW : W.ownsRow 0 94 1 (sl1 ga L) L ((List.replicate L (.pointer none)).set p (pv bs)) := ⟨by simp, .inr ⟨ga, L, _, rfl, Nat.zero_le _, GAQ, Nat.le_refl _, by unfold maxLen; omega, by simp [hAs], by rw [hAl, Nat.mul_one, List.take_of_length_le (by simp)]⟩⟩
      have gtc : W.cell? ⟨gb, 0, none⟩ = some (pv bt) := (GTQ.cell 0).trans (by rw [← hA1, ← Array.getElem?_toList, Array.toList_setIfInBounds, toList_madeCells_one]; rfl)
      have tcW := cb hb hBw1
      have bq2 := BQ2.cell
      have yc := YQ.cell
      clear hwk HB Bw Bk Bw0 hAl GTQ hB
      have HR : Hid (W.ownsRow 0 94 1 (sl1 ga L) L ((List.replicate L (.pointer none)).set p (pv bs))) := hRW
      have HM : Hid (MAt W bm { m with slots := .slice (some ⟨gs, 0, none⟩) L sc, tasks := .slice (some ⟨bts, 0, none⟩) 1 1, cur := .int .i64 0, got := .slice none 0 0, wv := .slice none 0 0 }) := MQ
      clear hRW MQ
      have nts : bts ∉ [bm] := by simpa using blk_ne TS M (by decide)
      go_wp2_with fail
      refine (keepSlots_any bm L p ga L ⟨bs, 0, none⟩ _ _ W hL hp ?ks1 ?ks2 HM.out HR.out).mono ?_
      case ks1 => simp [hp]
      case ks2 => exact fun j hj hne => by simp [hj, Ne.symm hne]
      rintro e W4 ⟨fv, rfl, C4, M4, R4⟩
      have m4 := M4.cell
      have f4 := M4.frozen
      have y4 := (YQ.chg C4 (by simpa using blk_ne YQ HM.out (by decide))).cell
      have b4 := (BQ3.chg C4 (by simpa using blk_ne BQ3 HM.out (by decide))).cell
      have t4 : W4.cell? ⟨bts, 0, none⟩ = some (.pointer (some ⟨bt, 0, none⟩)) := C4.cell nts tcW
      have g4 : W4.cell? ⟨gb, 0, none⟩ = some (pv bt) := C4.cell (by have := M.lt; simp; omega) gtc
      go_wp2_with fail
      refine wp_loop_rounds 2 ?_
      rw [rounds_succ]
      go_wp2_with fail
      rw [rounds_succ]
      go_wp2_with fail
      have hbm := M.lt
      have hDl : D < W.heap.size := (Array.getElem?_eq_some_iff.1 hK).1
      have hC4 := C4.size
      have hp1 : ∀ (V : World) (k : Nat), k ≠ D → (V.putObj D (.deferred none)).heap[k]? = V.heap[k]? := fun V k hk => World.putObj_heap_other hk
      have hk4 : ∀ k, k ≠ bm → k ≠ D → ((W4.setCell ⟨bm, 1, none⟩ (.int .i64 0)).putObj D (.deferred none)).heap[k]? = W4.heap[k]? := fun k h h' => (hp1 _ k h').trans (Below.heap_setCell _ _ _ k h)
      have hKD : (W4.setCell ⟨bm, 1, none⟩ (.int .i64 0)).heap[D]? = some (.deferred (some [])) := (Below.heap_setCell _ _ _ D (by show D ≠ bm; omega)).trans ((C4.block D (by simp; omega) hDl).trans hK)
      refine ⟨by simp, .inl ⟨_, _, rfl, run_takeDeferred hKD, ?_⟩⟩
      have c4 : Chg [bm] w (W4.setCell ⟨bm, 1, none⟩ (.int .i64 0)) := (((Chg.refl _ _).below hBw1).trans C4 (fun _ h => h)).set (by simp) _ _
      have GA4 : Blk ((W4.setCell ⟨bm, 1, none⟩ (.int .i64 0)).putObj D (.deferred none)) ga (A.setIfInBounds p (pv bs)) 94 := (hk4 ga (by omega) (by omega)).trans (GAQ.chg C4 (by simp; omega))
      have hAl : (A.setIfInBounds p (pv bs)).toList = (List.replicate L (.pointer none)).set p (pv bs) := by rw [Array.toList_setIfInBounds, ← hA, toList_madeCells_one]
      refine ⟨_, results_none rfl _ _ _, rfl, ⟨c4.os, c4.tape, c4.output, by simpa using c4.size, fun b hb hl => (hp1 _ b (by omega)).trans (c4.block b hb hl)⟩, _, fv, (hp1 _ bm (by omega)).trans (M4.set 1 _), ⟨by simp, .inr ⟨ga, L, _, rfl, by have := S.lb; omega, GA4, hp, by unfold maxLen; omega, by simp [hAs], ?_⟩⟩, ?_, fun g hg => by have := (R4.lt g hg).1; have := S.lb; omega, S.lb⟩
      · rw [hAl, Nat.mul_one]
        apply List.ext_getElem?
        intro j
        by_cases hj : j < p + 1
        · rw [List.getElem?_take_of_lt hj]
          by_cases e : j = p
          · subst e; simp [hp]
          · rw [List.getElem?_set_ne (Ne.symm e), List.getElem?_append_left (by simp; omega)]
            simp [show j < L by omega, show j < p by omega]
        · rw [List.getElem?_eq_none (by simp; omega), List.getElem?_eq_none (by simp; omega)]
      · rcases owns_parts R4 with ⟨rfl, h, _⟩ | ⟨g, cap, rfl, hle, hO, hcap, hC⟩
        · exact .inl ⟨h, _, _, by rw [h]⟩
        · have hg := hO.lt
          have hgk := hk4 g (by omega) (by omega)
          refine .inr ⟨g, cap, rfl, by omega, by simpa using hO.of_block hgk, fun j hj => ⟨(j : Int), (World.cell?_of_block hgk).trans (owns_cell R4 (by simp [hj])), by omega, by omega⟩⟩
end Go.Proofs.YtgopdffmnikhdaaGreatDoor
namespace Go.Proofs.YtgopdffmnikhdaaGreatDoor
open Go.RowKit Go.Deep
/-- The blocks of a run. -/
structure Sb where
  (bl bm bts bt bf bc br qb qi cp ck fc pc qc lo : Nat)
  w0 : World
  bx : Option Nat
/-- The quick instructions. -/
def insT (kx : Nat) : Nat → Array Value
  | 0 => qa 4 0 0 0 0 0 0
  | 1 => qa 4 1 kx 0 0 0 0
  | 2 => qa 4 2 0 0 0 0 0
  | 3 => qa 37 0 0 0 0 0 0
  | 4 => qa 38 0 9 0 0 0 0
  | 5 => qa 3 0 0 0 0 0 0
  | 6 => qa 12 3 0 0 0 0 0
  | 7 => qa 42 3 0 0 0 0 0
  | 8 => qa 39 0 4 0 0 0 0
  | 9 => qa 22 3 0 0 0 0 0
  | _ => qa 29 (-4) 0 0 0 0 0
abbrev acF (la : Array Value) (o fn : Nat) (g : Bool) : Prop := la[8 + o * 2]? = some (.func (.func fn) #[] #[]) ∧ la[8 + o * 2 + 1]? = some (.bool g)
/-- The actions that are wanted. -/
structure LA (la : Array Value) : Prop where
  c : acF la 4 37 true
  f : acF la 37 69 true
  ft : acF la 38 70 false
  ti : acF la 3 36 true
  tb : acF la 12 45 true
  dr : acF la 42 74 true
  fx : acF la 39 71 false
  ls : acF la 22 54 true
  rt : acF la 29 61 false
/-- What stays as it is while a code runs. -/
structure Sd (b : Sb) (kx : Nat) (n : Int) (W : World) : Prop where
  l : ∃ la, Blk W b.bl la 72 ∧ Lm la b.bm b.cp b.qb b.pc b.qc 1000 1000 ∧ LA la
  q : ∃ A, Blk W b.qb A 154 ∧ ∃ ic, A[0]? = some (.slice (some ⟨b.qi, 0, none⟩) 11 ic)
  i : ∃ A, Blk W b.qi A 149 ∧ ∀ a, a < 11 → ∀ j, j < 7 → A[a * 7 + j]? = (insT kx a)[j]?
  p : ∃ A, Blk W b.cp A 54 ∧ (∃ kn kc, A[6]? = some (.slice (some ⟨b.ck, 0, none⟩) kn kc) ∧ kx < kn) ∧ ∃ pv, A[2]? = some (.int .i64 pv)
  k : ∃ A, Blk W b.ck A 44 ∧ (∀ j, j < 5 → A[j]? = (vi 1)[j]?) ∧ ∀ j, j < 5 → A[kx * 5 + j]? = (vi n)[j]?
  ts : Blk W b.bts #[.pointer (some ⟨b.bt, 0, none⟩)] 93
  f : ∃ A, Blk W b.bf A 112 ∧ A[0]? = some (.iface 105 (.pointer (some ⟨b.bc, 0, none⟩)))
  low : Below b.lo b.w0 W
  ge : b.lo ≤ b.br ∧ b.lo ≤ b.bc ∧ b.lo ≤ b.bt ∧ b.lo ≤ b.bm
  box : ∀ x, b.bx = some x → Blk W x #[.pointer (some ⟨b.bl, 0, none⟩)] 59
abbrev ts0 : List TypeId := [169, 81, 94, 3, 125, 98]
theorem Sd.fr {b : Sb} {kx : Nat} {n : Int} {W W' : World} (h : Sd b kx n W) (hf : FrT ts0 W W') (hb : Below b.lo W W') : Sd b kx n W' :=
  let ⟨a1, h1, h1'⟩ := h.l; let ⟨a2, h2, h2'⟩ := h.q; let ⟨a3, h3, h3'⟩ := h.i; let ⟨a4, h4, h4'⟩ := h.p; let ⟨a5, h5, h5'⟩ := h.k; let ⟨a6, h6, h6'⟩ := h.f
  ⟨⟨a1, h1.fr hf (by decide), h1'⟩, ⟨a2, h2.fr hf (by decide), h2'⟩, ⟨a3, h3.fr hf (by decide), h3'⟩, ⟨a4, h4.fr hf (by decide), h4'⟩, ⟨a5, h5.fr hf (by decide), h5'⟩, h.ts.fr hf (by decide), ⟨a6, h6.fr hf (by decide), h6'⟩, h.low.trans hb, h.ge, fun x hx => (h.box x hx).fr hf (by decide)⟩
/-- The machine. -/
abbrev mm (m : Mc) (b : Sb) (pc d k tk mv : Int) (sv fv : Value) : Mc := { m with pace := .int .i64 pc, due := .int .i64 d, births := .int .i64 k, vers := .int .i64 k, live := .int .i64 0, since := .int .i64 k, rm := .int .i64 k, rk := .int .i64 tk, tasks := .slice (some ⟨b.bts, 0, none⟩) 1 1, cur := .int .i64 0, has := .bool false, got := .slice none 0 0, wk := .int .i64 0, wv := .slice none 0 0, wt := .string ByteArray.empty, over := .bool false, moves := .int .i64 mv, slots := sv, free := fv }
/-- The call. -/
abbrev c0 (c : Cc) (b : Sb) (a : Int) : Cc := { c with proto := .int .i64 0, self := .pointer none, at_ := .int .i64 a, line := .int .i64 0, regs := .slice (some ⟨b.br, 0, none⟩) 6 6, fences := .slice none 0 0, leaving := .bool false, wv := .slice none 0 0 }
/-- The task. -/
abbrev t0 (t : Tc) (b : Sb) (l : Nat) : Tc := { t with state := .int .i64 2, fk := .int .i64 0, fn := .int .i64 0, ff := .float .f64 0, fs := .string ByteArray.empty, fr := .int .i64 0, frames := .slice (some ⟨b.bf, 0, none⟩) l b.fc, waiter := .int .i64 (-1), dropped := .slice none 0 0 }
def Tabs (W : World) (L : Nat) (xs : List Value) : Prop := ∀ i, i < L → xs[i]? = some (.pointer none) ∨ ∃ b, xs[i]? = some (pv b) ∧ b < W.heap.size ∧ TabB W b
theorem TabB.fr {ts : List TypeId} {W W' : World} {b : Nat} (h : TabB W b) (hf : FrT ts W W') (ht : 167 ∉ ts) : TabB W' b := by
  obtain ⟨p, bo, ve, h⟩ := h
  exact ⟨p, bo, ve, h.fr hf ht⟩
theorem Tabs.fr {ts : List TypeId} {W W' : World} {L : Nat} {xs : List Value} (h : Tabs W L xs) (hf : FrT ts W W') (ht : 167 ∉ ts) : Tabs W' L xs :=
  fun i hi => (h i hi).imp id fun ⟨b, h1, h2, h3⟩ => ⟨b, h1, Nat.lt_of_lt_of_le h2 hf.size, h3.fr hf ht⟩
/-- The table in register 3. -/
def Tab3 (W : World) (L : Nat) (xs : List Value) (o : Option Nat) : Prop := ∀ p, o = some p → p < L ∧ ∃ bs bo ve, xs[p]? = some (pv bs) ∧ Blk W bs (sa (.int .i64 p) (.int .i64 1) (.int .i64 bo) (.int .i64 ve)) 167
theorem Tab3.fr {ts : List TypeId} {W W' : World} {L : Nat} {xs : List Value} {o : Option Nat} (h : Tab3 W L xs o) (hf : FrT ts W W') (ht : 167 ∉ ts) : Tab3 W' L xs o :=
  fun p hp => let ⟨h1, bs, bo, ve, h2, h3⟩ := h p hp; ⟨h1, bs, bo, ve, h2, h3.fr hf ht⟩
/-- Ahead of instruction a. -/
structure RS (b : Sb) (kx : Nat) (n pc : Int) (m : Mc) (c : Cc) (t : Tc) (a : Nat) (r : Rs) (o : Option Nat) (d k tk : Int) (L nf : Nat) (W : World) : Prop where
  s : Sd b kx n W
  c : CAt W b.bc (c0 c b a)
  x : RAt W b.br r
  t : TAt W b.bt (t0 t b 1)
  m : ∃ sv fv xs mv, SlSt b.lo W b.bm (mm m b pc d k tk mv sv fv) L nf xs ∧ Tabs W L xs ∧ Tab3 W L xs o
section
variable {b : Sb} {kx : Nat} {n pc : Int} {m : Mc} {c : Cc} {t : Tc} {a : Nat} {r r' : Rs} {o : Option Nat} {d k tk : Int} {L nf : Nat} {W W' : World}
theorem RS.lo (h : RS b kx n pc m c t a r o d k tk L nf W) : b.lo ≤ W.heap.size := Nat.le_trans h.s.ge.1 (Nat.le_of_lt h.x.lt)
theorem RS.later (h : RS b kx n pc m c t a r o d k tk L nf W) (hb : Below W.heap.size W W') : RS b kx n pc m c t a r o d k tk L nf W' :=
  let ⟨sv, fv, xs, mv, h1, h2, h3⟩ := h.m
  have hf : FrT ts0 W W' := FrT.below hb
  ⟨h.s.fr hf (hb.mono h.lo), h.c.later hb, h.x.later hb, h.t.later hb, sv, fv, xs, mv, h1.later hb, h2.fr hf (by decide), h3.fr hf (by decide)⟩
theorem SlSt.chgs {lo : Nat} {X : List Nat} {bm : Nat} {m : Mc} {xs : List Value} (h : SlSt lo W bm m L nf xs) (hc : Chg X W W') (hX : ∀ b ∈ X, ∃ (c : Array Value) (t : TypeId) (f : Nat × Nat), W.heap[b]? = some (Obj.cells c t f) ∧ t ∉ tsS) : SlSt lo W' bm m L nf xs := by
  have ne : ∀ {g : Nat} {A : Array Value} {t : TypeId} {f : Nat × Nat}, W.heap[g]? = some (Obj.cells A t f) → t ∈ tsS → g ∉ X := fun hg ht hm => by
    obtain ⟨c', t', f', h1, h2⟩ := hX _ hm
    have e := h1.symm.trans hg
    injection e with e
    injection e with _ e
    exact h2 (e ▸ ht)
  refine ⟨h.x.chg hc (ne h.x (by simp)), owns_chg h.row hc (fun g hg => ?_), h.heap.imp id fun ⟨g, c, h1, h2, h3, h4⟩ => ?_, h.hl, h.lb⟩
  · obtain ⟨c, f, h1⟩ := row_ty h.row g hg
    exact ne h1 (by simp)
  · obtain ⟨A, hA, hs⟩ := h3
    have hg := ne hA (by simp)
    exact ⟨g, c, h1, h2, hc.own hg ⟨A, hA, hs⟩, fun i hi => let ⟨x, h5, h6⟩ := h4 i hi; ⟨x, hc.cell hg h5, h6⟩⟩
theorem RS.setC {a' : Nat} (h : RS b kx n pc m c t a r o d k tk L nf W) (hc : Chg [b.bc] W W') (C : CAt W' b.bc (c0 c b a')) : RS b kx n pc m c t a' r o d k tk L nf W' :=
  let ⟨sv, fv, xs, mv, h1, h2, h3⟩ := h.m
  have hf : FrT ts0 W W' := FrT.chg hc (by simp only [List.mem_singleton]; rintro _ rfl; exact ⟨_, _, _, h.c, by simp⟩)
  ⟨h.s.fr hf (hc.low h.lo (by simpa using h.s.ge.2.1)), C, h.x.chg hc (by simpa using blk_ne h.x h.c (by decide)), h.t.chg hc (by simpa using blk_ne h.t h.c (by decide)), sv, fv, xs, mv, h1.chgs hc (by simp only [List.mem_singleton]; rintro _ rfl; exact ⟨_, _, _, h.c, by decide⟩), h2.fr hf (by decide), h3.fr hf (by decide)⟩
theorem RS.setX (h : RS b kx n pc m c t a r o d k tk L nf W) (hc : Chg [b.br] W W') (X : RAt W' b.br r') : RS b kx n pc m c t a r' o d k tk L nf W' :=
  let ⟨sv, fv, xs, mv, h1, h2, h3⟩ := h.m
  have hf : FrT ts0 W W' := FrT.chg hc (by simp only [List.mem_singleton]; rintro _ rfl; exact ⟨_, _, _, h.x, by simp⟩)
  ⟨h.s.fr hf (hc.low h.lo (by simpa using h.s.ge.1)), h.c.chg hc (by simpa using blk_ne h.c h.x (by decide)), X, h.t.chg hc (by simpa using blk_ne h.t h.x (by decide)), sv, fv, xs, mv, h1.chgs hc (by simp only [List.mem_singleton]; rintro _ rfl; exact ⟨_, _, _, h.x, by decide⟩), h2.fr hf (by decide), h3.fr hf (by decide)⟩
theorem RS.noTab (h : RS b kx n pc m c t a r o d k tk L nf W) : RS b kx n pc m c t a r none d k tk L nf W :=
  let ⟨sv, fv, xs, mv, h1, h2, _⟩ := h.m
  ⟨h.s, h.c, h.x, h.t, sv, fv, xs, mv, h1, h2, fun _ h => by cases h⟩
theorem RS.l0 (h : RS b kx n pc m c t a r o d k tk L nf W) : W.cell? ⟨b.bl, 0, none⟩ = some (.pointer (some ⟨b.bm, 0, none⟩)) :=
  let ⟨_, h1, h2, _⟩ := h.s.l; (h1.cell 0).trans h2.m
theorem RS.b0 (h : RS b kx n pc m c t a r o d k tk L nf W) : W.cell? ⟨b.bts, 0, none⟩ = some (.pointer (some ⟨b.bt, 0, none⟩)) := h.s.ts.cell 0
theorem RS.f0 (h : RS b kx n pc m c t a r o d k tk L nf W) : W.cell? ⟨b.bf, 0, none⟩ = some (.iface 105 (.pointer (some ⟨b.bc, 0, none⟩))) :=
  let ⟨_, h1, h2⟩ := h.s.f; (h1.cell 0).trans h2
theorem RS.ac (h : RS b kx n pc m c t a r o d k tk L nf W) (ha : a < 11) {fn : Nat} {g : Bool} {q x y : Int} (h0 : 0 ≤ q) (h1 : q < 47) (hi : insT kx a = qa q x y 0 0 0 0) (hf : ∀ la, LA la → acF la q.toNat fn g) : Ac W b.bl b.qb b.qi a fn g q x y 0 0 0 0 := by
  obtain ⟨la, l1, l2, l3⟩ := h.s.l
  obtain ⟨A, q1, ic, q2⟩ := h.s.q
  obtain ⟨A2, i1, i2⟩ := h.s.i
  have hl := hf la l3
  exact ⟨⟨b.qc, (l1.cell 2).trans l2.q⟩, ⟨ic, (q1.cell 0).trans q2⟩, ha, ⟨h0, h1⟩, fun j hj => by rw [i1.cell, i2 a ha j hj, hi], (l1.cell _).trans hl.1, (l1.cell _).trans hl.2⟩
end
abbrev pl (x : Nat) : Value := .pointer (some ⟨x, 0, none⟩)
section
variable {b : Sb} {kx : Nat} {n pc : Int} {m : Mc} {c : Cc} {t : Tc} {a : Nat} {r r' : Rs} {o o' : Option Nat} {d k tk d' k' tk' : Int} {L nf L' nf' : Nat} {w : World}
/-- A move in which an instruction is done. -/
theorem mv_step (P : World → Prop) (S : RS b kx n pc m c t a r o d k tk L nf w) (hP : ∀ W W', P W → Below W.heap.size W W' → P W') (hl : ∀ W, P W → W.cell? ⟨b.bl, 0, none⟩ = some (pl b.bm) ∧ W.cell? ⟨b.bm, 12, none⟩ = some (.bool false))
    (HD : Hid (∀ W, RS b kx n pc m c t a r o d k tk L nf W → Calls Tryz.prog 181 #[pl b.bl, pl b.bc] W fun e w' => e = .returned .nilIface ∧ P w')) :
    Calls Tryz.prog 24 #[pl b.bl] w fun e w' => e = .returned (.tuple #[]) ∧ P w' := by
  obtain ⟨sv, fv, xs, mv, h1, _, _⟩ := S.m
  refine move_work b.bl b.bm b.bt b.bts b.bf b.bc b.fc (mm m b pc d k tk mv sv fv) (t0 t b 1) P w S.l0 h1.x S.b0 S.t S.f0 (S.c.cell 8) (fun W hW => ?_)
  have SW := S.later hW
  obtain ⟨sv1, fv1, xs1, mv1, h11, _, _⟩ := SW.m
  refine (work_gen b.bl b.bc b.bm P W SW.l0 (h11.x.cell 12) ((HD.out W SW).mono fun e w' ⟨he, hp⟩ => ⟨he, (hl w' hp).1, (hl w' hp).2, hp⟩)).mono ?_
  rintro e w' ⟨rfl, w1, hp, hb⟩
  exact ⟨rfl, hP _ _ hp hb⟩
theorem RS.hl (S : RS b kx n pc m c t a r o d k tk L nf w) : w.cell? ⟨b.bl, 0, none⟩ = some (pl b.bm) ∧ w.cell? ⟨b.bm, 12, none⟩ = some (.bool false) :=
  let ⟨_, _, _, _, h1, _, _⟩ := S.m
  ⟨S.l0, h1.x.cell 12⟩
/-- An instruction that goes on to the next one. -/
theorem on_step {fn : Nat} {q x y : Int} (S : RS b kx n pc m c t a r o d k tk L nf w) (ha : a < 11) (h0 : 0 ≤ q) (h1 : q < 47) (hi : insT kx a = qa q x y 0 0 0 0) (hf : ∀ la, LA la → acF la q.toNat fn true) (hcf : Hid (∀ args W, (callFunc fn args).run Tryz.prog W = .ok (.enter fn args) W))
    (HD : Hid (∀ W, RS b kx n pc m c t a r o d k tk L nf W → Calls Tryz.prog fn #[pl b.bl, pl b.bc, .agg (qa q x y 0 0 0 0)] W fun e w' => e = .returned .nilIface ∧ FrT ts0 W w' ∧ RS b kx n pc m c t a r' o' d' k' tk' L' nf' w' ∧ CAt w' b.bc (c0 c b a))) :
    Calls Tryz.prog 24 #[pl b.bl] w fun e w' => e = .returned (.tuple #[]) ∧ RS b kx n pc m c t (a + 1) r' o' d' k' tk' L' nf' w' := by
  refine mv_step (fun w' => RS b kx n pc m c t (a + 1) r' o' d' k' tk' L' nf' w') S (fun _ _ h hb => h.later hb) (fun _ h => h.hl) (fun W SW => ?_)
  refine (do_on b.bl b.bc b.qb b.qi a fn q x y 0 0 0 0 (c0 c b a) ts0 (fun w' => RS b kx n pc m c t a r' o' d' k' tk' L' nf' w') W (by decide) hcf (SW.ac ha h0 h1 hi hf) SW.c (fun W1 hW1 => ?_)).mono ?_
  · refine (HD.out W1 (SW.later hW1)).mono ?_
    rintro e w' ⟨rfl, h2, h3, h4⟩
    exact ⟨rfl, h2, h4, h3⟩
  · rintro e w' ⟨rfl, w1, h2, _, h4, h5⟩
    exact ⟨rfl, h2.setC h4 h5⟩
/-- An instruction that goes where it says. -/
theorem off_step {fn : Nat} {q x y : Int} (P : World → Prop) (S : RS b kx n pc m c t a r o d k tk L nf w) (hP : ∀ W W', P W → Below W.heap.size W W' → P W') (hl : ∀ W, P W → W.cell? ⟨b.bl, 0, none⟩ = some (pl b.bm) ∧ W.cell? ⟨b.bm, 12, none⟩ = some (.bool false)) (ha : a < 11) (h0 : 0 ≤ q) (h1 : q < 47) (hi : insT kx a = qa q x y 0 0 0 0) (hf : ∀ la, LA la → acF la q.toNat fn false) (hcf : Hid (∀ args W, (callFunc fn args).run Tryz.prog W = .ok (.enter fn args) W))
    (HD : Hid (∀ W, RS b kx n pc m c t a r o d k tk L nf W → Calls Tryz.prog fn #[pl b.bl, pl b.bc, .agg (qa q x y 0 0 0 0)] W fun e w' => e = .returned .nilIface ∧ FrT ts0 W w' ∧ P w')) :
    Calls Tryz.prog 24 #[pl b.bl] w fun e w' => e = .returned (.tuple #[]) ∧ P w' := by
  refine mv_step P S hP hl (fun W SW => ?_)
  refine (do_off b.bl b.bc b.qb b.qi a fn q x y 0 0 0 0 (c0 c b a) ts0 P W (by decide) hcf (SW.ac ha h0 h1 hi hf) SW.c (fun W1 hW1 => HD.out W1 (SW.later hW1))).mono ?_
  rintro e w' ⟨rfl, _, h2⟩
  exact ⟨rfl, h2⟩
theorem fr_x {W W' : World} (S : RS b kx n pc m c t a r o d k tk L nf W) (hc : Chg [b.br] W W') : FrT ts0 W W' := FrT.chg hc (by simp only [List.mem_singleton]; rintro _ rfl; exact ⟨_, _, _, S.x, by simp⟩)
theorem fr_c {W W' : World} (S : RS b kx n pc m c t a r o d k tk L nf W) (hc : Chg [b.bc] W W') : FrT ts0 W W' := FrT.chg hc (by simp only [List.mem_singleton]; rintro _ rfl; exact ⟨_, _, _, S.c, by simp⟩)
theorem fr_cx {W W' : World} (S : RS b kx n pc m c t a r o d k tk L nf W) (hc : Chg [b.bc, b.br] W W') : FrT ts0 W W' := FrT.chg hc (fun x hx => by
  rcases List.mem_cons.1 hx with rfl | hx
  · exact ⟨_, _, _, S.c, by simp⟩
  · obtain rfl := List.mem_singleton.1 hx
    exact ⟨_, _, _, S.x, by simp⟩)
/-- A constant comes into a register. -/
theorem const_step {j : Int} {i : Nat} {v : Int} (S : RS b kx n pc m c t a r o d k tk L nf w) (ha : a < 11) (hi : insT kx a = qa 4 j i 0 0 0 0) (hv : (i = 0 ∧ v = 1) ∨ (i = kx ∧ v = n)) (hk : kx ≤ 1)
    (HP : Hid (∀ W, RS b kx n pc m c t a r o d k tk L nf W → Calls Tryz.prog 119 #[pl b.bc, .int .i64 j, .agg (vi v)] W fun e w' => e = .returned (.tuple #[]) ∧ Chg [b.br] W w' ∧ RAt w' b.br r')) :
    Calls Tryz.prog 24 #[pl b.bl] w fun e w' => e = .returned (.tuple #[]) ∧ RS b kx n pc m c t (a + 1) r' o d k tk L nf w' := by
  refine on_step S ha (by decide) (by decide) hi (fun la h => h.c) (enters (fn := Tryz.f37) (by kernel_rfl) (by kernel_rfl) rfl) (fun W SW => ?_)
  have hx := SW.x.lt
  refine (doConst_gen b.bl b.bc 4 j i 0 0 0 0 v [b.br] (fun w' => RAt w' b.br r') W (by simpa using hx) (fun W1 hW1 => ?_) (fun W1 hW1 => HP.out W1 (SW.later hW1))).mono ?_
  · have S1 := SW.later hW1
    obtain ⟨la, l1, l2, _⟩ := S1.s.l
    obtain ⟨A, p1, ⟨kn, kc, p2, p3⟩, _⟩ := S1.s.p
    obtain ⟨B, k1, k2, k3⟩ := S1.s.k
    have kk : ∀ j, j < 5 → W1.cell? ⟨b.ck, i * 5 + j, none⟩ = (vi v)[j]? := fun j hj => by
      rw [k1.cell]
      rcases hv with ⟨rfl, rfl⟩ | ⟨rfl, rfl⟩
      · simpa using k2 j hj
      · exact k3 j hj
    have hi1 : i = 0 ∨ i = 1 := by omega
    have hin : i < kn := by omega
    rcases hi1 with rfl | rfl
    · exact constant0 b.bl b.bc b.cp b.ck b.pc kn kc (c0 c b a) v W1 ((l1.cell 1).trans l2.p) S1.c ((p1.cell 6).trans p2) hin (kk 0 (by decide)) (kk 1 (by decide)) (kk 2 (by decide)) (kk 3 (by decide)) (kk 4 (by decide))
    · exact constant1 b.bl b.bc b.cp b.ck b.pc kn kc (c0 c b a) v W1 ((l1.cell 1).trans l2.p) S1.c ((p1.cell 6).trans p2) hin (kk 0 (by decide)) (kk 1 (by decide)) (kk 2 (by decide)) (kk 3 (by decide)) (kk 4 (by decide))
  · rintro e w' ⟨rfl, hc, hX⟩
    have S' := SW.setX hc hX
    exact ⟨rfl, fr_x SW hc, S', S'.c⟩
end
end Go.Proofs.YtgopdffmnikhdaaGreatDoor
