import Derived.Test.YtgopdffmnikhdaaGreatDoorT13
import Derived.Deep.LoopGhost
namespace Go.Proofs.YtgopdffmnikhdaaGreatDoor
open Go.RowKit Go.Deep
/-- The same blocks, and a variable that holds the loom. -/
abbrev Sb.box (b : Sb) (x : Option Nat) : Sb := { b with bx := x }
section
variable {b : Sb} {kx : Nat} {n pc : Int} {m : Mc} {c : Cc} {t : Tc} {x : Nat} {d k tk i : Int} {L nf : Nat} {w W W' : World}
theorem Sd.boxed {y : Option Nat} (h : Sd b kx n W) (hy : ∀ z, y = some z → Blk W z #[.pointer (some ⟨b.bl, 0, none⟩)] 59) : Sd (b.box y) kx n W := ⟨h.l, h.q, h.i, h.p, h.k, h.ts, h.f, h.low, h.ge, hy⟩
theorem RS.box {a : Nat} {r : Rs} {o : Option Nat} {y : Option Nat} (h : RS b kx n pc m c t a r o d k tk L nf W) (hy : ∀ z, y = some z → Blk W z #[.pointer (some ⟨b.bl, 0, none⟩)] 59) : RS (b.box y) kx n pc m c t a r o d k tk L nf W := ⟨h.s.boxed hy, h.c, h.x, h.t, h.m⟩
theorem At.box {y : Option Nat} (hx : x ≤ 12) (h : At b kx n pc m c t x i d k tk L nf W) (hy : ∀ z, y = some z → Blk W z #[.pointer (some ⟨b.bl, 0, none⟩)] 59) : At (b.box y) kx n pc m c t x i d k tk L nf W := by
  rcases (by omega : x = 0 ∨ x = 1 ∨ x = 2 ∨ x = 3 ∨ x = 4 ∨ x = 5 ∨ x = 6 ∨ x = 7 ∨ x = 8 ∨ x = 9 ∨ x = 10 ∨ x = 11 ∨ x = 12) with rfl | rfl | rfl | rfl | rfl | rfl | rfl | rfl | rfl | rfl | rfl | rfl | rfl
  case inr.inr.inr.inr.inr.inr.inr.inl => obtain ⟨p, h⟩ := h; exact ⟨p, RS.box h hy⟩
  case inr.inr.inr.inr.inr.inr.inr.inr.inr.inr.inr.inl =>
    obtain ⟨h1, h2, h3, h4⟩ := h
    exact ⟨h1.boxed hy, h2, h3, h4⟩
  case inr.inr.inr.inr.inr.inr.inr.inr.inr.inr.inr.inr =>
    obtain ⟨h1, h2, h3⟩ := h
    exact ⟨h1.boxed hy, h2, h3⟩
  all_goals exact RS.box h hy
/-- When the run is over. -/
structure Fin (b : Sb) (kx : Nat) (n pc : Int) (m : Mc) (d k tk : Int) (L nf : Nat) (W : World) : Prop where
  s : Sd b kx n W
  m : ∃ sv fv xs mv, SlSt b.lo W b.bm { me m b pc d k tk mv false sv fv with over := .bool true, rc := .int .i64 0 } L nf xs
/-- What giving back may change. -/
def GbR (pc : Int) (x : Nat) (d : Int) (L nf : Nat) (d' : Int) (L' nf' : Nat) : Prop := (pc = 0 ∨ d < pc) ∧ d' = d ∧ L' = L ∧ nf' = nf ∨ x = 7 ∧ 0 < pc ∧ pc ≤ d ∧ d' = 0 ∧ L' ≤ L ∧ L' = nf' + 1
/-- What a move may change. -/
def MvR (x x' : Nat) (d k : Int) (L nf : Nat) (d' k' : Int) (L' nf' : Nat) : Prop := x = 6 ∧ x' = 7 ∧ d' = d + 1 ∧ k' = k + 1 ∧ (nf = 0 ∧ L' = L + 1 ∧ nf' = 0 ∨ nf = nf' + 1 ∧ L' = L) ∨ x ≠ 6 ∧ x' ≠ 7 ∧ d' = d ∧ k' = k ∧ L' = L ∧ nf' = nf
theorem Mn.cells (h : Mn b kx n pc m d k tk L nf W) : W.cell? ⟨b.bl, 0, none⟩ = some (pl b.bm) ∧ ∃ mv, W.cell? ⟨b.bm, 20, none⟩ = some (.int .i64 mv) ∧ W.frozen? ⟨b.bm, 20, none⟩ = false :=
  let ⟨_, l1, l2, _⟩ := h.s.l
  let ⟨_, _, _, mv, _, h1⟩ := h.m
  ⟨(l1.cell 0).trans l2.m, mv, h1.x.cell 20, h1.x.frozen 20⟩
/-- What holds of a code and its numbers. -/
structure Ok (b : Sb) (kx : Nat) (n pc : Int) : Prop where
  k : kx ≤ 1
  fc : 1 ≤ b.fc
  n1 : 1 ≤ n
  n : n ≤ 300
  pc : 0 ≤ pc
theorem gbr_le {L' nf' : Nat} {d' : Int} (h : GbR pc x d L nf d' L' nf') (hn : nf ≤ L) (hd : 0 ≤ d) (hd1 : d ≤ 1000) : L' ≤ L ∧ nf' ≤ L' ∧ 0 ≤ d' ∧ d' ≤ 1000 ∧ (pc = 0 ∨ d' < pc) := by unfold GbR at h; omega
/-- The last move, and what the run's end makes of it. -/
theorem fin_of (hb : b.bx = none) {y : Option Nat} {mv : Int} {sv fv : Value} {xs : List Value} (h : Sd (b.box y) kx n W) (hS : SlSt b.lo W b.bm (me m b pc d k tk mv false sv fv) L nf xs) (hc : Chg [b.bm] W W') (hM : MAt W' b.bm { me m b pc d k tk mv false sv fv with over := .bool true, rc := .int .i64 0 }) : Fin b kx n pc m d k tk L nf W' :=
  have hf : FrT ts0 W W' := FrT.chg hc (by simp only [List.mem_singleton]; rintro _ rfl; exact ⟨_, _, _, hS.x, by simp⟩)
  have h1 := h.fr hf (hc.low (Nat.le_trans hS.lb (Nat.le_of_lt hS.x.lt)) (by simpa using hS.lb))
  ⟨⟨h1.l, h1.q, h1.i, h1.p, h1.k, h1.ts, h1.f, h1.low, h1.ge, fun _ e => by rw [hb] at e; cases e⟩, sv, fv, xs, mv, hS.mach hc hM rfl rfl⟩
/-- **One move of a run.** -/
theorem run1 (hb : b.bx = none) (K : Ok b kx n pc) (hd0 : 0 ≤ d) (hd1 : d ≤ 1000) (hL : L ≤ 100000) (hf : nf ≤ L) (hdue : x = 7 ∨ pc = 0 ∨ d < pc) (hI : Iv n x i k tk) (A : At b kx n pc m c t x i d k tk L nf w) :
    Calls Tryz.prog 16 #[pl b.bl, .int .i64 1] w fun e w' => e = .returned (.tuple #[]) ∧ ((x < 12 ∧ ∃ x' i' d' k' tk' L' nf' dm Lm nm, At b kx n pc m c t x' i' d' k' tk' L' nf' w' ∧ Iv n x' i' k' tk' ∧ mu n x' i' < mu n x i ∧ GbR pc x d L nf dm Lm nm ∧ MvR x x' dm k Lm nm d' k' L' nf') ∨ (x = 12 ∧ Fin b kx n pc m d k tk L nf w')) := by
  have hx := hI.le
  have hb2 : (b.box none) = b := by cases b; simp only [Sb.box] at hb ⊢; rw [hb]
  obtain ⟨b', hb'⟩ : ∃ b', b' = b.box (some w.heap.size) := ⟨_, rfl⟩
  have Kb : Ok b' kx n pc := by rw [hb']; exact ⟨K.k, K.fc, K.n1, K.n, K.pc⟩
  have hbl : b'.bl = b.bl := by rw [hb']
  have hbm : b'.bm = b.bm := by rw [hb']
  have bxc : ∀ {W : World}, Sd b' kx n W → W.cell? ⟨w.heap.size, 0, none⟩ = some (pl b.bl) := fun h => by
    have h1 := h.box w.heap.size (by rw [hb'])
    rw [hbl] at h1
    exact h1.cell 0
  have h0 : At b' kx n pc m c t x i d k tk L nf (w.alloc (.cells #[pl b.bl] 59)) := hb' ▸ (A.later hx ((Below.refl _ _).alloc (Nat.le_refl _) _)).box hx (fun z hz => by obtain rfl := Option.some.inj hz; exact Blk.new w _ _)
  refine (run_gen b.bl b.bm 1 (fun j W => if j = 0 then At b' kx n pc m c t x i d k tk L nf W else x < 12 ∧ ∃ x' i' d' k' tk' L' nf' dm Lm nm, At b' kx n pc m c t x' i' d' k' tk' L' nf' W ∧ Iv n x' i' k' tk' ∧ mu n x' i' < mu n x i ∧ GbR pc x d L nf dm Lm nm ∧ MvR x x' dm k Lm nm d' k' L' nf')
    (fun _ W => ∃ dm Lm nm, At b' kx n pc m c t x i dm k tk Lm nm W ∧ GbR pc x d L nf dm Lm nm) (fun m' W => x = 12 ∧ Sd b' kx n W ∧ ∃ mv sv fv xs, m' = me m b' pc d k tk mv false sv fv ∧ SlSt b.lo W b.bm m' L nf xs) w (by decide) ?hZ ?hS ?hZ1 ?hE ?HG ?HM h0).mono ?_
  case hZ =>
    intro j W h
    have hm : ∃ d k tk L nf, Mn b' kx n pc m d k tk L nf W := by
      by_cases hj : j = 0
      · simp only [hj, if_true] at h; exact ⟨_, _, _, _, _, h.mn hx⟩
      · simp only [hj, if_false] at h
        obtain ⟨_, _, _, _, _, _, _, _, _, _, _, h, hI', _⟩ := h
        exact ⟨_, _, _, _, _, h.mn hI'.le⟩
    obtain ⟨_, _, _, _, _, hm⟩ := hm
    have hc := hm.cells
    rw [hbl, hbm] at hc
    exact ⟨bxc hm.s, hc⟩
  case hS =>
    intro j W mv' h
    by_cases hj : j = 0
    · simp only [hj, if_true] at h ⊢; exact hbm ▸ h.set20 hx mv'
    · simp only [hj, if_false] at h ⊢
      obtain ⟨h1, x', i', d', k', tk', L', nf', dm, Lm, nm, h, hI', hr⟩ := h
      exact ⟨h1, x', i', d', k', tk', L', nf', dm, Lm, nm, hbm ▸ h.set20 hI'.le mv', hI', hr⟩
  case hZ1 => exact fun j W ⟨dm, Lm, nm, h, _⟩ => bxc (h.mn hx).s
  case hE =>
    rintro m' W ⟨_, h, mv, sv, fv, xs, _, h1⟩
    obtain ⟨la, l1, l2, _⟩ := h.l
    rw [hbl] at l1
    rw [hbm] at l2
    exact ⟨bxc h, (l1.cell 0).trans l2.m, h1.x⟩
  case HG =>
    intro j W hj h
    obtain rfl : j = 0 := by omega
    simp only [if_true] at h
    have h2 := gbAt (b := b') K.pc hL hf hx hdue h
    rw [hbm] at h2
    exact h2.mono fun e w' ⟨he, d', L', nf', h1, hr⟩ => ⟨he, d', L', nf', h1, hr⟩
  case HM =>
    rintro j W hj ⟨dm, Lm, nm, h, hr⟩
    obtain rfl : j = 0 := by omega
    obtain ⟨r1, r2, r3, r4, r5⟩ := gbr_le hr hf hd0 hd1
    by_cases h12 : x < 12
    · have h2 := mvAt (b := b') Kb.k Kb.fc Kb.n1 Kb.n r3 r4 (by omega) (by omega) h12 hI h
      rw [hbl] at h2
      exact h2.mono fun e w' ⟨he, x', i', d', k', tk', L', nf', h1, h3, h4, h5⟩ => .inl ⟨he, h12, x', i', d', k', tk', L', nf', dm, Lm, nm, h1, h3, h4, hr, h5⟩
    · obtain rfl : x = 12 := by omega
      have hr2 : dm = d ∧ Lm = L ∧ nm = nf := by unfold GbR at hr; omega
      obtain ⟨rfl, rfl, rfl⟩ := hr2
      have hE : RE b' kx n pc m t dm k tk Lm nm W := h
      have h2 := s12 hE
      rw [hbl] at h2
      refine h2.mono ?_
      rintro e w' ⟨rfl, sv, fv, xs, mv, h1, hc⟩
      obtain ⟨_, _, _, _, hS⟩ := hE.m
      have hf' : FrT ts0 W w' := FrT.chg hc (by simp only [List.mem_singleton]; rintro _ rfl; exact ⟨_, _, _, hS.x, by simp⟩)
      refine .inr ⟨rfl, _, rfl, hE.s.fr hf' (hc.low (Nat.le_trans hS.lb (Nat.le_of_lt hS.x.lt)) (by simpa using hS.lb)), mv, sv, fv, xs, rfl, ?_⟩
      rw [hb'] at h1 ⊢
      exact h1
  rintro e w' ⟨rfl, h | ⟨m', W, ⟨h12, hs, mv, sv, fv, xs, hm', hS⟩, hc, hM⟩⟩
  · obtain ⟨h12, x', i', d', k', tk', L', nf', dm, Lm, nm, h, h2⟩ := h
    refine ⟨rfl, .inl ⟨h12, x', i', d', k', tk', L', nf', dm, Lm, nm, ?_, h2⟩⟩
    have h3 := At.box (y := none) h2.1.le h (fun z hz => by cases hz)
    rw [hb'] at h3
    rw [← hb2]
    exact h3
  · subst hm'
    rw [hb'] at hs hS hM
    exact ⟨rfl, .inr ⟨h12, fin_of hb hs hS hc hM⟩⟩
end
section
variable {b : Sb} {kx : Nat} {n pc : Int} {m : Mc} {c : Cc} {t : Tc} {x : Nat} {d k tk i : Int} {L nf : Nat} {w W W' : World}
/-- Somewhere in a run. -/
def Sw (b : Sb) (kx : Nat) (n pc : Int) (m : Mc) (c : Cc) (t : Tc) (j : Nat) (W : World) : Prop := ∃ x i d k tk L nf, At b kx n pc m c t x i d k tk L nf W ∧ Iv n x i k tk ∧ (0 ≤ d ∧ d ≤ k ∧ (L : Int) ≤ k ∧ nf ≤ L) ∧ (x = 7 ∨ pc = 0 ∨ d < pc) ∧ mu n x i + j ≤ 4000
def Sw1 (b : Sb) (kx : Nat) (n pc : Int) (m : Mc) (c : Cc) (t : Tc) (j : Nat) (W : World) : Prop := ∃ x i d k tk L nf, At b kx n pc m c t x i d k tk L nf W ∧ Iv n x i k tk ∧ (0 ≤ d ∧ d ≤ k ∧ (L : Int) ≤ k ∧ nf ≤ L) ∧ (pc = 0 ∨ d < pc) ∧ mu n x i + j ≤ 4000
theorem Iv.kn (h : Iv n x i k tk) (hn : 1 ≤ n) : 0 ≤ k ∧ k ≤ n ∧ (x = 6 → k < n) := by
  rcases h with h | h | h | h | h | h <;> omega
theorem Iv.end (h : Iv n 12 i k tk) : k = n ∧ tk = n := by
  rcases h with h | h | h | h | h | h <;> omega
theorem mv_sw {x' : Nat} {d' k' : Int} {L' nf' : Nat} (h : MvR x x' d k L nf d' k' L' nf') (h1 : 0 ≤ d ∧ d ≤ k ∧ (L : Int) ≤ k ∧ nf ≤ L) (h2 : pc = 0 ∨ d < pc) : (0 ≤ d' ∧ d' ≤ k' ∧ (L' : Int) ≤ k' ∧ nf' ≤ L') ∧ (x' = 7 ∨ pc = 0 ∨ d' < pc) := by unfold MvR at h; omega
/-- **A run to its end.** -/
theorem runAll (hb : b.bx = none) (K : Ok b kx n pc) (A : Sw b kx n pc m c t 0 w) :
    Calls Tryz.prog 16 #[pl b.bl, .int .i64 9223372036854775807] w fun e w' => e = .returned (.tuple #[]) ∧ ∃ d L nf, Fin b kx n pc m d n n L nf w' := by
  obtain ⟨b', hb'⟩ : ∃ b', b' = b.box (some w.heap.size) := ⟨_, rfl⟩
  have Kb : Ok b' kx n pc := by rw [hb']; exact ⟨K.k, K.fc, K.n1, K.n, K.pc⟩
  have hbl : b'.bl = b.bl := by rw [hb']
  have hbm : b'.bm = b.bm := by rw [hb']
  have bxc : ∀ {W : World}, Sd b' kx n W → W.cell? ⟨w.heap.size, 0, none⟩ = some (pl b.bl) := fun h => by
    have h1 := h.box w.heap.size (by rw [hb'])
    rw [hbl] at h1
    exact h1.cell 0
  have h0 : Sw b' kx n pc m c t 0 (w.alloc (.cells #[pl b.bl] 59)) := by
    obtain ⟨x, i, d, k, tk, L, nf, h, hI, hr⟩ := A
    exact ⟨x, i, d, k, tk, L, nf, hb' ▸ (h.later hI.le ((Below.refl _ _).alloc (Nat.le_refl _) _)).box hI.le (fun z hz => by obtain rfl := Option.some.inj hz; exact Blk.new w _ _), hI, hr⟩
  refine (run_gen b.bl b.bm 9223372036854775807 (Sw b' kx n pc m c t) (Sw1 b' kx n pc m c t) (fun m' W => Sd b' kx n W ∧ ∃ d L nf mv sv fv xs, m' = me m b' pc d n n mv false sv fv ∧ SlSt b.lo W b.bm m' L nf xs) w (by decide) ?hZ ?hS ?hZ1 ?hE ?HG ?HM h0).mono ?_
  case hZ =>
    rintro j W ⟨x, i, d, k, tk, L, nf, h, hI, _⟩
    have hm := h.mn hI.le
    have hc := hm.cells
    rw [hbl, hbm] at hc
    exact ⟨bxc hm.s, hc⟩
  case hS =>
    rintro j W mv' ⟨x, i, d, k, tk, L, nf, h, hI, hr⟩
    exact ⟨x, i, d, k, tk, L, nf, hbm ▸ h.set20 hI.le mv', hI, hr⟩
  case hZ1 => exact fun j W ⟨x, i, d, k, tk, L, nf, h, hI, _⟩ => bxc (h.mn hI.le).s
  case hE =>
    rintro m' W ⟨h, d, L, nf, mv, sv, fv, xs, _, h1⟩
    obtain ⟨la, l1, l2, _⟩ := h.l
    rw [hbl] at l1
    rw [hbm] at l2
    exact ⟨bxc h, (l1.cell 0).trans l2.m, h1.x⟩
  case HG =>
    rintro j W hj ⟨x, i, d, k, tk, L, nf, h, hI, hr, hd, hu⟩
    have hk := hI.kn K.n1
    have hK := K.n
    have h2 := gbAt (b := b') K.pc (by omega) hr.2.2.2 hI.le hd h
    rw [hbm] at h2
    refine h2.mono fun e w' ⟨he, d', L', nf', h1, h3⟩ => ⟨he, x, i, d', k, tk, L', nf', h1, hI, ?_, ?_, hu⟩
    · omega
    · omega
  case HM =>
    rintro j W hj ⟨x, i, d, k, tk, L, nf, h, hI, hr, hd, hu⟩
    have hk := hI.kn K.n1
    have hK := K.n
    by_cases h12 : x < 12
    · have h2 := mvAt (b := b') Kb.k Kb.fc Kb.n1 Kb.n hr.1 (by omega) (by omega) (by omega) h12 hI h
      rw [hbl] at h2
      refine h2.mono fun e w' ⟨he, x', i', d', k', tk', L', nf', h1, h3, h4, h5⟩ => .inl ⟨he, x', i', d', k', tk', L', nf', h1, h3, (mv_sw (pc := pc) h5 hr hd).1, (mv_sw (pc := pc) h5 hr hd).2, by omega⟩
    · obtain rfl : x = 12 := by have := hI.le; omega
      obtain ⟨rfl, rfl⟩ := hI.end
      have hE : RE b' kx tk pc m t d tk tk L nf W := h
      have h2 := s12 hE
      rw [hbl] at h2
      refine h2.mono ?_
      rintro e w' ⟨rfl, sv, fv, xs, mv, h1, hc⟩
      obtain ⟨_, _, _, _, hS⟩ := hE.m
      have hf' : FrT ts0 W w' := FrT.chg hc (by simp only [List.mem_singleton]; rintro _ rfl; exact ⟨_, _, _, hS.x, by simp⟩)
      refine .inr ⟨rfl, _, hE.s.fr hf' (hc.low (Nat.le_trans hS.lb (Nat.le_of_lt hS.x.lt)) (by simpa using hS.lb)), d, L, nf, mv, sv, fv, xs, rfl, ?_⟩
      rw [hb'] at h1 ⊢
      exact h1
  rintro e w' ⟨rfl, h | ⟨m', W, ⟨hs, d, L, nf, mv, sv, fv, xs, hm', hS⟩, hc, hM⟩⟩
  · obtain ⟨_, _, _, _, _, _, _, _, _, _, _, h⟩ := h
    omega
  · subst hm'
    rw [hb'] at hs hS hM
    exact ⟨rfl, d, L, nf, fin_of hb hs hS hc hM⟩
end
attribute [local go_sem] run_store_float vi
/-- What a run reports at its beginning. -/
abbrev mR (m : Mc) : Mc := { m with rc := .int .i64 0, rr := .slice none 0 0, rv := .slice none 0 0, re := .string ByteArray.empty, rt := .string ByteArray.empty }
/-- What newLoom gives where the code and the input are in order. -/
def NewOk (kx : Nat) (n pc : Int) (cs is : Array Value) (w : World) : Prop := ∀ W, Below w.heap.size w W → Calls Tryz.prog 15 #[.agg cs, .agg is, .int .i64 pc] W fun e w' => ∃ b m c t, e = .returned (pl b.bl) ∧ b.bx = none ∧ b.lo = W.heap.size ∧ b.w0 = W ∧ Ok b kx n pc ∧ At b kx n pc (mR m) c t 0 1 0 0 0 0 0 w'
/-- What holds of the slots while a run goes on. -/
def Gv (pc d k : Int) (L nf pk : Nat) : Prop := 0 ≤ d ∧ d ≤ k ∧ (L : Int) ≤ k ∧ nf ≤ L ∧ (pc = 0 → nf = 0 ∧ (L : Int) = k ∧ (pk : Int) = k) ∧ (0 < pc → d ≤ pc ∧ (L : Int) ≤ pc + 1 ∧ (L : Int) - nf ≤ d + 1 ∧ (pk : Int) ≤ pc + 1) ∧ (1 ≤ k → 1 ≤ pk)
theorem Gv.step {pc d k dm d' k' : Int} {x x' L nf Lm nm L' nf' pk : Nat} (h : Gv pc d k L nf pk) (h1 : GbR pc x d L nf dm Lm nm) (h2 : MvR x x' dm k Lm nm d' k' L' nf') (hp : 0 ≤ pc) : Gv pc d' k' L' nf' (max pk L') ∧ (x' = 7 ∨ pc = 0 ∨ d' < pc) := by
  unfold Gv GbR MvR at *
  rw [Nat.max_def]
  split <;> omega
section
variable {b : Sb} {kx : Nat} {n pc : Int} {m : Mc} {c : Cc} {t : Tc}
/-- Where Peak's loop stands. -/
def PkI (b : Sb) (kx : Nat) (n pc : Int) (m : Mc) (c : Cc) (t : Tc) (g pk : Nat) (W : World) : Prop :=
  (∃ x i d k tk L nf, At b kx n pc m c t x i d k tk L nf W ∧ Iv n x i k tk ∧ Gv pc d k L nf pk ∧ (x = 7 ∨ pc = 0 ∨ d < pc) ∧ mu n x i + 1 ≤ g) ∨ (∃ d L nf, Fin b kx n pc m d n n L nf W ∧ Gv pc d n L nf pk)
end
set_option maxHeartbeats 4000000 in
theorem peak_any (kx : Nat) (n pc : Int) (co : Option Addr) (cn cc : Nat) (is : Array Value) (w : World) (hn : 1 ≤ n) (H : Hid (NewOk kx n pc #[.slice co cn cc] is w)) (hI : ∃ a1 n1 c1 a2 n2 c2 t1 d1 e1, is = #[.slice a1 n1 c1, .slice a2 n2 c2, .int .i64 t1, .int .i64 d1, .int .i64 e1]) :
    Calls Tryz.prog 7 #[.agg #[.slice co cn cc], .agg is, .int .i64 pc] w fun e w' => ∃ pk : Nat, e = .returned (.int .i64 pk) ∧ (pc = 0 → (pk : Int) = n) ∧ (0 < pc → 1 ≤ pk ∧ (pk : Int) ≤ pc + 1) ∧ Below w.heap.size w w' := by
  obtain ⟨a1, n1, c1, a2, n2, c2, t1, d1, e1, rfl⟩ := hI
  go_enter Tryz.func7, Tryz.ntmps7
  go_wp2_with (go_at_call 15; refine (H.out _ (bl2 ((Below.refl _ _).alloc (Nat.le_refl _) _) ((Below.refl _ _).alloc (Nat.le_refl _) _))).mono ?_; rintro e W0 ⟨b, m, c, t, rfl, hbx, hlo, hw0, K, A0⟩)
  have hB0 : Below w.heap.size w b.w0 := by rw [hw0]; exact bl2 ((Below.refl _ _).alloc (Nat.le_refl _) _) ((Below.refl _ _).alloc (Nat.le_refl _) _)
  have hlw : w.heap.size ≤ b.lo := by rw [hlo]; simp; omega
  have HA : Hid (PkI b kx n pc (mR m) c t 4000 0 W0) := .inl ⟨0, 1, 0, 0, 0, 0, 0, A0, .inl ⟨by decide, rfl, rfl, rfl⟩, by unfold Gv; have := K.pc; omega, by have := K.pc; omega, by have := K.n; unfold mu; omega⟩
  have HB : Hid (∀ W, Sd b kx n W → Below w.heap.size w W) := fun W h => hB0.trans (h.low.mono hlw)
  have HK : Hid (Ok b kx n pc) := K
  clear A0 hlo hw0 hB0 hlw K
  go_loopg [8] 4000 (fun g y wr => ∃ pk : Nat, y = .int .i64 pk ∧ Hid (PkI b kx n pc (mR m) c t g pk wr))
  case atStart => exact ⟨0, rfl, HA⟩
  case round =>
    obtain ⟨pk, rfl, HI⟩ := hrel
    rcases HI.out with ⟨x, i, d, k, tk, L, nf, hA, hI, hG, hd, hg⟩ | ⟨d, L, nf, hF, hG⟩
    · have hM := hA.mn hI.le
      obtain ⟨la, l1, l2, _⟩ := hM.s.l
      have cl : wr.cell? ⟨b.bl, 0, none⟩ = some (pl b.bm) := (l1.cell 0).trans l2.m
      have co2 : wr.cell? ⟨b.bm, 17, none⟩ = some (.bool false) := by
        obtain ⟨sv, fv, xs, mv, hs, h1⟩ := hM.m
        exact h1.x.cell 17
      have HS : Hid (At b kx n pc (mR m) c t x i d k tk L nf wr ∧ Iv n x i k tk ∧ Gv pc d k L nf pk ∧ (x = 7 ∨ pc = 0 ∨ d < pc) ∧ mu n x i + 1 ≤ gk) := ⟨hA, hI, hG, hd, hg⟩
      have HR : Hid (Calls Tryz.prog 16 #[pl b.bl, .int .i64 1] wr fun e w' => e = .returned (.tuple #[]) ∧ ∃ L' : Nat, ∃ so sc, (∃ g', g' < gk ∧ PkI b kx n pc (mR m) c t g' (max pk L') w') ∧ w'.cell? ⟨b.bl, 0, none⟩ = some (pl b.bm) ∧ w'.cell? ⟨b.bm, 5, none⟩ = some (.slice so L' sc)) := by
        have hkn := hI.kn HK.out.n1
        have hKn := HK.out.n
        have hG' := hG
        unfold Gv at hG'
        refine (run1 hbx HK.out hG'.1 (by omega) (by omega) hG'.2.2.2.1 hd hI hA).mono ?_
        rintro e w' ⟨rfl, ⟨h12, x', i', d', k', tk', L', nf', dm, Lm, nm, h1, h2, h3, h4, h5⟩ | ⟨h12, hF⟩⟩
        · have hG2 := hG.step h4 h5 HK.out.pc
          obtain ⟨la, l1, l2, _⟩ := (h1.mn h2.le).s.l
          obtain ⟨sv, fv, xs, mv, hs, h6⟩ := (h1.mn h2.le).m
          obtain ⟨so, sc, rfl⟩ := owns_slice h6.row
          exact ⟨rfl, L', so, sc, ⟨mu n x' i' + 1, by omega, .inl ⟨x', i', d', k', tk', L', nf', h1, h2, hG2.1, hG2.2, Nat.le_refl _⟩⟩, (l1.cell 0).trans l2.m, h6.x.cell 5⟩
        · subst h12
          obtain ⟨rfl, rfl⟩ := hI.end
          obtain ⟨la, l1, l2, _⟩ := hF.s.l
          obtain ⟨sv, fv, xs, mv, h6⟩ := hF.m
          obtain ⟨so, sc, hsv⟩ := owns_slice h6.row
          refine ⟨rfl, L, so, sc, ⟨0, by omega, .inr ⟨d, L, nf, hF, ?_⟩⟩, (l1.cell 0).trans l2.m, (h6.x.cell 5).trans (by rw [← hsv]; rfl)⟩
          unfold Gv at hG ⊢
          rw [Nat.max_def]
          split <;> omega
      clear hA hI hG hd hg hM l1 l2 HI
      go_wp2_with (go_at_call 16; refine HR.out.mono ?_; rintro e w3 ⟨rfl, L', so', sc', ⟨g', hg', HP⟩, cl3, cs3⟩)
      go_roundg g'
      case measure => exact hg'
      case rel => exact ⟨max pk L', congrArg (Value.int .i64) (by omega), HP⟩
    · obtain ⟨la, l1, l2, _⟩ := hF.s.l
      have cl : wr.cell? ⟨b.bl, 0, none⟩ = some (pl b.bm) := (l1.cell 0).trans l2.m
      have co2 : wr.cell? ⟨b.bm, 17, none⟩ = some (.bool true) := by
        obtain ⟨sv, fv, xs, mv, h1⟩ := hF.m
        exact h1.x.cell 17
      have hfin : (pc = 0 → (pk : Int) = n) ∧ (0 < pc → 1 ≤ pk ∧ (pk : Int) ≤ pc + 1) ∧ Below w.heap.size w wr := by
        unfold Gv at hG
        exact ⟨by omega, by omega, HB.out _ hF.s⟩
      have HFin : Hid ((pc = 0 → (pk : Int) = n) ∧ (0 < pc → 1 ≤ pk ∧ (pk : Int) ≤ pc + 1) ∧ Below w.heap.size w wr) := hfin
      clear hfin hG hF l1 l2 HI
      go_wp2_with fail
      go_ret
      exact ⟨pk, rfl, HFin.out⟩
end Go.Proofs.YtgopdffmnikhdaaGreatDoor
namespace Go.Proofs.YtgopdffmnikhdaaGreatDoor
open Go.RowKit Go.Deep
attribute [local go_sem] run_store_float vi
set_option maxHeartbeats 4000000 in
theorem runLoom_any (kx : Nat) (n pc : Int) (co : Option Addr) (cn cc : Nat) (is : Array Value) (w : World) (H : Hid (NewOk kx n pc #[.slice co cn cc] is w)) (hI : ∃ a1 n1 c1 a2 n2 c2 t1 d1 e1, is = #[.slice a1 n1 c1, .slice a2 n2 c2, .int .i64 t1, .int .i64 d1, .int .i64 e1]) :
    Calls Tryz.prog 6 #[.agg #[.slice co cn cc], .agg is, .int .i64 pc] w fun e w' => e = .returned (.agg #[.int .i64 0, .slice none 0 0, .slice none 0 0, .string ByteArray.empty, .string ByteArray.empty, .int .i64 n, .int .i64 n]) ∧ Below w.heap.size w w' := by
  obtain ⟨a1, n1, c1, a2, n2, c2, t1, d1, e1, rfl⟩ := hI
  go_enter Tryz.func6, Tryz.ntmps6
  go_wp2_with fail
  obtain ⟨W, hW⟩ : ∃ W, W = ((w.alloc (.cells #[.slice co cn cc] 26)).alloc (.cells #[.slice a1 n1 c1, .slice a2 n2 c2, .int .i64 t1, .int .i64 d1, .int .i64 e1] 30)).alloc (.cells #[.int .i64 0, .slice none 0 0, .slice none 0 0, .string ⟨#[]⟩, .string ⟨#[]⟩, .int .i64 0, .int .i64 0] 33) := ⟨_, rfl⟩
  have hB : Below w.heap.size w W := hW ▸ bl2 (bl2 ((Below.refl _ _).alloc (Nat.le_refl _) _) ((Below.refl _ _).alloc (Nat.le_refl _) _)) ((Below.refl _ _).alloc (Nat.le_refl _) _)
  have hR : Blk W (w.heap.size + 1 + 1) #[.int .i64 0, .slice none 0 0, .slice none 0 0, .string ⟨#[]⟩, .string ⟨#[]⟩, .int .i64 0, .int .i64 0] 33 := hW ▸ Blk.newHere _ _ (by simp)
  rw [← hW]
  clear hW
  refine (H.out W hB).mono ?_
  rintro e W0 ⟨b, m, c, t, rfl, hbx, hlo, hw0, K, A0⟩
  have hRl := hR.lt
  have HR : Hid (Calls Tryz.prog 16 #[pl b.bl, .int .i64 9223372036854775807] W0 fun e w' => e = .returned (.tuple #[]) ∧ Below w.heap.size w w' ∧ Blk w' (w.heap.size + 1 + 1) #[.int .i64 0, .slice none 0 0, .slice none 0 0, .string ⟨#[]⟩, .string ⟨#[]⟩, .int .i64 0, .int .i64 0] 33 ∧ w'.cell? ⟨b.bl, 0, none⟩ = some (pl b.bm) ∧ ∃ m' : Mc, MAt w' b.bm { m' with rc := .int .i64 0, rr := .slice none 0 0, rv := .slice none 0 0, re := .string ByteArray.empty, rt := .string ByteArray.empty, rk := .int .i64 n, rm := .int .i64 n }) := by
    refine (runAll hbx K ⟨0, 1, 0, 0, 0, 0, 0, A0, .inl ⟨by decide, rfl, rfl, rfl⟩, by omega, by have := K.pc; omega, by have := K.n; unfold mu; omega⟩).mono ?_
    rintro e w' ⟨rfl, d, L, nf, hF⟩
    obtain ⟨la, l1, l2, _⟩ := hF.s.l
    obtain ⟨sv, fv, xs, mv, h1⟩ := hF.m
    have hlw := hF.s.low
    rw [hlo, hw0] at hlw
    exact ⟨rfl, hB.trans (hlw.mono hB.size), (hlw.block _ hRl).trans hR, (l1.cell 0).trans l2.m, { me (mR m) b pc d n n mv false sv fv with over := .bool true }, h1.x⟩
  clear A0 hlo hw0 K hB hR H
  go_wp2_with (go_at_call 16; refine HR.out.mono ?_; rintro e w3 ⟨rfl, HB3, R3, cl3, m', M3⟩; have rc3 := R3.cell; have rf3 := R3.frozen; have mc3 := M3.cell)
  have R4 := ((((((R3.set 0 (.int .i64 0)).set 1 (.slice none 0 0)).set 2 (.slice none 0 0)).set 3 (.string ByteArray.empty)).set 4 (.string ByteArray.empty)).set 5 (.int .i64 n)).set 6 (.int .i64 n)
  have r4 := R4.cell
  have hB4 : ∀ (W : World) (i : Nat) (v : Value), Below w.heap.size w W → Below w.heap.size w (W.setCell ⟨w.heap.size + 1 + 1, i, none⟩ v) := fun W i v h => h.setCell (p := ⟨w.heap.size + 1 + 1, i, none⟩) (by show w.heap.size ≤ w.heap.size + 1 + 1; omega) v
  exact bodyPost_ret (v := .agg #[.int .i64 0, .slice none 0 0, .slice none 0 0, .string ByteArray.empty, .string ByteArray.empty, .int .i64 n, .int .i64 n]) (by simp [results, Tryz.results6, go_sem, r4]) rfl ⟨rfl, hB4 _ _ _ (hB4 _ _ _ (hB4 _ _ _ (hB4 _ _ _ (hB4 _ _ _ (hB4 _ _ _ (hB4 _ _ _ HB3))))))⟩
end Go.Proofs.YtgopdffmnikhdaaGreatDoor
