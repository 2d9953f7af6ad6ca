import Derived.Test.YtgopdffmnikhdaaGreatDoorT11
import Derived.Test.YtgopdffmnikhdaaGreatDoorT12
import Derived.Test.YtgopdffmnikhdaaGreatDoorT05
namespace Go.Proofs.YtgopdffmnikhdaaGreatDoor
open Go.RowKit Go.Deep
abbrev rA (x y z u : R8) : Rs := ⟨x, y, z, u, .none, .none⟩
abbrev tb (p : Nat) : R8 := .val 5 0 0 ByteArray.empty p
section
variable {b : Sb} {kx : Nat} {n pc : Int} {m : Mc} {c : Cc} {t : Tc} {d k tk i : Int} {L nf : Nat} {u : R8} {w : World}
theorem s0 (hk : kx ≤ 1) (S : RS b kx n pc m c t 0 (rA .none .none .none .none) none d k tk L nf w) : Calls Tryz.prog 24 #[pl b.bl] w fun e w' => e = .returned (.tuple #[]) ∧ RS b kx n pc m c t 1 (rA (.int 1) .none .none .none) none d k tk L nf w' :=
  const_step (j := 0) (i := 0) (v := 1) S (by decide) rfl (.inl ⟨rfl, rfl⟩) hk (fun W SW => putValue0 b.bc b.br (c0 c b _) _ 2 1 0 ByteArray.empty 0 W SW.c SW.x)
theorem s1 (hk : kx ≤ 1) (S : RS b kx n pc m c t 1 (rA (.int 1) .none .none .none) none d k tk L nf w) : Calls Tryz.prog 24 #[pl b.bl] w fun e w' => e = .returned (.tuple #[]) ∧ RS b kx n pc m c t 2 (rA (.int 1) (.int n) .none .none) none d k tk L nf w' :=
  const_step (j := 1) (i := kx) (v := n) S (by decide) rfl (.inr ⟨rfl, rfl⟩) hk (fun W SW => putValue1 b.bc b.br (c0 c b _) _ 2 n 0 ByteArray.empty 0 W SW.c SW.x)
theorem s2 (hk : kx ≤ 1) (S : RS b kx n pc m c t 2 (rA (.int 1) (.int n) .none .none) none d k tk L nf w) : Calls Tryz.prog 24 #[pl b.bl] w fun e w' => e = .returned (.tuple #[]) ∧ RS b kx n pc m c t 3 (rA (.int 1) (.int n) (.int 1) .none) none d k tk L nf w' :=
  const_step (j := 2) (i := 0) (v := 1) S (by decide) rfl (.inl ⟨rfl, rfl⟩) hk (fun W SW => putValue2 b.bc b.br (c0 c b _) _ 2 1 0 ByteArray.empty 0 W SW.c SW.x)
theorem s3 (S : RS b kx n pc m c t 3 (rA (.int i) (.int n) (.int 1) .none) none d k tk L nf w) : Calls Tryz.prog 24 #[pl b.bl] w fun e w' => e = .returned (.tuple #[]) ∧ RS b kx n pc m c t 4 (rA (.int i) (.int n) (.int 1) .none) none d k tk L nf w' :=
  on_step S (by decide) (by decide) (by decide) rfl (fun _ h => h.f) (enters (fn := Tryz.f69) (by kernel_rfl) (by kernel_rfl) rfl) fun W SW =>
    (doFor_any b.bl b.bc b.br 37 0 0 0 0 0 i n (c0 c b 3) _ _ _ W SW.c SW.x).mono fun _ _ ⟨he, hb⟩ => ⟨he, FrT.below hb, SW.later hb, SW.c.later hb⟩
theorem s4 (S : RS b kx n pc m c t 4 (rA (.int i) (.int n) (.int 1) .none) none d k tk L nf w) : Calls Tryz.prog 24 #[pl b.bl] w fun e w' => e = .returned (.tuple #[]) ∧ RS b kx n pc m c t (if n < i then 9 else 5) (rA (.int i) (.int n) (.int 1) .none) none d k tk L nf w' :=
  off_step (fun w' => RS b kx n pc m c t (if n < i then 9 else 5) (rA (.int i) (.int n) (.int 1) .none) none d k tk L nf w') S (fun _ _ h hb => h.later hb) (fun _ h => h.hl) (by decide) (by decide) (by decide) rfl (fun _ h => h.ft) (enters (fn := Tryz.f70) (by kernel_rfl) (by kernel_rfl) rfl) fun W SW =>
    (doForTest_any b.bl b.bc b.br 38 9 0 0 0 0 i n 4 (c0 c b 4) _ _ _ W (by decide) (by decide) SW.c SW.x).mono fun _ _ ⟨he, hc, hC⟩ => ⟨he, fr_c SW hc, SW.setC hc (by split <;> (rename_i h; simp only [h, if_true, if_false] at hC; exact hC))⟩
theorem s5 (ht : 0 ≤ tk) (ht1 : tk < 1000) (S : RS b kx n pc m c t 5 (rA (.int i) (.int n) (.int 1) .none) none d k tk L nf w) : Calls Tryz.prog 24 #[pl b.bl] w fun e w' => e = .returned (.tuple #[]) ∧ RS b kx n pc m c t 6 (rA (.int i) (.int n) (.int 1) .none) none d k (tk + 1) L nf w' :=
  on_step S (by decide) (by decide) (by decide) rfl (fun _ h => h.ti) enters_tick fun W SW => by
    obtain ⟨la, l1, l2, _⟩ := SW.s.l
    obtain ⟨sv, fv, xs, mv, h1, h2, h3⟩ := SW.m
    refine (doTick_any b.bl b.bm b.bc 3 0 0 0 0 0 0 (mm m b pc d k tk mv sv fv) tk 1000 W SW.l0 ((l1.cell 5).trans l2.ti) ht ht1 (by decide) h1.x).mono ?_
    rintro e w' ⟨rfl, hc, hM⟩
    have hf : FrT ts0 W w' := FrT.chg hc (by simp only [List.mem_singleton]; rintro _ rfl; exact ⟨_, _, _, h1.x, by simp⟩)
    have hC := SW.c.fr (ts := [81]) (FrT.chg hc (by simp only [List.mem_singleton]; rintro _ rfl; exact ⟨_, _, _, h1.x, by simp⟩)) (by decide)
    exact ⟨rfl, hf, ⟨SW.s.fr hf (hc.low SW.lo (by simpa using SW.s.ge.2.2.2)), hC, SW.x.chg hc (by simpa using blk_ne SW.x h1.x (by decide)), SW.t.chg hc (by simpa using blk_ne SW.t h1.x (by decide)), sv, fv, xs, mv, h1.mach hc hM rfl rfl, h2.fr hf (by decide), h3.fr hf (by decide)⟩, hC⟩
theorem s7 {p : Nat} (S : RS b kx n pc m c t 7 (rA (.int i) (.int n) (.int 1) (tb p)) (some p) d k tk L nf w) : Calls Tryz.prog 24 #[pl b.bl] w fun e w' => e = .returned (.tuple #[]) ∧ RS b kx n pc m c t 8 (rA (.int i) (.int n) (.int 1) .none) none d k tk L nf w' :=
  on_step S (by decide) (by decide) (by decide) rfl (fun _ h => h.dr) (enters (fn := Tryz.f74) (by kernel_rfl) (by kernel_rfl) rfl) fun W SW =>
    (doDrop3 b.bl b.bc b.br 42 0 0 0 0 0 (c0 c b 7) _ W SW.c SW.x).mono fun _ _ ⟨he, hc, hX⟩ => ⟨he, fr_x SW hc, (SW.setX hc hX).noTab, (SW.setX hc hX).c⟩
theorem RS.setCX {a a' : Nat} {r r' : Rs} {o : Option Nat} {W W' : World} (h : RS b kx n pc m c t a r o d k tk L nf W) (hc : Chg [b.bc, b.br] W W') (C : CAt W' b.bc (c0 c b a')) (X : RAt W' b.br r') : RS b kx n pc m c t a' r' o d k tk L nf W' :=
  let ⟨sv, fv, xs, mv, h1, h2, h3⟩ := h.m
  have hf := fr_cx h hc
  ⟨h.s.fr hf (hc.low h.lo (by simpa using ⟨h.s.ge.2.1, h.s.ge.1⟩)), C, X, h.t.chg hc (by simp only [List.mem_cons, List.not_mem_nil, or_false, not_or]; exact ⟨blk_ne h.t h.c (by decide), blk_ne h.t h.x (by decide)⟩), sv, fv, xs, mv, h1.chgs hc (fun x hx => by
    rcases List.mem_cons.1 hx with rfl | hx
    · exact ⟨_, _, _, h.c, by decide⟩
    · obtain rfl := List.mem_singleton.1 hx
      exact ⟨_, _, _, h.x, by decide⟩), h2.fr hf (by decide), h3.fr hf (by decide)⟩
theorem s8 (hi : 0 ≤ i) (hi1 : i ≤ 1000) (S : RS b kx n pc m c t 8 (rA (.int i) (.int n) (.int 1) .none) none d k tk L nf w) : Calls Tryz.prog 24 #[pl b.bl] w fun e w' => e = .returned (.tuple #[]) ∧ RS b kx n pc m c t 4 (rA (.int (i + 1)) (.int n) (.int 1) .none) none d k tk L nf w' :=
  off_step (fun w' => RS b kx n pc m c t 4 (rA (.int (i + 1)) (.int n) (.int 1) .none) none d k tk L nf w') S (fun _ _ h hb => h.later hb) (fun _ h => h.hl) (by decide) (by decide) (by decide) rfl (fun _ h => h.fx) (enters (fn := Tryz.f71) (by kernel_rfl) (by kernel_rfl) rfl) fun W SW =>
    (doForNext_any b.bl b.bc b.br 39 4 0 0 0 0 i n 8 (c0 c b 8) _ _ _ W (blk_ne SW.c SW.x (by decide)) hi (by omega) (by decide) (by decide) SW.c SW.x).mono fun _ _ ⟨he, hc, hC, hX⟩ => ⟨he, fr_cx SW hc, SW.setCX hc hC hX⟩
theorem s9 (S : RS b kx n pc m c t 9 (rA (.int i) (.int n) (.int 1) .none) none d k tk L nf w) : Calls Tryz.prog 24 #[pl b.bl] w fun e w' => e = .returned (.tuple #[]) ∧ RS b kx n pc m c t 10 (rA (.int i) (.int n) (.int 1) .lst) none d k tk L nf w' :=
  on_step S (by decide) (by decide) (by decide) rfl (fun _ h => h.ls) (enters (fn := Tryz.f54) (by kernel_rfl) (by kernel_rfl) rfl) fun W SW =>
    (doList3 b.bl b.bc b.br 22 0 0 0 0 0 (c0 c b 9) _ W SW.c SW.x).mono fun _ _ ⟨he, hc, hX⟩ => ⟨he, fr_x SW hc, SW.setX hc hX, (SW.setX hc hX).c⟩
end
/-- The machine when no instruction is left. -/
abbrev me (m : Mc) (b : Sb) (pc d k tk mv : Int) (hs : Bool) (sv fv : Value) : Mc := { mm m b pc d k tk mv sv fv with has := .bool hs }
abbrev c1 (c : Cc) (b : Sb) : Cc := { c with proto := .int .i64 0, self := .pointer none, at_ := .int .i64 10, line := .int .i64 0, regs := .slice (some ⟨b.br, 0, none⟩) 6 6, fences := .slice none 0 0, leaving := .bool true, one := .bool false, wk := .int .i64 1, wv := .slice none 0 0, wt := .string ByteArray.empty, saved := .int .i64 0 }
/-- A call that is being left. -/
structure RL (b : Sb) (kx : Nat) (n pc : Int) (m : Mc) (c : Cc) (t : Tc) (d k tk : Int) (L nf : Nat) (W : World) : Prop where
  s : Sd b kx n W
  c : CAt W b.bc (c1 c b)
  t : TAt W b.bt (t0 t b 1)
  m : ∃ sv fv xs mv, SlSt b.lo W b.bm (me m b pc d k tk mv false sv fv) L nf xs
/-- A task that has nothing left to do. -/
structure RE (b : Sb) (kx : Nat) (n pc : Int) (m : Mc) (t : Tc) (d k tk : Int) (L nf : Nat) (W : World) : Prop where
  s : Sd b kx n W
  t : TAt W b.bt (t0 t b 0)
  m : ∃ sv fv xs mv, SlSt b.lo W b.bm (me m b pc d k tk mv true sv fv) L nf xs
section
variable {b : Sb} {kx : Nat} {n pc : Int} {m : Mc} {c : Cc} {t : Tc} {a : Nat} {r : Rs} {o : Option Nat} {d k tk i : Int} {L nf : Nat} {w W W' : World}
theorem RL.later (h : RL b kx n pc m c t d k tk L nf W) (hb : Below W.heap.size W W') : RL b kx n pc m c t d k tk L nf W' :=
  let ⟨sv, fv, xs, mv, h1⟩ := h.m
  ⟨h.s.fr (FrT.below hb) (hb.mono (Nat.le_trans h.s.ge.2.1 (Nat.le_of_lt h.c.lt))), h.c.later hb, h.t.later hb, sv, fv, xs, mv, h1.later hb⟩
theorem RE.later (h : RE b kx n pc m t d k tk L nf W) (hb : Below W.heap.size W W') : RE b kx n pc m t d k tk L nf W' :=
  let ⟨sv, fv, xs, mv, h1⟩ := h.m
  ⟨h.s.fr (FrT.below hb) (hb.mono (Nat.le_trans h.s.ge.2.2.1 (Nat.le_of_lt h.t.lt))), h.t.later hb, sv, fv, xs, mv, h1.later hb⟩
theorem s10 (S : RS b kx n pc m c t 10 (rA (.int i) (.int n) (.int 1) .lst) none d k tk L nf w) : Calls Tryz.prog 24 #[pl b.bl] w fun e w' => e = .returned (.tuple #[]) ∧ RL b kx n pc m c t d k tk L nf w' :=
  off_step (fun w' => RL b kx n pc m c t d k tk L nf w') S (fun _ _ h hb => h.later hb) (fun W h => let ⟨_, h1, h2, _⟩ := h.s.l; let ⟨_, _, _, _, h3⟩ := h.m; ⟨(h1.cell 0).trans h2.m, h3.x.cell 12⟩) (by decide) (by decide) (by decide) rfl (fun _ h => h.rt) (enters (fn := Tryz.f61) (by kernel_rfl) (by kernel_rfl) rfl) fun W SW => by
    refine (doReturn_any b.bl b.bc b.br 29 0 0 0 0 0 0 (c0 c b 10) (rA (.int i) (.int n) (.int 1) .lst) W (blk_ne SW.c SW.x (by decide)) SW.c SW.x).mono ?_
    rintro e w' ⟨rfl, hc, hC, _⟩
    obtain ⟨sv, fv, xs, mv, h1, _, _⟩ := SW.m
    refine ⟨rfl, fr_cx SW hc, SW.s.fr (fr_cx SW hc) (hc.low SW.lo (by simpa using ⟨SW.s.ge.2.1, SW.s.ge.1⟩)), hC, SW.t.chg hc (by simp only [List.mem_cons, List.not_mem_nil, or_false, not_or]; exact ⟨blk_ne SW.t SW.c (by decide), blk_ne SW.t SW.x (by decide)⟩), sv, fv, xs, mv, h1.chgs hc (fun x hx => ?_)⟩
    rcases List.mem_cons.1 hx with rfl | hx
    · exact ⟨_, _, _, SW.c, by decide⟩
    · obtain rfl := List.mem_singleton.1 hx
      exact ⟨_, _, _, SW.x, by decide⟩
theorem s11 (hfc : 1 ≤ b.fc) (S : RL b kx n pc m c t d k tk L nf w) : Calls Tryz.prog 24 #[pl b.bl] w fun e w' => e = .returned (.tuple #[]) ∧ RE b kx n pc m t d k tk L nf w' := by
  obtain ⟨sv, fv, xs, mv, h1⟩ := S.m
  obtain ⟨la, l1, l2, _⟩ := S.s.l
  obtain ⟨A, f1, f2⟩ := S.s.f
  refine move_leave b.bl b.bm b.bt b.bts b.bf b.bc b.fc (me m b pc d k tk mv false sv fv) (t0 t b 1) _ w ((l1.cell 0).trans l2.m) h1.x (S.s.ts.cell 0) S.t ((f1.cell 0).trans f2) (S.c.cell 8) (fun W hW => ?_)
  have SW := S.later hW
  obtain ⟨la, l1, l2, _⟩ := SW.s.l
  obtain ⟨A, p1, _, pv, p2⟩ := SW.s.p
  have h1 := h1.later hW
  refine (leave_any b.bl b.bm b.bt b.bf b.bc b.fc b.cp b.pc pv 0 (c1 c b) (me m b pc d k tk mv false sv fv) (t0 t b 1) none none 0 0 0 0 W hfc ((l1.cell 0).trans l2.m) ⟨_, l1⟩ ((l1.cell 1).trans l2.p) ⟨_, p1⟩ ((p1.cell 2).trans p2) SW.c h1.x SW.t).mono ?_
  rintro e w' ⟨rfl, hc, hM, hT⟩
  have hf : FrT ts0 W w' := FrT.chg hc (fun x hx => by
    rcases List.mem_cons.1 hx with rfl | hx
    · exact ⟨_, _, _, SW.c, by simp⟩
    rcases List.mem_cons.1 hx with rfl | hx
    · exact ⟨_, _, _, SW.t, by simp⟩
    · obtain rfl := List.mem_singleton.1 hx
      exact ⟨_, _, _, h1.x, by simp⟩)
  refine ⟨rfl, SW.s.fr hf (hc.low (Nat.le_trans SW.s.ge.2.1 (Nat.le_of_lt SW.c.lt)) (by simpa using ⟨SW.s.ge.2.1, SW.s.ge.2.2.1, SW.s.ge.2.2.2⟩)), hT, sv, fv, xs, mv, hM, owns_chg h1.row hc (fun g hg => ?_), h1.heap.imp id fun ⟨g, cc, g1, g2, g3, g4⟩ => ?_, h1.hl, h1.lb⟩
  · simp only [List.mem_cons, List.not_mem_nil, or_false, not_or]
    exact ⟨row_ne h1.row SW.c (by decide) g hg, row_ne h1.row SW.t (by decide) g hg, row_ne h1.row h1.x (by decide) g hg⟩
  · have hg : g ∉ [b.bc, b.bt, b.bm] := by
      simp only [List.mem_cons, List.not_mem_nil, or_false, not_or]
      exact ⟨own_blk_ne g3 SW.c (by decide), own_blk_ne g3 SW.t (by decide), own_blk_ne g3 h1.x (by decide)⟩
    exact ⟨g, cc, g1, g2, hc.own hg g3, fun i hi => let ⟨x, h5, h6⟩ := g4 i hi; ⟨x, hc.cell hg h5, h6⟩⟩
/-- The last move. -/
theorem s12 (S : RE b kx n pc m t d k tk L nf w) : Calls Tryz.prog 24 #[pl b.bl] w fun e w' => e = endsIt ∧ ∃ sv fv xs mv, SlSt b.lo w' b.bm (me m b pc d k tk mv false sv fv) L nf xs ∧ Chg [b.bm] w w' := by
  obtain ⟨sv, fv, xs, mv, h1⟩ := S.m
  obtain ⟨la, l1, l2, _⟩ := S.s.l
  refine (move_end b.bl b.bm b.bt b.bts b.fc _ (me m b pc d k tk mv true sv fv) (t0 t b 0) w ((l1.cell 0).trans l2.m) (by simpa using blk_ne l1 h1.x (by decide)) h1.x (S.s.ts.cell 0) S.t).mono ?_
  rintro e w' ⟨rfl, hc, hM⟩
  exact ⟨rfl, sv, fv, xs, mv, h1.mach hc hM rfl rfl, hc⟩
/-- A table is made. -/
theorem s6 (hk0 : 0 ≤ k) (hk1 : k < 1000) (hd0 : 0 ≤ d) (hd1 : d ≤ 1000) (hL : L ≤ 100000) (hn : nf ≤ 100000) (S : RS b kx n pc m c t 6 (rA (.int i) (.int n) (.int 1) .none) none d k tk L nf w) :
    Calls Tryz.prog 24 #[pl b.bl] w fun e w' => e = .returned (.tuple #[]) ∧ ∃ p L' nf', (nf = 0 ∧ L' = L + 1 ∧ nf' = 0 ∨ nf = nf' + 1 ∧ L' = L) ∧ RS b kx n pc m c t 7 (rA (.int i) (.int n) (.int 1) (tb p)) (some p) (d + 1) (k + 1) tk L' nf' w' := by
  refine mv_step (fun w' => ∃ p L' nf', (nf = 0 ∧ L' = L + 1 ∧ nf' = 0 ∨ nf = nf' + 1 ∧ L' = L) ∧ RS b kx n pc m c t 7 (rA (.int i) (.int n) (.int 1) (tb p)) (some p) (d + 1) (k + 1) tk L' nf' w') S (fun _ _ ⟨p, L', nf', h1, h⟩ hb => ⟨p, L', nf', h1, h.later hb⟩) (fun _ ⟨_, _, _, _, h⟩ => h.hl) (fun W SW => ?_)
  refine (do_on b.bl b.bc b.qb b.qi 6 45 12 3 0 0 0 0 0 (c0 c b 6) ts0 (fun w' => ∃ p L' nf', (nf = 0 ∧ L' = L + 1 ∧ nf' = 0 ∨ nf = nf' + 1 ∧ L' = L) ∧ RS b kx n pc m c t 6 (rA (.int i) (.int n) (.int 1) (tb p)) (some p) (d + 1) (k + 1) tk L' nf' w') W (by decide) (enters (fn := Tryz.f45) (by kernel_rfl) (by kernel_rfl) rfl) (SW.ac (by decide) (by decide) (by decide) rfl (fun _ h => h.tb)) SW.c (fun W1 hW1 => ?_)).mono ?_
  · have S1 := SW.later hW1
    obtain ⟨la, l1, l2, _⟩ := S1.s.l
    obtain ⟨sv, fv, xs, mv, h1, h2, _⟩ := S1.m
    refine (doTable_any b.lo b.bl b.bm b.bc b.br L nf b.cp b.qb b.pc b.qc 1000 1000 la xs (mm m b pc d k tk mv sv fv) (c0 c b 6) _ k d k k 12 0 0 0 0 0 W1 hk0 (by omega) hd0 (by omega) hk0 (by omega) (by omega) (by omega) hk0 hk1 (by decide) S1.s.ge.1 l2 l1 S1.c S1.x h1).mono ?_
    rintro e w' ⟨bs, p, L', n', xs', sv', fv', rfl, hbs, hp, hc, hF, hlw, hS, hB, hX⟩
    have hf : FrT ts0 W1 w' := ⟨hF.os, hF.tape, hF.output, hF.size, fun q A t f hq ht => hF.block q A t f hq (fun e => ht ((by decide : ∀ t ∈ tsT, t ∈ ts0) t e))⟩
    have hC := S1.c.fr hF (by decide)
    have hlen : xs.length = L := by have := h1.row.1; simpa using this
    have hT' : Tabs w' L' xs' := by
      rcases hc with ⟨_, rfl, _, rfl⟩ | ⟨_, rfl, rfl⟩
      · intro j hj
        by_cases hjL : j < L
        · rw [List.getElem?_append_left (by omega)]
          exact h2.fr hF (by decide) j hjL
        · left
          rw [List.getElem?_append_right (by omega), hlen, show j - L = 0 by omega]
          rfl
      · exact h2.fr hF (by decide)
    have hl' : xs'.length = L' := by
      rcases hc with ⟨_, rfl, _, rfl⟩ | ⟨_, rfl, rfl⟩
      · simp [hlen]
      · exact hlen
    refine ⟨rfl, hf, hC, p, L', n', hc.imp (fun h => ⟨h.1, h.2.1, h.2.2.1⟩) (fun h => ⟨h.1, h.2.1⟩), S1.s.fr hf hlw, hC, hX, S1.t.fr hF (by decide), sv', fv', _, mv, hS, fun j hj => ?_, fun q hq => ?_⟩
    · by_cases e : j = p
      · subst e
        exact .inr ⟨bs, by rw [List.getElem?_set_self (by omega)], hB.lt, _, _, _, hB⟩
      · rw [List.getElem?_set_ne (Ne.symm e)]
        exact hT' j hj
    · obtain rfl : p = q := Option.some.inj hq
      exact ⟨hp, bs, _, _, by rw [List.getElem?_set_self (by omega)], hB⟩
  · rintro e w' ⟨rfl, w1, ⟨p, L', nf', h1, h2⟩, _, h4, h5⟩
    exact ⟨rfl, p, L', nf', h1, h2.setC h4 h5⟩
end
section
variable {b : Sb} {kx : Nat} {n pc : Int} {m : Mc} {c : Cc} {t : Tc} {a : Nat} {r : Rs} {o : Option Nat} {d d' k tk i : Int} {L nf L' nf' : Nat} {w W W' : World}
/-- The machine alone is written. -/
theorem RS.setM (h : RS b kx n pc m c t a r o d k tk L nf W) (hc : Chg [b.bm] W W') (hM : ∃ sv fv xs mv, SlSt b.lo W' b.bm (mm m b pc d' k tk mv sv fv) L' nf' xs ∧ Tabs W' L' xs ∧ Tab3 W' L' xs o) : RS b kx n pc m c t a r o d' k tk L' nf' W' :=
  let ⟨sv, fv, xs, mv, h1, _, _⟩ := h.m
  have hf : FrT ts0 W W' := FrT.chg hc (by simp only [List.mem_singleton]; rintro _ rfl; exact ⟨_, _, _, h1.x, by simp⟩)
  ⟨h.s.fr hf (hc.low h.lo (by simpa using h.s.ge.2.2.2)), h.c.chg hc (by simpa using blk_ne h.c h1.x (by decide)), h.x.chg hc (by simpa using blk_ne h.x h1.x (by decide)), h.t.chg hc (by simpa using blk_ne h.t h1.x (by decide)), hM⟩
/-- Cell 20 of a machine is written. -/
theorem set20 {lo bm : Nat} {mv : Int} {sv fv : Value} {xs : List Value} {hs : Bool} (h : SlSt lo W bm (me m b pc d k tk mv hs sv fv) L nf xs) (mv' : Int) : SlSt lo (W.setCell ⟨bm, 20, none⟩ (.int .i64 mv')) bm (me m b pc d k tk mv' hs sv fv) L nf xs :=
  h.setM (m' := me m b pc d k tk mv' hs sv fv) 20 (.int .i64 mv') rfl rfl rfl
theorem chg20 (W : World) (bm : Nat) (v : Value) : Chg [bm] W (W.setCell ⟨bm, 20, none⟩ v) := (Chg.refl _ _).set (by simp) _ _
theorem RS.set20 (h : RS b kx n pc m c t a r o d k tk L nf W) (mv' : Int) : RS b kx n pc m c t a r o d k tk L nf (W.setCell ⟨b.bm, 20, none⟩ (.int .i64 mv')) := by
  obtain ⟨sv, fv, xs, mv, h1, h2, h3⟩ := h.m
  have hc := chg20 W b.bm (.int .i64 mv')
  have hf : FrT ts0 W (W.setCell ⟨b.bm, 20, none⟩ (.int .i64 mv')) := FrT.chg hc (by simp only [List.mem_singleton]; rintro _ rfl; exact ⟨_, _, _, h1.x, by simp⟩)
  exact h.setM hc ⟨sv, fv, xs, mv', Go.Proofs.YtgopdffmnikhdaaGreatDoor.set20 (hs := false) h1 mv', h2.fr hf (by decide), h3.fr hf (by decide)⟩
theorem RL.set20 (h : RL b kx n pc m c t d k tk L nf W) (mv' : Int) : RL b kx n pc m c t d k tk L nf (W.setCell ⟨b.bm, 20, none⟩ (.int .i64 mv')) := by
  obtain ⟨sv, fv, xs, mv, h1⟩ := h.m
  have hc := chg20 W b.bm (.int .i64 mv')
  have hf : FrT ts0 W (W.setCell ⟨b.bm, 20, none⟩ (.int .i64 mv')) := FrT.chg hc (by simp only [List.mem_singleton]; rintro _ rfl; exact ⟨_, _, _, h1.x, by simp⟩)
  exact ⟨h.s.fr hf (hc.low (Nat.le_trans h.s.ge.2.1 (Nat.le_of_lt h.c.lt)) (by simpa using h.s.ge.2.2.2)), h.c.chg hc (by simpa using blk_ne h.c h1.x (by decide)), h.t.chg hc (by simpa using blk_ne h.t h1.x (by decide)), sv, fv, xs, mv', Go.Proofs.YtgopdffmnikhdaaGreatDoor.set20 h1 mv'⟩
theorem RE.set20 (h : RE b kx n pc m t d k tk L nf W) (mv' : Int) : RE b kx n pc m t d k tk L nf (W.setCell ⟨b.bm, 20, none⟩ (.int .i64 mv')) := by
  obtain ⟨sv, fv, xs, mv, h1⟩ := h.m
  have hc := chg20 W b.bm (.int .i64 mv')
  have hf : FrT ts0 W (W.setCell ⟨b.bm, 20, none⟩ (.int .i64 mv')) := FrT.chg hc (by simp only [List.mem_singleton]; rintro _ rfl; exact ⟨_, _, _, h1.x, by simp⟩)
  exact ⟨h.s.fr hf (hc.low (Nat.le_trans h.s.ge.2.2.1 (Nat.le_of_lt h.t.lt)) (by simpa using h.s.ge.2.2.2)), h.t.chg hc (by simpa using blk_ne h.t h1.x (by decide)), sv, fv, xs, mv', Go.Proofs.YtgopdffmnikhdaaGreatDoor.set20 h1 mv'⟩
/-- Giving back, just behind a table. -/
theorem gb7 {p : Nat} (hL : L ≤ 100000) (hn : nf ≤ L) (S : RS b kx n pc m c t 7 (rA (.int i) (.int n) (.int 1) (tb p)) (some p) d k tk L nf w) :
    Calls Tryz.prog 18 #[pl b.bm] w fun e w' => e = .returned (.tuple #[]) ∧ p < L ∧ RS b kx n pc m c t 7 (rA (.int i) (.int n) (.int 1) (tb p)) (some p) 0 k tk (p + 1) p w' := by
  obtain ⟨sv, fv, xs, mv, h1, h2, h3⟩ := S.m
  obtain ⟨hp, bs, bo, ve, hxp, hB⟩ := h3 p rfl
  refine (giveBack_any b.lo b.bm b.bts b.bt b.bf b.fc b.bc b.br bs L nf p 0 0 0 0 ByteArray.empty i n 2 bo ve (c0 c b 7) (t0 t b 1) (mm m b pc d k tk mv sv fv) xs w (by decide) S.c.lt S.x.lt (by omega) hn hp (by decide) (by decide) h1 S.s.ts S.t S.f0 S.c S.x hxp hB h2).mono ?_
  rintro e w' ⟨rfl, hc, sv', fv', hS⟩
  have hf : FrT ts0 w w' := FrT.chg hc (by simp only [List.mem_singleton]; rintro _ rfl; exact ⟨_, _, _, h1.x, by simp⟩)
  have hB' := hB.fr hf (by decide)
  have hx : ∀ j, j < p → (List.replicate p (Value.pointer none) ++ [pv bs])[j]? = some (.pointer none) := fun j hj => by rw [List.getElem?_append_left (by simpa using hj)]; simp [hj]
  have hxp' : (List.replicate p (Value.pointer none) ++ [pv bs])[p]? = some (pv bs) := by simp
  refine ⟨rfl, hp, S.setM hc ⟨sv', fv', _, mv, hS, fun j hj => ?_, fun q hq => ?_⟩⟩
  · by_cases e : j = p
    · subst e; exact .inr ⟨bs, hxp', hB'.lt, _, _, _, hB'⟩
    · exact .inl (hx j (by omega))
  · obtain rfl : p = q := Option.some.inj hq
    exact ⟨by omega, bs, bo, ve, hxp', hB'⟩
end
/-- The machine at the moment x of a run: ahead of instruction x; 11: while the call is left; 12: when nothing is left. -/
def At (b : Sb) (kx : Nat) (n pc : Int) (m : Mc) (c : Cc) (t : Tc) (x : Nat) (i d k tk : Int) (L nf : Nat) (W : World) : Prop :=
  match x with
  | 0 => RS b kx n pc m c t 0 (rA .none .none .none .none) none d k tk L nf W
  | 1 => RS b kx n pc m c t 1 (rA (.int 1) .none .none .none) none d k tk L nf W
  | 2 => RS b kx n pc m c t 2 (rA (.int 1) (.int n) .none .none) none d k tk L nf W
  | 7 => ∃ p, RS b kx n pc m c t 7 (rA (.int i) (.int n) (.int 1) (tb p)) (some p) d k tk L nf W
  | 10 => RS b kx n pc m c t 10 (rA (.int i) (.int n) (.int 1) .lst) none d k tk L nf W
  | 11 => RL b kx n pc m c t d k tk L nf W
  | 12 => RE b kx n pc m t d k tk L nf W
  | x => RS b kx n pc m c t x (rA (.int i) (.int n) (.int 1) .none) none d k tk L nf W
/-- What holds at a moment. -/
def Iv (n : Int) (x : Nat) (i k tk : Int) : Prop :=
  (x ≤ 3 ∧ i = 1 ∧ k = 0 ∧ tk = 0) ∨ (x = 4 ∧ k = i - 1 ∧ tk = i - 1 ∧ 1 ≤ i ∧ i ≤ n + 1) ∨ (x = 5 ∧ k = i - 1 ∧ tk = i - 1 ∧ 1 ≤ i ∧ i ≤ n) ∨ (x = 6 ∧ k = i - 1 ∧ tk = i ∧ 1 ≤ i ∧ i ≤ n) ∨ ((x = 7 ∨ x = 8) ∧ k = i ∧ tk = i ∧ 1 ≤ i ∧ i ≤ n) ∨ (9 ≤ x ∧ x ≤ 12 ∧ k = n ∧ tk = n ∧ i = n + 1)
/-- How many moves are left, at the most. -/
def mu (n : Int) (x : Nat) (i : Int) : Nat := (10 * (n + 1 - i)).toNat + (20 - x)
section
variable {b : Sb} {kx : Nat} {n pc : Int} {m : Mc} {c : Cc} {t : Tc} {x : Nat} {d k tk i : Int} {L nf : Nat} {w W W' : World}
theorem Iv.le (h : Iv n x i k tk) : x ≤ 12 := by unfold Iv at h; omega
theorem At.later (hx : x ≤ 12) (h : At b kx n pc m c t x i d k tk L nf W) (hb : Below W.heap.size W W') : At b kx n pc m c t x i d k tk L nf W' := by
  rcases (by omega : x = 0 ∨ x = 1 ∨ x = 2 ∨ x = 3 ∨ x = 4 ∨ x = 5 ∨ x = 6 ∨ x = 7 ∨ x = 8 ∨ x = 9 ∨ x = 10 ∨ x = 11 ∨ x = 12) with rfl | rfl | rfl | rfl | rfl | rfl | rfl | rfl | rfl | rfl | rfl | rfl | rfl
  case inr.inr.inr.inr.inr.inr.inr.inl => obtain ⟨p, h⟩ := h; exact ⟨p, RS.later h hb⟩
  case inr.inr.inr.inr.inr.inr.inr.inr.inr.inr.inr.inl => exact RL.later h hb
  case inr.inr.inr.inr.inr.inr.inr.inr.inr.inr.inr.inr => exact RE.later h hb
  all_goals exact RS.later h hb
theorem At.set20 (hx : x ≤ 12) (h : At b kx n pc m c t x i d k tk L nf W) (mv' : Int) : At b kx n pc m c t x i d k tk L nf (W.setCell ⟨b.bm, 20, none⟩ (.int .i64 mv')) := by
  rcases (by omega : x = 0 ∨ x = 1 ∨ x = 2 ∨ x = 3 ∨ x = 4 ∨ x = 5 ∨ x = 6 ∨ x = 7 ∨ x = 8 ∨ x = 9 ∨ x = 10 ∨ x = 11 ∨ x = 12) with rfl | rfl | rfl | rfl | rfl | rfl | rfl | rfl | rfl | rfl | rfl | rfl | rfl
  case inr.inr.inr.inr.inr.inr.inr.inl => obtain ⟨p, h⟩ := h; exact ⟨p, RS.set20 h mv'⟩
  case inr.inr.inr.inr.inr.inr.inr.inr.inr.inr.inr.inl => exact RL.set20 h mv'
  case inr.inr.inr.inr.inr.inr.inr.inr.inr.inr.inr.inr => exact RE.set20 h mv'
  all_goals exact RS.set20 h mv'
/-- What every moment has. -/
structure Mn (b : Sb) (kx : Nat) (n pc : Int) (m : Mc) (d k tk : Int) (L nf : Nat) (W : World) : Prop where
  s : Sd b kx n W
  m : ∃ sv fv xs mv hs, SlSt b.lo W b.bm (me m b pc d k tk mv hs sv fv) L nf xs
theorem RS.mn {a : Nat} {r : Rs} {o : Option Nat} (h : RS b kx n pc m c t a r o d k tk L nf W) : Mn b kx n pc m d k tk L nf W :=
  let ⟨sv, fv, xs, mv, h1, _, _⟩ := h.m
  ⟨h.s, sv, fv, xs, mv, false, h1⟩
theorem RL.mn (h : RL b kx n pc m c t d k tk L nf W) : Mn b kx n pc m d k tk L nf W :=
  let ⟨sv, fv, xs, mv, h1⟩ := h.m
  ⟨h.s, sv, fv, xs, mv, false, h1⟩
theorem RE.mn (h : RE b kx n pc m t d k tk L nf W) : Mn b kx n pc m d k tk L nf W :=
  let ⟨sv, fv, xs, mv, h1⟩ := h.m
  ⟨h.s, sv, fv, xs, mv, true, h1⟩
theorem At.mn (hx : x ≤ 12) (h : At b kx n pc m c t x i d k tk L nf W) : Mn b kx n pc m d k tk L nf W := by
  rcases (by omega : x = 0 ∨ x = 1 ∨ x = 2 ∨ x = 3 ∨ x = 4 ∨ x = 5 ∨ x = 6 ∨ x = 7 ∨ x = 8 ∨ x = 9 ∨ x = 10 ∨ x = 11 ∨ x = 12) with rfl | rfl | rfl | rfl | rfl | rfl | rfl | rfl | rfl | rfl | rfl | rfl | rfl
  case inr.inr.inr.inr.inr.inr.inr.inl => obtain ⟨p, h⟩ := h; exact RS.mn h
  case inr.inr.inr.inr.inr.inr.inr.inr.inr.inr.inr.inl => exact RL.mn h
  case inr.inr.inr.inr.inr.inr.inr.inr.inr.inr.inr.inr => exact RE.mn h
  all_goals exact RS.mn h
set_option maxHeartbeats 4000000 in
/-- One move that is not the last one. -/
theorem mvAt (hk : kx ≤ 1) (hfc : 1 ≤ b.fc) (hn1 : 1 ≤ n) (hn : n ≤ 300) (hd0 : 0 ≤ d) (hd1 : d ≤ 1000) (hL : L ≤ 100000) (hf : nf ≤ 100000) (hx : x < 12) (hI : Iv n x i k tk) (A : At b kx n pc m c t x i d k tk L nf w) :
    Calls Tryz.prog 24 #[pl b.bl] w fun e w' => e = .returned (.tuple #[]) ∧ ∃ x' i' d' k' tk' L' nf', At b kx n pc m c t x' i' d' k' tk' L' nf' w' ∧ Iv n x' i' k' tk' ∧ mu n x' i' < mu n x i ∧ (x = 6 ∧ x' = 7 ∧ d' = d + 1 ∧ k' = k + 1 ∧ (nf = 0 ∧ L' = L + 1 ∧ nf' = 0 ∨ nf = nf' + 1 ∧ L' = L) ∨ x ≠ 6 ∧ x' ≠ 7 ∧ d' = d ∧ k' = k ∧ L' = L ∧ nf' = nf) := by
  have hmu : ∀ (x' : Nat) (i' : Int), (10 * (n + 1 - i')).toNat + (20 - x') < (10 * (n + 1 - i)).toNat + (20 - x) → mu n x' i' < mu n x i := fun _ _ h => h
  rcases hI with ⟨h3, rfl, rfl, rfl⟩ | ⟨rfl, rfl, rfl, h1, h2⟩ | ⟨rfl, rfl, rfl, h1, h2⟩ | ⟨rfl, rfl, rfl, h1, h2⟩ | ⟨h3, rfl, rfl, h1, h2⟩ | ⟨h3, h4, rfl, rfl, rfl⟩
  · rcases (by omega : x = 0 ∨ x = 1 ∨ x = 2 ∨ x = 3) with rfl | rfl | rfl | rfl
    · exact (s0 hk A).mono fun e w' ⟨he, h⟩ => ⟨he, 1, 1, d, 0, 0, L, nf, h, .inl ⟨by decide, rfl, rfl, rfl⟩, hmu 1 1 (by omega), .inr ⟨by decide, by decide, rfl, rfl, rfl, rfl⟩⟩
    · exact (s1 hk A).mono fun e w' ⟨he, h⟩ => ⟨he, 2, 1, d, 0, 0, L, nf, h, .inl ⟨by decide, rfl, rfl, rfl⟩, hmu 2 1 (by omega), .inr ⟨by decide, by decide, rfl, rfl, rfl, rfl⟩⟩
    · exact (s2 hk A).mono fun e w' ⟨he, h⟩ => ⟨he, 3, 1, d, 0, 0, L, nf, h, .inl ⟨by decide, rfl, rfl, rfl⟩, hmu 3 1 (by omega), .inr ⟨by decide, by decide, rfl, rfl, rfl, rfl⟩⟩
    · exact (s3 A).mono fun e w' ⟨he, h⟩ => ⟨he, 4, 1, d, 0, 0, L, nf, h, .inr (.inl ⟨rfl, rfl, rfl, by decide, by omega⟩), hmu 4 1 (by omega), .inr ⟨by decide, by decide, rfl, rfl, rfl, rfl⟩⟩
  · refine (s4 A).mono fun e w' ⟨he, h⟩ => ?_
    by_cases hni : n < i
    · rw [if_pos hni] at h
      exact ⟨he, 9, i, d, _, _, L, nf, h, .inr (.inr (.inr (.inr (.inr ⟨by decide, by decide, by omega, by omega, by omega⟩)))), hmu 9 i (by omega), .inr ⟨by decide, by decide, rfl, rfl, rfl, rfl⟩⟩
    · rw [if_neg hni] at h
      exact ⟨he, 5, i, d, _, _, L, nf, h, .inr (.inr (.inl ⟨rfl, rfl, rfl, h1, by omega⟩)), hmu 5 i (by omega), .inr ⟨by decide, by decide, rfl, rfl, rfl, rfl⟩⟩
  · exact (s5 (by omega) (by omega) A).mono fun e w' ⟨he, h⟩ => ⟨he, 6, i, d, _, _, L, nf, h, .inr (.inr (.inr (.inl ⟨rfl, rfl, by omega, h1, h2⟩))), hmu 6 i (by omega), .inr ⟨by decide, by decide, rfl, rfl, rfl, rfl⟩⟩
  · exact (s6 (by omega) (by omega) hd0 hd1 hL hf A).mono fun e w' ⟨he, p, L', nf', h3, h⟩ => ⟨he, 7, _, d + 1, _, _, L', nf', ⟨p, h⟩, .inr (.inr (.inr (.inr (.inl ⟨.inl rfl, by omega, rfl, h1, h2⟩)))), hmu 7 _ (by omega), .inl ⟨rfl, rfl, rfl, rfl, h3⟩⟩
  · rcases h3 with rfl | rfl
    · obtain ⟨p, A⟩ := A
      exact (s7 A).mono fun e w' ⟨he, h⟩ => ⟨he, 8, _, d, _, _, L, nf, h, .inr (.inr (.inr (.inr (.inl ⟨.inr rfl, rfl, rfl, h1, h2⟩)))), hmu 8 _ (by omega), .inr ⟨by decide, by decide, rfl, rfl, rfl, rfl⟩⟩
    · exact (s8 (by omega) (by omega) A).mono fun e w' ⟨he, h⟩ => ⟨he, 4, _, d, _, _, L, nf, h, .inr (.inl ⟨rfl, by omega, by omega, by omega, by omega⟩), hmu 4 _ (by omega), .inr ⟨by decide, by decide, rfl, rfl, rfl, rfl⟩⟩
  · rcases (by omega : x = 9 ∨ x = 10 ∨ x = 11) with rfl | rfl | rfl
    · exact (s9 A).mono fun e w' ⟨he, h⟩ => ⟨he, 10, _, d, _, _, L, nf, h, .inr (.inr (.inr (.inr (.inr ⟨by decide, by decide, rfl, rfl, rfl⟩)))), hmu 10 _ (by omega), .inr ⟨by decide, by decide, rfl, rfl, rfl, rfl⟩⟩
    · exact (s10 A).mono fun e w' ⟨he, h⟩ => ⟨he, 11, _, d, _, _, L, nf, h, .inr (.inr (.inr (.inr (.inr ⟨by decide, by decide, rfl, rfl, rfl⟩)))), hmu 11 _ (by omega), .inr ⟨by decide, by decide, rfl, rfl, rfl, rfl⟩⟩
    · exact (s11 hfc A).mono fun e w' ⟨he, h⟩ => ⟨he, 12, _, d, _, _, L, nf, h, .inr (.inr (.inr (.inr (.inr ⟨by decide, by decide, rfl, rfl, rfl⟩)))), hmu 12 _ (by omega), .inr ⟨by decide, by decide, rfl, rfl, rfl, rfl⟩⟩
/-- Giving back when it is due. -/
theorem gbAt (hp0 : 0 ≤ pc) (hL : L ≤ 100000) (hn : nf ≤ L) (hx : x ≤ 12) (hdue : x = 7 ∨ pc = 0 ∨ d < pc) (A : At b kx n pc m c t x i d k tk L nf w) :
    Calls Tryz.prog 23 #[pl b.bm] w fun e w' => e = .returned (.tuple #[]) ∧ ∃ d' L' nf', At b kx n pc m c t x i d' k tk L' nf' w' ∧ ((pc = 0 ∨ d < pc) ∧ d' = d ∧ L' = L ∧ nf' = nf ∨ x = 7 ∧ 0 < pc ∧ pc ≤ d ∧ d' = 0 ∧ L' ≤ L ∧ L' = nf' + 1) := by
  obtain ⟨sv, fv, xs, mv, hs, h1⟩ := (A.mn hx).m
  by_cases hd : pc = 0 ∨ d < pc
  · refine (notDue b.bm (me m b pc d k tk mv hs sv fv) pc d w hp0 hd h1.x).mono ?_
    rintro e w' ⟨rfl, hb⟩
    exact ⟨rfl, d, L, nf, A.later hx hb, .inl ⟨hd, rfl, rfl, rfl⟩⟩
  · obtain rfl : x = 7 := by omega
    obtain ⟨p, A⟩ := A
    refine (isDue b.bm (me m b pc d k tk mv hs sv fv) pc d (fun w' => p < L ∧ RS b kx n pc m c t 7 (rA (.int i) (.int n) (.int 1) (tb p)) (some p) 0 k tk (p + 1) p w') w (by omega) (by omega) h1.x (fun W hW => gb7 hL hn (A.later hW))).mono ?_
    rintro e w' ⟨rfl, h2, h3⟩
    exact ⟨rfl, 0, p + 1, p, ⟨p, h3⟩, .inr ⟨rfl, by omega, by omega, rfl, by omega, rfl⟩⟩
end
attribute [local go_sem] run_store_float vi
set_option maxHeartbeats 4000000 in
set_option maxRecDepth 8000 in
/-- **run, over what stands ahead of each of its moves.** -/
theorem run_gen (bl bm N : Nat) (Z Z1 : Nat → World → Prop) (E : Mc → World → Prop) (w : World) (hN : N ≤ 9223372036854775807)
    (hZ : Hid (∀ j W, Z j W → W.cell? ⟨w.heap.size, 0, none⟩ = some (pl bl) ∧ W.cell? ⟨bl, 0, none⟩ = some (pl bm) ∧ ∃ mv, W.cell? ⟨bm, 20, none⟩ = some (.int .i64 mv) ∧ W.frozen? ⟨bm, 20, none⟩ = false))
    (hS : Hid (∀ j W mv', Z j W → Z j (W.setCell ⟨bm, 20, none⟩ (.int .i64 mv'))))
    (hZ1 : Hid (∀ j W, Z1 j W → W.cell? ⟨w.heap.size, 0, none⟩ = some (pl bl)))
    (hE : Hid (∀ m W, E m W → W.cell? ⟨w.heap.size, 0, none⟩ = some (pl bl) ∧ W.cell? ⟨bl, 0, none⟩ = some (pl bm) ∧ MAt W bm m))
    (HG : Hid (∀ j W, j < N → Z j W → Calls Tryz.prog 23 #[pl bm] W fun e w' => e = .returned (.tuple #[]) ∧ Z1 j w'))
    (HM : Hid (∀ j W, j < N → Z1 j W → Calls Tryz.prog 24 #[pl bl] W fun e w' => e = .returned (.tuple #[]) ∧ Z (j + 1) w' ∨ e = endsIt ∧ ∃ m, E m w'))
    (h0 : Z 0 (w.alloc (.cells #[pl bl] 59))) :
    Calls Tryz.prog 16 #[pl bl, .int .i64 N] w fun e w' => e = .returned (.tuple #[]) ∧ (Z N w' ∨ ∃ m W, E m W ∧ Chg [bm] W w' ∧ MAt w' bm { m with over := .bool true, rc := .int .i64 0 }) := by
  have hmf : ∀ (fn : Fn) (first cap : Array Value) (w : World), (Instr.makeFunc fn first cap).run Tryz.prog w = .ok (.func fn first cap) w := fun _ _ _ _ => rfl
  have H0 : Hid (Z 0 (w.alloc (.cells #[pl bl] 59))) := h0
  clear h0
  go_enter_defers Tryz.func16, Tryz.ntmps16
  go_wp2_with fail
  go_loopw [6] (fun y ws => ∃ j : Nat, j ≤ N ∧ y = .int .i64 j ∧ Hid (Z j ws)) (fun y _ => N - (intOf y).toNat)
  case atStart => exact ⟨0, by omega, rfl, H0⟩
  case round =>
    obtain ⟨j, hj, rfl, HZ⟩ := hrel
    have j0 : (0 : Int) ≤ j := by omega
    by_cases hjN : j = N
    · subst hjN
      go_wp2_with fail
      refine leaves_cons (f := 22) (args := #[.pointer (some ⟨w.heap.size, 0, none⟩)]) (by simp) (by simp [go_sem]) ?_
      refine (runEnd_idle w.heap.size _).mono ?_
      rintro e u' w'' ⟨rfl, rfl, rfl⟩
      simp only [Leaves, settle]
      exact ⟨_, results_none rfl _ _ _, rfl, .inl HZ.out⟩
    · have j1 : (j : Int) < N := by omega
      have ew : IntKind.i64.wrap ((j : Int) + 1) = ((j + 1 : Nat) : Int) := by
        rw [show (j : Int) + 1 = ((j + 1 : Nat) : Int) by omega]
        unfold IntKind.wrap
        simp [IntKind.signed, IntKind.bits]
        omega
      obtain ⟨z1, z2, mv, z3, z4⟩ := hZ.out j wr HZ.out
      have HS1 : Hid (Z j (wr.setCell ⟨bm, 20, none⟩ (.int .i64 (IntKind.i64.wrap (mv + 1))))) := hS.out j wr _ HZ.out
      obtain ⟨y1, y2, _⟩ := hZ.out j _ HS1.out
      go_wp2_with fail
      refine (HG.out j _ (by omega) (hS.out j wr _ HZ.out)).mono ?_
      rintro e w2 ⟨rfl, hz1⟩
      have c1 := hZ1.out j w2 hz1
      have HZ1 : Hid (Z1 j w2) := hz1
      clear hz1 HS1
      go_wp2_with fail
      refine (HM.out j w2 (by omega) HZ1.out).mono ?_
      rintro e w3 (⟨rfl, hz⟩ | ⟨rfl, m, hEm⟩)
      · have HZ3 : Hid (Z (j + 1) w3) := hz
        clear hz
        go_wp2_with fail
        go_roundw
        case rel => exact ⟨j + 1, by omega, by go_num, HZ3⟩
        case measure => simp [intOf]; omega
      · obtain ⟨e1, e2, e3⟩ := hE.out m w3 hEm
        go_wp2_with fail
        refine leaves_cons (f := 22) (args := #[.pointer (some ⟨w.heap.size, 0, none⟩)]) (by simp) (by simp [go_sem]) ?_
        refine (runEnd_panics w.heap.size bl bm m [] w3 e1 e2 e3).mono ?_
        rintro e u' w'' ⟨rfl, rfl, hc, hM⟩
        have hfin : (Ending.returned (Value.tuple #[]) : Ending) = .returned (.tuple #[]) ∧ (Z N w'' ∨ ∃ m W, E m W ∧ Chg [bm] W w'' ∧ MAt w'' bm { m with over := .bool true, rc := .int .i64 0 }) := ⟨rfl, .inr ⟨m, w3, hEm, hc, hM⟩⟩
        simp only [settle]
        exact ⟨_, results_none rfl _ _ _, hfin⟩
end Go.Proofs.YtgopdffmnikhdaaGreatDoor
