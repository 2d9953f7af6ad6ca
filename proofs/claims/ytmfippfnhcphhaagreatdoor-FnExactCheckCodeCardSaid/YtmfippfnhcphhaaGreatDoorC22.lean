import Derived.Test.YtmfippfnhcphhaaGreatDoorC15
import Derived.Test.YtmfippfnhcphhaaGreatDoorC21
namespace Go.Proofs.YtmfippfnhcphhaaGreatDoor
open Go.RowKit Go.Deep

/-! ### The same, as the other one has it -/
def rdI (r : Nat) (x : Int) (s : Rd) : Option Rd :=
  match r with
  | 12 => rdOp 1 x s
  | 13 => rdOp 3 x s
  | 14 => rdPlace 1 x s
  | 15 => rdPlace 2 x s
  | 16 => rdPlace 3 x s
  | 17 => if tyAt s.types x = 1 ∧ tyAt s.types (x + 1) = 1 then some ⟨s.types, s.stay ++ [x, x + 1], s.taken⟩ else none
  | 18 => if tyAt s.types x = 1 ∧ tyAt s.types (x + 1) = 1 ∧ tyAt s.types (x + 2) = 1 then some ⟨s.types, s.stay ++ [x, x + 1, x + 2], s.taken⟩ else none
  | 23 => if tyAt s.types x = 1 ∧ tyAt s.types (x + 1) = 0 then some ⟨s.types, s.stay, s.taken ++ [x]⟩ else none
  | _ => some s
def rdsI : List Nat → List Int → Rd → Option Rd
  | r :: rs, x :: xs, s => (rdI r x s).bind (rdsI rs xs)
  | _, _, s => some s
def Rd.two (s : Rd) : List Int × List Int := (s.types, s.taken)
theorem rdI_eq {r : Nat} (hr : r ≤ 23) (h : r ≠ 17 ∧ r ≠ 18 ∧ r ≠ 23) (x : Int) (s : Rd) : rdI r x s = rdS (convR r) x s := by
  rcases (by omega : r = 0 ∨ r = 1 ∨ r = 2 ∨ r = 3 ∨ r = 4 ∨ r = 5 ∨ r = 6 ∨ r = 7 ∨ r = 8 ∨ r = 9 ∨ r = 10 ∨ r = 11 ∨ r = 12 ∨ r = 13 ∨ r = 14 ∨ r = 15 ∨ r = 16 ∨ r = 17 ∨ r = 18 ∨ r = 19 ∨ r = 20 ∨ r = 21 ∨ r = 22 ∨ r = 23) with rfl | rfl | rfl | rfl | rfl | rfl | rfl | rfl | rfl | rfl | rfl | rfl | rfl | rfl | rfl | rfl | rfl | rfl | rfl | rfl | rfl | rfl | rfl | rfl <;> first | rfl | (exfalso; omega)
theorem rdsI_eq : ∀ (rs : List Nat) (xs : List Int) (s : Rd), (∀ r ∈ rs, r ≤ 23 ∧ r ≠ 17 ∧ r ≠ 18 ∧ r ≠ 23) → rdsI rs xs s = rdsS (rs.map convR) xs s
  | [], _, _, _ => rfl
  | _ :: _, [], _, _ => rfl
  | r :: rs, x :: xs, s, h => by
    have h1 := h r (by simp)
    simp only [rdsI, rdsS, List.map_cons]
    rw [rdI_eq h1.1 h1.2]
    congr 1
    funext s'
    exact rdsI_eq rs xs s' fun r hr => h r (by simp [hr])
theorem reads_eq (op : Nat) (h1 : 1 ≤ op) (h2 : op ≤ 42) (a b c d : Int) (ts : List Int) : (rdsI (formOf op) [a, b, c, d] ⟨ts, [], []⟩).map Rd.two = (rdsS (rolesOf op) [a, b, c, d] ⟨ts, [], []⟩).map Rd.two := by
  by_cases hs : op = 37 ∨ op = 38 ∨ op = 39 ∨ op = 40 ∨ op = 41
  · rcases hs with rfl | rfl | rfl | rfl | rfl
    all_goals
      simp [formOf, formTab, rolesOf, roleTab, rdsI, rdsS, rdI, rdS]
      split <;> simp [Rd.two]
  · rw [← conv_forms op h1 h2, rdsI_eq]
    have h : ∀ k, k < 43 → (k < 37 ∨ k = 42) → ∀ r ∈ formOf k, r ≤ 23 ∧ r ≠ 17 ∧ r ≠ 18 ∧ r ≠ 23 := by decide
    exact h op (by omega) (by omega)

/-- What reading leaves, and that no register is below 0. -/
def wrI (r : Nat) (x : Int) (ts : List Int) : List Int :=
  match r with
  | 19 => ts.set x.toNat 0
  | 20 => ts.set x.toNat 1
  | 21 => ts.set x.toNat 2
  | 22 => ts.set x.toNat 3
  | 23 => (ts.set x.toNat 1).set (x.toNat + 1) 1
  | _ => ts
def wrsI : List Nat → List Int → List Int → List Int
  | r :: rs, x :: xs, ts => wrsI rs xs (wrI r x ts)
  | _, _, ts => ts
theorem set_same {ts : List Int} {i : Nat} (h : ts.getD i 0 = 1) : ts.set i 1 = ts := by
  by_cases hi : i < ts.length
  · apply List.ext_getElem?
    intro j
    rw [List.getElem?_set]
    by_cases hj : i = j
    · subst hj
      simp [List.getD_eq_getElem?_getD, hi] at h
      simp [hi, h]
    · simp [hj]
  · exact List.set_eq_of_length_le (by omega)
theorem write_eq (n : Nd) (op : Nat) (ho : n.op = op) (h1 : 1 ≤ op) (h2 : op ≤ 42) (ts : List Int) (h40 : op = 40 → tyAt ts n.a = 1) : wrsI (formOf op) n.fs ts = writeT n ts := by
  obtain ⟨o, a, b, c, d⟩ := n
  dsimp only at *
  subst ho
  by_cases h : op = 40
  · subst h
    have := set_same (h40 rfl)
    simp [formOf, formTab, Nd.fs, wrsI, wrI, writeT, this]
  · clear h40
    rcases ops_all op h1 h2 with rfl | rfl | rfl | rfl | rfl | rfl | rfl | rfl | rfl | rfl | rfl | rfl | rfl | rfl | rfl | rfl | rfl | rfl | rfl | rfl | rfl | rfl | rfl | rfl | rfl | rfl | rfl | rfl | rfl | rfl | rfl | rfl | rfl | rfl | rfl | rfl | rfl | rfl | rfl | rfl | rfl | rfl
    all_goals first | rfl | (exfalso; omega)
theorem reads_forty {a b c d : Int} {ts t1 tk : List Int} (h : (rdsS (rolesOf 40) [a, b, c, d] ⟨ts, [], []⟩).map Rd.two = some (t1, tk)) : tyAt t1 a = 1 := by
  by_cases hc : tyAt ts a = 1 ∧ tyAt ts (a + 1) = 0
  · simp [rolesOf, roleTab, rdsS, rdS, hc, Rd.two] at h
    rw [← h.1]
    exact hc.1
  · simp [rolesOf, roleTab, rdsS, rdS, hc] at h

/-! ### Keeps -/
def maxKeep (gs : List Gd) : Int := gs.foldl (fun k g => if g.tr then max k g.keep else k) 0
theorem maxKeep_from (gs : List Gd) (k0 k : Int) : gs.foldl (fun k g => if g.tr then max k g.keep else k) k0 ≤ k ↔ k0 ≤ k ∧ ∀ g ∈ gs, g.tr = true → g.keep ≤ k := by
  induction gs generalizing k0 with
  | nil => simp
  | cons g r ih =>
    simp only [List.foldl_cons, ih, List.mem_cons, forall_eq_or_imp]
    split
    · rename_i h
      rw [Int.max_le]
      constructor
      · rintro ⟨h1, h2⟩; exact ⟨h1.1, fun _ => h1.2, h2⟩
      · rintro ⟨h1, h2, h3⟩; exact ⟨⟨h1, h2 h⟩, h3⟩
    · rename_i h
      constructor
      · rintro ⟨h1, h2⟩; exact ⟨h1, fun h' => absurd h' h, h2⟩
      · rintro ⟨h1, h2, h3⟩; exact ⟨h1, h3⟩
theorem maxKeep_le {gs : List Gd} {k : Int} (hk : 0 ≤ k) : decide (maxKeep gs ≤ k) = aboveB gs k := by
  rw [Bool.eq_iff_iff]
  unfold maxKeep aboveB
  rw [decide_eq_true_iff, maxKeep_from]
  simp only [List.all_eq_true, Bool.not_eq_true', Bool.and_eq_false_iff, decide_eq_false_iff_not]
  constructor
  · rintro ⟨_, h⟩ g hg
    cases ht : g.tr
    · exact .inl rfl
    · exact .inr (by have := h g hg ht; omega)
  · intro h
    refine ⟨hk, fun g hg ht => ?_⟩
    rcases h g hg with h1 | h1
    · rw [ht] at h1; cases h1
    · omega
theorem maxKeep_in (gs : List Gd) : 0 ≤ maxKeep gs ∧ (maxKeep gs = 0 ∨ ∃ g ∈ gs, g.tr = true ∧ g.keep = maxKeep gs) := by
  unfold maxKeep
  have : ∀ (gs : List Gd) (k0 : Int), k0 ≤ gs.foldl (fun k g => if g.tr then max k g.keep else k) k0 ∧ (gs.foldl (fun k g => if g.tr then max k g.keep else k) k0 = k0 ∨ ∃ g ∈ gs, g.tr = true ∧ g.keep = gs.foldl (fun k g => if g.tr then max k g.keep else k) k0) := by
    intro gs
    induction gs with
    | nil => intro k0; simp
    | cons g r ih =>
      intro k0
      simp only [List.foldl_cons]
      obtain ⟨h1, h2⟩ := ih (if g.tr then max k0 g.keep else k0)
      generalize hF : List.foldl (fun k g => if g.tr then max k g.keep else k) (if g.tr then max k0 g.keep else k0) r = F at *
      by_cases ht : g.tr = true
      · rw [if_pos ht] at h1 h2
        have m1 := Int.le_max_left k0 g.keep
        have m2 := Int.le_max_right k0 g.keep
        refine ⟨by omega, ?_⟩
        rcases h2 with h2 | ⟨q, hq, h3, h4⟩
        · by_cases hk : k0 ≤ g.keep
          · exact .inr ⟨g, by simp, ht, by rw [h2, Int.max_eq_right hk]⟩
          · exact .inl (by rw [h2, Int.max_eq_left (by omega)])
        · exact .inr ⟨q, by simp [hq], h3, h4⟩
      · rw [if_neg ht] at h1 h2
        refine ⟨h1, ?_⟩
        rcases h2 with h2 | ⟨q, hq, h3, h4⟩
        · exact .inl h2
        · exact .inr ⟨q, by simp [hq], h3, h4⟩
  exact this gs 0
def stayB (k : Int) (taken b a : List Int) : Bool := notBelow k taken && sameBelow k b a
theorem take_le {a b : List Int} {m n : Nat} (h : m ≤ n) (e : a.take n = b.take n) : a.take m = b.take m := by
  rw [show a.take m = (a.take n).take m by rw [List.take_take, Nat.min_eq_left h], e, List.take_take, Nat.min_eq_left h]
theorem stay_mono {k k' : Int} {taken b a : List Int} (hk : k' ≤ k) (h : stayB k taken b a = true) : stayB k' taken b a = true := by
  unfold stayB notBelow sameBelow at *
  simp only [Bool.and_eq_true, List.all_eq_true, Bool.not_eq_true', decide_eq_false_iff_not, decide_eq_true_iff] at *
  exact ⟨fun x hx => by have := h.1 x hx; omega, take_le (by omega) h.2⟩
theorem keptL_iff (taken b a : List Int) (gs : List Gd) : keptL false taken b a gs = true ↔ ∀ g ∈ gs, g.tr = true → stayB g.keep taken b a = true := by
  induction gs with
  | nil => simp [keptL]
  | cons g r ih =>
    simp only [keptL, Bool.and_eq_true, ih, List.mem_cons, forall_eq_or_imp, Bool.false_and, Bool.false_or]
    unfold stayB
    cases g.tr <;> simp
theorem keptL_same {taken b : List Int} (h : taken = []) (gs : List Gd) (e : Bool) : keptL e taken b b gs = true := by
  subst h
  induction gs with
  | nil => rfl
  | cons g r ih => simp [keptL, ih, notBelow, sameBelow]
theorem kept_eq {n : Nd} {gs : List Gd} {taken b a : List Int} (h32 : n.op = 32 → taken = [] ∧ b = a) (ht : ∀ x ∈ taken, 0 ≤ x) : keptF n gs taken b a = stayB (maxKeep gs) taken b a := by
  unfold keptF
  obtain ⟨m1, m2⟩ := maxKeep_in gs
  by_cases ho : n.op = 32
  · obtain ⟨rfl, rfl⟩ := h32 ho
    rw [keptL_same rfl]
    simp [stayB, notBelow, sameBelow]
  · rw [show (n.op == 32) = false by simpa using ho]
    rw [Bool.eq_iff_iff, keptL_iff]
    constructor
    · intro h
      rcases m2 with m2 | ⟨g, hg, h1, h2⟩
      · rw [m2]
        simp only [stayB, notBelow, sameBelow, Bool.and_eq_true, List.all_eq_true, Bool.not_eq_true', decide_eq_false_iff_not]
        exact ⟨fun x hx => by have := ht x hx; omega, by simp⟩
      · rw [← h2]; exact h g hg h1
    · intro h g hg h1
      exact stay_mono ((maxKeep_from gs 0 (maxKeep gs)).1 (Int.le_refl _) |>.2 g hg h1) h
/-! ### Guards and targets, as the other one has them -/
def gfitB (n : Nd) (gs : List Gd) : Bool :=
  if n.op = 31 then decide (gs.length < 50) && decide (maxKeep gs ≤ n.b)
  else if n.op = 33 then decide (gs.length < 50) && decide (maxKeep gs ≤ n.a)
  else if n.op = 32 then decide (lastTr gs = some true)
  else if n.op = 34 then decide (lastTr gs = some false) && decide (maxKeep gs ≤ n.a)
  else if n.op = 35 ∨ n.op = 36 then decide (lastTr gs = some false)
  else true
def gbehF (n : Nd) (gs : List Gd) : List Gd :=
  if n.op = 31 then gs ++ [⟨true, n.b, n.a⟩]
  else if n.op = 33 then gs ++ [⟨false, n.a, 0⟩]
  else if n.op = 32 ∨ n.op = 36 then gs.dropLast
  else if n.op = 34 then keepLast gs n.a
  else gs
theorem change_eq {np : Nat} {p : Pd} {n : Nd} (hn : InsFit np p n) (gs : List Gd) : changeF n gs = if gfitB n gs then some (gbehF n gs) else none := by
  obtain ⟨f1, f2, _⟩ := fit_tab hn
  unfold changeF gfitB gbehF
  by_cases h31 : n.op = 31
  · have := (f1 h31).2
    rw [if_pos h31, if_pos h31, if_pos h31, maxKeep_le (by omega)]
  by_cases h33 : n.op = 33
  · have := f2 (.inl h33)
    rw [if_neg h31, if_neg h31, if_neg h31, if_pos h33, if_pos h33, if_pos h33, maxKeep_le (by omega)]
  by_cases h32 : n.op = 32
  · simp [h32]
  by_cases h34 : n.op = 34
  · have := f2 (.inr h34)
    simp only [h34, maxKeep_le this.1]
    simp
  by_cases h35 : n.op = 35
  · simp [h35]
  by_cases h36 : n.op = 36
  · simp [h36]
  · simp [h31, h32, h33, h34, h35, h36]
def tgtF (n : Nd) : Option Nat :=
  if n.op = 19 ∨ n.op = 31 then some n.a.toNat
  else if n.op = 20 ∨ n.op = 21 ∨ n.op = 38 ∨ n.op = 39 ∨ n.op = 41 then some n.b.toNat
  else none
def thereF (n : Nd) (s : St) (ts : List Int) (gs : List Gd) : St :=
  if n.op = 41 then ⟨ts.set n.c.toNat (tyAt s.types n.c), gs⟩
  else if n.op = 31 then ⟨tryT n.b s.types, s.guards⟩
  else ⟨ts, gs⟩
theorem go_eq (n : Nd) (s : St) (ts : List Int) (gs : List Gd) : goF n s ts gs = match tgtF n with | some t => [(t, thereF n s ts gs)] | none => [] := by
  obtain ⟨op, a, b, c, d⟩ := n
  unfold goF tgtF thereF
  dsimp only
  by_cases h19 : op = 19
  · subst h19; simp
  by_cases h20 : op = 20 ∨ op = 21 ∨ op = 38 ∨ op = 39
  · rcases h20 with rfl | rfl | rfl | rfl <;> simp
  by_cases h41 : op = 41
  · subst h41; simp
  by_cases h31 : op = 31
  · subst h31; simp
  · rw [if_neg h19, if_neg h20, if_neg h41, if_neg h31, if_neg (by omega), if_neg (by omega)]
def ticksB (n : Nd) : Bool := n.op == 1 || n.op == 3 || n.op == 28 || (n.op == 18 && n.b == 12)
def silI (n : Nd) (at_ : Nat) : List Nat := if ticksB n then [] else (if nextB n && n.op != 41 then [at_ + 1] else []) ++ (tgtF n).toList
theorem sil_eq (n : Nd) (at_ j : Nat) : j ∈ silI n at_ ↔ j ∈ silL n at_ := by
  obtain ⟨op, a, b, c, d⟩ := n
  unfold silI silL ticksB tgtF nextB
  dsimp only
  by_cases h1 : op = 1
  · subst h1; simp
  by_cases h3 : op = 3
  · subst h3; simp
  by_cases h28 : op = 28
  · subst h28; simp
  by_cases h29 : op = 29
  · subst h29; simp
  by_cases h30 : op = 30
  · subst h30; simp
  by_cases h18 : op = 18
  · subst h18
    by_cases hb : b = 12 <;> simp [hb]
  by_cases h19 : op = 19
  · subst h19; simp
  by_cases h41 : op = 41
  · subst h41; simp
  by_cases h20 : op = 20 ∨ op = 21 ∨ op = 38 ∨ op = 39
  · rcases h20 with rfl | rfl | rfl | rfl <;> (simp; exact Or.comm)
  by_cases h31 : op = 31
  · subst h31; simp; exact Or.comm
  · have h2 : ¬ op = 20 := by omega
    have h4 : ¬ op = 21 := by omega
    have h5 : ¬ op = 38 := by omega
    have h6 : ¬ op = 39 := by omega
    simp [h1, h3, h28, h29, h30, h18, h19, h41, h31, h2, h4, h5, h6]
/-- One step, as the other one takes it. -/
def stepI (ps : List Pd) (n : Nd) (at_ : Nat) (s : St) : Out :=
  match (rdsI (formOf n.op.toNat) n.fs ⟨s.types, [], []⟩).map Rd.two with
  | none => .bad 10
  | some (t1, tk) =>
    if upsBoxedB s.types (fnUps ps n) then
      if gfitB n s.guards then
        if stayB (maxKeep s.guards) tk s.types (wrsI (formOf n.op.toNat) n.fs t1) then .go (folF n at_ s (wrsI (formOf n.op.toNat) n.fs t1) (gbehF n s.guards)) else .bad 12
      else .bad 11
    else .bad 10
theorem rdOp_nn {w x : Int} {s s' : Rd} (h : rdOp w x s = some s') (hs : ∀ y ∈ s.taken, 0 ≤ y) : ∀ y ∈ s'.taken, 0 ≤ y := by
  unfold rdOp at h
  split at h
  · split at h
    · rename_i hx
      split at h
      · cases h
      · obtain rfl := Option.some.inj h
        intro y hy
        rcases List.mem_append.1 hy with hy | hy
        · exact hs y hy
        · simp at hy; subst hy; unfold regOf; rw [if_pos hx]; omega
    · obtain rfl := Option.some.inj h; exact hs
  · cases h
theorem rdI_nn {np : Nat} {p : Pd} {r : Nat} {x : Int} {s s' : Rd} (hr : r ≤ 23) (hf : fitsR np p (convR r) x = true) (h : rdI r x s = some s') (hs : ∀ y ∈ s.taken, 0 ≤ y) : ∀ y ∈ s'.taken, 0 ≤ y := by
  unfold rdI at h
  have hpl : ∀ w, rdPlace w x s = some s' → ∀ y ∈ s'.taken, 0 ≤ y := by
    intro w h
    unfold rdPlace at h
    split at h
    · obtain rfl := Option.some.inj h; exact hs
    · cases h
  split at h
  · exact rdOp_nn h hs
  · exact rdOp_nn h hs
  · exact hpl _ h
  · exact hpl _ h
  · exact hpl _ h
  · split at h
    · obtain rfl := Option.some.inj h; exact hs
    · cases h
  · split at h
    · obtain rfl := Option.some.inj h; exact hs
    · cases h
  · split at h
    · obtain rfl := Option.some.inj h
      intro y hy
      rcases List.mem_append.1 hy with hy | hy
      · exact hs y hy
      · simp at hy; subst hy
        simp [convR, convTab, fitsR, inR] at hf
        exact hf.1
    · cases h
  · obtain rfl := Option.some.inj h; exact hs
theorem rdsI_nn {np : Nat} {p : Pd} : ∀ {rs : List Nat} {xs : List Int} {s s' : Rd}, (∀ r ∈ rs, r ≤ 23) → fitAll np p (rs.map convR) xs = true → rdsI rs xs s = some s' → (∀ y ∈ s.taken, 0 ≤ y) → ∀ y ∈ s'.taken, 0 ≤ y
  | [], _, s, s', _, _, h, hs => by unfold rdsI at h; obtain rfl := Option.some.inj h; exact hs
  | _ :: _, [], s, s', _, _, h, hs => by unfold rdsI at h; obtain rfl := Option.some.inj h; exact hs
  | r :: rs, x :: xs, s, s', hr, hf, h, hs => by
    unfold rdsI at h
    simp only [List.map_cons, fitAll, Bool.and_eq_true] at hf
    cases h1 : rdI r x s with
    | none => rw [h1] at h; cases h
    | some s1 =>
      rw [h1] at h
      exact rdsI_nn (fun q hq => hr q (by simp [hq])) hf.2 h (rdI_nn (hr r (by simp)) hf.1 h1 hs)
theorem step_eq {ps : List Pd} {np : Nat} {p : Pd} {n : Nd} (hn : InsFit np p n) (at_ : Nat) (s : St) : stepI ps n at_ s = stepF ps n at_ s := by
  have hlo := hn.lo
  have hhi := hn.hi
  obtain ⟨op, hop⟩ : ∃ k : Nat, n.op = k := Int.eq_ofNat_of_zero_le (by omega)
  have h1 : 1 ≤ op := by omega
  have h2 : op ≤ 42 := by omega
  have hT : n.op.toNat = op := by rw [hop]; rfl
  have hr := reads_eq op h1 h2 n.a n.b n.c n.d s.types
  have hfit := hn.fit
  rw [hT] at hfit
  unfold stepI stepF readF
  rw [hT]
  have hnn := @rdsI_nn np p (formOf op) n.fs ⟨s.types, [], []⟩
  rw [conv_forms op h1 h2] at hnn
  unfold Nd.fs at *
  cases hs : rdsS (rolesOf op) [n.a, n.b, n.c, n.d] ⟨s.types, [], []⟩ with
  | none =>
    rw [hs] at hr
    rw [hr]
    rfl
  | some r =>
    rw [hs] at hr
    rw [hr]
    cases hi : rdsI (formOf op) [n.a, n.b, n.c, n.d] ⟨s.types, [], []⟩ with
    | none => rw [hi] at hr; cases hr
    | some r' =>
    rw [hi] at hr
    simp only [Option.map_some, Option.some.injEq, Rd.two, Prod.mk.injEq] at hr
    have htk := hnn (s' := r') (by
      intro q hq
      obtain ⟨r0, r1, r2, r3, e, g0, g1, g2, g3⟩ := form_four h2
      rw [e] at hq
      simp at hq
      omega) hfit hi (by simp)
    have hups : upsBoxedB s.types (fnUps ps n) = upsBoxedB r.types (fnUps ps n) := by
      unfold fnUps
      split
      · rename_i h11
        have : op = 11 := by omega
        subst this
        simp [rolesOf, roleTab, rdsS, rdS] at hs
        rw [← hs]
      · rfl
    have hw : wrsI (formOf op) [n.a, n.b, n.c, n.d] r.types = writeT n r.types := by
      refine write_eq n op hop h1 h2 r.types ?_
      intro h40
      subst h40
      refine reads_forty (tk := r.taken) (a := n.a) (b := n.b) (c := n.c) (d := n.d) (ts := s.types) ?_
      rw [hs]
      rfl
    rw [Option.map_some]
    dsimp only [Rd.two]
    rw [hups, hw, change_eq hn]
    cases upsBoxedB r.types (fnUps ps n)
    · rfl
    · simp only [if_true]
      cases gfitB n s.guards
      · rfl
      · simp only [if_true]
        have hk : keptF n s.guards r.taken s.types (writeT n r.types) = stayB (maxKeep s.guards) r.taken s.types (writeT n r.types) := by
          refine kept_eq ?_ ?_
          · intro h32
            have : op = 32 := by omega
            subst this
            simp [rolesOf, roleTab, rdsS, rdS] at hs
            rw [← hs]
            refine ⟨rfl, ?_⟩
            obtain ⟨o, a, b, c, d⟩ := n
            dsimp only at hop
            subst hop
            rfl
          · rw [← hr.2]
            exact htk
        rw [hk]
end Go.Proofs.YtmfippfnhcphhaaGreatDoor

namespace Go.Proofs.YtmfippfnhcphhaaGreatDoor
open Go.RowKit Go.Deep

/-! ### States where they lie -/
def stT (o : Option St) : List Int := match o with | none => [] | some s => s.types
def stG (o : Option St) : List Gd := match o with | none => [] | some s => s.guards
def StAt (lo : Nat) (w : World) (sb j : Nat) (o : Option St) : Prop :=
  ∃ to tc go gc, w.cell? ⟨sb, j * 3, none⟩ = some (.bool o.isSome) ∧ w.cell? ⟨sb, j * 3 + 1, none⟩ = some (.slice to (stT o).length tc) ∧ w.cell? ⟨sb, j * 3 + 2, none⟩ = some (.slice go (stG o).length gc) ∧ IntsAt lo w to (stT o) ∧ GdsAt lo w go (stG o)
structure StsAt (lo : Nat) (w : World) (sb : Nat) (sts : List (Option St)) : Prop where
  own : Own w sb 123 (sts.length * 3)
  at_ : ∀ j o, sts[j]? = some o → StAt lo w sb j o
theorem StAt.later {lo : Nat} {w w' : World} {sb j : Nat} {o : Option St} (h : StAt lo w sb j o) (hk : Keeps lo w w') (hb : w'.heap[sb]? = w.heap[sb]?) : StAt lo w' sb j o := by
  obtain ⟨to, tc, go, gc, h1, h2, h3, h4, h5⟩ := h
  have hc : ∀ i, w'.cell? ⟨sb, i, none⟩ = w.cell? ⟨sb, i, none⟩ := fun i => World.cell?_of_block (w := w) (a := ⟨sb, i, none⟩) hb
  exact ⟨to, tc, go, gc, (hc _).trans h1, (hc _).trans h2, (hc _).trans h3, h4.later hk, h5.later hk⟩
theorem StsAt.later {lo : Nat} {w w' : World} {sb : Nat} {sts : List (Option St)} (h : StsAt lo w sb sts) (hk : Keeps lo w w') (hb : w'.heap[sb]? = w.heap[sb]?) : StsAt lo w' sb sts :=
  ⟨h.own.of_block hb, fun j o ho => (h.at_ j o ho).later hk hb⟩
theorem StsAt.below {lo : Nat} {w w' : World} {sb : Nat} {sts : List (Option St)} (h : StsAt lo w sb sts) (hb : Below w.heap.size w w') : StsAt lo w' sb sts := h.later (Keeps.of_below hb) (hb.block sb h.own.lt)
theorem cell_set_ne {w : World} {b i j : Nat} {v : Value} (h : i ≠ j) : (w.setCell ⟨b, i, none⟩ v).cell? ⟨b, j, none⟩ = w.cell? ⟨b, j, none⟩ := by
  simp [World.cell?, World.setCell, Array.getElem?_modify]
  cases hb : w.heap[b]? with
  | none => simp
  | some o => cases o <;> simp [h]
theorem own_set_cell {w : World} {b n i : Nat} {t : TypeId} {v : Value} (h : Own w b t n) (hi : i < n) : (w.setCell ⟨b, i, none⟩ v).cell? ⟨b, i, none⟩ = some v := by
  obtain ⟨c, hc, rfl⟩ := h
  simp [World.cell?, World.setCell, Array.getElem?_modify, hc, hi]
/-- A state is put in. -/
theorem StsAt.put {lo : Nat} {w : World} {sb : Nat} {sts : List (Option St)} (h : StsAt lo w sb sts) {x : Nat} (hx : x < sts.length) (hsb : sb < lo) {s : St} {to go : Option Addr} {tc gc : Nat} (ht : IntsAt lo w to s.types) (hg : GdsAt lo w go s.guards) :
    StsAt lo (((w.setCell ⟨sb, x * 3, none⟩ (.bool true)).setCell ⟨sb, x * 3 + 1, none⟩ (.slice to s.types.length tc)).setCell ⟨sb, x * 3 + 2, none⟩ (.slice go s.guards.length gc)) sb (sts.set x (some s)) := by
  have hk : Keeps lo w (((w.setCell ⟨sb, x * 3, none⟩ (.bool true)).setCell ⟨sb, x * 3 + 1, none⟩ (.slice to s.types.length tc)).setCell ⟨sb, x * 3 + 2, none⟩ (.slice go s.guards.length gc)) :=
    (((Keeps.refl lo w).setCell (p := ⟨sb, x * 3, none⟩) hsb _).setCell (p := ⟨sb, x * 3 + 1, none⟩) hsb _).setCell (p := ⟨sb, x * 3 + 2, none⟩) hsb _
  have ho := ((h.own.set (x * 3) (.bool true)).set (x * 3 + 1) (.slice to s.types.length tc)).set (x * 3 + 2) (.slice go s.guards.length gc)
  refine ⟨by rw [List.length_set]; exact ho, ?_⟩
  intro j o hj
  rw [List.getElem?_set] at hj
  by_cases hxj : x = j
  · subst hxj
    simp [hx] at hj
    subst hj
    have o1 := h.own.set (x * 3) (.bool true)
    have o2 := o1.set (x * 3 + 1) (.slice to s.types.length tc)
    refine ⟨to, tc, go, gc, ?_, ?_, own_set_cell o2 (by omega), ht.later hk, hg.later hk⟩
    · rw [cell_set_ne (by omega), cell_set_ne (by omega)]
      exact own_set_cell h.own (by omega)
    · rw [cell_set_ne (by omega)]
      exact own_set_cell o1 (by omega)
  · rw [if_neg hxj] at hj
    obtain ⟨to', tc', go', gc', h1, h2, h3, h4, h5⟩ := h.at_ j o hj
    refine ⟨to', tc', go', gc', ?_, ?_, ?_, h4.later hk, h5.later hk⟩
    · rw [cell_set_ne (by omega), cell_set_ne (by omega), cell_set_ne (by omega)]; exact h1
    · rw [cell_set_ne (by omega), cell_set_ne (by omega), cell_set_ne (by omega)]; exact h2
    · rw [cell_set_ne (by omega), cell_set_ne (by omega), cell_set_ne (by omega)]; exact h3
theorem Tryz.info_State : (Tryz.prog.info? 123).map (fun i => (i.zero, i.size, i.bytes)) = some (some (.agg #[.bool false, .slice none 0 0, .slice none 0 0]), 3, 56) := by kernel_rfl
theorem made_cell {z : Array Value} {n j i : Nat} (hi : i < z.size) (hj : j * z.size + i < n) : (madeCells z n)[j * z.size + i]? = z[i]? := by
  have hm : (j * z.size + i) % z.size = i := by rw [Nat.add_comm, Nat.add_mul_mod_self_right, Nat.mod_eq_of_lt hi]
  unfold madeCells
  simp [hj, hm, hi]
/-- Fresh states. -/
theorem sts_made (lo : Nat) (w : World) (n : Nat) : StsAt lo (w.alloc (.cells (madeCells #[.bool false, .slice none 0 0, .slice none 0 0] (n * 3)) 123)) w.heap.size (List.replicate n none) := by
  refine ⟨by simpa using Own.made w #[.bool false, .slice none 0 0, .slice none 0 0] (n * 3) 123, ?_⟩
  intro j o hj
  rw [List.getElem?_replicate] at hj
  split at hj
  · rename_i hjn
    obtain rfl := (Option.some.inj hj).symm
    have hb := blk_alloc_new w (.cells (madeCells #[.bool false, .slice none 0 0, .slice none 0 0] (n * 3)) 123)
    have hc : ∀ i, i < 3 → (w.alloc (.cells (madeCells #[.bool false, .slice none 0 0, .slice none 0 0] (n * 3)) 123)).cell? ⟨w.heap.size, j * 3 + i, none⟩ = (#[.bool false, .slice none 0 0, .slice none 0 0] : Array Value)[i]? := by
      intro i hi
      have := made_cell (z := #[.bool false, .slice none 0 0, .slice none 0 0]) (n := n * 3) (j := j) (i := i) (by simpa using hi) (by simp; omega)
      simp only [World.cell?, hb]
      simpa using this
    exact ⟨none, 0, none, 0, hc 0 (by omega), hc 1 (by omega), hc 2 (by omega), fun i x hx => by simp [stT] at hx, fun i x hx => by simp [stG] at hx⟩
  · cases hj

/-! ### What the verifier finds -/
open Classical in
noncomputable def leastN (P : Nat → Prop) (N : Nat) : Nat := ((List.range N).find? fun i => decide (P i)).getD N
open Classical in
theorem leastN_of {E : Nat → Nat → Prop} {N m : Nat} (h : LeastC E N m) : leastN (OnC E) N = m := by
  unfold leastN
  obtain ⟨h1, h2⟩ := h
  rcases h1 with rfl | ⟨h3, h4⟩
  · rw [List.find?_eq_none.2]
    · rfl
    · intro i hi
      simp at hi ⊢
      intro hc
      have := h2 i hi hc
      omega
  · have : (List.range N).find? (fun i => decide (OnC E i)) = some m := by
      rw [List.find?_range_eq_some]
      refine ⟨by simpa using h4, by simpa using h3, ?_⟩
      intro j hj
      simp
      intro hc
      have := h2 j (by omega) hc
      omega
    rw [this]
    rfl
def Cf.E (c : Cf) (p : Pd) (a b : Nat) : Prop := (c.st a).isSome = true ∧ Sil p.ins a b
noncomputable def circF (p : Pd) (c : Cf) : Nat := leastN (OnC (c.E p)) p.ins.length
noncomputable def verF (ps : List Pd) (p : Pd) (pi : Nat) : Int × Int × Int :=
  match walkF ps p (2 * p.ins.length + 2) (startC p) with
  | .error (k, x) => (k, pi, x)
  | .ok c => if circF p c < p.ins.length then (14, pi, circF p c) else (0, 0, 0)
theorem verF_error {ps : List Pd} {p : Pd} {pi k x : Nat} (h : walkF ps p (2 * p.ins.length + 2) (startC p) = .error (k, x)) : verF ps p pi = ((k : Int), (pi : Int), (x : Int)) := by unfold verF; rw [h]
theorem verF_circ {ps : List Pd} {p : Pd} {pi m : Nat} {c : Cf} (h : walkF ps p (2 * p.ins.length + 2) (startC p) = .ok c) (hm : LeastC (c.E p) p.ins.length m) (hl : m < p.ins.length) : verF ps p pi = (14, (pi : Int), (m : Int)) := by
  unfold verF circF; rw [h]; dsimp only; rw [leastN_of hm, if_pos hl]
theorem verF_none {ps : List Pd} {p : Pd} {pi : Nat} {c : Cf} (h : walkF ps p (2 * p.ins.length + 2) (startC p) = .ok c) (hm : LeastC (c.E p) p.ins.length p.ins.length) : verF ps p pi = (0, 0, 0) := by
  unfold verF circF; rw [h]; dsimp only; rw [leastN_of hm, if_neg (Nat.lt_irrefl _)]

theorem firstT_len {np : Nat} {p : Pd} (hp : PFit np p) : ((firstT p).length : Int) = p.regs := by
  have h1 := hp.regs
  have h2 := hp.params
  unfold firstT
  dsimp only
  split <;> simp <;> omega
theorem start_ok {np : Nat} {p : Pd} (hp : PFit np p) : CfOk p (startC p) ∧ Closed p (startC p) none ∧ (startC p).meas < 2 * p.ins.length + 2 := by
  have hs := hp.some
  have hst : ∀ i, (startC p).st i = if 0 = i then some ⟨firstT p, []⟩ else none := by
    intro i
    have := st_set ⟨List.replicate p.ins.length none, []⟩ 0 i ⟨firstT p, []⟩ ((List.replicate p.ins.length false).set 0 true)
    unfold startC
    rw [this]
    unfold Cf.st
    simp only [List.length_replicate, List.getD_eq_getElem?_getD, List.getElem?_replicate]
    by_cases h0 : 0 = i
    · rw [if_pos ⟨h0, hs⟩, if_pos h0]
    · rw [if_neg (fun h => h0 h.1), if_neg h0]
      split <;> rfl
  have hdu : ∀ i, (startC p).due.getD i false = if 0 = i then true else false := by
    intro i
    unfold startC
    rw [due_set]
    simp only [List.length_replicate, List.getD_eq_getElem?_getD, List.getElem?_replicate]
    by_cases h0 : 0 = i
    · rw [if_pos ⟨h0, hs⟩, if_pos h0]
    · rw [if_neg (fun h => h0 h.1), if_neg h0]
      split <;> rfl
  refine ⟨⟨by simp [startC], by simp [startC], ?_, ?_⟩, ?_, ?_⟩
  · intro i s hi
    rw [hst] at hi
    split at hi
    · obtain rfl := Option.some.inj hi
      exact ⟨firstT_len hp, by simp, by simp⟩
    · cases hi
  · intro i hi
    rw [hdu] at hi
    rw [hst]
    split at hi
    · rename_i h; rw [if_pos h]; rfl
    · cases hi
  · intro i n hn hi hd
    rw [hst] at hi
    rw [hdu] at hd
    split at hi
    · rename_i h; rw [if_pos h] at hd; cases hd
    · cases hi
  · unfold Cf.meas startC
    dsimp only
    have h1 : unseen ((List.replicate p.ins.length none).set 0 (some ⟨firstT p, []⟩)) ≤ p.ins.length := by
      unfold unseen
      exact Nat.le_trans (List.length_filter_le _ _) (by simp)
    have h2 := @dues_true (List.replicate p.ins.length false) 0
    have h3 : dues (List.replicate p.ins.length false) = 0 := by unfold dues; simp
    omega
/-- The circles that the one finds are those that the other finds. -/
theorem circ_iff {p : Pd} {c : Cf} (hk : Closed p c none) (hd : ∀ i, c.due.getD i false = false) (i : Nat) : OnC (c.E p) i ↔ ((c.st i).isSome = true ∧ OnC (Sil p.ins) i) := by
  refine onC_sub (P := fun a => (c.st a).isSome = true) (fun a b => Iff.rfl) ?_
  rintro a b ha ⟨n, hn, hb⟩
  exact hk a n hn ha (hd a) (by simp) b hb
end Go.Proofs.YtmfippfnhcphhaaGreatDoor
