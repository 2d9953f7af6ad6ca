import Derived.Test.YtmfippfnhcphhaaGreatDoorC14
namespace Go.Proofs.YtmfippfnhcphhaaGreatDoor
open Go.RowKit Go.Deep

/-! ### The verifier as a function -/
structure St where
  types : List Int
  guards : List Gd
  deriving DecidableEq
structure Rd where
  types : List Int
  stay : List Int
  taken : List Int

def tyAt (ts : List Int) (x : Int) : Int := ts.getD x.toNat 0
def rdOp (want x : Int) (s : Rd) : Option Rd :=
  if tyAt s.types (regOf x) = want then
    if x < 0 then (if regOf x ∈ s.stay then none else some ⟨s.types.set (regOf x).toNat 0, s.stay, s.taken ++ [regOf x]⟩) else some s
  else none
def rdPlace (want x : Int) (s : Rd) : Option Rd := if tyAt s.types x = want then some ⟨s.types, s.stay ++ [x], s.taken⟩ else none
/-- A field of a role is read. -/
def rdS (r : Nat) (x : Int) (s : Rd) : Option Rd :=
  match r with
  | 2 => rdOp 1 x s
  | 3 => rdOp 3 x s
  | 4 => rdPlace 1 x s
  | 5 => rdPlace 2 x s
  | 6 => rdPlace 3 x s
  | 18 => if tyAt s.types x = 1 ∧ tyAt s.types (x + 1) = 1 ∧ tyAt s.types (x + 2) = 1 then some ⟨s.types, s.stay ++ [x], s.taken⟩ else none
  | 19 => if tyAt s.types x = 1 ∧ tyAt s.types (x + 1) = 0 then some ⟨s.types, s.stay ++ [x], s.taken ++ [x]⟩ else none
  | 20 => if tyAt s.types x = 1 ∧ tyAt s.types (x + 1) = 1 then some ⟨s.types, s.stay ++ [x], s.taken⟩ else none
  | _ => some s
def rdsS : List Nat → List Int → Rd → Option Rd
  | r :: rs, x :: xs, s => (rdS r x s).bind (rdsS rs xs)
  | _, _, s => some s
def upsBoxedB (ts : List Int) (us : List Ud) : Bool := us.all fun u => !(u.loc && decide (tyAt ts u.idx ≠ 2))
def fnUps (ps : List Pd) (n : Nd) : List Ud := if n.op = 11 then (match ps[n.b.toNat]? with | some q => q.ups | none => []) else []
/-- What reading an instruction leaves: the types, and what was taken. -/
def readF (ps : List Pd) (n : Nd) (ts : List Int) : Option (List Int × List Int) :=
  match rdsS (rolesOf n.op.toNat) n.fs ⟨ts, [], []⟩ with
  | none => none
  | some r => if upsBoxedB r.types (fnUps ps n) then some (r.types, r.taken) else none

/-- The guards behind an instruction. -/
def lastTr (gs : List Gd) : Option Bool := gs.getLast?.map Gd.tr
def keepLast (gs : List Gd) (k : Int) : List Gd := gs.modify (gs.length - 1) fun g => ⟨g.tr, k, g.hd⟩
def changeF (n : Nd) (gs : List Gd) : Option (List Gd) :=
  if n.op = 31 then (if decide (gs.length < 50) && aboveB gs n.b then some (gs ++ [⟨true, n.b, n.a⟩]) else none)
  else if n.op = 33 then (if decide (gs.length < 50) && aboveB gs n.a then some (gs ++ [⟨false, n.a, 0⟩]) else none)
  else if n.op = 32 then (if lastTr gs = some true then some gs.dropLast else none)
  else if n.op = 34 then (if lastTr gs = some false ∧ aboveB gs n.a = true then some (keepLast gs n.a) else none)
  else if n.op = 35 then (if lastTr gs = some false then some gs else none)
  else if n.op = 36 then (if lastTr gs = some false then some gs.dropLast else none)
  else some gs

def sameBelow (k : Int) (b a : List Int) : Bool := decide (b.take k.toNat = a.take k.toNat)
def notBelow (k : Int) (taken : List Int) : Bool := taken.all fun x => !decide (x < k)
/-- Code 12. -/
def keptL (e : Bool) (taken b a : List Int) : List Gd → Bool
  | [] => true
  | g :: r => (!g.tr || (notBelow g.keep taken && ((e && r.isEmpty) || sameBelow g.keep b a))) && keptL e taken b a r
def keptF (n : Nd) (gs : List Gd) (taken b a : List Int) : Bool := keptL (n.op == 32) taken b a gs

def tryT (k : Int) (ts : List Int) : List Int := ((ts.take k.toNat ++ List.replicate (ts.length - k.toNat) 0).set k.toNat 1).set (k.toNat + 1) 1
def goF (n : Nd) (s : St) (ts : List Int) (gs : List Gd) : List (Nat × St) :=
  if n.op = 19 then [(n.a.toNat, ⟨ts, gs⟩)]
  else if n.op = 20 ∨ n.op = 21 ∨ n.op = 38 ∨ n.op = 39 then [(n.b.toNat, ⟨ts, gs⟩)]
  else if n.op = 41 then [(n.b.toNat, ⟨ts.set n.c.toNat (tyAt s.types n.c), gs⟩)]
  else if n.op = 31 then [(n.a.toNat, ⟨tryT n.b s.types, s.guards⟩)]
  else []
def folF (n : Nd) (at_ : Nat) (s : St) (ts : List Int) (gs : List Gd) : List (Nat × St) := (if nextB n then [(at_ + 1, ⟨ts, gs⟩)] else []) ++ goF n s ts gs

inductive Out where
  | bad (code : Nat)
  | go (l : List (Nat × St))
def stepF (ps : List Pd) (n : Nd) (at_ : Nat) (s : St) : Out :=
  match readF ps n s.types with
  | none => .bad 10
  | some (t1, tk) => match changeF n s.guards with
    | none => .bad 11
    | some gs => if keptF n s.guards tk s.types (writeT n t1) then .go (folF n at_ s (writeT n t1) gs) else .bad 12

structure Cf where
  sts : List (Option St)
  due : List Bool
def Cf.st (c : Cf) (i : Nat) : Option St := c.sts.getD i none
def reachF (c : Cf) (x : Nat) (s : St) : Option Cf :=
  match c.st x with
  | none => some ⟨c.sts.set x (some s), c.due.set x true⟩
  | some t => if t = s then some c else none
def followF : Cf → List (Nat × St) → Except (Nat × Nat) Cf
  | c, [] => .ok c
  | c, (x, s) :: r => match reachF c x s with
    | none => .error (13, x)
    | some c' => followF c' r
def leastDue (due : List Bool) : Option Nat := due.findIdx? id
def roundF (ps : List Pd) (p : Pd) (c : Cf) (at_ : Nat) : Except (Nat × Nat) Cf :=
  match p.ins[at_]?, c.st at_ with
  | some n, some s => match stepF ps n at_ s with
    | .bad k => .error (k, at_)
    | .go l => followF ⟨c.sts, c.due.set at_ false⟩ l
  | _, _ => .ok ⟨c.sts, c.due.set at_ false⟩
def walkF (ps : List Pd) (p : Pd) : Nat → Cf → Except (Nat × Nat) Cf
  | 0, c => .ok c
  | f + 1, c => match leastDue c.due with
    | none => .ok c
    | some i => match roundF ps p c i with
      | .error e => .error e
      | .ok c' => walkF ps p f c'
def firstT (p : Pd) : List Int :=
  let ts := List.replicate p.params.toNat 1 ++ List.replicate (p.regs.toNat - p.params.toNat) 0
  if p.rest then ts.set p.params.toNat 3 else ts
def startC (p : Pd) : Cf := ⟨(List.replicate p.ins.length none).set 0 (some ⟨firstT p, []⟩), (List.replicate p.ins.length false).set 0 true⟩

/-! ### What stays true -/
structure StOk (p : Pd) (s : St) : Prop where
  len : (s.types.length : Int) = p.regs
  few : s.guards.length ≤ 50
  keep : ∀ g ∈ s.guards, 0 ≤ g.keep ∧ g.keep ≤ p.regs
/-- The instructions to which one goes on without a tick. -/
def silL (n : Nd) (at_ : Nat) : List Nat :=
  if n.op = 1 ∨ n.op = 3 ∨ n.op = 28 ∨ n.op = 29 ∨ n.op = 30 then []
  else if n.op = 18 ∧ n.b = 12 then []
  else if n.op = 19 then [n.a.toNat]
  else if n.op = 41 then [n.b.toNat]
  else if n.op = 20 ∨ n.op = 21 ∨ n.op = 38 ∨ n.op = 39 then [n.b.toNat, at_ + 1]
  else if n.op = 31 then [n.a.toNat, at_ + 1]
  else [at_ + 1]
structure PFit (np : Nat) (p : Pd) : Prop where
  regs : 0 ≤ p.regs ∧ p.regs ≤ 250
  fit : ∀ (i : Nat) (n : Nd), p.ins[i]? = some n → InsFit np p n
  next : ∀ (i : Nat) (n : Nd), p.ins[i]? = some n → nextB n = true → i + 1 < p.ins.length
  some : 0 < p.ins.length
  params : 0 ≤ p.params ∧ p.params ≤ p.regs ∧ (p.rest = true → p.params < p.regs)
structure CfOk (p : Pd) (c : Cf) : Prop where
  lenS : c.sts.length = p.ins.length
  lenD : c.due.length = p.ins.length
  ok : ∀ i s, c.st i = some s → StOk p s
  due : ∀ i, c.due.getD i false = true → (c.st i).isSome = true
/-- Those that are looked at lead to such as are reached. -/
def Closed (p : Pd) (c : Cf) (but : Option Nat) : Prop := ∀ i n, p.ins[i]? = some n → (c.st i).isSome = true → c.due.getD i false = false → some i ≠ but → ∀ j ∈ silL n i, (c.st j).isSome = true

theorem st_set (c : Cf) (x i : Nat) (s : St) (d : List Bool) : (Cf.mk (c.sts.set x (some s)) d).st i = if x = i ∧ x < c.sts.length then some s else c.st i := by
  unfold Cf.st
  simp only [List.getD_eq_getElem?_getD, List.getElem?_set]
  by_cases h : x = i
  · subst h
    by_cases h2 : x < c.sts.length
    · simp [h2]
    · simp [h2]
  · simp [h]
theorem due_set (d : List Bool) (x i : Nat) (b : Bool) : (d.set x b).getD i false = if x = i ∧ x < d.length then b else d.getD i false := by
  simp only [List.getD_eq_getElem?_getD, List.getElem?_set]
  by_cases h : x = i
  · subst h
    by_cases h2 : x < d.length
    · simp [h2]
    · simp [h2]
  · simp [h]
def unseen (l : List (Option St)) : Nat := (l.filter fun o => o.isNone).length
def dues (l : List Bool) : Nat := (l.filter id).length
def Cf.meas (c : Cf) : Nat := 2 * unseen c.sts + dues c.due
theorem unseen_set {l : List (Option St)} {x : Nat} {s : St} (hx : x < l.length) (hn : l.getD x none = none) : unseen (l.set x (some s)) + 1 = unseen l := by
  induction l generalizing x with
  | nil => simp at hx
  | cons a r ih =>
    cases x with
    | zero => simp at hn; subst hn; simp [unseen]
    | succ x =>
      simp at hx hn
      have := ih (x := x) hx (by simpa using hn)
      cases a <;> simp [unseen] at * <;> omega
theorem dues_true {l : List Bool} {x : Nat} : dues (l.set x true) ≤ dues l + 1 := by
  induction l generalizing x with
  | nil => simp [dues]
  | cons a r ih =>
    cases x with
    | zero => cases a <;> simp [dues]
    | succ x =>
      have := ih (x := x)
      cases a <;> simp [dues] at * <;> omega
theorem dues_false {l : List Bool} {x : Nat} (h : l.getD x false = true) : dues (l.set x false) + 1 = dues l := by
  induction l generalizing x with
  | nil => simp at h
  | cons a r ih =>
    cases x with
    | zero => simp at h; subst h; simp [dues]
    | succ x =>
      have := ih (x := x) (by simpa using h)
      cases a <;> simp [dues] at * <;> omega
theorem reach_meas {p : Pd} {c c' : Cf} {x : Nat} {s : St} (hc : CfOk p c) (hx : x < p.ins.length) (h : reachF c x s = some c') : c'.meas ≤ c.meas := by
  unfold reachF at h
  split at h
  · rename_i hn
    obtain rfl := Option.some.inj h
    have := unseen_set (s := s) (by rw [hc.lenS]; exact hx) hn
    have := @dues_true c.due x
    unfold Cf.meas
    dsimp only
    omega
  · split at h
    · obtain rfl := Option.some.inj h; exact Nat.le_refl _
    · cases h
theorem reach_ok {p : Pd} {c c' : Cf} {x : Nat} {s : St} (hc : CfOk p c) (hs : StOk p s) (h : reachF c x s = some c') : CfOk p c' := by
  unfold reachF at h
  split at h
  · obtain rfl := Option.some.inj h
    refine ⟨by simp [hc.lenS], by simp [hc.lenD], ?_, ?_⟩
    · intro i t hi
      rw [st_set] at hi
      split at hi
      · obtain rfl := Option.some.inj hi; exact hs
      · exact hc.ok i t hi
    · intro i hi
      rw [st_set]
      rw [due_set] at hi
      split
      · rfl
      · rename_i hn
        rw [if_neg (by rw [hc.lenD, ← hc.lenS]; exact hn)] at hi
        exact hc.due i hi
  · split at h
    · obtain rfl := Option.some.inj h; exact hc
    · cases h
theorem reach_closed {p : Pd} {c c' : Cf} {x : Nat} {s : St} {but : Option Nat} (hc : CfOk p c) (hx : x < p.ins.length) (hk : Closed p c but) (h : reachF c x s = some c') :
    Closed p c' but ∧ (c'.st x).isSome = true ∧ ∀ i, (c.st i).isSome = true → (c'.st i).isSome = true := by
  unfold reachF at h
  split at h
  · obtain rfl := Option.some.inj h
    have hx2 : x < c.sts.length := by rw [hc.lenS]; exact hx
    have hm : ∀ i, (c.st i).isSome = true → ((Cf.mk (c.sts.set x (some s)) (c.due.set x true)).st i).isSome = true := by
      intro i hi
      rw [st_set]
      split
      · rfl
      · exact hi
    refine ⟨?_, by rw [st_set]; simp [hx2], hm⟩
    intro i n hn hi hd hb j hj
    rw [due_set] at hd
    rw [st_set] at hi
    by_cases hxi : x = i ∧ x < c.sts.length
    · rw [if_pos (by rw [hc.lenD]; exact ⟨hxi.1, hx⟩)] at hd
      cases hd
    · rw [if_neg hxi] at hi
      rw [if_neg (by rw [hc.lenD, ← hc.lenS]; exact hxi)] at hd
      exact hm j (hk i n hn hi hd hb j hj)
  · rename_i t ht
    split at h
    · obtain rfl := Option.some.inj h
      exact ⟨hk, by rw [ht]; rfl, fun i hi => hi⟩
    · cases h
/-- What follows is in the proto, and fits. -/
def FolOk (p : Pd) (l : List (Nat × St)) : Prop := ∀ x ∈ l, x.1 < p.ins.length ∧ StOk p x.2
theorem follow_ok {p : Pd} {but : Option Nat} : ∀ {l : List (Nat × St)} {c c' : Cf}, CfOk p c → FolOk p l → Closed p c but → followF c l = .ok c' →
    CfOk p c' ∧ c'.meas ≤ c.meas ∧ Closed p c' but ∧ (∀ x ∈ l, (c'.st x.1).isSome = true) ∧ ∀ i, (c.st i).isSome = true → (c'.st i).isSome = true
  | [], c, c', hc, _, hk, h => by
    unfold followF at h
    obtain rfl := Except.ok.inj h
    exact ⟨hc, Nat.le_refl _, hk, fun x hx => by simp at hx, fun i hi => hi⟩
  | (x, s) :: r, c, c', hc, hf, hk, h => by
    unfold followF at h
    cases hr : reachF c x s with
    | none => rw [hr] at h; cases h
    | some c1 =>
      rw [hr] at h
      have hx := hf (x, s) (by simp)
      obtain ⟨k1, k2, k3⟩ := reach_closed hc hx.1 hk hr
      obtain ⟨o1, o2, o3, o4, o5⟩ := follow_ok (reach_ok hc hx.2 hr) (fun y hy => hf y (by simp [hy])) k1 h
      refine ⟨o1, Nat.le_trans o2 (reach_meas hc hx.1 hr), o3, ?_, fun i hi => o5 i (k3 i hi)⟩
      intro y hy
      rcases List.mem_cons.1 hy with rfl | hy
      · exact o5 _ k2
      · exact o4 y hy
theorem rdS_len {r : Nat} {x : Int} {s s' : Rd} (h : rdS r x s = some s') : s'.types.length = s.types.length := by
  unfold rdS at h
  have hop : ∀ w, rdOp w x s = some s' → s'.types.length = s.types.length := by
    intro w h
    unfold rdOp at h
    split at h
    · split at h
      · split at h
        · cases h
        · obtain rfl := Option.some.inj h; simp
      · obtain rfl := Option.some.inj h; rfl
    · cases h
  have hpl : ∀ w, rdPlace w x s = some s' → s'.types.length = s.types.length := by
    intro w h
    unfold rdPlace at h
    split at h
    · obtain rfl := Option.some.inj h; rfl
    · cases h
  split at h
  · exact hop _ h
  · exact hop _ h
  · exact hpl _ h
  · exact hpl _ h
  · exact hpl _ h
  · split at h
    · obtain rfl := Option.some.inj h; rfl
    · cases h
  · split at h
    · obtain rfl := Option.some.inj h; rfl
    · cases h
  · split at h
    · obtain rfl := Option.some.inj h; rfl
    · cases h
  · obtain rfl := Option.some.inj h; rfl
theorem rdsS_len : ∀ {rs : List Nat} {xs : List Int} {s s' : Rd}, rdsS rs xs s = some s' → s'.types.length = s.types.length
  | [], _, s, s', h => by unfold rdsS at h; obtain rfl := Option.some.inj h; rfl
  | _ :: _, [], s, s', h => by unfold rdsS at h; obtain rfl := Option.some.inj h; rfl
  | r :: rs, x :: xs, s, s', h => by
    unfold rdsS at h
    cases h1 : rdS r x s with
    | none => rw [h1] at h; cases h
    | some s1 =>
      rw [h1] at h
      exact (rdsS_len h).trans (rdS_len h1)
theorem readF_len {ps : List Pd} {n : Nd} {ts t1 tk : List Int} (h : readF ps n ts = some (t1, tk)) : t1.length = ts.length := by
  unfold readF at h
  split at h
  · cases h
  · rename_i r hr
    split at h
    · simp at h
      rw [← h.1]
      exact rdsS_len hr
    · cases h
theorem writeT_len (n : Nd) (ts : List Int) : (writeT n ts).length = ts.length := by
  unfold writeT
  repeat (first | split | simp)

/-- What the fields of the operations with guards and targets are. -/
theorem fit_tab {np : Nat} {p : Pd} {n : Nd} (h : InsFit np p n) :
    (n.op = 31 → (0 ≤ n.a ∧ n.a < p.ins.length) ∧ 0 ≤ n.b ∧ n.b + 2 ≤ p.regs) ∧ (n.op = 33 ∨ n.op = 34 → 0 ≤ n.a ∧ n.a ≤ p.regs) ∧ (n.op = 19 → 0 ≤ n.a ∧ n.a < p.ins.length) ∧
    (n.op = 20 ∨ n.op = 21 ∨ n.op = 38 ∨ n.op = 39 ∨ n.op = 41 → 0 ≤ n.b ∧ n.b < p.ins.length) ∧ (n.op = 41 → 0 ≤ n.c ∧ n.c < p.regs) ∧ (n.op = 11 → 0 ≤ n.b ∧ n.b < np) := by
  have hf := h.fit
  obtain ⟨op, a, b, c, d⟩ := n
  dsimp only at *
  refine ⟨?_, ?_, ?_, ?_, ?_, ?_⟩
  · rintro rfl; simp [fitAll, Nd.fs, rolesOf, roleTab, fitsR, inR] at hf; omega
  · rintro (rfl | rfl) <;> (simp [fitAll, Nd.fs, rolesOf, roleTab, fitsR, inR] at hf; omega)
  · rintro rfl; simp [fitAll, Nd.fs, rolesOf, roleTab, fitsR, inR] at hf; omega
  · rintro (rfl | rfl | rfl | rfl | rfl) <;> (simp [fitAll, Nd.fs, rolesOf, roleTab, fitsR, inR] at hf; omega)
  · rintro rfl; simp [fitAll, Nd.fs, rolesOf, roleTab, fitsR, inR] at hf; omega
  · rintro rfl; simp [fitAll, Nd.fs, rolesOf, roleTab, fitsR, inR] at hf; omega

theorem changeF_ok {np : Nat} {p : Pd} {n : Nd} {gs gs' : List Gd} (hn : InsFit np p n) (hl : gs.length ≤ 50) (hk : ∀ g ∈ gs, 0 ≤ g.keep ∧ g.keep ≤ p.regs) (h : changeF n gs = some gs') :
    gs'.length ≤ 50 ∧ ∀ g ∈ gs', 0 ≤ g.keep ∧ g.keep ≤ p.regs := by
  obtain ⟨f1, f2, _⟩ := fit_tab hn
  unfold changeF at h
  split at h
  · rename_i ho
    have := (f1 ho).2
    split at h
    · rename_i hb
      simp at hb
      obtain rfl := Option.some.inj h
      refine ⟨by simp; omega, ?_⟩
      intro g hg
      rcases List.mem_append.1 hg with hg | hg
      · exact hk g hg
      · simp at hg; subst hg; dsimp only; omega
    · cases h
  split at h
  · rename_i ho
    have := f2 (.inl ho)
    split at h
    · rename_i hb
      simp at hb
      obtain rfl := Option.some.inj h
      refine ⟨by simp; omega, ?_⟩
      intro g hg
      rcases List.mem_append.1 hg with hg | hg
      · exact hk g hg
      · simp at hg; subst hg; dsimp only; omega
    · cases h
  split at h
  · split at h
    · obtain rfl := Option.some.inj h
      exact ⟨by simp; omega, fun g hg => hk g ((List.dropLast_sublist gs).subset hg)⟩
    · cases h
  split at h
  · rename_i ho
    have := f2 (.inr ho)
    split at h
    · obtain rfl := Option.some.inj h
      refine ⟨by unfold keepLast; simp; omega, ?_⟩
      intro g hg
      unfold keepLast at hg
      obtain ⟨i, hi⟩ := List.getElem?_of_mem hg
      rw [List.getElem?_modify] at hi
      cases hgi : gs[i]? with
      | none => rw [hgi] at hi; simp at hi
      | some q =>
        rw [hgi] at hi
        simp at hi
        split at hi
        · subst hi; dsimp only; omega
        · subst hi; exact hk q (List.mem_of_getElem? hgi)
    · cases h
  split at h
  · split at h
    · obtain rfl := Option.some.inj h
      exact ⟨hl, hk⟩
    · cases h
  split at h
  · split at h
    · obtain rfl := Option.some.inj h
      exact ⟨by simp; omega, fun g hg => hk g ((List.dropLast_sublist gs).subset hg)⟩
    · cases h
  · obtain rfl := Option.some.inj h
    exact ⟨hl, hk⟩
theorem tryT_len {k : Int} {ts : List Int} (h : k.toNat ≤ ts.length) : (tryT k ts).length = ts.length := by unfold tryT; simp; omega
theorem folF_ok {np : Nat} {p : Pd} {n : Nd} {at_ : Nat} {s : St} {ts : List Int} {gs : List Gd} (hn : InsFit np p n) (hx : nextB n = true → at_ + 1 < p.ins.length) (hs : StOk p s) (hb : StOk p ⟨ts, gs⟩) : FolOk p (folF n at_ s ts gs) := by
  obtain ⟨f1, _, f3, f4, f5, _⟩ := fit_tab hn
  intro x hm
  unfold folF at hm
  rcases List.mem_append.1 hm with hm | hm
  · split at hm
    · rename_i h
      simp at hm
      subst hm
      exact ⟨hx h, hb⟩
    · simp at hm
  · unfold goF at hm
    split at hm
    · rename_i ho
      simp at hm; subst hm
      have := f3 ho
      exact ⟨by dsimp only; omega, hb⟩
    split at hm
    · rename_i ho
      simp at hm; subst hm
      have := f4 (by omega)
      exact ⟨by dsimp only; omega, hb⟩
    split at hm
    · rename_i ho
      simp at hm; subst hm
      have := f4 (by omega)
      refine ⟨by dsimp only; omega, ⟨?_, hb.few, hb.keep⟩⟩
      have := hb.len
      simpa using this
    split at hm
    · rename_i ho
      simp at hm; subst hm
      have := f1 ho
      have := hs.len
      refine ⟨by dsimp only; omega, ⟨?_, hs.few, hs.keep⟩⟩
      dsimp only
      rw [tryT_len (by omega)]
      exact this
    · simp at hm
theorem sil_sub {n : Nd} {at_ j : Nat} (s : St) (ts : List Int) (gs : List Gd) (h : j ∈ silL n at_) : ∃ x ∈ folF n at_ s ts gs, x.1 = j := by
  obtain ⟨op, a, b, c, d⟩ := n
  unfold silL at h
  unfold folF goF nextB
  dsimp only at *
  split at h
  · simp at h
  split at h
  · simp at h
  split at h
  · rename_i ho; subst ho; simp at h; subst h; simp
  split at h
  · rename_i ho; subst ho; simp at h; subst h; simp
  split at h
  · rename_i ho
    rcases ho with rfl | rfl | rfl | rfl <;> (simp at h; rcases h with rfl | rfl <;> simp)
  split at h
  · rename_i ho; subst ho; simp at h; rcases h with rfl | rfl <;> simp
  · rename_i h1 h2 h3 h4 h5 h6
    simp at h; subst h
    have : (op != 19 && op != 29 && op != 30) = true := by simp; omega
    rw [this]
    simp
theorem step_ok {ps : List Pd} {np : Nat} {p : Pd} {n : Nd} {at_ : Nat} {s : St} {l : List (Nat × St)} (hn : InsFit np p n) (hx : nextB n = true → at_ + 1 < p.ins.length) (hs : StOk p s) (h : stepF ps n at_ s = .go l) :
    FolOk p l ∧ ∀ j ∈ silL n at_, ∃ x ∈ l, x.1 = j := by
  unfold stepF at h
  split at h
  · cases h
  · rename_i t1 tk hr
    split at h
    · cases h
    · rename_i gs hg
      split at h
      · obtain rfl := Out.go.inj h
        obtain ⟨g1, g2⟩ := changeF_ok hn hs.few hs.keep hg
        refine ⟨folF_ok hn hx hs ⟨?_, g1, g2⟩, fun j hj => sil_sub _ _ _ hj⟩
        have := readF_len hr
        have := hs.len
        rw [writeT_len]
        omega
      · cases h
theorem leastDue_some {d : List Bool} {i : Nat} (h : leastDue d = some i) : i < d.length ∧ d.getD i false = true ∧ ∀ j, j < i → d.getD j false = false := by
  unfold leastDue at h
  rw [List.findIdx?_eq_some_iff_getElem] at h
  obtain ⟨h1, h2, h3⟩ := h
  refine ⟨h1, by simpa [List.getD_eq_getElem?_getD, h1] using h2, ?_⟩
  intro j hj
  have := h3 j hj
  simpa [List.getD_eq_getElem?_getD, show j < d.length by omega] using this
theorem leastDue_none {d : List Bool} (h : leastDue d = none) : ∀ i, d.getD i false = false := by
  intro i
  unfold leastDue at h
  rw [List.findIdx?_eq_none_iff] at h
  rw [List.getD_eq_getElem?_getD]
  cases hi : d[i]? with
  | none => rfl
  | some b =>
    have := h b (List.mem_of_getElem? hi)
    simpa using this
theorem cleared_ok {p : Pd} {c : Cf} {i : Nat} (hc : CfOk p c) (hk : Closed p c none) : CfOk p ⟨c.sts, c.due.set i false⟩ ∧ Closed p ⟨c.sts, c.due.set i false⟩ (some i) := by
  refine ⟨⟨hc.lenS, by simp [hc.lenD], hc.ok, ?_⟩, ?_⟩
  · intro j hj
    dsimp only at hj
    rw [due_set] at hj
    split at hj
    · cases hj
    · exact hc.due j hj
  · intro j n hn hi hd hb k hk2
    dsimp only at hd
    rw [due_set] at hd
    rw [if_neg (by intro hh; exact hb (by rw [hh.1]))] at hd
    exact hk j n hn hi hd (by simp) k hk2
theorem round_ok {ps : List Pd} {np : Nat} {p : Pd} {c c' : Cf} {i : Nat} (hp : PFit np p) (hc : CfOk p c) (hk : Closed p c none) (hi : leastDue c.due = some i) (h : roundF ps p c i = .ok c') :
    CfOk p c' ∧ Closed p c' none ∧ c'.meas < c.meas := by
  obtain ⟨h1, h2, _⟩ := leastDue_some hi
  obtain ⟨k1, k2⟩ := cleared_ok (i := i) hc hk
  have hm : (Cf.mk c.sts (c.due.set i false)).meas < c.meas := by
    unfold Cf.meas
    have := dues_false h2
    dsimp only
    omega
  unfold roundF at h
  split at h
  · rename_i n s hn hs
    split at h
    · cases h
    · rename_i l hl
      obtain ⟨f1, f2⟩ := step_ok (hp.fit i n hn) (hp.next i n hn) (hc.ok i s hs) hl
      obtain ⟨o1, o2, o3, o4, o5⟩ := follow_ok k1 f1 k2 h
      refine ⟨o1, ?_, Nat.lt_of_le_of_lt o2 hm⟩
      intro j m hj hst hd _ k hkm
      by_cases hji : j = i
      · subst hji
        rw [hn] at hj
        obtain rfl := Option.some.inj hj
        obtain ⟨x, hx, rfl⟩ := f2 k hkm
        exact o4 x hx
      · exact o3 j m hj hst hd (by simpa using hji) k hkm
  · rename_i hno
    exfalso
    have hil : i < p.ins.length := by rw [← hc.lenD]; exact h1
    obtain ⟨n, hn⟩ := some_of_lt hil
    obtain ⟨s, hs⟩ := Option.isSome_iff_exists.1 (hc.due i h2)
    exact hno n s hn hs
end Go.Proofs.YtmfippfnhcphhaaGreatDoor
