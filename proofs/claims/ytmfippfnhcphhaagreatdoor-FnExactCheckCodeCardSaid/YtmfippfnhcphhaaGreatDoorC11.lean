import Derived.Test.YtmfippfnhcphhaaGreatDoorC10
import Derived.ProofKit
import Derived.Deep.Slices
namespace Go.Proofs.YtmfippfnhcphhaaGreatDoor
open Go.ChangeShapes Go.WideShapes Go.ChangeAt Go.RowKit Go.Deep

theorem cells1_int : Tryz.prog.cellsOf 3 = 1 := by kernel_rfl
theorem cells1_int64 : Tryz.prog.cellsOf 2 = 1 := by kernel_rfl
theorem cells1_bool : Tryz.prog.cellsOf 4 = 1 := by kernel_rfl
theorem cells1_float64 : Tryz.prog.cellsOf 165 = 1 := by kernel_rfl
theorem cells1_string : Tryz.prog.cellsOf 9 = 1 := by kernel_rfl
theorem wf_int {x : Int} (h : (Lit.int .i64 x).wf = true) : I64 x := by
  simp only [Lit.wf, Bool.and_eq_true, decide_eq_true_eq] at h
  rw [show IntKind.i64.min = -9223372036854775808 by decide, show IntKind.i64.max = 9223372036854775807 by decide] at h
  exact h
theorem wf_flt {x : Nat} (h : (Lit.float .f64 x).wf = true) : x < 18446744073709551616 := by
  simpa [Lit.wf] using h
section
variable {H : Type} {enc : TypeId × Value → H} {W : World}
theorem trod_flt {P : Program} {base : Nat} {spare : Nat → Bool} {held : Bool} {fuel : Nat} {t : TypeId} {cs : List Value} {x : DataW H × List MemPlace} {k : FloatKind} (ht : P.underlying t = some (.float k)) (h : DataW.trod enc P W base spare held fuel t cs = some x) : ∃ n, cs = [.float k n] ∧ (Lit.float k n).wf = true := by
  cases fuel with
  | zero => simp [DataW.trod] at h
  | succ n =>
    unfold DataW.trod at h
    rw [ht] at h
    split at h <;> simp_all
theorem rows_of {α : Type} [Inhabited α] {t e : TypeId} {k fuel : Nat} {v : Value} {y : DataW H × List MemPlace} (ht : Tryz.prog.underlying t = some (.slice e)) (hk : Tryz.prog.cellsOf e = k) (hk0 : 0 < k) (R : Nat → Nat → α → Prop) (G : α → Prop)
    (one : ∀ (n b o : Nat) (cs' : List Value) (y : DataW H × List MemPlace), cs'.length = k → (∀ i, i < k → W.cell? ⟨b, o + i, none⟩ = cs'[i]?) → DataW.trod enc Tryz.prog W 0 (fun _ => true) true n e cs' = some y → ∃ x, R b o x ∧ G x)
    (h : DataW.trod enc Tryz.prog W 0 (fun _ => true) true fuel t [v] = some y) :
    ∃ (ao : Option Addr) (cap : Nat) (xs : List α), v = .slice ao xs.length cap ∧ xs.length ≤ 9223372036854775807 ∧ (∀ x ∈ xs, G x) ∧ AllAt 0 W ao k R xs := by
  rcases open_slice ht h with ⟨hcs, _⟩ | ⟨a, len, cap, m, n, D, Pl, hcs, _, hl, hm, hmm, _, hel⟩
  · simp at hcs
    exact ⟨none, 0, [], hcs, by simp, by simp, fun i x hx => by simp at hx⟩
  · simp only [List.cons.injEq, and_true] at hcs
    simp only [if_true] at hmm
    have hm2 : cap ≤ 9223372036854775807 := hm
    obtain ⟨b, off, spot⟩ := a
    by_cases h0 : len = 0
    · subst h0
      exact ⟨some ⟨b, off, spot⟩, cap, [], hcs, by simp, by simp, fun i x hx => by simp at hx⟩
    · have hsp : spot = none := by
        obtain ⟨cs', hc, _⟩ := hel 0 (by omega)
        rw [hk] at hc
        obtain ⟨_, hlen, hget⟩ := World.cells?_some hc
        have h2 := hget 0 hk0
        rw [List.getElem?_eq_getElem (by omega)] at h2
        simpa [Addr.add] using World.cell?_spot h2
      subst hsp
      have each : ∀ i, i < len → ∃ x : α, (R b (off + i * k) x ∧ G x) ∧ b < W.heap.size := by
        intro i hi
        obtain ⟨cs', hc, ht⟩ := hel i (by omega)
        rw [hk] at hc
        have hbl := World.cells?_block hc hk0
        obtain ⟨_, hlen, hget⟩ := World.cells?_some hc
        obtain ⟨x, hx⟩ := one n b (off + i * k) cs' _ hlen (fun j hj => by have h3 := hget j hj; rw [add_plain, add_plain] at h3; exact h3) ht
        rw [add_plain] at hbl
        exact ⟨x, hx, hbl⟩
      obtain ⟨f, hf⟩ := choose_lt each
      refine ⟨some ⟨b, off, none⟩, cap, (List.range len).map f, by simpa using hcs, by simp; omega, ?_, ?_⟩
      · intro x hx
        simp only [List.mem_map, List.mem_range] at hx
        obtain ⟨i, hi, rfl⟩ := hx
        exact (hf i hi).1.2
      · intro i x hx
        rw [List.getElem?_map] at hx
        obtain ⟨j, hj, rfl⟩ := Option.map_eq_some_iff.1 hx
        obtain ⟨hi, rfl⟩ := List.getElem?_eq_some_iff.1 hj
        simp only [List.length_range] at hi
        simp only [List.getElem_range]
        exact ⟨b, off, rfl, Nat.zero_le _, (hf i hi).2, (hf i hi).1.1⟩
instance : Inhabited Ud := ⟨⟨false, 0⟩⟩
theorem cells_up : Tryz.prog.cellsOf 260 = 2 := by kernel_rfl
set_option maxRecDepth 100000 in
theorem one_up (n b o : Nat) (cs' : List Value) (y : DataW H × List MemPlace) (hl : cs'.length = 2) (hc : ∀ i, i < 2 → W.cell? ⟨b, o + i, none⟩ = cs'[i]?) (h : DataW.trod enc Tryz.prog W 0 (fun _ => true) true n 260 cs' = some y) : ∃ x : Ud, UpAt W b o x ∧ (True) := by
  obtain ⟨xs, n, _, hx, _, hlen, hfld⟩ := DataW.trod_struct Tryz.underlying260 h
  match cs', hl with
  | [x0, x1], _ =>
    simp only [List.size_toArray, List.length_cons, List.length_nil] at hlen
    have f0 := hfld 0 _ rfl
    have f1 := hfld 1 _ rfl
    simp [cells1_bool] at f0
    simp [cells1_int] at f1
    rw [List.getElem?_eq_getElem (by omega)] at f0 f1
    obtain ⟨y0, e0, _⟩ := DataW.trod_bool Tryz.underlying4 f0
    obtain ⟨y1, e1, _, g1⟩ := DataW.trod_int Tryz.underlying3 f1
    simp only [List.cons.injEq, and_true] at e0 e1
    subst e0 e1
    refine ⟨⟨y0, y1⟩, ⟨hc 0 (by omega), hc 1 (by omega)⟩, ?_⟩
    trivial
instance : Inhabited Vd := ⟨⟨0, 0, 0, .empty, 0⟩⟩
theorem cells_val : Tryz.prog.cellsOf 255 = 5 := by kernel_rfl
set_option maxRecDepth 100000 in
theorem one_val (n b o : Nat) (cs' : List Value) (y : DataW H × List MemPlace) (hl : cs'.length = 5) (hc : ∀ i, i < 5 → W.cell? ⟨b, o + i, none⟩ = cs'[i]?) (h : DataW.trod enc Tryz.prog W 0 (fun _ => true) true n 255 cs' = some y) : ∃ x : Vd, ValAt W b o x ∧ (x.flt < 18446744073709551616 ∧ x.str.size ≤ 9223372036854775807) := by
  obtain ⟨xs, n, _, hx, _, hlen, hfld⟩ := DataW.trod_struct Tryz.underlying255 h
  match cs', hl with
  | [x0, x1, x2, x3, x4], _ =>
    simp only [List.size_toArray, List.length_cons, List.length_nil] at hlen
    have f0 := hfld 0 _ rfl
    have f1 := hfld 1 _ rfl
    have f2 := hfld 2 _ rfl
    have f3 := hfld 3 _ rfl
    have f4 := hfld 4 _ rfl
    simp [cells1_int] at f0
    simp [cells1_int64] at f1
    simp [cells1_float64] at f2
    simp [cells1_string] at f3
    simp [cells1_int] at f4
    rw [List.getElem?_eq_getElem (by omega)] at f0 f1 f2 f3 f4
    obtain ⟨y0, e0, _, g0⟩ := DataW.trod_int Tryz.underlying3 f0
    obtain ⟨y1, e1, _, g1⟩ := DataW.trod_int Tryz.underlying2 f1
    obtain ⟨y2, e2, g2⟩ := trod_flt Tryz.underlying165 f2
    obtain ⟨y3, e3, _, g3⟩ := DataW.trod_string Tryz.underlying9 f3
    obtain ⟨y4, e4, _, g4⟩ := DataW.trod_int Tryz.underlying3 f4
    simp only [List.cons.injEq, and_true] at e0 e1 e2 e3 e4
    subst e0 e1 e2 e3 e4
    refine ⟨⟨y0, y1, y2, y3, y4⟩, ⟨hc 0 (by omega), hc 1 (by omega), hc 2 (by omega), hc 3 (by omega), hc 4 (by omega)⟩, ?_⟩
    exact ⟨wf_flt g2, g3⟩
instance : Inhabited Nd := ⟨⟨0, 0, 0, 0, 0⟩⟩
theorem cells_ins : Tryz.prog.cellsOf 263 = 5 := by kernel_rfl
set_option maxRecDepth 100000 in
theorem one_ins (n b o : Nat) (cs' : List Value) (y : DataW H × List MemPlace) (hl : cs'.length = 5) (hc : ∀ i, i < 5 → W.cell? ⟨b, o + i, none⟩ = cs'[i]?) (h : DataW.trod enc Tryz.prog W 0 (fun _ => true) true n 263 cs' = some y) : ∃ x : Nd, InsAt W b o x ∧ (NdW x) := by
  obtain ⟨xs, n, _, hx, _, hlen, hfld⟩ := DataW.trod_struct Tryz.underlying263 h
  match cs', hl with
  | [x0, x1, x2, x3, x4], _ =>
    simp only [List.size_toArray, List.length_cons, List.length_nil] at hlen
    have f0 := hfld 0 _ rfl
    have f1 := hfld 1 _ rfl
    have f2 := hfld 2 _ rfl
    have f3 := hfld 3 _ rfl
    have f4 := hfld 4 _ rfl
    simp [cells1_int] at f0
    simp [cells1_int] at f1
    simp [cells1_int] at f2
    simp [cells1_int] at f3
    simp [cells1_int] at f4
    rw [List.getElem?_eq_getElem (by omega)] at f0 f1 f2 f3 f4
    obtain ⟨y0, e0, _, g0⟩ := DataW.trod_int Tryz.underlying3 f0
    obtain ⟨y1, e1, _, g1⟩ := DataW.trod_int Tryz.underlying3 f1
    obtain ⟨y2, e2, _, g2⟩ := DataW.trod_int Tryz.underlying3 f2
    obtain ⟨y3, e3, _, g3⟩ := DataW.trod_int Tryz.underlying3 f3
    obtain ⟨y4, e4, _, g4⟩ := DataW.trod_int Tryz.underlying3 f4
    simp only [List.cons.injEq, and_true] at e0 e1 e2 e3 e4
    subst e0 e1 e2 e3 e4
    refine ⟨⟨y0, y1, y2, y3, y4⟩, ⟨hc 0 (by omega), hc 1 (by omega), hc 2 (by omega), hc 3 (by omega), hc 4 (by omega)⟩, ?_⟩
    exact ⟨wf_int g0, wf_int g1, wf_int g2, wf_int g3, wf_int g4⟩
instance : Inhabited Md := ⟨⟨.empty, 0, 0, 0⟩⟩
theorem cells_nam : Tryz.prog.cellsOf 257 = 4 := by kernel_rfl
set_option maxRecDepth 100000 in
theorem one_nam (n b o : Nat) (cs' : List Value) (y : DataW H × List MemPlace) (hl : cs'.length = 4) (hc : ∀ i, i < 4 → W.cell? ⟨b, o + i, none⟩ = cs'[i]?) (h : DataW.trod enc Tryz.prog W 0 (fun _ => true) true n 257 cs' = some y) : ∃ x : Md, NamAt W b o x ∧ (x.name.size ≤ 9223372036854775807) := by
  obtain ⟨xs, n, _, hx, _, hlen, hfld⟩ := DataW.trod_struct Tryz.underlying257 h
  match cs', hl with
  | [x0, x1, x2, x3], _ =>
    simp only [List.size_toArray, List.length_cons, List.length_nil] at hlen
    have f0 := hfld 0 _ rfl
    have f1 := hfld 1 _ rfl
    have f2 := hfld 2 _ rfl
    have f3 := hfld 3 _ rfl
    simp [cells1_string] at f0
    simp [cells1_int] at f1
    simp [cells1_int] at f2
    simp [cells1_int] at f3
    rw [List.getElem?_eq_getElem (by omega)] at f0 f1 f2 f3
    obtain ⟨y0, e0, _, g0⟩ := DataW.trod_string Tryz.underlying9 f0
    obtain ⟨y1, e1, _, g1⟩ := DataW.trod_int Tryz.underlying3 f1
    obtain ⟨y2, e2, _, g2⟩ := DataW.trod_int Tryz.underlying3 f2
    obtain ⟨y3, e3, _, g3⟩ := DataW.trod_int Tryz.underlying3 f3
    simp only [List.cons.injEq, and_true] at e0 e1 e2 e3
    subst e0 e1 e2 e3
    refine ⟨⟨y0, y1, y2, y3⟩, ⟨hc 0 (by omega), hc 1 (by omega), hc 2 (by omega), hc 3 (by omega)⟩, ?_⟩
    exact g0
instance : Inhabited Pd := ⟨⟨.empty, 0, 0, false, 0, [], [], [], []⟩⟩
theorem cells1_ups : Tryz.prog.cellsOf 112 = 1 := by kernel_rfl
theorem cells1_vals : Tryz.prog.cellsOf 113 = 1 := by kernel_rfl
theorem cells1_inss : Tryz.prog.cellsOf 114 = 1 := by kernel_rfl
theorem cells1_nams : Tryz.prog.cellsOf 115 = 1 := by kernel_rfl
theorem cells_proto : Tryz.prog.cellsOf 117 = 9 := by kernel_rfl
structure PdIn (p : Pd) : Prop where
  sz : PSz p
  flts : Flts p.consts
  nds : ∀ n ∈ p.ins, NdW n
set_option maxRecDepth 100000 in
theorem one_proto (n b o : Nat) (cs' : List Value) (y : DataW H × List MemPlace) (hl : cs'.length = 9) (hc : ∀ i, i < 9 → W.cell? ⟨b, o + i, none⟩ = cs'[i]?) (h : DataW.trod enc Tryz.prog W 0 (fun _ => true) true n 117 cs' = some y) : ∃ x : Pd, ProtoAt 0 W b o x ∧ PdIn x := by
  obtain ⟨xs, n, _, hx, _, hlen, hfld⟩ := DataW.trod_struct Tryz.underlying117 h
  match cs', hl with
  | [x0, x1, x2, x3, x4, x5, x6, x7, x8], _ =>
    simp only [List.size_toArray, List.length_cons, List.length_nil] at hlen
    have f0 := hfld 0 _ rfl
    have f1 := hfld 1 _ rfl
    have f2 := hfld 2 _ rfl
    have f3 := hfld 3 _ rfl
    have f4 := hfld 4 _ rfl
    have f5 := hfld 5 _ rfl
    have f6 := hfld 6 _ rfl
    have f7 := hfld 7 _ rfl
    have f8 := hfld 8 _ rfl
    simp [cells1_string] at f0
    simp [cells1_int] at f1
    simp [cells1_int] at f2
    simp [cells1_bool] at f3
    simp [cells1_int] at f4
    simp [cells1_ups] at f5
    simp [cells1_vals] at f6
    simp [cells1_inss] at f7
    simp [cells1_nams] at f8
    rw [List.getElem?_eq_getElem (by omega)] at f0 f1 f2 f3 f4 f5 f6 f7 f8
    obtain ⟨y0, e0, _, g0⟩ := DataW.trod_string Tryz.underlying9 f0
    obtain ⟨y1, e1, _, g1⟩ := DataW.trod_int Tryz.underlying3 f1
    obtain ⟨y2, e2, _, g2⟩ := DataW.trod_int Tryz.underlying3 f2
    obtain ⟨y3, e3, _⟩ := DataW.trod_bool Tryz.underlying4 f3
    obtain ⟨y4, e4, _, g4⟩ := DataW.trod_int Tryz.underlying3 f4
    obtain ⟨uo, uc, us, e5, z5, _, a5⟩ := rows_of Tryz.underlying112 cells_up (by omega) (UpAt W) (fun _ => True) (fun n b o c y h1 h2 h3 => one_up n b o c y h1 h2 h3) f5
    obtain ⟨vo, vc, vs, e6, z6, g6, a6⟩ := rows_of Tryz.underlying113 cells_val (by omega) (ValAt W) (fun x => x.flt < 18446744073709551616 ∧ x.str.size ≤ 9223372036854775807) (fun n b o c y h1 h2 h3 => one_val n b o c y h1 h2 h3) f6
    obtain ⟨io, ic, is, e7, z7, g7, a7⟩ := rows_of Tryz.underlying114 cells_ins (by omega) (InsAt W) NdW (fun n b o c y h1 h2 h3 => one_ins n b o c y h1 h2 h3) f7
    obtain ⟨no, nc, ns, e8, z8, g8, a8⟩ := rows_of Tryz.underlying115 cells_nam (by omega) (NamAt W) (fun x => x.name.size ≤ 9223372036854775807) (fun n b o c y h1 h2 h3 => one_nam n b o c y h1 h2 h3) f8
    simp only [List.cons.injEq, and_true] at e0 e1 e2 e3 e4
    subst e0 e1 e2 e3 e4 e5 e6 e7 e8
    refine ⟨⟨y0, y1, y2, y3, y4, us, vs, is, ns⟩, ⟨⟨uo, uc, vo, vc, io, ic, no, nc⟩, ⟨hc 0 (by omega), hc 1 (by omega), hc 2 (by omega), hc 3 (by omega), hc 4 (by omega), hc 5 (by omega), hc 6 (by omega), hc 7 (by omega), hc 8 (by omega)⟩, ⟨a5, a6, a7, a8⟩⟩, ⟨⟨g0, z5, z6, z7, z8, fun v hv => (g6 v hv).2, g8⟩, fun v hv => (g6 v hv).1, g7⟩⟩
theorem code_of {fuel : Nat} {v : Value} {y : DataW H × List MemPlace} (h : DataW.trod enc Tryz.prog W 0 (fun _ => true) true fuel 50 [v] = some y) :
    ∃ (ao : Option Addr) (cap : Nat) (ps : List Pd), v = .slice ao ps.length cap ∧ ps.length ≤ 9223372036854775807 ∧ (∀ p ∈ ps, PdIn p) ∧ ProtosAt 0 W ao ps :=
  rows_of Tryz.underlying50 cells_proto (by omega) (ProtoAt 0 W) PdIn (fun n b o c y h1 h2 h3 => one_proto n b o c y h1 h2 h3) h
end
end Go.Proofs.YtmfippfnhcphhaaGreatDoor

namespace Go.Proofs.YtmfippfnhcphhaaGreatDoor

theorem firstBad_last {α : Type} {f g : Nat → α → Bool} {L : Nat} : ∀ (l : List α) (s : Nat), s + l.length = L → (∀ i x, i + 1 ≠ L → g i x = true) →
    firstBad (fun i x => f i x && g i x) s l = match firstBad f s l with
      | some i => some i
      | none => match l.getLast? with
        | none => none
        | some x => if g (L - 1) x then none else some (L - 1)
  | [], _, _, _ => rfl
  | [x], s, hs, _ => by
    have h1 : L - 1 = s := by simp at hs; omega
    have e1 : ∀ h : Nat → α → Bool, firstBad h s [x] = if h s x then none else some s := fun _ => rfl
    rw [e1, e1, List.getLast?_singleton, h1]
    cases hf : f s x <;> cases hg : g s x <;> simp [hg]
  | x :: y :: r, s, hs, hg => by
    have ih := firstBad_last (f := f) (g := g) (y :: r) (s + 1) (by simp at hs ⊢; omega) hg
    have h1 : g s x = true := hg s x (by simp at hs; omega)
    have e1 : ∀ h : Nat → α → Bool, firstBad h s (x :: y :: r) = if h s x then firstBad h (s + 1) (y :: r) else some s := fun _ => rfl
    rw [e1, e1, h1, Bool.and_true, List.getLast?_cons_cons, ih]
    cases f s x <;> rfl

/-- The instructions of a proto, as the other side looks at them. -/
def insQ (np : Nat) (_ : Nat) (p : Pd) : Option Nat := if p.ins.length = 0 then some 0 else firstBad (insB np p) 0 p.ins

theorem insQ_eq (np k : Nat) (p : Pd) : insQ np k p = insP np k p := by
  unfold insQ insP insBad
  by_cases h0 : p.ins.length = 0
  · rw [if_pos h0]
    have : p.ins = [] := List.length_eq_zero_iff.1 h0
    rw [this]; rfl
  · rw [if_neg h0]
    have hb : insB np p = fun i n => formsG np p i n && lastB p i n := by
      funext i n
      unfold insB formsG formsB
      rw [Bool.and_assoc]
    rw [hb, firstBad_last (L := p.ins.length) p.ins 0 (by omega) (by intro i x hi; unfold lastB; simp [hi])]
    cases firstBad (formsG np p) 0 p.ins with
    | some i => rfl
    | none =>
      cases hl : p.ins.getLast? with
      | none => simp at hl; rw [hl] at h0; simp at h0
      | some n =>
        have h1 : lastB p (p.ins.length - 1) n = !nextB n := by
          have : p.ins.length - 1 + 1 = p.ins.length := by omega
          have hd : decide (p.ins.length - 1 + 1 = p.ins.length) = true := decide_eq_true this
          unfold lastB nextB bne
          rw [hd]
          cases (n.op == 19) <;> cases (n.op == 29) <;> cases (n.op == 30) <;> rfl
        simp only [h1]
        cases nextB n <;> rfl
theorem firstP_congr {g h : Nat → Pd → Option Nat} (e : ∀ k p, g k p = h k p) : g = h := funext fun k => funext fun p => e k p
end Go.Proofs.YtmfippfnhcphhaaGreatDoor
