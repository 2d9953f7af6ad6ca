import Derived.Test.YtmfippfnhcphhaaGreatDoorC23
import Derived.Test.YtmfippfnhcphhaaGreatDoorC24
namespace Go.Proofs.YtmfippfnhcphhaaGreatDoor
open Go.RowKit Go.Deep

/-- What the walk through a proto has laid. -/
structure WkAt (w : World) (cao : Option Addr) (ccap : Nat) (ps : List Pd) (p : Pd) (h : Ph) (wr : World) (c : Cf) : Prop where
  code : Blk wr w.heap.size #[.slice cao ps.length ccap] 25
  flt : Blk wr (w.heap.size + 1) #[.int .i64 0, .int .i64 0, .int .i64 0] 55
  proto : Blk wr (w.heap.size + 1 + 1) (p.cells h) 43
  sts : StsAt (w.heap.size + 1 + 1 + 1 + 1 + 1) wr (w.heap.size + 1 + 1 + 1) c.sts
  due : Blk wr (w.heap.size + 1 + 1 + 1 + 1) (boolArr c.due) 4
  below : Below w.heap.size w wr
theorem WkAt.later {w : World} {cao : Option Addr} {ccap : Nat} {ps : List Pd} {p : Pd} {h : Ph} {wr wr' : World} {c : Cf} (x : WkAt w cao ccap ps p h wr c) (hb : Below wr.heap.size wr wr') : WkAt w cao ccap ps p h wr' c :=
  ⟨x.code.later hb, x.flt.later hb, x.proto.later hb, x.sts.below hb, x.due.later hb, x.below.trans (hb.mono x.below.size)⟩
theorem WkAt.lt {w : World} {cao : Option Addr} {ccap : Nat} {ps : List Pd} {p : Pd} {h : Ph} {wr : World} {c : Cf} (x : WkAt w cao ccap ps p h wr c) : w.heap.size + 1 + 1 + 1 + 1 < wr.heap.size := x.due.lt
/-- One row of one's own is written on. -/
theorem WkAt.grown {w : World} {cao : Option Addr} {ccap : Nat} {ps : List Pd} {p : Pd} {h : Ph} {wr w1 wr' : World} {c : Cf} {row : Option Nat} (x : WkAt w cao ccap ps p h wr c) (hb : Below wr.heap.size wr w1) (hg : w1.grownBy wr' row) (hr : ∀ k, row = some k → wr.heap.size ≤ k) : WkAt w cao ccap ps p h wr' c :=
  x.later (hb.grown hg hb.size hr)
theorem sts_none_later {w w' : World} {sb n : Nat} (h : ∀ lo, StsAt lo w sb (List.replicate n none)) (hb : w'.heap[sb]? = w.heap[sb]?) : ∀ lo, StsAt lo w' sb (List.replicate n none) := by
  intro lo
  refine ⟨(h lo).own.of_block hb, ?_⟩
  intro j o hj
  obtain ⟨to, tc, go, gc, h1, h2, h3, _, _⟩ := (h lo).at_ j o hj
  have hc : ∀ i, w'.cell? ⟨sb, i, none⟩ = w.cell? ⟨sb, i, none⟩ := fun i => World.cell?_of_block (w := w) (a := ⟨sb, i, none⟩) hb
  have ho : o = none := by rw [List.getElem?_replicate] at hj; split at hj <;> simp at hj; exact hj.symm
  subst ho
  exact ⟨to, tc, go, gc, (hc _).trans h1, (hc _).trans h2, (hc _).trans h3, fun i x hx => by simp [stT] at hx, fun i x hx => by simp [stG] at hx⟩
theorem wk_start {w X X3 : World} {cao : Option Addr} {ccap : Nat} {ps : List Pd} {p : Pd} {h : Ph} (hN : 0 < p.ins.length) (C5 : Blk X w.heap.size #[.slice cao ps.length ccap] 25) (F5 : Blk X (w.heap.size + 1) #[.int .i64 0, .int .i64 0, .int .i64 0] 55) (P5 : Blk X (w.heap.size + 1 + 1) (p.cells h) 43)
    (D5 : Blk X (w.heap.size + 1 + 1 + 1 + 1) (boolArr (List.replicate p.ins.length false)) 4) (B5 : Below w.heap.size w X) (S6 : StsAt (w.heap.size + 1 + 1 + 1 + 1 + 1) X3 (w.heap.size + 1 + 1 + 1) ((List.replicate p.ins.length none).set 0 (some ⟨firstT p, []⟩)))
    (hX : ∀ k, k ≠ w.heap.size + 1 + 1 + 1 → X3.heap[k]? = X.heap[k]?) (hB : Below w.heap.size w X3) : WkAt w cao ccap ps p h (X3.setCell ⟨w.heap.size + 1 + 1 + 1 + 1, 0, none⟩ (.bool true)) (startC p) := by
  have hb : ∀ k, k ≠ w.heap.size + 1 + 1 + 1 + 1 → (X3.setCell ⟨w.heap.size + 1 + 1 + 1 + 1, 0, none⟩ (.bool true)).heap[k]? = X3.heap[k]? := fun k hk => Below.heap_setCell _ _ _ _ hk
  have _ := B5
  have _ := hN
  refine ⟨(hb _ (by omega)).trans ((hX _ (by omega)).trans C5), (hb _ (by omega)).trans ((hX _ (by omega)).trans F5), (hb _ (by omega)).trans ((hX _ (by omega)).trans P5), ?_, ?_, hB.setCell (by dsimp only; omega) _⟩
  · exact S6.later ((Keeps.refl _ _).setCell (by dsimp only; omega) _) (hb _ (by omega))
  · have h1 : Blk X3 (w.heap.size + 1 + 1 + 1 + 1) (boolArr (List.replicate p.ins.length false)) 4 := (hX _ (by omega)).trans D5
    have h2 := h1.set 0 (.bool true)
    rw [boolArr_set] at h2
    exact h2
theorem leastDue_all {d : List Bool} (h : ∀ j, j < d.length → d.getD j false = false) : leastDue d = none := by
  unfold leastDue
  rw [List.findIdx?_eq_none_iff]
  intro b hb
  obtain ⟨j, hj⟩ := List.getElem?_of_mem hb
  have hl := (List.getElem?_eq_some_iff.1 hj).1
  have := h j hl
  rw [List.getD_eq_getElem?_getD, hj] at this
  simpa using this
theorem leastDue_at {d : List Bool} {a : Nat} (h : ∀ j, j < a → d.getD j false = false) (ha : d.getD a false = true) : leastDue d = some a := by
  have hl : a < d.length := by
    refine Classical.byContradiction fun hn => ?_
    rw [List.getD_eq_getElem?_getD, List.getElem?_eq_none (by omega)] at ha
    cases ha
  unfold leastDue
  rw [List.findIdx?_eq_some_iff_getElem]
  refine ⟨hl, by simpa [List.getD_eq_getElem?_getD, hl] using ha, ?_⟩
  intro j hj
  have := h j hj
  simpa [List.getD_eq_getElem?_getD, show j < d.length by omega] using this
theorem walk_end {ps : List Pd} {p : Pd} {g : Nat} {c : Cf} (hg : 0 < g) (h : leastDue c.due = none) : walkF ps p g c = .ok c := by
  obtain ⟨f, rfl⟩ : ∃ f, g = f + 1 := ⟨g - 1, by omega⟩
  unfold walkF
  rw [h]
theorem walk_bad {ps : List Pd} {p : Pd} {g a : Nat} {c : Cf} {e : Nat × Nat} (hg : 0 < g) (h : leastDue c.due = some a) (hr : roundF ps p c a = .error e) : walkF ps p g c = .error e := by
  obtain ⟨f, rfl⟩ : ∃ f, g = f + 1 := ⟨g - 1, by omega⟩
  unfold walkF
  rw [h]
  dsimp only
  rw [hr]
theorem walk_on {ps : List Pd} {p : Pd} {g a : Nat} {c c' : Cf} (hg : 0 < g) (h : leastDue c.due = some a) (hr : roundF ps p c a = .ok c') : walkF ps p g c = walkF ps p (g - 1) c' := by
  obtain ⟨f, rfl⟩ : ∃ f, g = f + 1 := ⟨g - 1, by omega⟩
  rw [Nat.add_sub_cancel]
  conv => lhs; unfold walkF
  rw [h]
  dsimp only
  rw [hr]
theorem st_get {c : Cf} {i : Nat} {o : Option St} (h : c.sts[i]? = some o) : c.st i = o := by unfold Cf.st; rw [List.getD_eq_getElem?_getD, h]; rfl
theorem proto9 {w : World} {b : Nat} {p : Pd} {h : Ph} {t : TypeId} (x : Blk w b (p.cells h) t) : w.cell? ⟨b, 0, none⟩ = some (.string p.name) ∧ w.cell? ⟨b, 1, none⟩ = some (.int .i64 p.line) ∧ w.cell? ⟨b, 2, none⟩ = some (.int .i64 p.params) ∧ w.cell? ⟨b, 3, none⟩ = some (.bool p.rest) ∧ w.cell? ⟨b, 4, none⟩ = some (.int .i64 p.regs) ∧
    w.cell? ⟨b, 5, none⟩ = some (.slice h.uo p.ups.length h.uc) ∧ w.cell? ⟨b, 6, none⟩ = some (.slice h.co p.consts.length h.cc) ∧ w.cell? ⟨b, 7, none⟩ = some (.slice h.io p.ins.length h.ic) ∧ w.cell? ⟨b, 8, none⟩ = some (.slice h.no p.named.length h.nc) :=
  ⟨x.cell 0, x.cell 1, x.cell 2, x.cell 3, x.cell 4, x.cell 5, x.cell 6, x.cell 7, x.cell 8⟩
theorem WkAt.setDue {w : World} {cao : Option Addr} {ccap : Nat} {ps : List Pd} {p : Pd} {h : Ph} {wr : World} {c : Cf} (x : WkAt w cao ccap ps p h wr c) {a : Nat} (b : Bool) : WkAt w cao ccap ps p h (wr.setCell ⟨w.heap.size + 1 + 1 + 1 + 1, a, none⟩ (.bool b)) ⟨c.sts, c.due.set a b⟩ := by
  have hb : ∀ k, k ≠ w.heap.size + 1 + 1 + 1 + 1 → (wr.setCell ⟨w.heap.size + 1 + 1 + 1 + 1, a, none⟩ (.bool b)).heap[k]? = wr.heap[k]? := fun k hk => Below.heap_setCell _ _ _ _ hk
  have h2 := x.due.set a (.bool b)
  rw [boolArr_set] at h2
  exact ⟨(hb _ (by omega)).trans x.code, (hb _ (by omega)).trans x.flt, (hb _ (by omega)).trans x.proto, x.sts.later ((Keeps.refl _ _).setCell (by dsimp only; omega) _) (hb _ (by omega)), h2, x.below.setCell (by dsimp only; omega) _⟩
theorem Tryz.size_Proto : (Tryz.prog.info? 43).map (·.size) = some 9 := by kernel_rfl
theorem Tryz.und_Proto : Tryz.prog.underlying 43 = some (.struct (Tryz.prog.fieldsOf 43)) := by kernel_rfl
theorem keeps_grown {a b : World} {row : Option Nat} {lo : Nat} (h : a.grownBy b row) (hr : ∀ k, row = some k → k < lo) : Keeps lo a b :=
  ⟨h.size, fun k hk hs => h.block k hs (fun e => by have := hr k e.symm; omega)⟩
theorem load_proto {ops : Array Oper} {rest : List Oper} {o : Oper} {a : Act} {w : World} {Q : Exit → Act → World → Prop} (x : Operand) (hw : Region.wanted o (yielded ops a.tmps) = true) (ho : o.op = .load 43 x)
    (g : Nat) (hx : a.eval x = .pointer (some ⟨g, 0, none⟩)) (cs : Array Value) (hg : Blk w g cs 43) (hs : cs.size = 9)
    (h : wpList Tryz.prog ops Q rest (a.put o.dst (.agg cs)) w) : wpList Tryz.prog ops Q (o :: rest) a w :=
  wpList_step fun K hK => by
    rw [if_pos hw]
    exact wp_load_row 43 x ho g hx 43 cs (0, 0) _ hg Tryz.und_Proto rfl (by rw [hs]; exact Tryz.size_Proto) (hK _ _ h)
theorem folF_len (n : Nd) (a : Nat) (s : St) (ts : List Int) (gs : List Gd) : (folF n a s ts gs).length ≤ 2 := by
  unfold folF goF
  rw [List.length_append]
  have h1 : (if nextB n then [(a + 1, (⟨ts, gs⟩ : St))] else []).length ≤ 1 := by split <;> simp
  have h2 : (if n.op = 19 then [(n.a.toNat, (⟨ts, gs⟩ : St))] else if n.op = 20 ∨ n.op = 21 ∨ n.op = 38 ∨ n.op = 39 then [(n.b.toNat, ⟨ts, gs⟩)] else if n.op = 41 then [(n.b.toNat, ⟨ts.set n.c.toNat (tyAt s.types n.c), gs⟩)] else if n.op = 31 then [(n.a.toNat, ⟨tryT n.b s.types, s.guards⟩)] else []).length ≤ 1 := by repeat (first | split | simp)
  omega

/-! ### Pieces of the code -/
def pathC : List Nat → Code → Code
  | [], c => c
  | 0 :: p, .seq a _ => pathC p a
  | 1 :: p, .seq _ b => pathC p b
  | 0 :: p, .cond _ a _ => pathC p a
  | 1 :: p, .cond _ _ b => pathC p b
  | 0 :: p, .loop c => pathC p c
  | 0 :: p, .block _ c => pathC p c
  | _, _ => .skip
noncomputable def pcFinal : Code := pathC [1, 1, 1, 1, 1, 1, 1, 1, 1, 0, 0, 0, 1, 1, 0, 1, 0, 0, 1, 0] (Tryz.f35.body.getD .skip)
noncomputable def pcRound : Code := pathC [1, 1, 1, 1, 1, 1, 1, 1, 1, 0, 0] (Tryz.f35.body.getD .skip)
noncomputable def pcTail : Code := pathC [1, 1, 1, 1, 1, 1, 1, 1, 1, 0, 0, 0, 1, 1, 1] (Tryz.f35.body.getD .skip)
noncomputable def pcFols : Code := pathC [1, 1, 1, 1, 1, 1, 1, 1, 1, 0, 0, 0, 1, 1, 1, 1, 1, 1, 1, 1, 1, 1, 1, 1, 1, 0] (Tryz.f35.body.getD .skip)
/-- What the walk through a proto answers. -/
def WkPost (w : World) (ps : List Pd) (p : Pd) (pi : Nat) (e : Ending) (w' : World) : Prop := (∃ v, e = .returned (.tuple #[v, faultV (verF ps p pi)])) ∧ Below w.heap.size w w'

theorem WkAt.put {w : World} {cao : Option Addr} {ccap : Nat} {ps : List Pd} {p : Pd} {h : Ph} {wr : World} {c : Cf} (x : WkAt w cao ccap ps p h wr c) {k : Nat} (hk : k < c.sts.length) {s : St} {to go : Option Addr} {tc gc : Nat} (ht : IntsAt (w.heap.size + 1 + 1 + 1 + 1 + 1) wr to s.types) (hg : GdsAt (w.heap.size + 1 + 1 + 1 + 1 + 1) wr go s.guards) :
    WkAt w cao ccap ps p h (((wr.setCell ⟨w.heap.size + 1 + 1 + 1, k * 3, none⟩ (.bool true)).setCell ⟨w.heap.size + 1 + 1 + 1, k * 3 + 1, none⟩ (.slice to s.types.length tc)).setCell ⟨w.heap.size + 1 + 1 + 1, k * 3 + 2, none⟩ (.slice go s.guards.length gc)) ⟨c.sts.set k (some s), c.due⟩ := by
  have hb : ∀ j, j ≠ w.heap.size + 1 + 1 + 1 → (((wr.setCell ⟨w.heap.size + 1 + 1 + 1, k * 3, none⟩ (.bool true)).setCell ⟨w.heap.size + 1 + 1 + 1, k * 3 + 1, none⟩ (.slice to s.types.length tc)).setCell ⟨w.heap.size + 1 + 1 + 1, k * 3 + 2, none⟩ (.slice go s.guards.length gc)).heap[j]? = wr.heap[j]? := fun j hj => by
    rw [Below.heap_setCell _ _ _ _ hj, Below.heap_setCell _ _ _ _ hj, Below.heap_setCell _ _ _ _ hj]
  exact ⟨(hb _ (by omega)).trans x.code, (hb _ (by omega)).trans x.flt, (hb _ (by omega)).trans x.proto, x.sts.put hk (by omega) ht hg, (hb _ (by omega)).trans x.due, ((x.below.setCell (by dsimp only; omega) _).setCell (by dsimp only; omega) _).setCell (by dsimp only; omega) _⟩
theorem follow_cons {c : Cf} {x : Nat} {s : St} {r : List (Nat × St)} : followF c ((x, s) :: r) = match reachF c x s with | none => .error (13, x) | some c' => followF c' r := rfl
theorem fol_next {fl : List (Nat × St)} {j x : Nat} {s : St} (h : fl[j]? = some (x, s)) : fl.drop j = (x, s) :: fl.drop (j + 1) := by
  obtain ⟨hl, he⟩ := List.getElem?_eq_some_iff.1 h
  rw [List.drop_eq_getElem_cons hl, he]
theorem reach_new {c : Cf} {x : Nat} {s : St} (h : c.st x = none) : reachF c x s = some ⟨c.sts.set x (some s), c.due.set x true⟩ := by unfold reachF; rw [h]
theorem reach_old {c : Cf} {x : Nat} {s t : St} (h : c.st x = some t) : reachF c x s = if t = s then some c else none := by unfold reachF; rw [h]
theorem st_same {t s : St} : (decide (t.types = s.types) && decide (t.guards = s.guards)) = decide (t = s) := by
  obtain ⟨a, b⟩ := t
  obtain ⟨a2, b2⟩ := s
  rw [Bool.eq_iff_iff]
  simp
end Go.Proofs.YtmfippfnhcphhaaGreatDoor

namespace Go.Proofs.YtmfippfnhcphhaaGreatDoor
open Go.RowKit Go.Deep

set_option maxRecDepth 1000000 in
set_option maxHeartbeats 16000000 in
theorem walk_final (ps : List Pd) (pi : Nat) (p : Pd) (h : Ph) (cao : Option Addr) (ccap : Nat) (c : Cf) (w wr : World) (c0 c2 c3 c4 c8 c9 c10 c11 c12 c13 c14 c15 c16 c17 c18 c19 c20 c21 c22 c23 c24 c25 c26 c27 c28 c29 c30 c31 c32 c33 c34 c35 c36 c37 c38 c39 c40 c41 c42 c43 c44 c45 c46 c47 c48 c49 c50 c51 c52 c53 c54 c55 c56 c57 c58 c59 c60 c61 c62 c63 c64 c65 c66 c67 c68 c69 c70 c71 c72 c73 c74 c77 c78 c79 c80 c81 c82 c83 c84 c85 c86 c87 c88 c89 c90 c91 c92 c93 c94 c95 c96 c97 c98 c99 c100 c101 c102 c103 c104 c105 c106 c107 c108 c109 c110 c111 c112 c113 c114 c115 c116 c117 c118 c119 c120 c121 c122 c123 c124 c125 c126 c127 c128 c129 c130 c131 c132 c133 c134 c135 c136 c137 c138 c139 c140 c141 c142 c143 c144 c145 c146 c147 c148 c149 c150 c151 c152 c153 c154 c155 c156 c157 c158 c159 c160 c161 c162 c163 c164 c165 c166 c167 c168 c169 c170 c171 c172 c173 c174 c175 c176 c177 c178 c179 c180 c181 c182 c183 c184 c185 c186 c187 c188 c189 c190 c191 c192 c193 c194 c195 c196 c197 c198 c199 c200 c201 c202 c203 c204 c205 c206 c207 c208 c209 : Value) (Q : Exit → Act → World → Prop) (hq : ∀ a' w', bodyPost Tryz.prog Tryz.f35 (WkPost w ps p pi) .ret a' w' → Q .ret a' w') (hx : ∀ (u4 u12 u76 u77 u78 u79 u80 u81 u82 u83 u84 u85 u86 u87 u88 u89 u90 u91 u92 : Value) (w' : World), verF ps p pi = (0, 0, 0) → WkAt w cao ccap ps p h w' c → Q (.exit 6) ⟨List.toArray (c0 :: .int .i64 pi :: c2 :: c3 :: u4 :: .pointer (some ⟨w.heap.size + 1, 0, none⟩) :: .pointer (some ⟨w.heap.size + 1 + 1, 0, none⟩) :: .slice (some ⟨w.heap.size + 1 + 1 + 1, 0, none⟩) p.ins.length p.ins.length :: c8 :: c9 :: c10 :: c11 :: u12 :: c13 :: c14 :: c15 :: c16 :: c17 :: c18 :: c19 :: c20 :: c21 :: c22 :: c23 :: c24 :: c25 :: c26 :: c27 :: c28 :: c29 :: c30 :: c31 :: c32 :: c33 :: c34 :: c35 :: c36 :: c37 :: c38 :: c39 :: c40 :: c41 :: c42 :: c43 :: c44 :: c45 :: c46 :: c47 :: c48 :: c49 :: c50 :: c51 :: c52 :: c53 :: c54 :: c55 :: c56 :: c57 :: c58 :: c59 :: c60 :: c61 :: c62 :: c63 :: c64 :: c65 :: c66 :: c67 :: c68 :: c69 :: c70 :: c71 :: c72 :: c73 :: c74 :: .int .i64 p.ins.length :: u76 :: u77 :: u78 :: u79 :: u80 :: u81 :: u82 :: u83 :: u84 :: u85 :: u86 :: u87 :: u88 :: u89 :: u90 :: u91 :: u92 :: c93 :: c94 :: c95 :: c96 :: c97 :: c98 :: c99 :: c100 :: c101 :: c102 :: c103 :: c104 :: c105 :: c106 :: c107 :: c108 :: c109 :: c110 :: c111 :: c112 :: c113 :: c114 :: c115 :: c116 :: c117 :: c118 :: c119 :: c120 :: c121 :: c122 :: c123 :: c124 :: c125 :: c126 :: c127 :: c128 :: c129 :: c130 :: c131 :: c132 :: c133 :: c134 :: c135 :: c136 :: c137 :: c138 :: c139 :: c140 :: c141 :: c142 :: c143 :: c144 :: c145 :: c146 :: c147 :: c148 :: c149 :: c150 :: c151 :: c152 :: c153 :: c154 :: c155 :: c156 :: c157 :: c158 :: c159 :: c160 :: c161 :: c162 :: c163 :: c164 :: c165 :: c166 :: c167 :: c168 :: c169 :: c170 :: c171 :: c172 :: c173 :: c174 :: c175 :: c176 :: c177 :: c178 :: c179 :: c180 :: c181 :: c182 :: c183 :: c184 :: c185 :: c186 :: c187 :: c188 :: c189 :: c190 :: c191 :: c192 :: c193 :: c194 :: c195 :: c196 :: c197 :: c198 :: c199 :: c200 :: c201 :: c202 :: c203 :: c204 :: c205 :: c206 :: c207 :: c208 :: c209 :: []), []⟩ w')
    (hp : PFit ps.length p) (hz : p.ins.length ≤ 6000) (hpi : InssAt 0 w h.io p.ins) (hwo : walkF ps p (2 * p.ins.length + 2) (startC p) = .ok c) (hci : ∀ i, OnC (c.E p) i ↔ ((c.st i).isSome = true ∧ OnC (Sil p.ins) i)) (hsl : c.sts.length = p.ins.length) (W1 : WkAt w cao ccap ps p h wr c) :
    Code.wp Tryz.prog pcFinal Q ⟨List.toArray (c0 :: .int .i64 pi :: c2 :: c3 :: c4 :: .pointer (some ⟨w.heap.size + 1, 0, none⟩) :: .pointer (some ⟨w.heap.size + 1 + 1, 0, none⟩) :: .slice (some ⟨w.heap.size + 1 + 1 + 1, 0, none⟩) p.ins.length p.ins.length :: c8 :: c9 :: c10 :: c11 :: c12 :: c13 :: c14 :: c15 :: c16 :: c17 :: c18 :: c19 :: c20 :: c21 :: c22 :: c23 :: c24 :: c25 :: c26 :: c27 :: c28 :: c29 :: c30 :: c31 :: c32 :: c33 :: c34 :: c35 :: c36 :: c37 :: c38 :: c39 :: c40 :: c41 :: c42 :: c43 :: c44 :: c45 :: c46 :: c47 :: c48 :: c49 :: c50 :: c51 :: c52 :: c53 :: c54 :: c55 :: c56 :: c57 :: c58 :: c59 :: c60 :: c61 :: c62 :: c63 :: c64 :: c65 :: c66 :: c67 :: c68 :: c69 :: c70 :: c71 :: c72 :: c73 :: c74 :: .int .i64 p.ins.length :: .int .i64 0 :: c77 :: c78 :: c79 :: c80 :: c81 :: c82 :: c83 :: c84 :: c85 :: c86 :: c87 :: c88 :: c89 :: c90 :: c91 :: c92 :: c93 :: c94 :: c95 :: c96 :: c97 :: c98 :: c99 :: c100 :: c101 :: c102 :: c103 :: c104 :: c105 :: c106 :: c107 :: c108 :: c109 :: c110 :: c111 :: c112 :: c113 :: c114 :: c115 :: c116 :: c117 :: c118 :: c119 :: c120 :: c121 :: c122 :: c123 :: c124 :: c125 :: c126 :: c127 :: c128 :: c129 :: c130 :: c131 :: c132 :: c133 :: c134 :: c135 :: c136 :: c137 :: c138 :: c139 :: c140 :: c141 :: c142 :: c143 :: c144 :: c145 :: c146 :: c147 :: c148 :: c149 :: c150 :: c151 :: c152 :: c153 :: c154 :: c155 :: c156 :: c157 :: c158 :: c159 :: c160 :: c161 :: c162 :: c163 :: c164 :: c165 :: c166 :: c167 :: c168 :: c169 :: c170 :: c171 :: c172 :: c173 :: c174 :: c175 :: c176 :: c177 :: c178 :: c179 :: c180 :: c181 :: c182 :: c183 :: c184 :: c185 :: c186 :: c187 :: c188 :: c189 :: c190 :: c191 :: c192 :: c193 :: c194 :: c195 :: c196 :: c197 :: c198 :: c199 :: c200 :: c201 :: c202 :: c203 :: c204 :: c205 :: c206 :: c207 :: c208 :: c209 :: []), []⟩ wr := by
  conv => arg 2; whnf
  have HP : Hid _ := hp
  have HPI : Hid (InssAt 0 w h.io p.ins) := hpi
  have HWO : Hid _ := hwo
  have HCI : Hid _ := hci
  have HSL : Hid _ := hsl
  have HQ : Hid _ := hq
  have HX : Hid _ := hx
  clear hp hpi hwo hci hsl hq hx
  go_loopg [76] (p.ins.length + 1) (fun g y wi => ∃ i : Nat, i ≤ p.ins.length ∧ y = .int .i64 i ∧ Hid (∀ j, j < i → ¬ OnC (c.E p) j) ∧ Hid (p.ins.length + 1 - i ≤ g) ∧ WkAt w cao ccap ps p h wi c)
  case atStart => exact ⟨0, Nat.zero_le _, rfl, fun j hj => absurd hj (Nat.not_lt_zero _), Nat.le_refl _, W1⟩
  case round =>
    obtain ⟨i, hi, rfl, HI, HG3, W2⟩ := hrel
    clear W1
    by_cases hil : i < p.ins.length
    · obtain ⟨o, ho⟩ := some_of_lt (show i < c.sts.length by rw [HSL.out]; exact hil)
      obtain ⟨to, tc, go, gc, s0, _, _, _, _⟩ := W2.sts.at_ i o ho
      have HO : Hid (c.st i = o) := st_get ho
      have k9 : (i : Int) < p.ins.length := by omega
      clear ho
      cases o with
      | none =>
        have HI2 : Hid (∀ j, j < i + 1 → ¬ OnC (c.E p) j) := by
          intro j hj
          by_cases hji : j = i
          · subst hji; rw [HCI.out, HO.out]; simp
          · exact HI.out j (by omega)
        clear HI HO
        have HG4 : Hid (p.ins.length + 1 - (i + 1) ≤ gk - 1 ∧ gk - 1 < gk) := by have := HG3.out; show _ ∧ _; omega
        go_wp2_with fail
        go_roundg (gk - 1)
        case measure => exact HG4.out.2
        case rel => exact ⟨i + 1, by omega, by go_num, HI2.out, HG4.out.1, W2⟩
      | some s =>
        have HRD : Hid _ := fun (W : World) (hb : Below w.heap.size w W) => l3round_any p h i ps.length W HP.out hil hz (HPI.out.later (Keeps.of_below hb))
        have p2 := W2.proto.cell
        unfold Pd.cells at p2 HRD
        have HW2 : Hid _ := W2
        clear W2
        go_wp2_with fail
        refine (HRD.out wr HW2.out.below).mono ?_
        rintro e w3 ⟨⟨rr, rfl, hrr⟩, hw3⟩
        have W3 := HW2.out.later hw3
        have HRR : Hid (rr = true ↔ OnC (c.E p) i) := by show _ ↔ _; rw [HCI.out, HO.out]; simpa using hrr
        clear hrr hw3 HW2 s0 HRD HO p2
        cases rr
        · have HI2 : Hid (∀ j, j < i + 1 → ¬ OnC (c.E p) j) := by
            intro j hj
            by_cases hji : j = i
            · subst hji; intro hc; have := HRR.out.2 hc; cases this
            · exact HI.out j (by omega)
          clear HI HRR
          have HG4 : Hid (p.ins.length + 1 - (i + 1) ≤ gk - 1 ∧ gk - 1 < gk) := by have := HG3.out; show _ ∧ _; omega
          go_wp2_with fail
          go_roundg (gk - 1)
          case measure => exact HG4.out.2
          case rel => exact ⟨i + 1, by omega, by go_num, HI2.out, HG4.out.1, W3⟩
        · have HVF : Hid (verF ps p pi = (14, (pi : Int), (i : Int))) := verF_circ HWO.out ⟨.inr ⟨hil, HRR.out.1 rfl⟩, fun j _ hc => Nat.le_of_not_lt fun hlt => HI.out j hlt hc⟩ hil
          clear HI HRR HWO HCI
          go_wp2_with fail
          refine (l3fault_any _ _ _ _).mono ?_
          rintro e w4 ⟨rfl, hw4⟩
          have W4 := W3.later hw4
          have c4 := W4.flt.cell
          have f4 := W4.flt.frozen
          clear W3 hw4
          go_wp2_with fail
          refine HQ.out _ _ (bodyPost_ret (v := .tuple #[.slice none 0 0, .agg #[.int .i64 14, .int .i64 pi, .int .i64 i]]) ?_ rfl ⟨⟨.slice none 0 0, ?_⟩, ?_⟩)
          · simp [results, Tryz.results35, go_sem, c4]
          · rw [HVF.out]; rfl
          · iterate 3 (refine Below.setCell ?_ (by simp) _)
            exact W4.below
    · obtain rfl : i = p.ins.length := by omega
      have HVF : Hid (verF ps p pi = (0, 0, 0)) := verF_none HWO.out ⟨.inl rfl, fun j hj hc => absurd hc (HI.out j (by omega))⟩
      have k9 : ¬ (p.ins.length : Int) < p.ins.length := by omega
      clear HI HWO HCI
      go_wp2_with fail
      exact HX.out _ _ _ _ _ _ _ _ _ _ _ _ _ _ _ _ _ _ _ _ HVF.out W2
end Go.Proofs.YtmfippfnhcphhaaGreatDoor
