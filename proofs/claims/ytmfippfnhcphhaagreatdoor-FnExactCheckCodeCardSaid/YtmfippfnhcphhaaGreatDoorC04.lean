import Derived.Test.YtmfippfnhcphhaaGreatDoorC02
import Derived.Test.YtmfippfnhcphhaaGreatDoorC03
import Derived.Test.YtmfippfnhcphhaaGreatDoorC01
import Derived.Laws.FloatArith
namespace Go.Proofs.YtmfippfnhcphhaaGreatDoor
open Go.RowKit Go.Deep

theorem size_set (w : World) (p : Addr) (v : Value) : (w.setCell p v).heap.size = w.heap.size := by simp

/-- Lists of few elements. -/
structure PFew (p : Pd) : Prop where
  ups : p.ups.length ≤ 1048576
  consts : p.consts.length ≤ 1048576
  ins : p.ins.length ≤ 1048576
  named : p.named.length ≤ 1048576

theorem toUpS_ex (ao : Option Addr) (cap : Nat) (us : List Ud) (w : World) (hm : us.length ≤ 1048576) (hu : UpsAt 0 w ao us) (lo : Nat) (hl : lo ≤ w.heap.size) :
    Calls Tryz.prog 127 #[.slice ao us.length cap] w fun e w' => ∃ g, e = .returned (.slice (some ⟨g, 0, none⟩) us.length us.length) ∧ UpsAt lo w' (some ⟨g, 0, none⟩) us ∧ Below w.heap.size w w' :=
  (toUpS_any ao cap us w hm hu).mono fun _ _ h => ⟨_, h.1, AllAt.lower h.2.1 hl, h.2.2⟩
theorem toValueS_ex (ao : Option Addr) (cap : Nat) (us : List Vd) (w : World) (hm : us.length ≤ 1048576) (hu : ValsAt 0 w ao us) (lo : Nat) (hl : lo ≤ w.heap.size) :
    Calls Tryz.prog 128 #[.slice ao us.length cap] w fun e w' => ∃ g, e = .returned (.slice (some ⟨g, 0, none⟩) us.length us.length) ∧ ValsAt lo w' (some ⟨g, 0, none⟩) us ∧ Below w.heap.size w w' :=
  (toValueS_any ao cap us w hm hu).mono fun _ _ h => ⟨_, h.1, AllAt.lower h.2.1 hl, h.2.2⟩
theorem toInsS_ex (ao : Option Addr) (cap : Nat) (us : List Nd) (w : World) (hm : us.length ≤ 1048576) (hu : InssAt 0 w ao us) (lo : Nat) (hl : lo ≤ w.heap.size) :
    Calls Tryz.prog 129 #[.slice ao us.length cap] w fun e w' => ∃ g, e = .returned (.slice (some ⟨g, 0, none⟩) us.length us.length) ∧ InssAt lo w' (some ⟨g, 0, none⟩) us ∧ Below w.heap.size w w' :=
  (toInsS_any ao cap us w hm hu).mono fun _ _ h => ⟨_, h.1, AllAt.lower h.2.1 hl, h.2.2⟩
theorem toNamedS_ex (ao : Option Addr) (cap : Nat) (us : List Md) (w : World) (hm : us.length ≤ 1048576) (hu : NamsAt 0 w ao us) (lo : Nat) (hl : lo ≤ w.heap.size) :
    Calls Tryz.prog 130 #[.slice ao us.length cap] w fun e w' => ∃ g, e = .returned (.slice (some ⟨g, 0, none⟩) us.length us.length) ∧ NamsAt lo w' (some ⟨g, 0, none⟩) us ∧ Below w.heap.size w w' :=
  (toNamedS_any ao cap us w hm hu).mono fun _ _ h => ⟨_, h.1, AllAt.lower h.2.1 hl, h.2.2⟩

set_option maxHeartbeats 2000000 in
theorem toProto_any (p : Pd) (h : Ph) (w : World) (hz : PFew p) (hp : PIn 0 w h p) :
    Calls Tryz.prog 73 #[.agg (p.cells h)] w fun e w' => ∃ h', e = .returned (.agg (p.cells h')) ∧ PIn w.heap.size w' h' p ∧ Below w.heap.size w w' := by
  obtain ⟨z1, z2, z3, z4⟩ := hz
  obtain ⟨i1, i2, i3, i4⟩ := hp
  obtain ⟨nm, ln, pa, re, rg, us, cs, is, ms⟩ := p
  obtain ⟨uo, uc, co, cc, io, ic, no, nc⟩ := h
  dsimp only [Pd.cells] at *
  have hb3 : ∀ o1 o2 o3, Below w.heap.size w (((w.alloc o1).alloc o2).alloc o3) := fun o1 o2 o3 => (((Below.refl _ _).alloc (Nat.le_refl _) o1).alloc (by simp) o2).alloc (by simp; omega) o3
  have X0 : Blk (((w.alloc (.cells #[.string nm, .int .i64 ln, .int .i64 pa, .bool re, .int .i64 rg, .slice uo us.length uc, .slice co cs.length cc, .slice io is.length ic, .slice no ms.length nc] 117)).alloc (.cells #[.string ⟨#[]⟩, .int .i64 0, .int .i64 0, .bool false, .int .i64 0, .slice none 0 0, .slice none 0 0, .slice none 0 0, .slice none 0 0] 43)).alloc (.cells #[.string nm, .int .i64 ln, .int .i64 pa, .bool re, .int .i64 rg, .slice none 0 0, .slice none 0 0, .slice none 0 0, .slice none 0 0] 43)) w.heap.size #[.string nm, .int .i64 ln, .int .i64 pa, .bool re, .int .i64 rg, .slice uo us.length uc, .slice co cs.length cc, .slice io is.length ic, .slice no ms.length nc] 117 := ((Blk.new _ _ _).alloc _).alloc _
  have Y0 : Blk (((w.alloc (.cells #[.string nm, .int .i64 ln, .int .i64 pa, .bool re, .int .i64 rg, .slice uo us.length uc, .slice co cs.length cc, .slice io is.length ic, .slice no ms.length nc] 117)).alloc (.cells #[.string ⟨#[]⟩, .int .i64 0, .int .i64 0, .bool false, .int .i64 0, .slice none 0 0, .slice none 0 0, .slice none 0 0, .slice none 0 0] 43)).alloc (.cells #[.string nm, .int .i64 ln, .int .i64 pa, .bool re, .int .i64 rg, .slice none 0 0, .slice none 0 0, .slice none 0 0, .slice none 0 0] 43)) (w.heap.size + 1) #[.string ⟨#[]⟩, .int .i64 0, .int .i64 0, .bool false, .int .i64 0, .slice none 0 0, .slice none 0 0, .slice none 0 0, .slice none 0 0] 43 := by have := (Blk.new (w.alloc (.cells #[.string nm, .int .i64 ln, .int .i64 pa, .bool re, .int .i64 rg, .slice uo us.length uc, .slice co cs.length cc, .slice io is.length ic, .slice no ms.length nc] 117)) #[.string ⟨#[]⟩, .int .i64 0, .int .i64 0, .bool false, .int .i64 0, .slice none 0 0, .slice none 0 0, .slice none 0 0, .slice none 0 0] 43).alloc (.cells #[.string nm, .int .i64 ln, .int .i64 pa, .bool re, .int .i64 rg, .slice none 0 0, .slice none 0 0, .slice none 0 0, .slice none 0 0] 43); simpa using this
  have Z0 : Blk (((w.alloc (.cells #[.string nm, .int .i64 ln, .int .i64 pa, .bool re, .int .i64 rg, .slice uo us.length uc, .slice co cs.length cc, .slice io is.length ic, .slice no ms.length nc] 117)).alloc (.cells #[.string ⟨#[]⟩, .int .i64 0, .int .i64 0, .bool false, .int .i64 0, .slice none 0 0, .slice none 0 0, .slice none 0 0, .slice none 0 0] 43)).alloc (.cells #[.string nm, .int .i64 ln, .int .i64 pa, .bool re, .int .i64 rg, .slice none 0 0, .slice none 0 0, .slice none 0 0, .slice none 0 0] 43)) (w.heap.size + 1 + 1) #[.string nm, .int .i64 ln, .int .i64 pa, .bool re, .int .i64 rg, .slice none 0 0, .slice none 0 0, .slice none 0 0, .slice none 0 0] 43 := by have := Blk.new ((w.alloc (.cells #[.string nm, .int .i64 ln, .int .i64 pa, .bool re, .int .i64 rg, .slice uo us.length uc, .slice co cs.length cc, .slice io is.length ic, .slice no ms.length nc] 117)).alloc (.cells #[.string ⟨#[]⟩, .int .i64 0, .int .i64 0, .bool false, .int .i64 0, .slice none 0 0, .slice none 0 0, .slice none 0 0, .slice none 0 0] 43)) #[.string nm, .int .i64 ln, .int .i64 pa, .bool re, .int .i64 rg, .slice none 0 0, .slice none 0 0, .slice none 0 0, .slice none 0 0] 43; simpa using this
  go_enter Tryz.func73, Tryz.ntmps73
  go_wp2_with fail
  refine (toUpS_ex uo uc us _ z1 (i1.later (Keeps.of_below (hb3 _ _ _))) (w.heap.size + 1 + 1 + 1) (by simp)).mono ?_
  rintro e w1 ⟨g1, rfl, q1, hw1⟩
  have B1 := (hb3 _ _ _).trans (hw1.mono (by simp; omega))
  have s1 : w.heap.size + 1 + 1 + 1 ≤ w1.heap.size := by have := hw1.size; simpa using this
  have X1 := X0.later hw1
  have Y1 := Y0.later hw1
  have Z1 := Z0.later hw1
  clear hw1 X0 Y0 Z0
  have x1 := X1.cell
  have y1 := Z1.cell
  have f1 := Z1.frozen
  go_wp2_with fail
  clear x1 y1 f1
  have D1 := B1.setCell (p := ⟨w.heap.size + 1 + 1, 5, none⟩) (by show w.heap.size ≤ w.heap.size + 1 + 1; omega) (.slice (some ⟨g1, 0, none⟩) us.length us.length)
  have K1 := (Keeps.refl (w.heap.size + 1 + 1 + 1) w1).setCell (p := ⟨w.heap.size + 1 + 1, 5, none⟩) (by show w.heap.size + 1 + 1 < _; omega) (.slice (some ⟨g1, 0, none⟩) us.length us.length)
  have U1 := X1.setOther (p := ⟨w.heap.size + 1 + 1, 5, none⟩) (by show w.heap.size ≠ w.heap.size + 1 + 1; omega) (.slice (some ⟨g1, 0, none⟩) us.length us.length)
  have V1 := Y1.setOther (p := ⟨w.heap.size + 1 + 1, 5, none⟩) (by show w.heap.size + 1 ≠ w.heap.size + 1 + 1; omega) (.slice (some ⟨g1, 0, none⟩) us.length us.length)
  have W1 := Z1.set 5 (.slice (some ⟨g1, 0, none⟩) us.length us.length)
  have t1 : w.heap.size + 1 + 1 + 1 ≤ (w1.setCell ⟨w.heap.size + 1 + 1, 5, none⟩ (.slice (some ⟨g1, 0, none⟩) us.length us.length)).heap.size := by rw [size_set]; exact s1
  refine (toValueS_ex co cc cs _ z2 (i2.later (Keeps.of_below D1)) (w.heap.size + 1 + 1 + 1) t1).mono ?_
  rintro e w2 ⟨g2, rfl, q2, hw2⟩
  have B2 := D1.trans (hw2.mono D1.size)
  have s2 : w.heap.size + 1 + 1 + 1 ≤ w2.heap.size := Nat.le_trans t1 hw2.size
  have X2 := U1.later hw2
  have Y2 := V1.later hw2
  have Z2 : Blk w2 (w.heap.size + 1 + 1) #[.string nm, .int .i64 ln, .int .i64 pa, .bool re, .int .i64 rg, .slice (some ⟨g1, 0, none⟩) us.length us.length, .slice none 0 0, .slice none 0 0, .slice none 0 0] 43 := by simpa using W1.later hw2
  replace q1 := q1.later (K1.trans (Keeps.of_below hw2))
  clear hw2 X1 Y1 Z1 U1 V1 W1 D1 K1 B1
  have x2 := X2.cell
  have y2 := Z2.cell
  have f2 := Z2.frozen
  go_wp2_with fail
  clear x2 y2 f2
  have D2 := B2.setCell (p := ⟨w.heap.size + 1 + 1, 6, none⟩) (by show w.heap.size ≤ w.heap.size + 1 + 1; omega) (.slice (some ⟨g2, 0, none⟩) cs.length cs.length)
  have K2 := (Keeps.refl (w.heap.size + 1 + 1 + 1) w2).setCell (p := ⟨w.heap.size + 1 + 1, 6, none⟩) (by show w.heap.size + 1 + 1 < _; omega) (.slice (some ⟨g2, 0, none⟩) cs.length cs.length)
  have U2 := X2.setOther (p := ⟨w.heap.size + 1 + 1, 6, none⟩) (by show w.heap.size ≠ w.heap.size + 1 + 1; omega) (.slice (some ⟨g2, 0, none⟩) cs.length cs.length)
  have V2 := Y2.setOther (p := ⟨w.heap.size + 1 + 1, 6, none⟩) (by show w.heap.size + 1 ≠ w.heap.size + 1 + 1; omega) (.slice (some ⟨g2, 0, none⟩) cs.length cs.length)
  have W2 := Z2.set 6 (.slice (some ⟨g2, 0, none⟩) cs.length cs.length)
  have t2 : w.heap.size + 1 + 1 + 1 ≤ (w2.setCell ⟨w.heap.size + 1 + 1, 6, none⟩ (.slice (some ⟨g2, 0, none⟩) cs.length cs.length)).heap.size := by rw [size_set]; exact s2
  refine (toInsS_ex io ic is _ z3 (i3.later (Keeps.of_below D2)) (w.heap.size + 1 + 1 + 1) t2).mono ?_
  rintro e w3 ⟨g3, rfl, q3, hw3⟩
  have B3 := D2.trans (hw3.mono D2.size)
  have s3 : w.heap.size + 1 + 1 + 1 ≤ w3.heap.size := Nat.le_trans t2 hw3.size
  have X3 := U2.later hw3
  have Y3 := V2.later hw3
  have Z3 : Blk w3 (w.heap.size + 1 + 1) #[.string nm, .int .i64 ln, .int .i64 pa, .bool re, .int .i64 rg, .slice (some ⟨g1, 0, none⟩) us.length us.length, .slice (some ⟨g2, 0, none⟩) cs.length cs.length, .slice none 0 0, .slice none 0 0] 43 := by simpa using W2.later hw3
  replace q1 := q1.later (K2.trans (Keeps.of_below hw3))
  replace q2 := q2.later (K2.trans (Keeps.of_below hw3))
  clear hw3 X2 Y2 Z2 U2 V2 W2 D2 K2 B2
  have x3 := X3.cell
  have y3 := Z3.cell
  have f3 := Z3.frozen
  go_wp2_with fail
  clear x3 y3 f3
  have D3 := B3.setCell (p := ⟨w.heap.size + 1 + 1, 7, none⟩) (by show w.heap.size ≤ w.heap.size + 1 + 1; omega) (.slice (some ⟨g3, 0, none⟩) is.length is.length)
  have K3 := (Keeps.refl (w.heap.size + 1 + 1 + 1) w3).setCell (p := ⟨w.heap.size + 1 + 1, 7, none⟩) (by show w.heap.size + 1 + 1 < _; omega) (.slice (some ⟨g3, 0, none⟩) is.length is.length)
  have U3 := X3.setOther (p := ⟨w.heap.size + 1 + 1, 7, none⟩) (by show w.heap.size ≠ w.heap.size + 1 + 1; omega) (.slice (some ⟨g3, 0, none⟩) is.length is.length)
  have V3 := Y3.setOther (p := ⟨w.heap.size + 1 + 1, 7, none⟩) (by show w.heap.size + 1 ≠ w.heap.size + 1 + 1; omega) (.slice (some ⟨g3, 0, none⟩) is.length is.length)
  have W3 := Z3.set 7 (.slice (some ⟨g3, 0, none⟩) is.length is.length)
  have t3 : w.heap.size + 1 + 1 + 1 ≤ (w3.setCell ⟨w.heap.size + 1 + 1, 7, none⟩ (.slice (some ⟨g3, 0, none⟩) is.length is.length)).heap.size := by rw [size_set]; exact s3
  refine (toNamedS_ex no nc ms _ z4 (i4.later (Keeps.of_below D3)) (w.heap.size + 1 + 1 + 1) t3).mono ?_
  rintro e w4 ⟨g4, rfl, q4, hw4⟩
  have B4 := D3.trans (hw4.mono D3.size)
  have s4 : w.heap.size + 1 + 1 + 1 ≤ w4.heap.size := Nat.le_trans t3 hw4.size
  have X4 := U3.later hw4
  have Y4 := V3.later hw4
  have Z4 : Blk w4 (w.heap.size + 1 + 1) #[.string nm, .int .i64 ln, .int .i64 pa, .bool re, .int .i64 rg, .slice (some ⟨g1, 0, none⟩) us.length us.length, .slice (some ⟨g2, 0, none⟩) cs.length cs.length, .slice (some ⟨g3, 0, none⟩) is.length is.length, .slice none 0 0] 43 := by simpa using W3.later hw4
  replace q1 := q1.later (K3.trans (Keeps.of_below hw4))
  replace q2 := q2.later (K3.trans (Keeps.of_below hw4))
  replace q3 := q3.later (K3.trans (Keeps.of_below hw4))
  clear hw4 X3 Y3 Z3 U3 V3 W3 D3 K3 B3
  have x4 := X4.cell
  have y4 := Z4.cell
  have f4 := Z4.frozen
  have y5 := Y4.cell
  have f5 := Y4.frozen
  go_wp2_with fail
  refine bodyPost_ret (v := .agg #[.string nm, .int .i64 ln, .int .i64 pa, .bool re, .int .i64 rg, .slice (some ⟨g1, 0, none⟩) us.length us.length, .slice (some ⟨g2, 0, none⟩) cs.length cs.length, .slice (some ⟨g3, 0, none⟩) is.length is.length, .slice (some ⟨g4, 0, none⟩) ms.length ms.length]) ?_ rfl ⟨⟨some ⟨g1, 0, none⟩, us.length, some ⟨g2, 0, none⟩, cs.length, some ⟨g3, 0, none⟩, is.length, some ⟨g4, 0, none⟩, ms.length⟩, rfl, ?_, ?_⟩
  · simp [results, Tryz.results73, go_sem, y5]
  · refine PIn.lower (lo := w.heap.size + 1 + 1 + 1) (PIn.later (w := w4) ⟨q1, q2, q3, q4⟩ ?_) (by omega)
    iterate 10 (refine Keeps.setCell ?_ (by simp; try omega) _)
    exact Keeps.refl _ w4
  · iterate 10 (refine Below.setCell ?_ (by simp; try omega) _)
    exact B4

/-! ### Protos -/
theorem Tryz.info_Proto : (Tryz.prog.info? 43).map (fun i => (i.zero, i.size, i.bytes)) = some (some (.agg #[.string ByteArray.empty, .int .i64 0, .int .i64 0, .bool false, .int .i64 0, .slice none 0 0, .slice none 0 0, .slice none 0 0, .slice none 0 0]), 9, 144) := by kernel_rfl

/-- The first k protos are laid in block g. -/
def LaidP (w : World) (g : Nat) (ps : List Pd) (k : Nat) : Prop := ∀ j p, j < k → ps[j]? = some p → ∃ h, NineAt w g (j * 9) h p ∧ PIn (g + 1) w h p
theorem NineAt.later {w w' : World} {b o : Nat} {h : Ph} {p : Pd} (x : NineAt w b o h p) (hb : Below w.heap.size w w') (hl : b < w.heap.size) : NineAt w' b o h p := by
  have k := (bcell hb).1
  unfold NineAt
  rw [k _ _ hl, k _ _ hl, k _ _ hl, k _ _ hl, k _ _ hl, k _ _ hl, k _ _ hl, k _ _ hl, k _ _ hl]
  exact x
theorem LaidP.later {w w' : World} {g : Nat} {ps : List Pd} {k : Nat} (h : LaidP w g ps k) (hb : Below w.heap.size w w') (hg : g < w.heap.size) : LaidP w' g ps k := by
  intro j p hj hp
  obtain ⟨x, h1, h2⟩ := h j p hj hp
  exact ⟨x, h1.later hb hg, h2.later (Keeps.of_below hb)⟩
def nine (p : Pd) (h : Ph) : List Value := [.string p.name, .int .i64 p.line, .int .i64 p.params, .bool p.rest, .int .i64 p.regs, .slice h.uo p.ups.length h.uc, .slice h.co p.consts.length h.cc, .slice h.io p.ins.length h.ic, .slice h.no p.named.length h.nc]
theorem Keeps.sets {lo g : Nat} : ∀ (vs : List Value) (o : Nat) {a w : World}, Keeps lo a w → g < lo → Keeps lo a (w.setCells g o vs)
  | [], _, _, _, h, _ => h
  | v :: r, o, _, _, h, hg => Keeps.sets r (o + 1) (h.setCell (p := ⟨g, o, none⟩) hg v) hg
theorem LaidP.step {w : World} {g n k : Nat} {t : TypeId} {ps : List Pd} {p : Pd} {x : Ph} (h : LaidP w g ps k) (own : Own w g t n) (hn : k * 9 + 9 ≤ n) (hp : ps[k]? = some p) (hx : PIn (g + 1) w x p) :
    LaidP (w.setCells g (k * 9) (nine p x)) g ps (k + 1) := by
  intro j y hj hy
  have K := Keeps.sets (nine p x) (k * 9) (Keeps.refl (g + 1) w) (Nat.lt_succ_self g)
  by_cases e : j = k
  · subst e
    obtain rfl : p = y := Option.some.inj (hp.symm.trans hy)
    have c := World.cell?_setCells_in g (nine p x) (j * 9) w (fun i hi => by
      have hi9 : i < 9 := hi
      obtain ⟨u, hu⟩ := own.cell (i := j * 9 + i) (by omega)
      rw [hu]; rfl)
    exact ⟨x, ⟨c 0 (by simp [nine]), c 1 (by simp [nine]), c 2 (by simp [nine]), c 3 (by simp [nine]), c 4 (by simp [nine]), c 5 (by simp [nine]), c 6 (by simp [nine]), c 7 (by simp [nine]), c 8 (by simp [nine])⟩, hx.later K⟩
  · obtain ⟨z, h1, h2⟩ := h j y (by omega) hy
    have c : ∀ i, i < 9 → (w.setCells g (k * 9) (nine p x)).cell? ⟨g, j * 9 + i, none⟩ = w.cell? ⟨g, j * 9 + i, none⟩ := fun i hi =>
      World.cell?_setCells_out g (nine p x) (k * 9) w _ (fun _ _ => Or.inl (by show j * 9 + i < k * 9; omega))
    refine ⟨z, ?_, h2.later K⟩
    have c0 := c 0 (by omega)
    rw [Nat.add_zero] at c0
    unfold NineAt
    rw [c0, c 1 (by omega), c 2 (by omega), c 3 (by omega), c 4 (by omega), c 5 (by omega), c 6 (by omega), c 7 (by omega), c 8 (by omega)]
    exact h1
theorem LaidP.all {w : World} {g n : Nat} {t : TypeId} {ps : List Pd} (own : Own w g t n) (h : LaidP w g ps ps.length) {lo : Nat} (hl : lo ≤ g) : ProtosAt lo w (some ⟨g, 0, none⟩) ps := by
  intro i p hi
  obtain ⟨x, h1, h2⟩ := h i p (List.getElem?_eq_some_iff.1 hi).1 hi
  refine ⟨g, 0, rfl, hl, own.lt, x, ?_, h2.lower (by omega)⟩
  rw [Nat.zero_add]
  exact h1

theorem ProtosAt.lower {lo lo' : Nat} {w : World} {ao : Option Addr} {xs : List Pd} (h : ProtosAt lo w ao xs) (hl : lo' ≤ lo) : ProtosAt lo' w ao xs := by
  intro i x hx
  obtain ⟨b, off, e, h1, hs, g, hn, hp⟩ := h i x hx
  exact ⟨b, off, e, Nat.le_trans hl h1, hs, g, hn, hp.lower hl⟩

set_option maxHeartbeats 1000000 in
theorem toProtoS_any (ao : Option Addr) (cap : Nat) (ps : List Pd) (w : World) (hm : ps.length ≤ 1048576) (hz : ∀ p ∈ ps, PFew p) (hu : ProtosAt 0 w ao ps) :
    Calls Tryz.prog 36 #[.slice ao ps.length cap] w fun e w' => e = .returned (.slice (some ⟨w.heap.size, 0, none⟩) ps.length ps.length) ∧ ProtosAt w.heap.size w' (some ⟨w.heap.size, 0, none⟩) ps ∧ Below w.heap.size w w' := by
  have hmk := run_make_k (P := Tryz.prog) 23 43 _ 9 144 Tryz.underlying23 Tryz.info_Proto .i64 .i64 ps.length (by omega) (by omega)
  go_enter Tryz.func36, Tryz.ntmps36
  go_wp2_with fail
  clear hmk
  go_loopw [4] (fun i wr => ∃ k : Nat, k ≤ ps.length ∧ i = .int .i64 k ∧ Own wr w.heap.size 43 (ps.length * 9) ∧ LaidP wr w.heap.size ps k ∧ Below w.heap.size w wr) (fun i _ => ps.length - (intOf i).toNat)
  case atStart => exact ⟨0, Nat.zero_le _, rfl, Own.made _ _ _ _, fun j _ hj => absurd hj (Nat.not_lt_zero _), (Below.refl _ _).alloc (Nat.le_refl _) _⟩
  case round =>
    obtain ⟨k, hk, rfl, hown, hdone, hb⟩ := hrel
    by_cases hlt : k < ps.length
    · obtain ⟨p, huk⟩ := some_of_lt hlt
      obtain ⟨b, off, rfl, _, hbl, x, ⟨p0, p1, p2, p3, p4, p5, p6, p7, p8⟩, hin⟩ := hu.later (Keeps.of_below hb) k p huk
      have hf := hz p (List.mem_of_getElem? huk)
      clear hu hz
      go_wp2_with fail
      refine (toProto_any p x _ hf hin).mono ?_
      rintro e w1 ⟨y, rfl, hy, hw1⟩
      have own1 := hown.later hw1
      have done1 := hdone.later hw1 hown.lt
      have B1 := hb.trans (hw1.mono hb.size)
      have R1 := own1.sets (nine p y) (k * 9)
      have R2 := done1.step own1 (by omega) huk (hy.lower hown.lt)
      have R3 := Below.sets (nine p y) (k * 9) B1 (Nat.le_refl _)
      have hn : k * 9 + 9 ≤ ps.length * 9 := by omega
      obtain ⟨v0, c0⟩ := own1.cell (i := k * 9) (by omega)
      obtain ⟨v1, c1⟩ := own1.cell (i := k * 9 + 1) (by omega)
      obtain ⟨v2, c2⟩ := own1.cell (i := k * 9 + 2) (by omega)
      obtain ⟨v3, c3⟩ := own1.cell (i := k * 9 + 3) (by omega)
      obtain ⟨v4, c4⟩ := own1.cell (i := k * 9 + 4) (by omega)
      obtain ⟨v5, c5⟩ := own1.cell (i := k * 9 + 5) (by omega)
      obtain ⟨v6, c6⟩ := own1.cell (i := k * 9 + 6) (by omega)
      obtain ⟨v7, c7⟩ := own1.cell (i := k * 9 + 7) (by omega)
      obtain ⟨v8, c8⟩ := own1.cell (i := k * 9 + 8) (by omega)
      have f0 := own1.frozen
      clear hown hdone hb own1 done1 B1 hw1 p0 p1 p2 p3 p4 p5 p6 p7 p8 hin hy
      unfold Pd.cells
      go_wp2_with fail
      go_roundw
      case rel => exact ⟨k + 1, by omega, by go_num, R1, R2, R3⟩
      case measure => simp [intOf]; omega
    · go_wp2_with fail
      go_ret
      obtain rfl : k = ps.length := by omega
      exact ⟨rfl, hdone.all hown (Nat.le_refl _), hb⟩

set_option maxHeartbeats 400000 in
theorem toCode_any (ao : Option Addr) (cap : Nat) (ps : List Pd) (w : World) (hm : ps.length ≤ 1048576) (hz : ∀ p ∈ ps, PFew p) (hu : ProtosAt 0 w ao ps) :
    Calls Tryz.prog 14 #[.agg #[.slice ao ps.length cap]] w fun e w' => ∃ g, e = .returned (.agg #[.slice (some ⟨g, 0, none⟩) ps.length ps.length]) ∧ ProtosAt w.heap.size w' (some ⟨g, 0, none⟩) ps ∧ Below w.heap.size w w' := by
  have hb3 : ∀ o1 o2 o3, Below w.heap.size w (((w.alloc o1).alloc o2).alloc o3) := fun o1 o2 o3 => (((Below.refl _ _).alloc (Nat.le_refl _) o1).alloc (by simp) o2).alloc (by simp; omega) o3
  go_enter Tryz.func14, Tryz.ntmps14
  go_wp2_with fail
  refine (toProtoS_any ao cap ps _ hm hz (hu.later (Keeps.of_below (hb3 _ _ _)))).mono ?_
  rintro e w1 ⟨rfl, q1, hw1⟩
  obtain ⟨k1, k2⟩ := bcell hw1
  have s1 : w.heap.size + 1 + 1 + 1 ≤ w1.heap.size := by have := hw1.size; simpa using this
  have B1 := (hb3 _ _ _).trans (hw1.mono (by simp; omega))
  have q1 : ProtosAt (w.heap.size + 1 + 1 + 1) w1 (some ⟨w.heap.size + 1 + 1 + 1, 0, none⟩) ps := by simpa using q1
  go_wp2_with fail
  refine bodyPost_ret (v := .agg #[.slice (some ⟨w.heap.size + 1 + 1 + 1, 0, none⟩) ps.length ps.length]) ?_ rfl ⟨_, rfl, ?_, ?_⟩
  · simp [results, Tryz.results14, go_sem, k1]
  · refine ProtosAt.lower (lo := w.heap.size + 1 + 1 + 1) (ProtosAt.later q1 ?_) (by omega)
    iterate 2 (refine Keeps.setCell ?_ (by simp; try omega) _)
    exact Keeps.refl _ w1
  · iterate 2 (refine Below.setCell ?_ (by simp; try omega) _)
    exact B1
end Go.Proofs.YtmfippfnhcphhaaGreatDoor

namespace Go.Proofs.YtmfippfnhcphhaaGreatDoor

theorem read_zero : FloatKind.f64.format.read 0 = .number false 0 (FloatKind.f64.format.leastPlace) := by decide +kernel

theorem signed_zero {s : Bool} {m k : Nat} (h : Ieee.signed s m k = 0) : m = 0 := by
  unfold Ieee.signed at h
  rw [Nat.shiftLeft_eq] at h
  have hp : 0 < 2 ^ k := Nat.two_pow_pos k
  have h2 : m * 2 ^ k = 0 := by split at h <;> omega
  rcases Nat.mul_eq_zero.1 h2 with h3 | h3
  · exact h3
  · omega

theorem zero_bits (x : Nat) (hx : x < 18446744073709551616) (h : (FloatKind.f64.format.order x 0 == some .eq) = true) : x = 0 ∨ x = 9223372036854775808 := by
  have h : FloatKind.f64.format.order x 0 = some .eq := by simpa using h
  unfold Ieee.Format.order at h
  rw [read_zero] at h
  have num : ∀ s m i, (Ieee.Datum.number s m i).order (.number false 0 (FloatKind.f64.format.leastPlace)) = some .eq → m = 0 := by
    intro s m i h
    simp only [Ieee.Datum.order, Option.some.injEq] at h
    have h2 := Std.LawfulEqOrd.eq_of_compare h
    have h3 : ∀ k, Ieee.signed false 0 k = 0 := by intro k; simp [Ieee.signed]
    rw [h3] at h2
    exact signed_zero h2
  have e1 : FloatKind.f64.format.signWeight = 9223372036854775808 := by decide +kernel
  have e2 : FloatKind.f64.format.binade = 4503599627370496 := by decide +kernel
  unfold Ieee.Format.read at h
  simp only [e1, e2] at h
  split at h
  · have := num _ _ _ h
    omega
  · split at h
    · have := num _ _ _ h
      omega
    · split at h
      · simp only [Ieee.Datum.order, Option.some.injEq] at h
        split at h <;> cases h
      · simp [Ieee.Datum.order] at h

def fOne : Nat := 4607182418800017408
theorem div_zero : floatBits .quo .f64 4607182418800017408 0 = some 9218868437227405312 := by decide +kernel
theorem div_minus : floatBits .quo .f64 4607182418800017408 9223372036854775808 = some 18442240474082181120 := by decide +kernel
theorem pos_inf : (FloatKind.f64.format.order 9218868437227405312 0 == some .gt) = true := by decide +kernel
theorem neg_inf : (FloatKind.f64.format.order 18442240474082181120 0 == some .gt) = false := by decide +kernel
end Go.Proofs.YtmfippfnhcphhaaGreatDoor
