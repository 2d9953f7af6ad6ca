import Derived.Test.YtmfippfnhcphhaaGreatDoorC07
namespace Go.Proofs.YtmfippfnhcphhaaGreatDoor
open Go.RowKit Go.Deep

/-- The roles of the fields of each operation, as the table lays them. -/
def formTab : List (List Nat) := [[0, 0, 0, 0], [1, 0, 0, 0], [2, 0, 0, 0], [0, 0, 0, 0], [20, 3, 0, 0], [20, 12, 0, 0], [21, 12, 0, 0], [20, 15, 0, 0], [15, 12, 0, 0], [20, 4, 0, 0], [4, 12, 0, 0], [20, 5, 0, 0], [20, 0, 0, 0], [14, 12, 12, 0], [14, 12, 13, 0], [20, 12, 12, 0], [12, 12, 12, 0], [20, 6, 12, 0], [20, 7, 12, 12], [11, 0, 0, 0], [12, 11, 0, 0], [12, 11, 0, 0], [22, 0, 0, 0], [16, 12, 0, 0], [16, 13, 0, 0], [20, 13, 0, 0], [20, 16, 8, 0], [22, 16, 0, 0], [22, 12, 13, 0], [13, 0, 0, 0], [12, 0, 0, 0], [11, 10, 0, 0], [0, 0, 0, 0], [9, 0, 0, 0], [9, 0, 0, 0], [12, 13, 0, 0], [0, 0, 0, 0], [18, 0, 0, 0], [18, 11, 0, 0], [18, 11, 0, 0], [23, 0, 0, 0], [17, 11, 22, 0], [19, 0, 0, 0]]
def formOf (op : Nat) : List Nat := formTab.getD op []
theorem form_four {n : Nat} (h2 : n ≤ 42) : ∃ r0 r1 r2 r3, formOf n = [r0, r1, r2, r3] ∧ r0 ≤ 23 ∧ r1 ≤ 23 ∧ r2 ≤ 23 ∧ r3 ≤ 23 := by
  have h : ∀ k, k < 43 → (formOf k).length = 4 ∧ ∀ r ∈ formOf k, r ≤ 23 := by decide
  obtain ⟨hl, hr⟩ := h n (by omega)
  match hm : formOf n, hl, hr with
  | [r0, r1, r2, r3], _, hr => exact ⟨r0, r1, r2, r3, rfl, hr _ (by simp), hr _ (by simp), hr _ (by simp), hr _ (by simp)⟩

/-- The table lies where the program laid it. -/
structure Forms (w : World) : Prop where
  lt : 1 < w.heap.size
  at_ : ∀ (op j r : Nat), (formOf op)[j]? = some r → w.cell? ⟨1, op * 4 + j, none⟩ = some (.int .i64 r)
theorem Forms.later {w w' : World} (h : Forms w) (hb : Below w.heap.size w w') : Forms w' :=
  ⟨Nat.lt_of_lt_of_le h.lt hb.size, fun op j r hr => (hb.cell (p := ⟨1, op * 4 + j, none⟩) h.lt).trans (h.at_ op j r hr)⟩

theorem fieldVal_iface (np : Nat) (p : Pd) (r : Nat) (x : Int) : ∃ t v, fieldVal np p r x = .iface t v := by
  unfold fieldVal
  split <;> exact ⟨_, _, rfl⟩

set_option maxRecDepth 100000 in
set_option maxHeartbeats 8000000 in
theorem fieldsOf_any (ao : Option Addr) (cap np : Nat) (p : Pd) (h : Ph) (n : Nd) (op f0 f1 f2 f3 : Nat) (w : World) (hop : n.op = op) (h42 : op ≤ 42) (hfo : formOf op = [f0, f1, f2, f3]) (g0 : f0 ≤ 23) (g1 : f1 ≤ 23) (g2 : f2 ≤ 23) (g3 : f3 ≤ 23) (hz : PFew p) (hm : np ≤ 1048576) (hr : 0 ≤ p.regs ∧ p.regs ≤ 250) (hF : Forms w) :
    Calls Tryz.prog 139 #[.agg #[.slice ao np cap], .agg (p.cells h), n.val] w fun e w' => e = .returned (.agg #[fieldVal np p f0 n.a, fieldVal np p f1 n.b, fieldVal np p f2 n.c, fieldVal np p f3 n.d]) ∧ Below w.heap.size w w' := by
  have hfld := fun r x w hro => fieldOf_any ao cap np p h r x w hz hm hr hro
  obtain ⟨x0, x1, x2, x3, x4⟩ := n
  obtain ⟨t0, v0, e0⟩ := fieldVal_iface np p f0 x1
  obtain ⟨t1, v1, e1⟩ := fieldVal_iface np p f1 x2
  obtain ⟨t2, v2, e2⟩ := fieldVal_iface np p f2 x3
  obtain ⟨t3, v3, e3⟩ := fieldVal_iface np p f3 x4
  have h0 := fun w => hfld f0 x1 w g0
  have h1 := fun w => hfld f1 x2 w g1
  have h2 := fun w => hfld f2 x3 w g2
  have h3 := fun w => hfld f3 x4 w g3
  dsimp only at *
  rw [e0, e1, e2, e3]
  simp only [e0] at h0
  simp only [e1] at h1
  simp only [e2] at h2
  simp only [e3] at h3
  clear e0 e1 e2 e3 hfld hz hr
  obtain ⟨nm, ln, pa, re, rg, us, cs, is, ms⟩ := p
  obtain ⟨uo, uc, co, cc, io, ic, no, nc⟩ := h
  dsimp only [Pd.cells, Nd.val] at *
  subst hop
  have H0 : Hid _ := h0
  have H1 : Hid _ := h1
  have H2 : Hid _ := h2
  have H3 : Hid _ := h3
  clear h0 h1 h2 h3
  have HW : ∀ o1 o2 o3 o4, Below w.heap.size w ((((w.alloc o1).alloc o2).alloc o3).alloc o4) := fun o1 o2 o3 o4 => ((((Below.refl _ _).alloc (Nat.le_refl _) o1).alloc (by simp) o2).alloc (by simp; omega) o3).alloc (by simp; omega) o4
  have HW5 : ∀ o1 o2 o3 o4 o5, Below w.heap.size w (((((w.alloc o1).alloc o2).alloc o3).alloc o4).alloc o5) := fun o1 o2 o3 o4 o5 => (HW o1 o2 o3 o4).alloc (by simp; omega) o5
  have c0 := fun o1 o2 o3 o4 => (hF.later (HW o1 o2 o3 o4)).at_ op 0 f0 (by rw [hfo]; rfl)
  have c1 := fun o1 o2 o3 o4 => (hF.later (HW o1 o2 o3 o4)).at_ op 1 f1 (by rw [hfo]; rfl)
  have c2 := fun o1 o2 o3 o4 => (hF.later (HW o1 o2 o3 o4)).at_ op 2 f2 (by rw [hfo]; rfl)
  have c3 := fun o1 o2 o3 o4 => (hF.later (HW o1 o2 o3 o4)).at_ op 3 f3 (by rw [hfo]; rfl)
  simp only [Nat.add_zero] at c0
  clear hF hfo
  have hcells : ∀ (w' : World), Blk w' w.heap.size #[.slice ao np cap] 25 → Blk w' (w.heap.size + 1) #[.string nm, .int .i64 ln, .int .i64 pa, .bool re, .int .i64 rg, .slice uo us.length uc, .slice co cs.length cc, .slice io is.length ic, .slice no ms.length nc] 43 → Blk w' (w.heap.size + 1 + 1) #[.int .i64 op, .int .i64 x1, .int .i64 x2, .int .i64 x3, .int .i64 x4] 47 → Blk w' (w.heap.size + 1 + 1 + 1 + 1) #[.int .i64 f0, .int .i64 f1, .int .i64 f2, .int .i64 f3] 269 → w'.cell? ⟨w.heap.size, 0, none⟩ = some (.slice ao np cap) ∧ w'.cell? ⟨w.heap.size + 1, 0, none⟩ = some (.string nm) ∧ w'.cell? ⟨w.heap.size + 1, 1, none⟩ = some (.int .i64 ln) ∧ w'.cell? ⟨w.heap.size + 1, 2, none⟩ = some (.int .i64 pa) ∧ w'.cell? ⟨w.heap.size + 1, 3, none⟩ = some (.bool re) ∧ w'.cell? ⟨w.heap.size + 1, 4, none⟩ = some (.int .i64 rg) ∧ w'.cell? ⟨w.heap.size + 1, 5, none⟩ = some (.slice uo us.length uc) ∧ w'.cell? ⟨w.heap.size + 1, 6, none⟩ = some (.slice co cs.length cc) ∧ w'.cell? ⟨w.heap.size + 1, 7, none⟩ = some (.slice io is.length ic) ∧ w'.cell? ⟨w.heap.size + 1, 8, none⟩ = some (.slice no ms.length nc) ∧ w'.cell? ⟨w.heap.size + 1 + 1, 0, none⟩ = some (.int .i64 op) ∧ w'.cell? ⟨w.heap.size + 1 + 1, 1, none⟩ = some (.int .i64 x1) ∧ w'.cell? ⟨w.heap.size + 1 + 1, 2, none⟩ = some (.int .i64 x2) ∧ w'.cell? ⟨w.heap.size + 1 + 1, 3, none⟩ = some (.int .i64 x3) ∧ w'.cell? ⟨w.heap.size + 1 + 1, 4, none⟩ = some (.int .i64 x4) ∧ w'.cell? ⟨w.heap.size + 1 + 1 + 1 + 1, 0, none⟩ = some (.int .i64 f0) ∧ w'.cell? ⟨w.heap.size + 1 + 1 + 1 + 1, 1, none⟩ = some (.int .i64 f1) ∧ w'.cell? ⟨w.heap.size + 1 + 1 + 1 + 1, 2, none⟩ = some (.int .i64 f2) ∧ w'.cell? ⟨w.heap.size + 1 + 1 + 1 + 1, 3, none⟩ = some (.int .i64 f3) := by
    intro w' h1 h2 h3 h4
    exact ⟨h1.cell 0, h2.cell 0, h2.cell 1, h2.cell 2, h2.cell 3, h2.cell 4, h2.cell 5, h2.cell 6, h2.cell 7, h2.cell 8, h3.cell 0, h3.cell 1, h3.cell 2, h3.cell 3, h3.cell 4, h4.cell 0, h4.cell 1, h4.cell 2, h4.cell 3⟩
  have HC : Hid _ := hcells
  clear hcells
  have K0 : Blk (((((w.alloc (.cells #[.slice ao np cap] 25)).alloc (.cells #[.string nm, .int .i64 ln, .int .i64 pa, .bool re, .int .i64 rg, .slice uo us.length uc, .slice co cs.length cc, .slice io is.length ic, .slice no ms.length nc] 43)).alloc (.cells #[.int .i64 op, .int .i64 x1, .int .i64 x2, .int .i64 x3, .int .i64 x4] 47)).alloc (.cells #[.nilIface, .nilIface, .nilIface, .nilIface] 208)).alloc (.cells #[.int .i64 f0, .int .i64 f1, .int .i64 f2, .int .i64 f3] 269)).drew w.heap.size #[.slice ao np cap] 25 ∧ Blk (((((w.alloc (.cells #[.slice ao np cap] 25)).alloc (.cells #[.string nm, .int .i64 ln, .int .i64 pa, .bool re, .int .i64 rg, .slice uo us.length uc, .slice co cs.length cc, .slice io is.length ic, .slice no ms.length nc] 43)).alloc (.cells #[.int .i64 op, .int .i64 x1, .int .i64 x2, .int .i64 x3, .int .i64 x4] 47)).alloc (.cells #[.nilIface, .nilIface, .nilIface, .nilIface] 208)).alloc (.cells #[.int .i64 f0, .int .i64 f1, .int .i64 f2, .int .i64 f3] 269)).drew (w.heap.size + 1) #[.string nm, .int .i64 ln, .int .i64 pa, .bool re, .int .i64 rg, .slice uo us.length uc, .slice co cs.length cc, .slice io is.length ic, .slice no ms.length nc] 43 ∧ Blk (((((w.alloc (.cells #[.slice ao np cap] 25)).alloc (.cells #[.string nm, .int .i64 ln, .int .i64 pa, .bool re, .int .i64 rg, .slice uo us.length uc, .slice co cs.length cc, .slice io is.length ic, .slice no ms.length nc] 43)).alloc (.cells #[.int .i64 op, .int .i64 x1, .int .i64 x2, .int .i64 x3, .int .i64 x4] 47)).alloc (.cells #[.nilIface, .nilIface, .nilIface, .nilIface] 208)).alloc (.cells #[.int .i64 f0, .int .i64 f1, .int .i64 f2, .int .i64 f3] 269)).drew (w.heap.size + 1 + 1) #[.int .i64 op, .int .i64 x1, .int .i64 x2, .int .i64 x3, .int .i64 x4] 47 ∧ Blk (((((w.alloc (.cells #[.slice ao np cap] 25)).alloc (.cells #[.string nm, .int .i64 ln, .int .i64 pa, .bool re, .int .i64 rg, .slice uo us.length uc, .slice co cs.length cc, .slice io is.length ic, .slice no ms.length nc] 43)).alloc (.cells #[.int .i64 op, .int .i64 x1, .int .i64 x2, .int .i64 x3, .int .i64 x4] 47)).alloc (.cells #[.nilIface, .nilIface, .nilIface, .nilIface] 208)).alloc (.cells #[.int .i64 f0, .int .i64 f1, .int .i64 f2, .int .i64 f3] 269)).drew (w.heap.size + 1 + 1 + 1) #[.nilIface, .nilIface, .nilIface, .nilIface] 208 ∧ Blk (((((w.alloc (.cells #[.slice ao np cap] 25)).alloc (.cells #[.string nm, .int .i64 ln, .int .i64 pa, .bool re, .int .i64 rg, .slice uo us.length uc, .slice co cs.length cc, .slice io is.length ic, .slice no ms.length nc] 43)).alloc (.cells #[.int .i64 op, .int .i64 x1, .int .i64 x2, .int .i64 x3, .int .i64 x4] 47)).alloc (.cells #[.nilIface, .nilIface, .nilIface, .nilIface] 208)).alloc (.cells #[.int .i64 f0, .int .i64 f1, .int .i64 f2, .int .i64 f3] 269)).drew (w.heap.size + 1 + 1 + 1 + 1) #[.int .i64 f0, .int .i64 f1, .int .i64 f2, .int .i64 f3] 269 := by
    have a1 := Blk.new w #[.slice ao np cap] 25
    have a2 := Blk.new (w.alloc (.cells #[.slice ao np cap] 25)) #[.string nm, .int .i64 ln, .int .i64 pa, .bool re, .int .i64 rg, .slice uo us.length uc, .slice co cs.length cc, .slice io is.length ic, .slice no ms.length nc] 43
    have a3 := Blk.new ((w.alloc (.cells #[.slice ao np cap] 25)).alloc (.cells #[.string nm, .int .i64 ln, .int .i64 pa, .bool re, .int .i64 rg, .slice uo us.length uc, .slice co cs.length cc, .slice io is.length ic, .slice no ms.length nc] 43)) #[.int .i64 op, .int .i64 x1, .int .i64 x2, .int .i64 x3, .int .i64 x4] 47
    have a4 := Blk.new (((w.alloc (.cells #[.slice ao np cap] 25)).alloc (.cells #[.string nm, .int .i64 ln, .int .i64 pa, .bool re, .int .i64 rg, .slice uo us.length uc, .slice co cs.length cc, .slice io is.length ic, .slice no ms.length nc] 43)).alloc (.cells #[.int .i64 op, .int .i64 x1, .int .i64 x2, .int .i64 x3, .int .i64 x4] 47)) #[.nilIface, .nilIface, .nilIface, .nilIface] 208
    have a5 := Blk.new ((((w.alloc (.cells #[.slice ao np cap] 25)).alloc (.cells #[.string nm, .int .i64 ln, .int .i64 pa, .bool re, .int .i64 rg, .slice uo us.length uc, .slice co cs.length cc, .slice io is.length ic, .slice no ms.length nc] 43)).alloc (.cells #[.int .i64 op, .int .i64 x1, .int .i64 x2, .int .i64 x3, .int .i64 x4] 47)).alloc (.cells #[.nilIface, .nilIface, .nilIface, .nilIface] 208)) #[.int .i64 f0, .int .i64 f1, .int .i64 f2, .int .i64 f3] 269
    simp only [nblk_alloc] at a2 a3 a4 a5
    exact ⟨(((a1.alloc _).alloc _).alloc _).alloc _, ((a2.alloc _).alloc _).alloc _, (a3.alloc _).alloc _, a4.alloc _, a5⟩
  have HK : Hid _ := K0
  clear K0
  have HB0 : Hid (Below w.heap.size w (((((w.alloc (.cells #[.slice ao np cap] 25)).alloc (.cells #[.string nm, .int .i64 ln, .int .i64 pa, .bool re, .int .i64 rg, .slice uo us.length uc, .slice co cs.length cc, .slice io is.length ic, .slice no ms.length nc] 43)).alloc (.cells #[.int .i64 op, .int .i64 x1, .int .i64 x2, .int .i64 x3, .int .i64 x4] 47)).alloc (.cells #[.nilIface, .nilIface, .nilIface, .nilIface] 208)).alloc (.cells #[.int .i64 f0, .int .i64 f1, .int .i64 f2, .int .i64 f3] 269)).drew) := (HW5 _ _ _ _ _).drew
  clear HW HW5
  go_enter Tryz.func139, Tryz.ntmps139
  go_wp2_with fail
  clear c0 c1 c2 c3
  obtain ⟨e_0, e_1, e_2, e_3, e_4, e_5, e_6, e_7, e_8, e_9, e_10, e_11, e_12, e_13, e_14, e_15, e_16, e_17, e_18⟩ := HC.out (((((w.alloc (.cells #[.slice ao np cap] 25)).alloc (.cells #[.string nm, .int .i64 ln, .int .i64 pa, .bool re, .int .i64 rg, .slice uo us.length uc, .slice co cs.length cc, .slice io is.length ic, .slice no ms.length nc] 43)).alloc (.cells #[.int .i64 op, .int .i64 x1, .int .i64 x2, .int .i64 x3, .int .i64 x4] 47)).alloc (.cells #[.nilIface, .nilIface, .nilIface, .nilIface] 208)).alloc (.cells #[.int .i64 f0, .int .i64 f1, .int .i64 f2, .int .i64 f3] 269)).drew HK.out.1 HK.out.2.1 HK.out.2.2.1 HK.out.2.2.2.2
  go_region_held3 (fun w' => w'.cell? ⟨w.heap.size, 0, none⟩ = some (.slice ao np cap) ∧ w'.cell? ⟨w.heap.size + 1, 0, none⟩ = some (.string nm) ∧ w'.cell? ⟨w.heap.size + 1, 1, none⟩ = some (.int .i64 ln) ∧ w'.cell? ⟨w.heap.size + 1, 2, none⟩ = some (.int .i64 pa) ∧ w'.cell? ⟨w.heap.size + 1, 3, none⟩ = some (.bool re) ∧ w'.cell? ⟨w.heap.size + 1, 4, none⟩ = some (.int .i64 rg) ∧ w'.cell? ⟨w.heap.size + 1, 5, none⟩ = some (.slice uo us.length uc) ∧ w'.cell? ⟨w.heap.size + 1, 6, none⟩ = some (.slice co cs.length cc) ∧ w'.cell? ⟨w.heap.size + 1, 7, none⟩ = some (.slice io is.length ic) ∧ w'.cell? ⟨w.heap.size + 1, 8, none⟩ = some (.slice no ms.length nc) ∧ w'.cell? ⟨w.heap.size + 1 + 1, 0, none⟩ = some (.int .i64 op) ∧ w'.cell? ⟨w.heap.size + 1 + 1, 1, none⟩ = some (.int .i64 x1) ∧ w'.cell? ⟨w.heap.size + 1 + 1, 2, none⟩ = some (.int .i64 x2) ∧ w'.cell? ⟨w.heap.size + 1 + 1, 3, none⟩ = some (.int .i64 x3) ∧ w'.cell? ⟨w.heap.size + 1 + 1, 4, none⟩ = some (.int .i64 x4) ∧ w'.cell? ⟨w.heap.size + 1 + 1 + 1 + 1, 0, none⟩ = some (.int .i64 f0) ∧ w'.cell? ⟨w.heap.size + 1 + 1 + 1 + 1, 1, none⟩ = some (.int .i64 f1) ∧ w'.cell? ⟨w.heap.size + 1 + 1 + 1 + 1, 2, none⟩ = some (.int .i64 f2) ∧ w'.cell? ⟨w.heap.size + 1 + 1 + 1 + 1, 3, none⟩ = some (.int .i64 f3)) (first | (go_keep; done) | (simp +arith [*, World.cell?_setCell_far]; done))
    (first
      | (go_at_call_of 188 (Value.int IntKind.i64 x1); refine (H0.out _).mono ?_; rintro e w1 ⟨rfl, hw1⟩; have B1 := HB0.out.trans (hw1.mono HB0.out.size); have K1 := And.intro (HK.out.1.later hw1) (And.intro (HK.out.2.1.later hw1) (And.intro (HK.out.2.2.1.later hw1) (And.intro (HK.out.2.2.2.1.later hw1) (HK.out.2.2.2.2.later hw1)))); obtain ⟨d1_0, d1_1, d1_2, d1_3, d1_4, d1_5, d1_6, d1_7, d1_8, d1_9, d1_10, d1_11, d1_12, d1_13, d1_14, d1_15, d1_16, d1_17, d1_18⟩ := HC.out w1 K1.1 K1.2.1 K1.2.2.1 K1.2.2.2.2)
      | (go_at_call_of 188 (Value.int IntKind.i64 x2); refine (H1.out _).mono ?_; rintro e w2 ⟨rfl, hw2⟩; have B2 := B1.trans (hw2.mono B1.size); have K2 := And.intro (K1.1.later hw2) (And.intro (K1.2.1.later hw2) (And.intro (K1.2.2.1.later hw2) (And.intro (K1.2.2.2.1.later hw2) (K1.2.2.2.2.later hw2)))); obtain ⟨d2_0, d2_1, d2_2, d2_3, d2_4, d2_5, d2_6, d2_7, d2_8, d2_9, d2_10, d2_11, d2_12, d2_13, d2_14, d2_15, d2_16, d2_17, d2_18⟩ := HC.out w2 K2.1 K2.2.1 K2.2.2.1 K2.2.2.2.2)
      | (go_at_call_of 188 (Value.int IntKind.i64 x3); refine (H2.out _).mono ?_; rintro e w3 ⟨rfl, hw3⟩; have B3 := B2.trans (hw3.mono B2.size); have K3 := And.intro (K2.1.later hw3) (And.intro (K2.2.1.later hw3) (And.intro (K2.2.2.1.later hw3) (And.intro (K2.2.2.2.1.later hw3) (K2.2.2.2.2.later hw3)))); obtain ⟨d3_0, d3_1, d3_2, d3_3, d3_4, d3_5, d3_6, d3_7, d3_8, d3_9, d3_10, d3_11, d3_12, d3_13, d3_14, d3_15, d3_16, d3_17, d3_18⟩ := HC.out w3 K3.1 K3.2.1 K3.2.2.1 K3.2.2.2.2)
      | (go_at_call_of 188 (Value.int IntKind.i64 x4); refine (H3.out _).mono ?_; rintro e w4 ⟨rfl, hw4⟩; have B4 := B3.trans (hw4.mono B3.size); have K4 := And.intro (K3.1.later hw4) (And.intro (K3.2.1.later hw4) (And.intro (K3.2.2.1.later hw4) (And.intro (K3.2.2.2.1.later hw4) (K3.2.2.2.2.later hw4)))); obtain ⟨d4_0, d4_1, d4_2, d4_3, d4_4, d4_5, d4_6, d4_7, d4_8, d4_9, d4_10, d4_11, d4_12, d4_13, d4_14, d4_15, d4_16, d4_17, d4_18⟩ := HC.out w4 K4.1 K4.2.1 K4.2.2.1 K4.2.2.2.2; have z4 := K4.2.2.2.1.cell; have zf4 := K4.2.2.2.1.frozen))
  clear e_0 e_1 e_2 e_3 e_4 e_5 e_6 e_7 e_8 e_9 e_10 e_11 e_12 e_13 e_14 e_15 e_16 e_17 e_18
  go_wp2_with fail
  refine bodyPost_ret (v := .agg #[.iface t0 v0, .iface t1 v1, .iface t2 v2, .iface t3 v3]) ?_ rfl ⟨rfl, ?_⟩
  · simp [results, Tryz.results139, go_sem, z4]
  · iterate 4 (refine Below.setCell ?_ (by simp; try omega) _)
    exact B4
end Go.Proofs.YtmfippfnhcphhaaGreatDoor

namespace Go.Proofs.YtmfippfnhcphhaaGreatDoor
open Go.RowKit Go.Deep

/-- What the fields of each operation are. -/
def roleTab : List (List Nat) := [[], [11, 0, 0, 0], [12, 0, 0, 0], [0, 0, 0, 0], [1, 7, 0, 0], [1, 2, 0, 0], [1, 2, 0, 0], [1, 5, 0, 0], [5, 2, 0, 0], [1, 8, 0, 0], [8, 2, 0, 0], [1, 9, 0, 0], [1, 0, 0, 0], [4, 2, 2, 0], [4, 2, 3, 0], [1, 2, 2, 0], [2, 2, 2, 0], [1, 15, 2, 0], [1, 16, 2, 2], [10, 0, 0, 0], [2, 10, 0, 0], [2, 10, 0, 0], [1, 0, 0, 0], [6, 2, 0, 0], [6, 3, 0, 0], [1, 3, 0, 0], [1, 6, 17, 0], [1, 6, 0, 0], [1, 2, 3, 0], [3, 0, 0, 0], [2, 0, 0, 0], [10, 14, 0, 0], [0, 0, 0, 0], [13, 0, 0, 0], [13, 0, 0, 0], [2, 3, 0, 0], [0, 0, 0, 0], [18, 0, 0, 0], [18, 10, 0, 0], [18, 10, 0, 0], [19, 0, 0, 0], [20, 10, 1, 0], [21, 0, 0, 0]]
def rolesOf (op : Nat) : List Nat := roleTab.getD op []

theorem ops_all (n : Nat) (h1 : 1 ≤ n) (h2 : n ≤ 42) : n = 1 ∨ n = 2 ∨ n = 3 ∨ n = 4 ∨ n = 5 ∨ n = 6 ∨ n = 7 ∨ n = 8 ∨ n = 9 ∨ n = 10 ∨ n = 11 ∨ n = 12 ∨ n = 13 ∨ n = 14 ∨ n = 15 ∨ n = 16 ∨ n = 17 ∨ n = 18 ∨ n = 19 ∨ n = 20 ∨ n = 21 ∨ n = 22 ∨ n = 23 ∨ n = 24 ∨ n = 25 ∨ n = 26 ∨ n = 27 ∨ n = 28 ∨ n = 29 ∨ n = 30 ∨ n = 31 ∨ n = 32 ∨ n = 33 ∨ n = 34 ∨ n = 35 ∨ n = 36 ∨ n = 37 ∨ n = 38 ∨ n = 39 ∨ n = 40 ∨ n = 41 ∨ n = 42 := by omega

set_option maxRecDepth 100000 in
set_option maxHeartbeats 4000000 in
theorem l3roles_any (n r0 r1 r2 r3 : Nat) (w : World) (h1 : 1 ≤ n) (h2 : n ≤ 42) (hr : rolesOf n = [r0, r1, r2, r3]) :
    Calls Tryz.prog 123 #[.int .i64 n] w fun e w' => e = .returned (.slice (some ⟨w.heap.size, 0, none⟩) 4 4) ∧ w' = w.alloc (.cells #[.int .i64 r0, .int .i64 r1, .int .i64 r2, .int .i64 r3] 3) := by
  rcases ops_all n h1 h2 with rfl | rfl | rfl | rfl | rfl | rfl | rfl | rfl | rfl | rfl | rfl | rfl | rfl | rfl | rfl | rfl | rfl | rfl | rfl | rfl | rfl | rfl | rfl | rfl | rfl | rfl | rfl | rfl | rfl | rfl | rfl | rfl | rfl | rfl | rfl | rfl | rfl | rfl | rfl | rfl | rfl | rfl
  all_goals
    simp only [rolesOf, roleTab, List.getD_cons_succ, List.getD_cons_zero, List.cons.injEq, and_true] at hr
    obtain ⟨rfl, rfl, rfl, rfl⟩ := hr
    clear h1 h2
    go_enter Tryz.func123, Tryz.ntmps123
    go_wp2_with fail
    go_ret
    exact ⟨rfl, rfl⟩
end Go.Proofs.YtmfippfnhcphhaaGreatDoor

namespace Go.Proofs.YtmfippfnhcphhaaGreatDoor
open Go.RowKit Go.Deep

def fitAll (np : Nat) (p : Pd) : List Nat → List Int → Bool
  | r :: rs, x :: xs => fitsR np p r x && fitAll np p rs xs
  | _, _ => true
def Nd.fs (n : Nd) : List Int := [n.a, n.b, n.c, n.d]
def lastB (p : Pd) (i : Nat) (n : Nd) : Bool := !decide (i + 1 = p.ins.length) || (n.op == 19 || n.op == 29 || n.op == 30)
def insB (np : Nat) (p : Pd) (i : Nat) (n : Nd) : Bool := inR n.op 1 42 && (fitAll np p (rolesOf n.op.toNat) n.fs && lastB p i n)

theorem roles_four {n : Nat} (h1 : 1 ≤ n) (h2 : n ≤ 42) : ∃ r0 r1 r2 r3, rolesOf n = [r0, r1, r2, r3] ∧ r0 ≤ 21 ∧ r1 ≤ 21 ∧ r2 ≤ 21 ∧ r3 ≤ 21 := by
  have h : ∀ k, k < 43 → 1 ≤ k → (rolesOf k).length = 4 ∧ ∀ r ∈ rolesOf k, r ≤ 21 := by decide
  obtain ⟨hl, hr⟩ := h n (by omega) h1
  match hm : rolesOf n, hl, hr with
  | [r0, r1, r2, r3], _, hr => exact ⟨r0, r1, r2, r3, rfl, hr _ (by simp), hr _ (by simp), hr _ (by simp), hr _ (by simp)⟩

set_option maxHeartbeats 400000 in
theorem l3fields_any (n : Nd) (w : World) :
    Calls Tryz.prog 124 #[n.val] w fun e w' => ∃ g, e = .returned (.slice (some ⟨g, 0, none⟩) 4 4) ∧ Blk w' g #[.int .i64 n.a, .int .i64 n.b, .int .i64 n.c, .int .i64 n.d] 3 ∧ Below w.heap.size w w' := by
  obtain ⟨x0, x1, x2, x3, x4⟩ := n
  dsimp only [Nd.val]
  go_enter Tryz.func124, Tryz.ntmps124
  go_wp2_with fail
  go_ret
  refine ⟨w.heap.size + 1, rfl, ?_, ((Below.refl _ _).alloc (Nat.le_refl _) _).alloc (by simp) _⟩
  have := Blk.new (w.alloc (.cells #[.int .i64 x0, .int .i64 x1, .int .i64 x2, .int .i64 x3, .int .i64 x4] 47)) #[.int .i64 x1, .int .i64 x2, .int .i64 x3, .int .i64 x4] 3
  rwa [nblk_alloc] at this

set_option maxRecDepth 100000 in
set_option maxHeartbeats 400000 in
theorem l3roles_none (op : Int) (w : World) (h : inR op 1 42 = false) :
    Calls Tryz.prog 123 #[.int .i64 op] w fun e w' => e = .returned (.slice none 0 0) ∧ w' = w := by
  have hk : ∀ c : Int, 1 ≤ c → c ≤ 42 → (op == c) = false := by
    intro c h1 h2
    simp [inR] at h
    simp
    rintro rfl
    have := h h1
    omega
  clear h
  go_enter Tryz.func123, Tryz.ntmps123
  go_wp2_with fail
  go_ret
  exact ⟨rfl, rfl⟩

theorem fit_drop {np : Nat} {p : Pd} {rs : List Nat} {xs : List Int} {k r : Nat} {x : Int} (h1 : rs[k]? = some r) (h2 : xs[k]? = some x) : fitAll np p (rs.drop k) (xs.drop k) = (fitsR np p r x && fitAll np p (rs.drop (k + 1)) (xs.drop (k + 1))) := by
  rw [drop_some h1, drop_some h2]; rfl

theorem four_at (r0 r1 r2 r3 : Nat) (n : Nd) (k : Nat) (hk : k < 4) (g0 : r0 ≤ 21) (g1 : r1 ≤ 21) (g2 : r2 ≤ 21) (g3 : r3 ≤ 21) : ∃ (r : Nat) (x : Int), r ≤ 21 ∧ [r0, r1, r2, r3][k]? = some r ∧ n.fs[k]? = some x ∧
    (#[.int .i64 r0, .int .i64 r1, .int .i64 r2, .int .i64 r3] : Array Value)[k]? = some (.int .i64 r) ∧ (#[.int .i64 n.a, .int .i64 n.b, .int .i64 n.c, .int .i64 n.d] : Array Value)[k]? = some (.int .i64 x) := by
  rcases (by omega : k = 0 ∨ k = 1 ∨ k = 2 ∨ k = 3) with rfl | rfl | rfl | rfl
  · exact ⟨r0, n.a, g0, rfl, rfl, rfl, rfl⟩
  · exact ⟨r1, n.b, g1, rfl, rfl, rfl, rfl⟩
  · exact ⟨r2, n.c, g2, rfl, rfl, rfl, rfl⟩
  · exact ⟨r3, n.d, g3, rfl, rfl, rfl, rfl⟩

set_option maxRecDepth 100000 in
set_option maxHeartbeats 4000000 in
theorem l3insOk_any (ao : Option Addr) (cap : Nat) (ps : List Pd) (i : Nat) (p : Pd) (j : Nat) (n : Nd) (w : World) (hi : ps[i]? = some p) (hj : p.ins[j]? = some n) (hz : PFew p) (hm : ps.length ≤ 1048576) (hr : 0 ≤ p.regs ∧ p.regs ≤ 250) (hv : ProtosAt 0 w ao ps) :
    Calls Tryz.prog 120 #[.agg #[.slice ao ps.length cap], .int .i64 i, .int .i64 j] w fun e w' => e = .returned (.bool (insB ps.length p j n)) ∧ Below w.heap.size w w' := by
  have hlt : i < ps.length := (List.getElem?_eq_some_iff.1 hi).1
  have hltj : j < p.ins.length := (List.getElem?_eq_some_iff.1 hj).1
  have hb2 : ∀ o1 o2, Below w.heap.size w ((w.alloc o1).alloc o2) := fun o1 o2 => ((Below.refl _ _).alloc (Nat.le_refl _) o1).alloc (by simp) o2
  have hb1 : ∀ o, Below w.heap.size w (w.alloc o) := fun o => (Below.refl _ _).alloc (Nat.le_refl _) o
  obtain ⟨b, off, e0, _, hbl, h, n1, i1⟩ := hv i p hi
  obtain ⟨b', off', e1, _, hbl', q0, q1, q2, q3, q4⟩ := i1.ins j n hj
  have hzl := hz.ins
  subst e0
  obtain ⟨p0, p1, p2, p3, p4, p5, p6, p7, p8⟩ := n1
  rw [e1] at p7
  have hp7 := fun o => ((bcell (hb1 o)).1 b (off + i * 9 + 7) hbl).trans p7
  clear p0 p1 p2 p3 p4 p5 p6 p8 e1 i1
  cases hop : inR n.op 1 42
  · have E0 : Hid (insB ps.length p j n = false) := by show _ = _; unfold insB; rw [hop]; rfl
    go_enter Tryz.func120, Tryz.ntmps120
    go_wp2_with fail
    refine (l3roles_none n.op _ hop).mono ?_
    rintro e w1 ⟨rfl, rfl⟩
    go_wp2_with fail
    go_ret
    exact ⟨ret_bool E0.out.symm, hb2 _ _⟩
  · have hop2 : 1 ≤ n.op ∧ n.op ≤ 42 := by simpa [inR] using hop
    obtain ⟨op, hopn⟩ := Int.eq_ofNat_of_zero_le (by omega : 0 ≤ n.op)
    obtain ⟨r0, r1, r2, r3, hrs, g0, g1, g2, g3⟩ := roles_four (n := op) (by omega) (by omega)
    have E0 : Hid (insB ps.length p j n = (fitAll ps.length p [r0, r1, r2, r3] n.fs && lastB p j n)) := by show _ = _; unfold insB; rw [hop, hopn, Int.toNat_natCast, hrs]; rfl
    rw [hopn] at q0
    go_enter Tryz.func120, Tryz.ntmps120
    go_wp2_with fail
    refine (l3roles_any op r0 r1 r2 r3 _ (by omega) (by omega) hrs).mono ?_
    rintro e w1 ⟨rfl, rfl⟩
    have hb3 : ∀ o1 o2 o3, Below w.heap.size w (((w.alloc o1).alloc o2).alloc o3) := fun o1 o2 o3 => (hb2 o1 o2).alloc (by simp; omega) o3
    have C0 := ((Blk.new w #[.slice (some ⟨b, off, none⟩) ps.length cap] 25).alloc (.cells #[.int .i64 op, .int .i64 n.a, .int .i64 n.b, .int .i64 n.c, .int .i64 n.d] 47)).alloc (.cells #[.int .i64 r0, .int .i64 r1, .int .i64 r2, .int .i64 r3] 3)
    have N0 := (Blk.new (w.alloc (.cells #[.slice (some ⟨b, off, none⟩) ps.length cap] 25)) #[.int .i64 op, .int .i64 n.a, .int .i64 n.b, .int .i64 n.c, .int .i64 n.d] 47).alloc (.cells #[.int .i64 r0, .int .i64 r1, .int .i64 r2, .int .i64 r3] 3)
    rw [nblk_alloc] at N0
    have R0 := Blk.new ((w.alloc (.cells #[.slice (some ⟨b, off, none⟩) ps.length cap] 25)).alloc (.cells #[.int .i64 op, .int .i64 n.a, .int .i64 n.b, .int .i64 n.c, .int .i64 n.d] 47)) #[.int .i64 r0, .int .i64 r1, .int .i64 r2, .int .i64 r3] 3
    rw [nblk_alloc, nblk_alloc] at R0
    go_wp2_with fail
    refine (l3fields_any ⟨op, n.a, n.b, n.c, n.d⟩ _).mono ?_
    rintro e w1 ⟨g, rfl, G1, hw1⟩
    have B1 := (hb3 _ _ _).trans (hw1.mono (by simp; omega))
    have C1 := C0.later hw1
    have N1 := N0.later hw1
    have R1 := R0.later hw1
    clear C0 N0 R0 hw1
    go_wp2_with fail
    go_loopw [30] (fun y wr => ∃ k : Nat, k ≤ 4 ∧ y = .int .i64 k ∧ Hid (fitAll ps.length p ([r0, r1, r2, r3].drop k) (n.fs.drop k) = fitAll ps.length p [r0, r1, r2, r3] n.fs) ∧ Below w.heap.size w wr ∧ Blk wr w.heap.size #[.slice (some ⟨b, off, none⟩) ps.length cap] 25 ∧ Blk wr (w.heap.size + 1) #[.int .i64 op, .int .i64 n.a, .int .i64 n.b, .int .i64 n.c, .int .i64 n.d] 47 ∧ Blk wr (w.heap.size + 1 + 1) #[.int .i64 r0, .int .i64 r1, .int .i64 r2, .int .i64 r3] 3 ∧ Blk wr g #[.int .i64 n.a, .int .i64 n.b, .int .i64 n.c, .int .i64 n.d] 3) (fun y _ => 4 - (intOf y).toNat)
    case atStart => exact ⟨0, Nat.zero_le _, rfl, rfl, B1, C1, N1, R1, G1⟩
    case round =>
      obtain ⟨k, hk, rfl, HQ, hb, C2, N2, R2, G2⟩ := hrel
      clear B1 C1 N1 R1 G1 q0 q1 q2 q3 q4 hb1 hb2 hb3 p7 hp7
      by_cases hk4 : k < 4
      · obtain ⟨r, x, hr21, hrk, hxk, ar, ax⟩ := four_at r0 r1 r2 r3 n k hk4 g0 g1 g2 g3
        have HD : Hid (fitAll ps.length p [r0, r1, r2, r3] n.fs = (fitsR ps.length p r x && fitAll ps.length p ([r0, r1, r2, r3].drop (k + 1)) (n.fs.drop (k + 1)))) := HQ.out.symm.trans (fit_drop hrk hxk)
        have c0 := C2.cell 0
        have cr := (R2.cell k).trans ar
        have cx := (G2.cell k).trans ax
        have hvr := hv.later (Keeps.of_below hb)
        have hvd := hvr.later (Keeps.of_below (Below.refl _ _).drew)
        have Cd := C2.later (Below.refl _ _).drew
        have Rd := R2.later (Below.refl _ _).drew
        have hb' := hb
        clear ar ax HQ hrk hxk g0 g1 g2 g3 hrs hop hopn hop2
        go_wp2_with fail
        go_region_held3 (fun w' => w'.cell? ⟨w.heap.size, 0, none⟩ = some (.slice (some ⟨b, off, none⟩) ps.length cap) ∧ w'.cell? ⟨w.heap.size + 1 + 1, k, none⟩ = some (.int .i64 r)) (go_keep)
          (first | (go_at_call 180; refine (l3fits_any (some ⟨b, off, none⟩) cap ps i p r x wr.drew hi hz hm hr hvd hr21).mono ?_; rintro e w2 ⟨rfl, hw2⟩; have d0 := (hw2.cell (p := ⟨w.heap.size, 0, none⟩) Cd.lt).trans c0; have d1 := (hw2.cell (p := ⟨w.heap.size + 1 + 1, k, none⟩) Rd.lt).trans cr))
        have B2 := hb'.drew.trans (hw2.mono hb'.size)
        have C3 := Cd.later hw2
        have R3 := Rd.later hw2
        have N3 := (N2.later (Below.refl _ _).drew).later hw2
        have G3 := (G2.later (Below.refl _ _).drew).later hw2
        clear hw2 Cd Rd hvr hvd C2 R2 N2 G2 hb hb' d0 d1 c0 cr cx hv hi hj
        generalize fitsR ps.length p r x = fb at *
        cases fb
        · go_wp2_with fail
          go_ret
          exact ⟨ret_bool (by rw [E0.out, HD.out]; rfl), B2⟩
        · go_wp2_with fail
          go_roundw
          case rel => exact ⟨k + 1, by omega, by go_num, by show _ = _; rw [HD.out]; rfl, B2, C3, N3, R3, G3⟩
          case measure => simp [intOf]; omega
      · have E1 : Hid (insB ps.length p j n = lastB p j n) := by
          have h1 := HQ.out
          obtain rfl : k = 4 := by omega
          show _ = _
          rw [E0.out, ← h1]; rfl
        have EL : Hid (lastB p j n = (!decide (j + 1 = p.ins.length) || ((op : Int) == 19 || (op : Int) == 29 || (op : Int) == 30))) := by show _ = _; unfold lastB; rw [hopn]
        obtain ⟨b2, off2, e2, _, hbl2, h2, n2, _⟩ := hv.later (Keeps.of_below hb) i p hi
        obtain ⟨rfl, rfl⟩ : b = b2 ∧ off = off2 := by simpa using e2
        obtain ⟨_, _, _, _, _, _, _, p7, _⟩ := n2
        have c0 := C2.cell 0
        have cn := N2.cell
        clear HQ E0 e2 hv hi hj hopn hop hop2 hrs R2 G2
        by_cases hl : j + 1 = p.ins.length
        · have hl' : ((j : Int) == (p.ins.length : Int) - 1) = true := by simp; omega
          have HL : Hid (j + 1 = p.ins.length) := hl
          clear hl
          go_wp2_with fail
          all_goals
            go_ret
            refine ⟨ret_bool ?_, hb⟩
            rw [E1.out, EL.out, decide_eq_true HL.out]
            clear c0 cn p7 E1 EL HL
            simp_all
        · have hl' : ((j : Int) == (p.ins.length : Int) - 1) = false := by simp; omega
          have HL : Hid (¬ j + 1 = p.ins.length) := hl
          clear hl
          go_wp2_with fail
          all_goals
            go_ret
            refine ⟨ret_bool ?_, hb⟩
            rw [E1.out, EL.out, decide_eq_false HL.out]
            rfl
end Go.Proofs.YtmfippfnhcphhaaGreatDoor
