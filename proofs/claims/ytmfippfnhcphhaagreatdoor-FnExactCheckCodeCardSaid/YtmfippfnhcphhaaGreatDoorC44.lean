import Derived.Test.YtmfippfnhcphhaaGreatDoorC40
import Derived.Test.YtmfippfnhcphhaaGreatDoorC41
import Derived.Test.YtmfippfnhcphhaaGreatDoorC42
import Derived.Test.YtmfippfnhcphhaaGreatDoorC43
namespace Go.Proofs.YtmfippfnhcphhaaGreatDoor
open Go.RowKit Go.Deep

/-- What step has laid ahead of its reading. -/
structure SpAt (w0 : World) (B L vb sb db : Nat) (cao : Option Addr) (ccap : Nat) (ps : List Pd) (p : Pd) (h : Ph) (c : Cf) (l i m : Nat) (op na nb nc nd : Int) (s : St) (ao ago : Option Addr) (ac agc b0 x5 x6 x7 : Nat) (t0 t1 t2 t3 : TypeId) (v0 v1 v2 v3 : Value) (wS w3 : World) : Prop where
  X : Vctx w0 B L vb sb db ps p h
  H : VfAt L vb sb db cao ccap ps p h w3 c l
  hl : l ≤ p.ins.length
  hL : L ≤ wS.heap.size
  hb0 : Below w0.heap.size w0 w3
  off : Off B L wS w3
  hok : CfOk p c
  hi : p.ins[i]? = some ⟨op, na, nb, nc, nd⟩
  hs : StOk p s
  hm : s.types.length = m
  R0 : Blk w3 b0 #[.int .i64 0, .int .i64 0, .int .i64 0] 55
  N : Blk w3 x5 #[.int .i64 op, .int .i64 na, .int .i64 nb, .int .i64 nc, .int .i64 nd] 47
  A : Blk w3 x6 #[.bool true, .slice ao m ac, .slice ago s.guards.length agc] 123
  F : Blk w3 x7 #[.iface t0 v0, .iface t1 v1, .iface t2 v2, .iface t3 v3] 208
  hb : wS.heap.size ≤ b0
  RT : RowI L w3 ao ac s.types
  RG : RowG L w3 ago agc s.guards
theorem SpAt.m2 {w0 : World} {B L vb sb db : Nat} {cao : Option Addr} {ccap : Nat} {ps : List Pd} {p : Pd} {h : Ph} {c : Cf} {l i m : Nat} {op na nb nc nd : Int} {s : St} {ao ago : Option Addr} {ac agc b0 x5 x6 x7 : Nat} {t0 t1 t2 t3 : TypeId} {v0 v1 v2 v3 : Value} {wS w3 : World} (x : SpAt w0 B L vb sb db cao ccap ps p h c l i m op na nb nc nd s ao ago ac agc b0 x5 x6 x7 t0 t1 t2 t3 v0 v1 v2 v3 wS w3) : m ≤ 250 ∧ (m : Int) = p.regs := by
  have h1 := x.hs.len
  have h2 := x.X.fit.regs
  have h3 := x.hm
  omega

theorem off3 {B L b0 : Nat} {a b : World} (h : Off B L a b) (hB : B ≤ a.heap.size) (hb : a.heap.size ≤ b0) (v1 v2 v3 : Value) : Off B L a (((b.setCell ⟨b0, 0, none⟩ v1).setCell ⟨b0, 1, none⟩ v2).setCell ⟨b0, 2, none⟩ v3) :=
  ((h.setNew hB v1 (by dsimp only; omega)).setNew hB v2 (by dsimp only; omega)).setNew hB v3 (by dsimp only; omega)
noncomputable def pcSE : Code := pathC [1, 1, 1, 1, 1, 1] (Tryz.f83.body.getD .skip)
set_option maxRecDepth 1000000 in
set_option maxHeartbeats 8000000 in
theorem stp_end (w0 : World) (B L vb sb db : Nat) (cao : Option Addr) (ccap : Nat) (ps : List Pd) (p : Pd) (h : Ph) (c : Cf) (l i m : Nat) (op na nb nc nd : Int) (s : St) (ao ago : Option Addr) (ac agc b0 x5 x6 x7 : Nat) (t0 t1 t2 t3 : TypeId) (v0 v1 v2 v3 : Value) (wS w3 : World) (x8 x9 : Nat) (ko bo bgo : Option Addr) (kc bc bgc : Nat) (vt vr : Value) (tk ts2 : List Int) (gs2 : List Gd) (W : World) (c2 c3 c5 c7 c10 c11 c12 c13 c14 c15 c16 c17 c18 c19 c20 c21 c22 c23 c24 c25 c26 c27 c28 c29 c30 c31 c32 c33 c34 c35 c36 c37 c38 c39 c40 c41 c42 c43 c44 c45 c46 c47 c48 c49 c50 c51 c52 c53 c54 c55 c56 c57 c58 c59 c60 c61 c62 c63 c64 c65 c66 c67 c68 c69 c70 c71 c72 c73 c74 c75 c76 c77 c78 c79 c80 c81 c82 c83 c84 c85 c86 c87 c88 c89 c90 c91 c92 c93 c94 c95 c96 c97 c98 c99 c100 : Value) (Q : Exit → Act → World → Prop) (hq : ∀ a' w', bodyPost Tryz.prog Tryz.f83 (FwPost B L vb sb db cao ccap ps p h wS (if stayB (maxKeep s.guards) tk s.types ts2 then followF c (folF ⟨op, na, nb, nc, nd⟩ i s ts2 gs2) else .error (12, i))) .ret a' w' → Q .ret a' w')
    (D : SpAt w0 B L vb sb db cao ccap ps p h c l i m op na nb nc nd s ao ago ac agc b0 x5 x6 x7 t0 t1 t2 t3 v0 v1 v2 v3 wS w3) (hB3 : Below w3.heap.size w3 W) (R8 : Blk W x8 #[vt, vr, .slice ko tk.length kc] 211) (hk : IntsAt 0 W ko tk) (htk : tk.length ≤ 1000) (R9 : Blk W x9 #[.bool false, .slice bo m bc, .slice bgo gs2.length bgc] 123) (RT2 : RowI L W bo bc ts2) (RG2 : RowG L W bgo bgc gs2) (ht2 : ts2.length = m) (hso2 : StOk p ⟨ts2, gs2⟩) (hfk : ∀ y ∈ goF ⟨op, na, nb, nc, nd⟩ s ts2 gs2, y.1 < p.ins.length) :
    Code.wp Tryz.prog pcSE Q ⟨List.toArray (.pointer (some ⟨vb, 0, none⟩) :: .int .i64 i :: c2 :: c3 :: .pointer (some ⟨b0, 0, none⟩) :: c5 :: .pointer (some ⟨x6, 0, none⟩) :: c7 :: .pointer (some ⟨x8, 0, none⟩) :: .pointer (some ⟨x9, 0, none⟩) :: c10 :: c11 :: c12 :: c13 :: c14 :: c15 :: c16 :: c17 :: c18 :: c19 :: c20 :: c21 :: c22 :: c23 :: c24 :: c25 :: c26 :: c27 :: c28 :: c29 :: c30 :: c31 :: c32 :: c33 :: c34 :: c35 :: c36 :: c37 :: c38 :: c39 :: c40 :: c41 :: c42 :: c43 :: c44 :: c45 :: c46 :: c47 :: c48 :: c49 :: c50 :: c51 :: c52 :: c53 :: c54 :: c55 :: c56 :: c57 :: c58 :: c59 :: c60 :: c61 :: c62 :: c63 :: c64 :: c65 :: c66 :: c67 :: c68 :: c69 :: c70 :: c71 :: c72 :: c73 :: c74 :: c75 :: c76 :: c77 :: c78 :: c79 :: c80 :: c81 :: c82 :: c83 :: c84 :: c85 :: c86 :: c87 :: c88 :: c89 :: c90 :: c91 :: c92 :: c93 :: c94 :: c95 :: c96 :: c97 :: c98 :: c99 :: c100 :: []), []⟩ W := by
  conv => arg 2; whnf
  have HQ : Hid _ := hq
  clear hq
  obtain ⟨hm2, hmr⟩ := D.m2
  have hOW : Off B L wS W := D.off.trans (Off.of_below hB3 (Nat.le_trans (Nat.le_trans D.X.hBL D.hL) D.off.size))
  have hBW : B ≤ wS.heap.size := Nat.le_trans D.X.hBL D.hL
  obtain ⟨mk, hmk⟩ : ∃ mk : Nat, maxKeep s.guards = mk := Int.eq_ofNat_of_zero_le (maxKeep_in s.guards).1
  have hmkm : mk ≤ m := by
    rcases (maxKeep_in s.guards).2 with h0 | ⟨g, hg, _, hg2⟩
    · omega
    · have := (D.hs.keep g hg).2; omega
  refine wp_seq_k ?_
  intro K1 hK1
  have HK1 : Hid _ := hK1
  clear hK1
  refine wp_seq_k ?_
  intro K2 hK2
  have HK2 : Hid _ := hK2
  clear hK2
  refine stp_r9 x6 x8 x9 m mk (stayB mk tk s.types ts2) ao ago ko bo ac agc kc bc s tk W _ _ _ _ _ _ _ _ _ _ _ _ _ _ _ _ _ _ _ _ _ _ _ _ _ _ _ _ _ _ _ _ _ _ _ _ _ _ _ _ _ _ _ _ _ _ _ _ _ _ _ _ _ _ _ _ _ _ _ _ _ _ _ _ _ _ _ _ _ _ _ _ _ _ _ _ _ _ _ _ _ _ _ _ _ _ _ _ _ _ _ _ _ _ _ _ _ _ _ ?_ ?_ ?_ ?_
  · intro u83 u84 u85 u86 u87 u88 u89 u90 u91 u92 wx hbx
    refine HK2.out _ _ ?_
    clear HK2
    have hB4 := hB3.trans (hbx.mono hB3.size)
    have HR0 : Hid (Blk wx b0 #[.int .i64 0, .int .i64 0, .int .i64 0] 55) := D.R0.later hB4
    have HO : Hid (Off B L wS wx) := hOW.trans (Off.of_below hbx (Nat.le_trans hBW hOW.size))
    cases hst : stayB mk tk s.types ts2
    · have HRE : Hid ((if stayB (maxKeep s.guards) tk s.types ts2 then followF c (folF ⟨op, na, nb, nc, nd⟩ i s ts2 gs2) else .error (12, i) : Except (Nat × Nat) Cf) = .error (12, i)) := by show _ = _; rw [hmk, hst]; rfl
      clear hst
      have r9 := HR0.out.cell
      have f9 := HR0.out.frozen
      go_wp2_with fail
      have c9 := (HR0.out.three (x' := .int .i64 12) (y' := .int .i64 0) (z' := .int .i64 i)).cell
      refine HQ.out _ _ (bodyPost_ret (v := .agg #[.int .i64 12, .int .i64 0, .int .i64 i]) ?_ rfl ⟨?_, off3 HO.out hBW D.hb _ _ _⟩)
      · simp [results, Tryz.results83, go_sem, c9]
      · rw [HRE.out]
        try rfl
    · have HRE : Hid ((if stayB (maxKeep s.guards) tk s.types ts2 then followF c (folF ⟨op, na, nb, nc, nd⟩ i s ts2 gs2) else .error (12, i) : Except (Nat × Nat) Cf) = followF c (folF ⟨op, na, nb, nc, nd⟩ i s ts2 gs2)) := by show _ = _; rw [hmk, hst]; rfl
      clear hst
      have HFW : Hid (∀ _ : Unit, _) := fun _ => follow_any w0 B L vb sb db cao ccap ps p h c l wx i m ⟨op, na, nb, nc, nd⟩ true false ao ago bo bgo ac agc bc bgc s ts2 gs2 D.X (D.H.below hB4) D.hl (Nat.le_trans D.hL HO.out.size) (D.hb0.trans (hB4.mono D.hb0.size)) D.hok D.hi hso2 hfk D.hm ht2 hm2 hmr (D.RT.later (Keeps.of_below hB4)) (D.RG.later (Keeps.of_below hB4)) (RT2.later (Keeps.of_below hbx)) (RG2.later (Keeps.of_below hbx))
      rw [D.hm, ht2] at HFW
      have a6 := (D.A.later hB4).cell
      have a9 := (R9.later hbx).cell
      go_wp2_with fail
      refine HK1.out _ _ ?_
      clear HK1
      go_wp2_with fail
      refine (HFW.out ()).mono ?_
      unfold FwPost
      cases hfo : followF c (folF ⟨op, na, nb, nc, nd⟩ i s ts2 gs2) with
      | error kx =>
        obtain ⟨k, x⟩ := kx
        rintro e w6 ⟨rfl, hO6⟩
        have HRE2 : Hid ((if stayB (maxKeep s.guards) tk s.types ts2 then followF c (folF ⟨op, na, nb, nc, nd⟩ i s ts2 gs2) else .error (12, i) : Except (Nat × Nat) Cf) = .error (k, x)) := HRE.out.trans hfo
        have HR0b := hO6.blk HR0.out (Nat.le_trans D.hL D.hb)
        have HO6 : Hid (Off B L wS w6) := HO.out.trans hO6
        clear HR0
        have HR0 : Hid (Blk w6 b0 #[.int .i64 0, .int .i64 0, .int .i64 0] 55) := HR0b
        clear hfo HFW HRE a6 a9 HR0b
        have r9 := HR0.out.cell
        have f9 := HR0.out.frozen
        go_wp2_with fail
        have c9 := (HR0.out.three (x' := .int .i64 k) (y' := .int .i64 0) (z' := .int .i64 x)).cell
        refine HQ.out _ _ (bodyPost_ret (v := .agg #[.int .i64 k, .int .i64 0, .int .i64 x]) ?_ rfl ⟨?_, off3 HO6.out hBW D.hb _ _ _⟩)
        · simp [results, Tryz.results83, go_sem, c9]
        · rw [HRE2.out]
          try rfl
      | ok c2 =>
        rintro e w6 ⟨⟨rfl, l2, hl2, H6⟩, hO6⟩
        have HRE2 : Hid ((if stayB (maxKeep s.guards) tk s.types ts2 then followF c (folF ⟨op, na, nb, nc, nd⟩ i s ts2 gs2) else .error (12, i) : Except (Nat × Nat) Cf) = .ok c2) := HRE.out.trans hfo
        have HR0b := hO6.blk HR0.out (Nat.le_trans D.hL D.hb)
        have HO6 : Hid (Off B L wS w6) := HO.out.trans hO6
        clear HR0
        have HR0 : Hid (Blk w6 b0 #[.int .i64 0, .int .i64 0, .int .i64 0] 55) := HR0b
        have HH6 : Hid (VfAt L vb sb db cao ccap ps p h w6 c2 l2) := H6
        clear hfo HFW HRE a6 a9 HR0b H6
        have r9 := HR0.out.cell
        have f9 := HR0.out.frozen
        go_wp2_with fail
        have c9 := (HR0.out.three (x' := .int .i64 0) (y' := .int .i64 0) (z' := .int .i64 0)).cell
        refine HQ.out _ _ (bodyPost_ret (v := .agg #[.int .i64 0, .int .i64 0, .int .i64 0]) ?_ rfl ⟨?_, off3 HO6.out hBW D.hb _ _ _⟩)
        · simp [results, Tryz.results83, go_sem, c9]
        · rw [HRE2.out]
          exact ⟨rfl, _, hl2, HH6.out.fault D.X.V HR0.out (Nat.le_trans D.hL D.hb) _ _ _⟩
  · intro W2 hb2
    have := keptBelow_any ago agc s.guards W2 (by have := D.hs.few; omega) (AllAt.lower (D.RG.later (Keeps.of_below (hB3.trans (hb2.mono hB3.size)))).at_ (Nat.zero_le _))
    rw [hmk] at this
    exact this.mono fun e w' hh => ⟨hh.1, hb2.trans (hh.2.mono hb2.size)⟩
  · intro W2 hb2
    have hr1 := D.RT.later (Keeps.of_below (hB3.trans (hb2.mono hB3.size)))
    have hr2 := RT2.later (Keeps.of_below hb2)
    have := keptStay_any mk ko ao bo kc ac bc tk s.types ts2 W2 htk (by rw [D.hm]; exact hmkm) (by rw [ht2]; exact hmkm) (by rw [D.hm]; exact hm2) (Nat.le_trans (by rw [D.hm]; exact hmkm) hr1.cap) (Nat.le_trans (by rw [ht2]; exact hmkm) hr2.cap) (hk.later (Keeps.of_below hb2)) (AllAt.lower hr1.at_ (Nat.zero_le _)) (AllAt.lower hr2.at_ (Nat.zero_le _))
    rw [D.hm, ht2] at this
    exact this.mono fun e w' hh => ⟨hh.1, hb2.trans (hh.2.mono hb2.size)⟩
  · intro W2 hb2
    have hB4 := hB3.trans (hb2.mono hB3.size)
    exact ⟨(D.A.later hB4).cell 1, (D.A.later hB4).cell 2, (R8.later hb2).cell 2, (R9.later hb2).cell 1⟩
end Go.Proofs.YtmfippfnhcphhaaGreatDoor

namespace Go.Proofs.YtmfippfnhcphhaaGreatDoor
open Go.RowKit Go.Deep


noncomputable def pcSF : Code := pathC [1, 1, 1, 1, 1] (Tryz.f83.body.getD .skip)
theorem goF_lt {np : Nat} {p : Pd} {n : Nd} (hn : InsFit np p n) (s : St) (ts : List Int) (gs : List Gd) : ∀ y ∈ goF n s ts gs, y.1 < p.ins.length := by
  obtain ⟨f1, f2, f3, f4, f5, f6⟩ := fit_tab hn
  intro y hy
  unfold goF at hy
  split at hy
  · rename_i ho; have := f3 ho; simp at hy; subst hy; dsimp only; omega
  split at hy
  · rename_i ho; have := f4 (by omega); simp at hy; subst hy; dsimp only; omega
  split at hy
  · rename_i ho; have := f4 (by omega); simp at hy; subst hy; dsimp only; omega
  split at hy
  · rename_i ho; have := (f1 ho).1; simp at hy; subst hy; dsimp only; omega
  · simp at hy
theorem wrsI_len : ∀ (rs : List Nat) (xs : List Int) (ts : List Int), (wrsI rs xs ts).length = ts.length
  | [], _, _ => by unfold wrsI; rfl
  | _ :: _, [], _ => by unfold wrsI; rfl
  | r :: rs, x :: xs, ts => by unfold wrsI; rw [wrsI_len rs xs, wrI_len]
theorem gfit_some {n : Nd} {gs : List Gd} (h : gfitB n gs = true) (ho : n.op = 32 ∨ n.op = 34 ∨ n.op = 36) : gs.length ≠ 0 := by
  intro h0
  have : gs = [] := List.length_eq_zero_iff.1 h0
  subst this
  unfold gfitB lastTr at h
  rcases ho with ho | ho | ho <;> simp [ho] at h
set_option maxRecDepth 1000000 in
set_option maxHeartbeats 8000000 in
theorem stp_8 (w0 : World) (B L vb sb db : Nat) (cao : Option Addr) (ccap : Nat) (ps : List Pd) (p : Pd) (h : Ph) (c : Cf) (l i m : Nat) (op na nb nc nd : Int) (s : St) (ao ago : Option Addr) (ac agc b0 x5 x6 x7 : Nat) (t0 t1' t2 t3 : TypeId) (v0 v1 v2 v3 : Value) (wS w3 : World) (x8 r0 r1 r2 r3 : Nat) (ro ko : Option Addr) (rc kc : Nat) (vr : Value) (tk t1 : List Int) (W : World) (c2 c3 c9 c10 c11 c12 c13 c14 c15 c16 c17 c18 c19 c20 c21 c22 c23 c24 c25 c26 c27 c28 c29 c30 c31 c32 c33 c34 c35 c36 c37 c38 c39 c40 c41 c42 c43 c44 c45 c46 c47 c48 c49 c50 c51 c52 c53 c54 c55 c56 c57 c58 c59 c60 c61 c62 c63 c64 c65 c66 c67 c68 c69 c70 c71 c72 c73 c74 c75 c76 c77 c78 c79 c80 c81 c82 c83 c84 c85 c86 c87 c88 c89 c90 c91 c92 c93 c94 c95 c96 c97 c98 c99 c100 : Value) (Q : Exit → Act → World → Prop) (hq : ∀ a' w', bodyPost Tryz.prog Tryz.f83 (FwPost B L vb sb db cao ccap ps p h wS (if stayB (maxKeep s.guards) tk s.types (wrsI [r0, r1, r2, r3] [na, nb, nc, nd] t1) then followF c (folF ⟨op, na, nb, nc, nd⟩ i s (wrsI [r0, r1, r2, r3] [na, nb, nc, nd] t1) (gbehF ⟨op, na, nb, nc, nd⟩ s.guards)) else .error (12, i))) .ret a' w' → Q .ret a' w')
    (D : SpAt w0 B L vb sb db cao ccap ps p h c l i m op na nb nc nd s ao ago ac agc b0 x5 x6 x7 t0 t1' t2 t3 v0 v1 v2 v3 wS w3) (hB3 : Below w3.heap.size w3 W) (R8 : Blk W x8 #[.slice ro m rc, vr, .slice ko tk.length kc] 211) (hr1 : RowI 0 W ro rc t1) (ht1 : t1.length = m) (hk : IntsAt 0 W ko tk) (htk : tk.length ≤ 1000) (hgf : gfitB ⟨op, na, nb, nc, nd⟩ s.guards = true) (e0 : fieldVal ps.length p r0 na = .iface t0 v0) (g0 : r0 ≤ 23) (f0 : fitsR ps.length p (convR r0) na = true) (e1 : fieldVal ps.length p r1 nb = .iface t1' v1) (g1 : r1 ≤ 23) (f1 : fitsR ps.length p (convR r1) nb = true) (e2 : fieldVal ps.length p r2 nc = .iface t2 v2) (g2 : r2 ≤ 23) (f2 : fitsR ps.length p (convR r2) nc = true) (e3 : fieldVal ps.length p r3 nd = .iface t3 v3) (g3 : r3 ≤ 23) (f3 : fitsR ps.length p (convR r3) nd = true) :
    Code.wp Tryz.prog pcSF Q ⟨List.toArray (.pointer (some ⟨vb, 0, none⟩) :: .int .i64 i :: c2 :: c3 :: .pointer (some ⟨b0, 0, none⟩) :: .pointer (some ⟨x5, 0, none⟩) :: .pointer (some ⟨x6, 0, none⟩) :: .pointer (some ⟨x7, 0, none⟩) :: .pointer (some ⟨x8, 0, none⟩) :: c9 :: c10 :: c11 :: c12 :: c13 :: c14 :: c15 :: c16 :: c17 :: c18 :: c19 :: c20 :: c21 :: c22 :: c23 :: c24 :: c25 :: c26 :: c27 :: c28 :: c29 :: c30 :: c31 :: c32 :: c33 :: c34 :: c35 :: c36 :: c37 :: c38 :: c39 :: c40 :: c41 :: c42 :: c43 :: c44 :: c45 :: c46 :: c47 :: c48 :: c49 :: c50 :: c51 :: c52 :: c53 :: c54 :: c55 :: c56 :: c57 :: c58 :: c59 :: c60 :: c61 :: c62 :: c63 :: c64 :: c65 :: c66 :: c67 :: c68 :: c69 :: c70 :: c71 :: c72 :: c73 :: c74 :: c75 :: c76 :: c77 :: c78 :: c79 :: c80 :: c81 :: c82 :: c83 :: c84 :: c85 :: c86 :: c87 :: c88 :: c89 :: c90 :: c91 :: c92 :: c93 :: c94 :: c95 :: c96 :: c97 :: c98 :: c99 :: c100 :: []), []⟩ W := by
  conv => arg 2; whnf
  obtain ⟨hm2, hmr⟩ := D.m2
  have hNF := D.X.fit.fit i _ D.hi
  have hLW : L ≤ W.heap.size := Nat.le_trans (Nat.le_trans D.hL D.off.size) hB3.size
  have hso2 : StOk p ⟨(wrsI [r0, r1, r2, r3] [na, nb, nc, nd] t1), (gbehF ⟨op, na, nb, nc, nd⟩ s.guards)⟩ := by
    have hc := change_eq hNF s.guards
    rw [hgf, if_pos rfl] at hc
    obtain ⟨h1, h2⟩ := changeF_ok hNF D.hs.few D.hs.keep hc
    refine ⟨?_, h1, h2⟩
    dsimp only
    rw [wrsI_len, ht1]
    exact hmr
  refine wp_seq_k ?_
  intro K1 hK1
  refine stp_r8 x5 x6 x7 x8 L m ro ago rc agc op na nb nc nd t0 t1' t2 t3 v0 v1 v2 v3 s (wrsI [r0, r1, r2, r3] [na, nb, nc, nd] t1) (gbehF ⟨op, na, nb, nc, nd⟩ s.guards) W _ _ _ _ _ _ _ _ _ _ _ _ _ _ _ _ _ _ _ _ _ _ _ _ _ _ _ _ _ _ _ _ _ _ _ _ _ _ _ _ _ _ _ _ _ _ _ _ _ _ _ _ _ _ _ _ _ _ _ _ _ _ _ _ _ _ _ _ _ _ _ _ _ _ _ _ _ _ _ _ _ _ _ _ _ _ _ _ _ _ _ _ _ _ _ _ _ _ ?_ ?_ ?_ ?_
  · intro u74 u75 u76 u77 u78 u79 u80 u81 u82 x9 wx bo bgo bc bgc hx9 R9 RT2 RG2 hbx
    refine hK1 _ _ ?_
    exact stp_end w0 B L vb sb db cao ccap ps p h c l i m op na nb nc nd s ao ago ac agc b0 x5 x6 x7 t0 t1' t2 t3 v0 v1 v2 v3 wS w3 x8 x9 ko bo bgo kc bc bgc _ vr tk (wrsI [r0, r1, r2, r3] [na, nb, nc, nd] t1) (gbehF ⟨op, na, nb, nc, nd⟩ s.guards) wx _ _ _ _ _ _ _ _ _ _ _ _ _ _ _ _ _ _ _ _ _ _ _ _ _ _ _ _ _ _ _ _ _ _ _ _ _ _ _ _ _ _ _ _ _ _ _ _ _ _ _ _ _ _ _ _ _ _ _ _ _ _ _ _ _ _ _ _ _ _ _ _ _ _ _ _ _ _ _ _ _ _ _ _ _ _ _ _ _ _ _ _ _ _ _ _ hq D (hB3.trans (hbx.mono hB3.size)) (R8.later hbx) (hk.later (Keeps.of_below hbx)) htk R9 RT2 RG2 (by rw [wrsI_len, ht1]) hso2 (goF_lt hNF _ _ _)
  · intro W2 hb2
    have hc := typesBehind_any ps.length p m r0 r1 r2 r3 na nb nc nd t1 ro rc W2 ht1 hm2 hmr g0 g1 g2 g3 f0 f1 f2 f3 (hr1.later (Keeps.of_below hb2))
    rw [e0, e1, e2, e3] at hc
    refine hc.mono ?_
    rintro e w' ⟨⟨bo, bc, rfl, hR⟩, hb⟩
    exact ⟨⟨bo, bc, rfl, hR.lower (Nat.le_trans hLW hb2.size)⟩, hb2.trans (hb.mono hb2.size), hb⟩
  · intro W2 hb2
    have hRG := D.RG.later (Keeps.of_below (hB3.trans (hb2.mono hB3.size)))
    have hc := guardsBehind_any ⟨op, na, nb, nc, nd⟩ ago agc s.guards.length s.guards W2 rfl D.hs.few hRG.nil hRG.form (AllAt.lower hRG.at_ (Nat.zero_le _)) (gfit_some hgf)
    refine hc.mono ?_
    rintro e w' ⟨⟨bgo, bgc, rfl, h1, h2, h3⟩, hb⟩
    exact ⟨⟨bgo, bgc, rfl, (RowG.of_post h1 h2 h3).lower (Nat.le_trans hLW hb2.size)⟩, hb2.trans (hb.mono hb2.size), hb⟩
  · intro W2 hb2
    have hB4 := hB3.trans (hb2.mono hB3.size)
    have hN := D.N.later hB4
    have hF := D.F.later hB4
    exact ⟨(R8.later hb2).cell 0, hF.cell 0, hF.cell 1, hF.cell 2, hF.cell 3, hN.cell 0, hN.cell 1, hN.cell 2, hN.cell 3, hN.cell 4, (D.A.later hB4).cell 2⟩
end Go.Proofs.YtmfippfnhcphhaaGreatDoor
