import Derived.Test.YtmfippfnhcphhaaGreatDoorC44
import Derived.Test.YtmfippfnhcphhaaGreatDoorC19
namespace Go.Proofs.YtmfippfnhcphhaaGreatDoor
open Go.RowKit Go.Deep


noncomputable def pcSS : Code := pathC [1, 1, 1, 1] (Tryz.f83.body.getD .skip)
/-- What step answers. -/
def stepR (ps : List Pd) (n : Nd) (i : Nat) (s : St) (c : Cf) : Except (Nat × Nat) Cf := match stepI ps n i s with | .bad k => .error (k, i) | .go y => followF c y

theorem stepR_go {ps : List Pd} {n : Nd} {i : Nat} {s : St} {c : Cf} {rd : Rd} {opN : Nat} {rs : List Nat} (hop : n.op.toNat = opN) (hfo : formOf opN = rs) (hrd : rdsI rs n.fs ⟨s.types, [], []⟩ = some rd) (hub : upsBoxedB s.types (fnUps ps n) = true) (hgf : gfitB n s.guards = true) :
    stepR ps n i s c = if stayB (maxKeep s.guards) rd.taken s.types (wrsI rs n.fs rd.types) then followF c (folF n i s (wrsI rs n.fs rd.types) (gbehF n s.guards)) else .error (12, i) := by
  subst hop hfo
  unfold stepR stepI
  rw [hrd]
  dsimp only [Option.map, Rd.two]
  rw [hub, if_pos rfl, hgf, if_pos rfl]
  by_cases hst : stayB (maxKeep s.guards) rd.taken s.types (wrsI (formOf n.op.toNat) n.fs rd.types) = true
  · rw [if_pos hst, if_pos hst]
  · rw [if_neg hst, if_neg hst]
theorem rdsI_lens : ∀ {rs : List Nat} {xs : List Int} {s s' : Rd}, rdsI rs xs s = some s' → s'.types.length = s.types.length ∧ s'.taken.length ≤ s.taken.length + rs.length
  | [], _, s, s', h => by unfold rdsI at h; obtain rfl := Option.some.inj h; simp
  | _ :: _, [], s, s', h => by unfold rdsI at h; obtain rfl := Option.some.inj h; simp
  | r :: rs, x :: xs, s, s', h => by
    unfold rdsI at h
    cases h1 : rdI r x s with
    | none => rw [h1] at h; cases h
    | some s1 =>
      rw [h1] at h
      obtain ⟨a1, a2⟩ := rdsI_lens (rs := rs) (xs := xs) h
      obtain ⟨b1, b2, b3⟩ := rdI_len h1
      exact ⟨a1.trans b1, by simp; omega⟩

set_option maxRecDepth 1000000 in
set_option maxHeartbeats 8000000 in
theorem stp_sw (w0 : World) (B L vb sb db : Nat) (cao : Option Addr) (ccap : Nat) (ps : List Pd) (p : Pd) (h : Ph) (c : Cf) (l i m : Nat) (op na nb nc nd : Int) (s : St) (ao ago : Option Addr) (ac agc b0 x5 x6 x7 : Nat) (t0 t1' t2 t3 : TypeId) (v0 v1 v2 v3 : Value) (wS w3 : World) (x8 r0 r1 r2 r3 opN : Nat) (ro : Option Addr) (rc : Nat) (vr vk : Value) (W : World) (c2 c3 c9 c10 c11 c12 c13 c14 c15 c16 c17 c18 c19 c20 c21 c22 c23 c24 c25 c26 c27 c28 c29 c30 c31 c32 c33 c34 c35 c36 c37 c38 c39 c40 c41 c42 c43 c44 c45 c46 c47 c48 c49 c50 c51 c52 c53 c54 c55 c56 c57 c58 c59 c60 c61 c62 c63 c64 c65 c66 c67 c68 c69 c70 c71 c72 c73 c74 c75 c76 c77 c78 c79 c80 c81 c82 c83 c84 c85 c86 c87 c88 c89 c90 c91 c92 c93 c94 c95 c96 c97 c98 c99 c100 : Value) (Q : Exit → Act → World → Prop) (hq : ∀ a' w', bodyPost Tryz.prog Tryz.f83 (FwPost B L vb sb db cao ccap ps p h wS (stepR ps ⟨op, na, nb, nc, nd⟩ i s c)) .ret a' w' → Q .ret a' w')
    (D : SpAt w0 B L vb sb db cao ccap ps p h c l i m op na nb nc nd s ao ago ac agc b0 x5 x6 x7 t0 t1' t2 t3 v0 v1 v2 v3 wS w3) (hB3 : Below w3.heap.size w3 W) (R8 : RgAt w3.heap.size x8 m W ⟨s.types, [], []⟩ (.slice ro m rc) vr vk) (hopN : op.toNat = opN) (hfo : formOf opN = [r0, r1, r2, r3]) (hv : ProtosAt 0 w0 cao ps) (hu : ∀ u ∈ fnUps ps ⟨op, na, nb, nc, nd⟩, u.loc = true → 0 ≤ u.idx ∧ u.idx < p.regs) (hul : (fnUps ps ⟨op, na, nb, nc, nd⟩).length ≤ 1048576) (e0 : fieldVal ps.length p r0 na = .iface t0 v0) (g0 : r0 ≤ 23) (f0 : fitsR ps.length p (convR r0) na = true) (e1 : fieldVal ps.length p r1 nb = .iface t1' v1) (g1 : r1 ≤ 23) (f1 : fitsR ps.length p (convR r1) nb = true) (e2 : fieldVal ps.length p r2 nc = .iface t2 v2) (g2 : r2 ≤ 23) (f2 : fitsR ps.length p (convR r2) nc = true) (e3 : fieldVal ps.length p r3 nd = .iface t3 v3) (g3 : r3 ≤ 23) (f3 : fitsR ps.length p (convR r3) nd = true) :
    Code.wp Tryz.prog pcSS Q ⟨List.toArray (.pointer (some ⟨vb, 0, none⟩) :: .int .i64 i :: c2 :: c3 :: .pointer (some ⟨b0, 0, none⟩) :: .pointer (some ⟨x5, 0, none⟩) :: .pointer (some ⟨x6, 0, none⟩) :: .pointer (some ⟨x7, 0, none⟩) :: .pointer (some ⟨x8, 0, none⟩) :: c9 :: c10 :: c11 :: c12 :: c13 :: c14 :: c15 :: c16 :: c17 :: c18 :: c19 :: c20 :: c21 :: c22 :: c23 :: c24 :: c25 :: c26 :: c27 :: c28 :: c29 :: c30 :: c31 :: c32 :: c33 :: c34 :: c35 :: c36 :: c37 :: c38 :: c39 :: c40 :: c41 :: c42 :: c43 :: c44 :: c45 :: c46 :: c47 :: c48 :: c49 :: c50 :: c51 :: c52 :: c53 :: c54 :: c55 :: c56 :: c57 :: c58 :: c59 :: c60 :: c61 :: c62 :: c63 :: c64 :: c65 :: c66 :: c67 :: c68 :: c69 :: c70 :: c71 :: c72 :: c73 :: c74 :: c75 :: c76 :: c77 :: c78 :: c79 :: c80 :: c81 :: c82 :: c83 :: c84 :: c85 :: c86 :: c87 :: c88 :: c89 :: c90 :: c91 :: c92 :: c93 :: c94 :: c95 :: c96 :: c97 :: c98 :: c99 :: c100 :: []), []⟩ W := by
  conv => arg 2; whnf
  have HQ : Hid _ := hq
  clear hq
  obtain ⟨hm2, hmr⟩ := D.m2
  have hBW : B ≤ wS.heap.size := Nat.le_trans D.X.hBL D.hL
  have hOff : ∀ w', Below w3.heap.size w3 w' → Off B L wS w' := fun w' hb => D.off.trans (Off.of_below hb (Nat.le_trans hBW D.off.size))
  have hWd : Below W.heap.size W W.drew := (Below.refl _ _).drew
  have hB3d := hB3.trans (hWd.mono hB3.size)
  have hall := all_any ps.length p w3.heap.size x8 m r0 r1 r2 r3 na nb nc nd s.types ro rc vr vk W.drew (R8.later hWd) hB3d.size D.hm hm2 hmr g0 g1 g2 g3 f0 f1 f2 f3
  rw [e0, e1, e2, e3] at hall
  have hS : ∀ w', Below w3.heap.size w3 w' → w'.cell? ⟨x7, 0, none⟩ = some (.iface t0 v0) ∧ w'.cell? ⟨x7, 1, none⟩ = some (.iface t1' v1) ∧ w'.cell? ⟨x7, 2, none⟩ = some (.iface t2 v2) ∧ w'.cell? ⟨x7, 3, none⟩ = some (.iface t3 v3) ∧ w'.cell? ⟨x5, 0, none⟩ = some (.int .i64 op) ∧ w'.cell? ⟨x5, 2, none⟩ = some (.int .i64 nb) := fun w' hb => ⟨(D.F.later hb).cell 0, (D.F.later hb).cell 1, (D.F.later hb).cell 2, (D.F.later hb).cell 3, (D.N.later hb).cell 0, (D.N.later hb).cell 2⟩
  refine wp_seq_k ?_
  intro K1 hK1
  have HK1 : Hid _ := hK1
  clear hK1
  refine wp_block ?_
  refine wp_seq_k ?_
  intro K2 hK2
  have HK2 : Hid _ := hK2
  clear hK2
  unfold RdPost at hall
  cases hrd : rdsI [r0, r1, r2, r3] [na, nb, nc, nd] ⟨s.types, [], []⟩ with
  | none =>
    rw [hrd] at hall
    refine stp_r4a vb x5 x6 x7 x8 op nb t0 t1' t2 t3 v0 v1 v2 v3 W _ _ _ _ _ _ _ _ _ _ _ _ _ _ _ _ _ _ _ _ _ _ _ _ _ _ _ _ _ _ _ _ _ _ _ _ _ _ _ _ _ _ _ _ _ _ _ _ _ _ _ _ _ _ _ _ _ _ _ _ _ _ _ _ _ _ _ _ _ _ _ _ _ _ _ _ _ _ _ _ _ _ _ _ _ _ _ _ _ _ _ _ _ _ _ _ _ (fun w' => Below w3.heap.size w3 w') ?_ (hall.mono fun e w' hh => ⟨hh.1, hB3d.trans hh.2, hS w' (hB3d.trans hh.2)⟩) (hS _ hB3d)
    intro u40 u41 u42 u43 u44 u45 u46 u47 u48 u49 u50 u51 u52 u53 u54 u55 u56 u57 u58 u59 u60 u61 u62 u63 wx hbx
    refine HK2.out _ _ ?_
    clear HK2
    have HRE : Hid (stepR ps ⟨op, na, nb, nc, nd⟩ i s c = .error (10, i)) := by show _ = _; unfold stepR stepI; dsimp only; rw [hopN, hfo]; dsimp only [Nd.fs]; rw [hrd]; rfl
    have HR0 : Hid (Blk wx b0 #[.int .i64 0, .int .i64 0, .int .i64 0] 55) := D.R0.later hbx
    have HO : Hid (Off B L wS wx) := hOff wx hbx
    clear hall hrd
    have r9 := HR0.out.cell
    have f9 := HR0.out.frozen
    go_wp2_with fail
    have c9 := (HR0.out.three (x' := .int .i64 10) (y' := .int .i64 0) (z' := .int .i64 i)).cell
    refine HQ.out _ _ (bodyPost_ret (v := .agg #[.int .i64 10, .int .i64 0, .int .i64 i]) ?_ rfl ⟨?_, off3 HO.out hBW D.hb _ _ _⟩)
    · simp [results, Tryz.results83, go_sem, c9]
    · rw [HRE.out]
      try rfl
  | some rd =>
    rw [hrd] at hall
    dsimp only at hall
    have hrl : rd.types.length = m ∧ rd.taken.length ≤ 1000 := by
      have := rdsI_lens hrd
      have h1 := D.hm
      dsimp only at this
      simp at this
      exact ⟨by rw [this.1, h1], by omega⟩
    by_cases h11 : op = 11
    · have hnf := (fit_tab (D.X.fit.fit i _ D.hi)).2.2.2.2.2 h11
      dsimp only at hnf
      obtain ⟨bN, hbN⟩ := Int.eq_ofNat_of_zero_le hnf.1
      obtain ⟨q, hq⟩ := some_of_lt (show bN < ps.length by omega)
      have hfu : fnUps ps ⟨op, na, nb, nc, nd⟩ = q.ups := by unfold fnUps; rw [if_pos h11]; dsimp only; rw [hbN, Int.toNat_natCast, hq]
      rw [hfu] at hu hul
      obtain ⟨pb, pof, hcao, _, _, hh, NN, PI⟩ := hv bN q hq
      have hN5 : ∀ w', Below w3.heap.size w3 w' → w'.cell? ⟨pb, pof + bN * 9 + 5, none⟩ = some (.slice hh.uo q.ups.length hh.uc) ∧ UpsAt 0 w' hh.uo q.ups := by
        intro w' hb
        have hb0 := D.hb0.trans (hb.mono D.hb0.size)
        obtain ⟨pb', pof', hc', _, _, h2, N2, P2⟩ := (hv.later (Keeps.of_below hb0)) bN q hq
        rw [hcao] at hc'
        obtain ⟨rfl, rfl⟩ : pb = pb' ∧ pof = pof' := by simpa using hc'
        have e1 := NN.2.2.2.2.2.1
        have e2 : w'.cell? ⟨pb, pof + bN * 9 + 5, none⟩ = some (.slice hh.uo q.ups.length hh.uc) := (hb0.cell (p := ⟨pb, pof + bN * 9 + 5, none⟩) (World.block_lt_of_cell? _ _ e1)).trans e1
        exact ⟨e2, PI.ups.later (Keeps.of_below hb0)⟩
      have hSC : ∀ w', Below w3.heap.size w3 w' → w'.cell? ⟨x7, 0, none⟩ = some (.iface t0 v0) ∧ w'.cell? ⟨x7, 1, none⟩ = some (.iface t1' v1) ∧ w'.cell? ⟨x7, 2, none⟩ = some (.iface t2 v2) ∧ w'.cell? ⟨x7, 3, none⟩ = some (.iface t3 v3) ∧ w'.cell? ⟨x5, 0, none⟩ = some (.int .i64 11) ∧ w'.cell? ⟨x5, 2, none⟩ = some (.int .i64 bN) ∧ w'.cell? ⟨x6, 1, none⟩ = some (.slice ao m ac) ∧ w'.cell? ⟨vb, 0, none⟩ = some (.slice (some ⟨pb, pof, none⟩) ps.length ccap) ∧ w'.cell? ⟨pb, pof + bN * 9 + 5, none⟩ = some (.slice hh.uo q.ups.length hh.uc) := fun w' hb => ⟨(D.F.later hb).cell 0, (D.F.later hb).cell 1, (D.F.later hb).cell 2, (D.F.later hb).cell 3, by have := (D.N.later hb).cell 0; rw [h11] at this; exact this, by have := (D.N.later hb).cell 2; rw [hbN] at this; exact this, (D.A.later hb).cell 1, by have := (D.H.below hb).blk.cell 0; rw [hcao] at this; exact this, (hN5 w' hb).1⟩
      refine stp_r4c vb x5 x6 x7 x8 bN pb pof m ac ccap hh.uc (upsBoxedB s.types q.ups) ao hh.uo ps q.ups t0 t1' t2 t3 v0 v1 v2 v3 W _ _ _ _ _ _ _ _ _ _ _ _ _ _ _ _ _ _ _ _ _ _ _ _ _ _ _ _ _ _ _ _ _ _ _ _ _ _ _ _ _ _ _ _ _ _ _ _ _ _ _ _ _ _ _ _ _ _ _ _ _ _ _ _ _ _ _ _ _ _ _ _ _ _ _ _ _ _ _ _ _ _ _ _ _ _ _ _ _ _ _ _ _ _ _ _ _ (fun w' => Below w3.heap.size w3 w' ∧ ∃ vr vk, RgAt w3.heap.size x8 m w' rd (.slice ro m rc) vr vk) ?_ (hall.mono fun e w' hh2 => ⟨hh2.1.1, ⟨hB3d.trans hh2.2, hh2.1.2⟩, hSC w' (hB3d.trans hh2.2)⟩) ?_ (by omega) (hSC _ hB3d)
      · intro u40 u41 u42 u43 u44 u45 u46 u47 u48 u49 u50 u51 u52 u53 u54 u55 u56 u57 u58 u59 u60 u61 u62 u63 wx hbx
        refine HK2.out _ _ ?_
        clear HK2
        obtain ⟨hbx, vr2, vk2, RX⟩ := hbx
        have HH11 : Hid _ := h11
        have HHbN : Hid _ := hbN
        clear hall h11 hbN hnf hSC hN5 NN PI hcao
        cases hub0 : upsBoxedB s.types q.ups
        · have HRE : Hid (stepR ps ⟨op, na, nb, nc, nd⟩ i s c = .error (10, i)) := by show _ = _; unfold stepR stepI; dsimp only; rw [hopN, hfo]; dsimp only [Nd.fs]; rw [hrd]; dsimp only [Option.map, Rd.two]; rw [hfu, hub0]; rfl
          have HR0 : Hid (Blk wx b0 #[.int .i64 0, .int .i64 0, .int .i64 0] 55) := D.R0.later hbx
          have HO : Hid (Off B L wS wx) := hOff wx hbx
          clear hub0 hrd RX
          have r9 := HR0.out.cell
          have f9 := HR0.out.frozen
          go_wp2_with fail
          have c9 := (HR0.out.three (x' := .int .i64 10) (y' := .int .i64 0) (z' := .int .i64 i)).cell
          refine HQ.out _ _ (bodyPost_ret (v := .agg #[.int .i64 10, .int .i64 0, .int .i64 i]) ?_ rfl ⟨?_, off3 HO.out hBW D.hb _ _ _⟩)
          · simp [results, Tryz.results83, go_sem, c9]
          · rw [HRE.out]
            try rfl
        · have hub : upsBoxedB s.types (fnUps ps ⟨op, na, nb, nc, nd⟩) = true := by rw [hfu]; exact hub0
          clear hub0
          have HGF : Hid (∀ _ : Unit, _) := fun _ => guardsFit_any ⟨op, na, nb, nc, nd⟩ ago agc s.guards.length s.guards wx rfl D.hs.few (AllAt.lower (D.RG.later (Keeps.of_below hbx)).at_ (Nat.zero_le _))
          unfold Nd.val at HGF
          have n6 := (D.N.later hbx).cell
          have a6 := (D.A.later hbx).cell
          go_wp2_with fail
          refine (HGF.out ()).mono ?_
          rintro e w7 ⟨rfl, hw7⟩
          have hB7 := (hbx).trans (hw7.mono (hbx).size)
          have R7 := (RX).later hw7
          clear n6 a6 HGF
          cases hgf : gfitB ⟨op, na, nb, nc, nd⟩ s.guards
          · have HRE : Hid (stepR ps ⟨op, na, nb, nc, nd⟩ i s c = .error (11, i)) := by show _ = _; unfold stepR stepI; dsimp only; rw [hopN, hfo]; dsimp only [Nd.fs]; rw [hrd]; dsimp only [Option.map, Rd.two]; rw [hub, if_pos rfl, hgf]; rfl
            have HR0 : Hid (Blk w7 b0 #[.int .i64 0, .int .i64 0, .int .i64 0] 55) := D.R0.later hB7
            have HO : Hid (Off B L wS w7) := hOff w7 hB7
            clear hgf R7
            have r9 := HR0.out.cell
            have f9 := HR0.out.frozen
            go_wp2_with fail
            have c9 := (HR0.out.three (x' := .int .i64 11) (y' := .int .i64 0) (z' := .int .i64 i)).cell
            refine HQ.out _ _ (bodyPost_ret (v := .agg #[.int .i64 11, .int .i64 0, .int .i64 i]) ?_ rfl ⟨?_, off3 HO.out hBW D.hb _ _ _⟩)
            · simp [results, Tryz.results83, go_sem, c9]
            · rw [HRE.out]
              try rfl
          · have HRE : Hid (stepR ps ⟨op, na, nb, nc, nd⟩ i s c = if stayB (maxKeep s.guards) rd.taken s.types (wrsI [r0, r1, r2, r3] [na, nb, nc, nd] rd.types) then followF c (folF ⟨op, na, nb, nc, nd⟩ i s (wrsI [r0, r1, r2, r3] [na, nb, nc, nd] rd.types) (gbehF ⟨op, na, nb, nc, nd⟩ s.guards)) else .error (12, i)) := by
              exact stepR_go (n := ⟨op, na, nb, nc, nd⟩) hopN hfo hrd hub hgf
            obtain ⟨ko, kc, hko⟩ := owns_slice R7.taken
            have R7b := R7.blk
            rw [hko] at R7b
            have hkk := R7.taken
            rw [hko] at hkk
            go_wp2_with fail
            refine HK1.out _ _ ?_
            exact stp_8 w0 B L vb sb db cao ccap ps p h c l i m op na nb nc nd s ao ago ac agc b0 x5 x6 x7 t0 t1' t2 t3 v0 v1 v2 v3 wS w3 x8 r0 r1 r2 r3 ro ko rc kc _ rd.taken rd.types w7 _ _ _ _ _ _ _ _ _ _ _ _ _ _ _ _ _ _ _ _ _ _ _ _ _ _ _ _ _ _ _ _ _ _ _ _ _ _ _ _ _ _ _ _ _ _ _ _ _ _ _ _ _ _ _ _ _ _ _ _ _ _ _ _ _ _ _ _ _ _ _ _ _ _ _ _ _ _ _ _ _ _ _ _ _ _ _ _ _ _ _ _ _ _ _ (fun a' w' hb => HQ.out a' w' (by rw [HRE.out]; exact hb)) D hB7 R7b ((RowI.of_owns R7.types).lower (Nat.zero_le _)) hrl.1 (AllAt.lower (owns_ints hkk).1 (Nat.zero_le _)) hrl.2 hgf e0 g0 f0 e1 g1 f1 e2 g2 f2 e3 g3 f3
      · rintro W2 ⟨hb2, vr2, vk2, RX2⟩ hS2
        have := upsBoxed_any ao hh.uo ac hh.uc s.types q.ups W2 hul (fun u hu2 hl2 => by have := hu u hu2 hl2; have h1 := D.hm; omega) (AllAt.lower (D.RT.later (Keeps.of_below hb2)).at_ (Nat.zero_le _)) (hN5 W2 hb2).2
        rw [D.hm] at this
        exact this.mono fun e w' hh2 => ⟨hh2.1, ⟨hb2.trans (hh2.2.mono hb2.size), vr2, vk2, RX2.later hh2.2⟩, hSC w' (hb2.trans (hh2.2.mono hb2.size))⟩
    · have hub : upsBoxedB s.types (fnUps ps ⟨op, na, nb, nc, nd⟩) = true := by unfold fnUps; rw [if_neg h11]; rfl
      refine stp_r4b vb x5 x6 x7 x8 op nb t0 t1' t2 t3 v0 v1 v2 v3 W _ _ _ _ _ _ _ _ _ _ _ _ _ _ _ _ _ _ _ _ _ _ _ _ _ _ _ _ _ _ _ _ _ _ _ _ _ _ _ _ _ _ _ _ _ _ _ _ _ _ _ _ _ _ _ _ _ _ _ _ _ _ _ _ _ _ _ _ _ _ _ _ _ _ _ _ _ _ _ _ _ _ _ _ _ _ _ _ _ _ _ _ _ _ _ _ _ (fun w' => Below w3.heap.size w3 w' ∧ ∃ vr vk, RgAt w3.heap.size x8 m w' rd (.slice ro m rc) vr vk) ?_ (hall.mono fun e w' hh => ⟨hh.1.1, ⟨hB3d.trans hh.2, hh.1.2⟩, hS w' (hB3d.trans hh.2)⟩) (by simpa using h11) (hS _ hB3d)
      intro u40 u41 u42 u43 u44 u45 u46 u47 u48 u49 u50 u51 u52 u53 u54 u55 u56 u57 u58 u59 u60 u61 u62 u63 wx hbx
      refine HK2.out _ _ ?_
      clear HK2
      obtain ⟨hbx, vr2, vk2, RX⟩ := hbx
      clear hall
      have HGF : Hid (∀ _ : Unit, _) := fun _ => guardsFit_any ⟨op, na, nb, nc, nd⟩ ago agc s.guards.length s.guards wx rfl D.hs.few (AllAt.lower (D.RG.later (Keeps.of_below hbx)).at_ (Nat.zero_le _))
      unfold Nd.val at HGF
      have n6 := (D.N.later hbx).cell
      have a6 := (D.A.later hbx).cell
      go_wp2_with fail
      refine (HGF.out ()).mono ?_
      rintro e w7 ⟨rfl, hw7⟩
      have hB7 := (hbx).trans (hw7.mono (hbx).size)
      have R7 := (RX).later hw7
      clear n6 a6 HGF
      cases hgf : gfitB ⟨op, na, nb, nc, nd⟩ s.guards
      · have HRE : Hid (stepR ps ⟨op, na, nb, nc, nd⟩ i s c = .error (11, i)) := by show _ = _; unfold stepR stepI; dsimp only; rw [hopN, hfo]; dsimp only [Nd.fs]; rw [hrd]; dsimp only [Option.map, Rd.two]; rw [hub, if_pos rfl, hgf]; rfl
        have HR0 : Hid (Blk w7 b0 #[.int .i64 0, .int .i64 0, .int .i64 0] 55) := D.R0.later hB7
        have HO : Hid (Off B L wS w7) := hOff w7 hB7
        clear hgf R7
        have r9 := HR0.out.cell
        have f9 := HR0.out.frozen
        go_wp2_with fail
        have c9 := (HR0.out.three (x' := .int .i64 11) (y' := .int .i64 0) (z' := .int .i64 i)).cell
        refine HQ.out _ _ (bodyPost_ret (v := .agg #[.int .i64 11, .int .i64 0, .int .i64 i]) ?_ rfl ⟨?_, off3 HO.out hBW D.hb _ _ _⟩)
        · simp [results, Tryz.results83, go_sem, c9]
        · rw [HRE.out]
          try rfl
      · have HRE : Hid (stepR ps ⟨op, na, nb, nc, nd⟩ i s c = if stayB (maxKeep s.guards) rd.taken s.types (wrsI [r0, r1, r2, r3] [na, nb, nc, nd] rd.types) then followF c (folF ⟨op, na, nb, nc, nd⟩ i s (wrsI [r0, r1, r2, r3] [na, nb, nc, nd] rd.types) (gbehF ⟨op, na, nb, nc, nd⟩ s.guards)) else .error (12, i)) := by
          exact stepR_go (n := ⟨op, na, nb, nc, nd⟩) hopN hfo hrd hub hgf
        obtain ⟨ko, kc, hko⟩ := owns_slice R7.taken
        have R7b := R7.blk
        rw [hko] at R7b
        have hkk := R7.taken
        rw [hko] at hkk
        go_wp2_with fail
        refine HK1.out _ _ ?_
        exact stp_8 w0 B L vb sb db cao ccap ps p h c l i m op na nb nc nd s ao ago ac agc b0 x5 x6 x7 t0 t1' t2 t3 v0 v1 v2 v3 wS w3 x8 r0 r1 r2 r3 ro ko rc kc _ rd.taken rd.types w7 _ _ _ _ _ _ _ _ _ _ _ _ _ _ _ _ _ _ _ _ _ _ _ _ _ _ _ _ _ _ _ _ _ _ _ _ _ _ _ _ _ _ _ _ _ _ _ _ _ _ _ _ _ _ _ _ _ _ _ _ _ _ _ _ _ _ _ _ _ _ _ _ _ _ _ _ _ _ _ _ _ _ _ _ _ _ _ _ _ _ _ _ _ _ _ (fun a' w' hb => HQ.out a' w' (by rw [HRE.out]; exact hb)) D hB7 R7b ((RowI.of_owns R7.types).lower (Nat.zero_le _)) hrl.1 (AllAt.lower (owns_ints hkk).1 (Nat.zero_le _)) hrl.2 hgf e0 g0 f0 e1 g1 f1 e2 g2 f2 e3 g3 f3
end Go.Proofs.YtmfippfnhcphhaaGreatDoor

namespace Go.Proofs.YtmfippfnhcphhaaGreatDoor
open Go.RowKit Go.Deep


theorem owns_nil (w : World) (B e : Nat) : w.ownsRow B e 1 (.slice none 0 0) 0 (ints []) := ⟨by simp [ints], .inl ⟨rfl, rfl⟩⟩
set_option maxRecDepth 1000000 in
set_option maxHeartbeats 8000000 in
theorem step_any (w0 : World) (B L vb sb db : Nat) (cao : Option Addr) (ccap : Nat) (ps : List Pd) (p : Pd) (h : Ph) (c : Cf) (l : Nat) (w : World) (i : Nat) (n : Nd) (s : St)
    (X : Vctx w0 B L vb sb db ps p h) (H0 : VfAt L vb sb db cao ccap ps p h w c l) (hl : l ≤ p.ins.length) (hL : L ≤ w.heap.size) (hb0 : Below w0.heap.size w0 w) (hok : CfOk p c) (hi : p.ins[i]? = some n) (hs : c.st i = some s) (hv : ProtosAt 0 w0 cao ps) (hu : ∀ u ∈ fnUps ps n, u.loc = true → 0 ≤ u.idx ∧ u.idx < p.regs) (hul : (fnUps ps n).length ≤ 1048576) :
    Calls Tryz.prog 83 #[.pointer (some ⟨vb, 0, none⟩), .int .i64 i] w (FwPost B L vb sb db cao ccap ps p h w (stepR ps n i s c)) := by
  have hNF := X.fit.fit i n hi
  have hso := hok.ok i s hs
  have hil : i < p.ins.length := (List.getElem?_eq_some_iff.1 hi).1
  have hsx : c.sts[i]? = some (some s) := by
    have hl2 : i < c.sts.length := by rw [hok.lenS]; exact hil
    have := hs
    unfold Cf.st at this
    rw [List.getD_eq_getElem?_getD, List.getElem?_eq_getElem hl2] at this
    rw [List.getElem?_eq_getElem hl2]
    simpa using this
  have hBw : B ≤ w.heap.size := Nat.le_trans X.hBL hL
  obtain ⟨op, na, nb, nc, nd⟩ := n
  have hoplo := hNF.lo
  have hophi := hNF.hi
  dsimp only at hoplo hophi
  obtain ⟨opN, hopn⟩ := Int.eq_ofNat_of_zero_le (show 0 ≤ op by omega)
  obtain ⟨r0, r1, r2, r3, hfo, g0, g1, g2, g3⟩ := form_four (show opN ≤ 42 by omega)
  have hfit := hNF.fit
  dsimp only at hfit
  rw [hopn, Int.toNat_natCast, ← conv_forms opN (by omega) (by omega), hfo] at hfit
  simp only [List.map_cons, List.map_nil, Nd.fs, fitAll, Bool.and_eq_true] at hfit
  obtain ⟨f0, f1, f2, f3, _⟩ := hfit
  have hfl := fun W hF => fieldsOf_any cao ccap ps.length p h ⟨op, na, nb, nc, nd⟩ opN r0 r1 r2 r3 W hopn (by omega) hfo g0 g1 g2 g3 X.few X.hpl X.fit.regs hF
  obtain ⟨t0, v0, e0⟩ := fieldVal_iface ps.length p r0 na
  obtain ⟨t1', v1, e1⟩ := fieldVal_iface ps.length p r1 nb
  obtain ⟨t2, v2, e2⟩ := fieldVal_iface ps.length p r2 nc
  obtain ⟨t3, v3, e3⟩ := fieldVal_iface ps.length p r3 nd
  dsimp only at hfl
  rw [e0, e1, e2, e3] at hfl
  unfold Pd.cells Nd.val at hfl
  have BR := below_al (Below.refl w.heap.size w) (.cells #[.int .i64 0, .int .i64 0, .int .i64 0] 55)
  have HR := H0.below BR
  have R0 := Blk.new w #[.int .i64 0, .int .i64 0, .int .i64 0] 55
  go_enter Tryz.func83, Tryz.ntmps83
  refine wp_seq_k ?_
  intro K0 hK0
  have HK0 : Hid _ := hK0
  clear hK0
  go_wp2_with fail
  refine HK0.out _ _ ?_
  clear HK0
  generalize w.alloc (.cells #[.int .i64 0, .int .i64 0, .int .i64 0] 55) = wR at *
  obtain ⟨ib, iof, hio, _, hibl, q0, q1, q2, q3, q4⟩ := (X.ins.later (Keeps.of_below (hb0.trans (BR.mono hb0.size)))) i _ hi
  obtain ⟨ao, ac, ago, agc, z0, z1, z2, RT, RG⟩ := HR.sts.at_ i (some s) hsx
  dsimp only [stT, stG, Option.isSome] at z0 z1 z2 RT RG
  have v8 := HR.blk.cell 8
  simp only [List.getElem?_toArray, List.getElem?_cons_succ, List.getElem?_cons_zero] at v8
  rw [hio] at v8
  refine wp_seq_k ?_
  intro K1 hK1
  refine stp_r1 vb sb ib iof i p h op na nb nc nd s ao ago ac agc wR _ _ _ _ _ _ _ _ _ _ _ _ _ _ _ _ _ _ _ _ _ _ _ _ _ _ _ _ _ _ _ _ _ _ _ _ _ _ _ _ _ _ _ _ _ _ _ _ _ _ _ _ _ _ _ _ _ _ _ _ _ _ _ _ _ _ _ _ _ _ _ _ _ _ _ _ _ _ _ _ _ _ _ _ _ _ _ _ _ _ _ _ _ _ _ _ _ _ _ _ ?_ (by omega) HR.blk.lt HR.sts.own.lt hibl v8 (HR.blk.cell 10) q0 q1 q2 q3 q4 z0 z1 z2
  intro u10 u11 u12 u13 u14 u15 u16 u17 u18 u19 u20 u21 u22 u23 u24 x5 x6 wx hne h5 h6 N5 A6 bx
  refine hK1 _ _ ?_
  clear hK1
  refine wp_seq_k ?_
  intro K2 hK2
  have Bx : Below w.heap.size w wx := BR.trans (bx.mono BR.size)
  refine stp_r2 vb x5 cao ccap ps p h op na nb nc nd t0 t1' t2 t3 v0 v1 v2 v3 wx _ _ _ _ _ _ _ _ _ _ _ _ _ _ _ _ _ _ _ _ _ _ _ _ _ _ _ _ _ _ _ _ _ _ _ _ _ _ _ _ _ _ _ _ _ _ _ _ _ _ _ _ _ _ _ _ _ _ _ _ _ _ _ _ _ _ _ _ _ _ _ _ _ _ _ _ _ _ _ _ _ _ _ _ _ _ _ _ _ _ _ _ _ _ _ _ _ _ _ _ ?_ ?_ ?_
  · intro y25 y26 y27 y28 y29 y30 y31 y32 y33 y34 x7 wy h7 F7 bY
    refine hK2 _ _ ?_
    clear hK2
    have Bxy : Below wR.heap.size wR wy := bx.trans (bY.mono bx.size)
    have By : Below w.heap.size w wy := BR.trans (Bxy.mono BR.size)
    have D : SpAt w0 B L vb sb db cao ccap ps p h c l i s.types.length op na nb nc nd s ao ago ac agc w.heap.size x5 x6 x7 t0 t1' t2 t3 v0 v1 v2 v3 w wy := ⟨X, H0.below By, hl, hL, hb0.trans (By.mono hb0.size), Off.of_below By hBw, hok, hi, hso, rfl, R0.later Bxy, N5.later bY, A6.later bY, F7, Nat.le_refl _, RT.later (Keeps.of_below Bxy), RG.later (Keeps.of_below Bxy)⟩
    obtain ⟨hm2, hmr⟩ := D.m2
    have HCL : Hid (∀ _ : Unit, _) := fun _ => cloneInt_any ao ac s.types.length s.types wy rfl (by omega) RT.nil (AllAt.lower D.RT.at_ (Nat.zero_le _)) RT.form
    have a6 := D.A.cell
    have HD : Hid _ := D
    clear D BR HR R0 q0 q1 q2 q3 q4 z0 z1 z2 v8 N5 A6 F7 bx bY Bx Bxy hfl
    refine wp_seq_k ?_
    intro K3 hK3
    have HK3 : Hid _ := hK3
    clear hK3
    go_wp2_with fail
    refine (HCL.out ()).mono ?_
    rintro e w8 ⟨vv, rfl, T8, hw8⟩
    obtain ⟨ro, rc, rfl⟩ := owns_slice T8
    clear a6 HCL
    go_wp2_with fail
    refine HK3.out _ _ ?_
    have hal := (Below.refl w8.heap.size w8).alloc (Nat.le_refl _) (.cells #[.slice ro s.types.length rc, .slice none 0 0, .slice none 0 0] 211)
    have RX : RgAt wy.heap.size w8.heap.size s.types.length (w8.alloc (.cells #[.slice ro s.types.length rc, .slice none 0 0, .slice none 0 0] 211)) ⟨s.types, [], []⟩ (.slice ro s.types.length rc) (.slice none 0 0) (.slice none 0 0) :=
      ⟨Blk.new w8 #[.slice ro s.types.length rc, .slice none 0 0, .slice none 0 0] 211, hw8.size, T8.alloc _, owns_nil _ _ _, owns_nil _ _ _, fun e => by have := (T8.lt _ e).2; omega, (by simp [Value.ownBlock]), (by simp [Value.ownBlock]), (by simp [Value.ownBlock]), (by simp [Value.ownBlock]), (by simp [Value.ownBlock])⟩
    exact stp_sw w0 B L vb sb db cao ccap ps p h c l i s.types.length op na nb nc nd s ao ago ac agc w.heap.size x5 x6 x7 t0 t1' t2 t3 v0 v1 v2 v3 w wy w8.heap.size r0 r1 r2 r3 opN ro rc _ _ _ _ _ _ _ _ _ _ _ _ _ _ _ _ _ _ _ _ _ _ _ _ _ _ _ _ _ _ _ _ _ _ _ _ _ _ _ _ _ _ _ _ _ _ _ _ _ _ _ _ _ _ _ _ _ _ _ _ _ _ _ _ _ _ _ _ _ _ _ _ _ _ _ _ _ _ _ _ _ _ _ _ _ _ _ _ _ _ _ _ _ _ _ _ _ _ (fun a' w' hb => hb) HD.out (hw8.trans (hal.mono hw8.size)) RX (by rw [hopn]; rfl) hfo hv hu hul e0 g0 f0 e1 g1 f1 e2 g2 f2 e3 g3 f3
  · intro W2 hb2
    have hbw := Bx.trans (hb2.mono Bx.size)
    exact (hfl W2 (X.forms.later (hb0.trans (hbw.mono hb0.size)))).mono fun e w' hh => ⟨hh.1, hb2.trans (hh.2.mono hb2.size), hh.2⟩
  · intro W2 hb2
    have hbw := Bx.trans (hb2.mono Bx.size)
    exact vf_cells (H0.below hbw) (N5.later hb2)
end Go.Proofs.YtmfippfnhcphhaaGreatDoor

namespace Go.Proofs.YtmfippfnhcphhaaGreatDoor
open Go.RowKit Go.Deep

/-! ### The search for circles where it lies -/
def zs (l : List Nat) : List Int := l.map (fun x : Nat => (x : Int))
theorem zs_len (l : List Nat) : (zs l).length = l.length := by simp [zs]
theorem zs_get {l : List Nat} {k x : Nat} (h : l[k]? = some x) : (zs l)[k]? = some (x : Int) := by simp [zs, h]
def natArr (l : List Nat) : Array Value := (ints (zs l)).toArray
theorem natArr_get {l : List Nat} {k : Nat} (h : k < l.length) : (natArr l)[k]? = some (.int .i64 (l.getD k 0)) := by
  unfold natArr zs ints
  simp [h]
theorem natArr_set (l : List Nat) (k v : Nat) : (natArr l).setIfInBounds k (.int .i64 v) = natArr (l.set k v) := by
  unfold natArr zs ints
  rw [List.setIfInBounds_toArray]
  simp [List.map_set]
/-- Which are in the path. -/
def opnL (N : Nat) (P : Nat → Bool) : List Bool := (List.range N).map P
theorem opnL_len (N : Nat) (P : Nat → Bool) : (opnL N P).length = N := by simp [opnL]
theorem opnL_get {N : Nat} {P : Nat → Bool} {v : Nat} (h : v < N) : (opnL N P).getD v false = P v := by simp [opnL, h]
theorem opnL_set (N : Nat) (P : Nat → Bool) (v : Nat) (b : Bool) : (opnL N P).set v b = opnL N (fun x => if x = v then b else P x) := by
  apply List.ext_getElem?
  intro j
  unfold opnL
  rw [List.getElem?_set]
  by_cases hj : j < N
  · by_cases hv : v = j
    · subst hv; simp [hj]
    · simp [hj, hv, Ne.symm hv]
  · by_cases hv : v = j
    · subst hv; simp [hj]
    · simp [hj, hv]
theorem opnL_congr {N : Nat} {P Q : Nat → Bool} (h : ∀ v, v < N → P v = Q v) : opnL N P = opnL N Q := by
  unfold opnL
  apply List.map_congr_left
  intro v hv
  exact h v (by simpa using hv)
/-- The steps where they lie. -/
structure SsAt (lo : Nat) (w : World) (gb N : Nat) (f : Nat → List Int) : Prop where
  own : Own w gb 82 N
  at_ : ∀ j, j < N → ∃ ao cap, w.cell? ⟨gb, j, none⟩ = some (.slice ao (f j).length cap) ∧ IntsAt lo w ao (f j)
theorem SsAt.later {lo : Nat} {w w' : World} {gb N : Nat} {f : Nat → List Int} (h : SsAt lo w gb N f) (hb : Below w.heap.size w w') : SsAt lo w' gb N f :=
  ⟨h.own.later hb, fun j hj => by obtain ⟨ao, cap, h1, h2⟩ := h.at_ j hj; exact ⟨ao, cap, (hb.cell (p := ⟨gb, j, none⟩) h.own.lt).trans h1, h2.later (Keeps.of_below hb)⟩⟩
structure CcAt (s cb gb ob qb N : Nat) (w : World) (T : Tj) (vp : Value) : Prop where
  blk : Blk w cb #[.slice (some ⟨gb, 0, none⟩) N N, .int .i64 T.count, .slice (some ⟨ob, 0, none⟩) N N, vp, .slice (some ⟨qb, 0, none⟩) N N, .int .i64 T.least] 222
  order : Blk w ob (natArr T.order) 3
  opn : Blk w qb (boolArr (opnL N fun v => decide (v ∈ T.path))) 4
  path : w.ownsRow (s + 3) 3 1 vp T.path.length (ints (zs T.path))
/-- Its blocks: the three that are made together. -/
structure CcIn (s cb ob qb : Nat) : Prop where
  c1 : s ≤ cb
  c2 : cb < s + 3
  o1 : s ≤ ob
  o2 : ob < s + 3
  q1 : s ≤ qb
  q2 : qb < s + 3
  co : cb ≠ ob
  cq : cb ≠ qb
  oq : ob ≠ qb
theorem CcAt.later {s cb gb ob qb N : Nat} {w w' : World} {T : Tj} {vp : Value} (h : CcAt s cb gb ob qb N w T vp) (hb : Below w.heap.size w w') : CcAt s cb gb ob qb N w' T vp := ⟨h.blk.later hb, h.order.later hb, h.opn.later hb, owns_below h.path hb⟩
theorem owns_take {w : World} {base e n k : Nat} {ao : Option Addr} {cap : Nat} {xs : List Value} (h : w.ownsRow base e 1 (.slice ao n cap) n xs) (hk : k ≤ n) (hao : ao ≠ none) : w.ownsRow base e 1 (.slice ao k cap) k (xs.take k) := by
  obtain ⟨h1, ⟨h2, h3⟩ | ⟨g, c, cur, h3, hg, hh, hc1, hc2, hc3, hc4⟩⟩ := h
  · simp at h2; exact absurd h2.1 hao
  · simp at h3
    obtain ⟨rfl, rfl⟩ := h3
    refine ⟨by simp; omega, .inr ⟨g, cap, cur, rfl, hg, hh, by omega, hc2, hc3, ?_⟩⟩
    rw [← hc4, List.take_take]
    simp
    omega
/-- Close, as a function of what is least. -/
def clsLeast (f : Nat → List Int) (a : Nat) (ext : List Nat) (least : Int) : Int := if ext ≠ [] ∨ (a : Int) ∈ f a then min least (minI (a : Int) (zs ext)) else least
end Go.Proofs.YtmfippfnhcphhaaGreatDoor
