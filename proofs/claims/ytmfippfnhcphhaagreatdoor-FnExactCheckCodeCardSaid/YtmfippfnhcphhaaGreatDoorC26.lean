import Derived.Test.YtmfippfnhcphhaaGreatDoorC25
namespace Go.Proofs.YtmfippfnhcphhaaGreatDoor
open Go.RowKit Go.Deep

set_option maxRecDepth 1000000 in
set_option maxHeartbeats 16000000 in
theorem walk_fols (ps : List Pd) (pi : Nat) (p : Pd) (h : Ph) (cao : Option Addr) (ccap : Nat) (c : Cf) (fl : List (Nat × St)) (fo : Option Addr) (fc : Nat) (w wr : World) (c0 c2 c3 c4 c6 c9 c10 c11 c12 c13 c14 c15 c16 c17 c18 c19 c20 c21 c22 c23 c24 c25 c26 c27 c28 c29 c30 c31 c32 c33 c34 c35 c36 c37 c38 c39 c40 c41 c42 c43 c44 c45 c46 c47 c48 c49 c50 c51 c52 c53 c54 c55 c56 c57 c58 c59 c60 c61 c62 c63 c64 c65 c66 c67 c68 c69 c70 c71 c72 c73 c74 c75 c76 c77 c78 c79 c80 c81 c82 c83 c84 c85 c86 c87 c88 c89 c90 c91 c92 c93 c94 c95 c96 c97 c98 c99 c100 c101 c102 c103 c104 c105 c106 c107 c108 c109 c110 c111 c112 c113 c114 c115 c116 c117 c118 c119 c120 c121 c122 c123 c124 c125 c126 c127 c128 c129 c130 c131 c132 c133 c134 c135 c136 c137 c138 c139 c140 c141 c142 c143 c144 c145 c146 c147 c148 c149 c150 c151 c152 c153 c154 c155 c156 c157 c158 c159 c160 c161 c162 c163 c164 c165 c169 c170 c171 c172 c173 c174 c175 c176 c177 c178 c179 c180 c181 c182 c183 c184 c185 c186 c187 c188 c189 c190 c191 c192 c193 c194 c195 c196 c197 c198 c199 c200 c201 c202 c203 c204 c205 c206 c207 c208 c209 : Value) (Q : Exit → Act → World → Prop) (hq : ∀ a' w', bodyPost Tryz.prog Tryz.f35 (WkPost w ps p pi) .ret a' w' → Q .ret a' w')
    (hn : ∀ (u4 u19 u168 u169 u170 u171 u172 u173 u174 u175 u176 u177 u178 u179 u180 u181 u182 u183 u184 u185 u186 u187 u188 u189 u190 u191 u192 u193 u194 u195 u196 u197 u198 u199 u200 u201 u202 u203 u204 u205 u206 u207 u208 u209 : Value) (w' : World) (c' : Cf), followF c fl = .ok c' → WkAt w cao ccap ps p h w' c' → Q (.exit 8) ⟨List.toArray (c0 :: .int .i64 pi :: c2 :: c3 :: u4 :: .pointer (some ⟨w.heap.size + 1, 0, none⟩) :: c6 :: .slice (some ⟨w.heap.size + 1 + 1 + 1, 0, none⟩) p.ins.length p.ins.length :: .slice (some ⟨w.heap.size + 1 + 1 + 1 + 1, 0, none⟩) p.ins.length p.ins.length :: c9 :: c10 :: c11 :: c12 :: c13 :: c14 :: c15 :: c16 :: c17 :: c18 :: u19 :: c20 :: c21 :: c22 :: c23 :: c24 :: c25 :: c26 :: c27 :: c28 :: c29 :: c30 :: c31 :: c32 :: c33 :: c34 :: c35 :: c36 :: c37 :: c38 :: c39 :: c40 :: c41 :: c42 :: c43 :: c44 :: c45 :: c46 :: c47 :: c48 :: c49 :: c50 :: c51 :: c52 :: c53 :: c54 :: c55 :: c56 :: c57 :: c58 :: c59 :: c60 :: c61 :: c62 :: c63 :: c64 :: c65 :: c66 :: c67 :: c68 :: c69 :: c70 :: c71 :: c72 :: c73 :: c74 :: c75 :: c76 :: c77 :: c78 :: c79 :: c80 :: c81 :: c82 :: c83 :: c84 :: c85 :: c86 :: c87 :: c88 :: c89 :: c90 :: c91 :: c92 :: c93 :: c94 :: c95 :: c96 :: c97 :: c98 :: c99 :: c100 :: c101 :: c102 :: c103 :: c104 :: c105 :: c106 :: c107 :: c108 :: c109 :: c110 :: c111 :: c112 :: c113 :: c114 :: c115 :: c116 :: c117 :: c118 :: c119 :: c120 :: c121 :: c122 :: c123 :: c124 :: c125 :: c126 :: c127 :: c128 :: c129 :: c130 :: c131 :: c132 :: c133 :: c134 :: c135 :: c136 :: c137 :: c138 :: c139 :: c140 :: c141 :: c142 :: c143 :: c144 :: c145 :: c146 :: c147 :: c148 :: c149 :: c150 :: c151 :: c152 :: c153 :: c154 :: c155 :: c156 :: c157 :: c158 :: c159 :: c160 :: c161 :: c162 :: c163 :: c164 :: c165 :: .slice fo fl.length fc :: .int .i64 fl.length :: u168 :: u169 :: u170 :: u171 :: u172 :: u173 :: u174 :: u175 :: u176 :: u177 :: u178 :: u179 :: u180 :: u181 :: u182 :: u183 :: u184 :: u185 :: u186 :: u187 :: u188 :: u189 :: u190 :: u191 :: u192 :: u193 :: u194 :: u195 :: u196 :: u197 :: u198 :: u199 :: u200 :: u201 :: u202 :: u203 :: u204 :: u205 :: u206 :: u207 :: u208 :: u209 :: []), []⟩ w')
    (hr : p.regs ≤ 250) (_hz : p.ins.length ≤ 6000) (hok : CfOk p c) (hfo : FolOk p fl) (hfl : fl.length ≤ 2) (herr : ∀ x : Nat, followF c fl = .error (13, x) → verF ps p pi = (13, (pi : Int), (x : Int))) (W1 : WkAt w cao ccap ps p h wr c) (F1 : FolsAt (w.heap.size + 1 + 1 + 1 + 1 + 1) wr fo fl) :
    Code.wp Tryz.prog pcFols Q ⟨List.toArray (c0 :: .int .i64 pi :: c2 :: c3 :: c4 :: .pointer (some ⟨w.heap.size + 1, 0, none⟩) :: c6 :: .slice (some ⟨w.heap.size + 1 + 1 + 1, 0, none⟩) p.ins.length p.ins.length :: .slice (some ⟨w.heap.size + 1 + 1 + 1 + 1, 0, none⟩) p.ins.length p.ins.length :: c9 :: c10 :: c11 :: c12 :: c13 :: c14 :: c15 :: c16 :: c17 :: c18 :: c19 :: c20 :: c21 :: c22 :: c23 :: c24 :: c25 :: c26 :: c27 :: c28 :: c29 :: c30 :: c31 :: c32 :: c33 :: c34 :: c35 :: c36 :: c37 :: c38 :: c39 :: c40 :: c41 :: c42 :: c43 :: c44 :: c45 :: c46 :: c47 :: c48 :: c49 :: c50 :: c51 :: c52 :: c53 :: c54 :: c55 :: c56 :: c57 :: c58 :: c59 :: c60 :: c61 :: c62 :: c63 :: c64 :: c65 :: c66 :: c67 :: c68 :: c69 :: c70 :: c71 :: c72 :: c73 :: c74 :: c75 :: c76 :: c77 :: c78 :: c79 :: c80 :: c81 :: c82 :: c83 :: c84 :: c85 :: c86 :: c87 :: c88 :: c89 :: c90 :: c91 :: c92 :: c93 :: c94 :: c95 :: c96 :: c97 :: c98 :: c99 :: c100 :: c101 :: c102 :: c103 :: c104 :: c105 :: c106 :: c107 :: c108 :: c109 :: c110 :: c111 :: c112 :: c113 :: c114 :: c115 :: c116 :: c117 :: c118 :: c119 :: c120 :: c121 :: c122 :: c123 :: c124 :: c125 :: c126 :: c127 :: c128 :: c129 :: c130 :: c131 :: c132 :: c133 :: c134 :: c135 :: c136 :: c137 :: c138 :: c139 :: c140 :: c141 :: c142 :: c143 :: c144 :: c145 :: c146 :: c147 :: c148 :: c149 :: c150 :: c151 :: c152 :: c153 :: c154 :: c155 :: c156 :: c157 :: c158 :: c159 :: c160 :: c161 :: c162 :: c163 :: c164 :: c165 :: .slice fo fl.length fc :: .int .i64 fl.length :: .int .i64 0 :: c169 :: c170 :: c171 :: c172 :: c173 :: c174 :: c175 :: c176 :: c177 :: c178 :: c179 :: c180 :: c181 :: c182 :: c183 :: c184 :: c185 :: c186 :: c187 :: c188 :: c189 :: c190 :: c191 :: c192 :: c193 :: c194 :: c195 :: c196 :: c197 :: c198 :: c199 :: c200 :: c201 :: c202 :: c203 :: c204 :: c205 :: c206 :: c207 :: c208 :: c209 :: []), []⟩ wr := by
  conv => arg 2; whnf
  have HFO : Hid _ := hfo
  have HE : Hid _ := herr
  have HQ : Hid _ := hq
  have HN : Hid _ := hn
  clear hfo herr hq hn
  go_loopg [168] (fl.length + 1) (fun g y wi => ∃ (j : Nat) (c' : Cf), j ≤ fl.length ∧ y = .int .i64 j ∧ Hid (followF c' (fl.drop j) = followF c fl) ∧ Hid (CfOk p c') ∧ Hid (fl.length + 1 - j ≤ g) ∧ FolsAt (w.heap.size + 1 + 1 + 1 + 1 + 1) wi fo fl ∧ WkAt w cao ccap ps p h wi c')
  case atStart => exact ⟨0, c, Nat.zero_le _, rfl, rfl, hok, Nat.le_refl _, F1, W1⟩
  case round =>
    obtain ⟨j, c', hj, rfl, HF, HOK, HG, F2, W2⟩ := hrel
    clear W1 F1 hok
    by_cases hjl : j < fl.length
    · obtain ⟨⟨x, s⟩, hxs⟩ := some_of_lt hjl
      have HX : Hid (x < p.ins.length ∧ StOk p s) := HFO.out _ (List.mem_of_getElem? hxs)
      have HF2 : Hid (followF c fl = match reachF c' x s with | none => .error (13, x) | some c' => followF c' (fl.drop (j + 1))) := by
        show _ = _
        rw [← HF.out, fol_next hxs, follow_cons]
        rfl
      obtain ⟨fb, fof, rfl, _, hfb, f0, f1, to, tc, go, gc, f2, f3, IT, IG⟩ := F2 j (x, s) hxs
      dsimp only at f0 f1 f2 f3 IT IG
      have k1 : (j : Int) < fl.length := by omega
      have hxl := HX.out.1
      have k2 : (x : Int) < p.ins.length := by omega
      have hxS : x < c'.sts.length := by rw [HOK.out.lenS]; exact hxl
      have hxD : x < c'.due.length := by rw [HOK.out.lenD]; exact hxl
      obtain ⟨o, ho⟩ := some_of_lt hxS
      have HO : Hid (c'.st x = o) := st_get ho
      have HG2 : Hid (fl.length + 1 - (j + 1) ≤ gk - 1 ∧ gk - 1 < gk) := by have := HG.out; show _ ∧ _; omega
      have hstl : s.types.length ≤ 250 := by have := HX.out.2.len; omega
      have hsgl : s.guards.length ≤ 50 := HX.out.2.few
      have X3 := Blk.new wr #[.int .i64 x, .bool true, .slice to s.types.length tc, .slice go s.guards.length gc] 135
      have AB : Below wr.heap.size wr (wr.alloc (.cells #[.int .i64 x, .bool true, .slice to s.types.length tc, .slice go s.guards.length gc] 135)) := (Below.refl _ _).alloc (Nat.le_refl _) _
      have W3 := W2.later AB
      have F3 := F2.later (Keeps.of_below AB)
      have IT3 := IT.later (Keeps.of_below AB)
      have IG3 := IG.later (Keeps.of_below AB)
      obtain ⟨to2, tc2, go2, gc2, s0, s1, s2, JT, JG⟩ := W3.sts.at_ x o ho
      have hsb := W2.sts.own.lt
      have hnesb : ¬ wr.heap.size = w.heap.size + 1 + 1 + 1 := by omega
      clear HF HG hxs ho F2 IT IG AB
      cases o with
      | none =>
        go_wp2_with fail
        generalize hw1 : wr.alloc (.cells #[.int .i64 x, .bool true, .slice to s.types.length tc, .slice go s.guards.length gc] 135) = w1 at *
        clear f0 f1 f2 f3 hw1 JT JG
        have hD1 : Below w1.heap.size w1 w1.drew := (Below.refl _ _).drew
        have X4 := X3.later hD1
        have HCP : Hid (∀ _ : Unit, _) := fun _ => l3copy_any to tc s.types w1.drew (by omega) (AllAt.lower (IT3.later (Keeps.of_below hD1)) (Nat.zero_le _))
        have HW4 : Hid _ := W3.later hD1
        have HF4 : Hid (FolsAt (w.heap.size + 1 + 1 + 1 + 1 + 1) w1.drew (some ⟨fb, fof, none⟩) fl) := F3.later (Keeps.of_below hD1)
        have HIG4 : Hid (GdsAt (w.heap.size + 1 + 1 + 1 + 1 + 1) w1.drew go s.guards) := IG3.later (Keeps.of_below hD1)
        have x30 := X3.cell 0
        have x32 := X3.cell 2
        have x33 := X3.cell 3
        have hsl1 : w.heap.size + 1 + 1 + 1 < w1.drew.heap.size := W3.sts.own.lt
        have HNS : Hid (¬ w.heap.size + 1 + 1 + 1 = wr.heap.size) := fun e => hnesb e.symm
        clear s0 s1 s2 hD1
        go_wp2_with fail
        go_region_held3 (fun w' => w'.cell? ⟨wr.heap.size, 0, none⟩ = some (.int .i64 x) ∧ w'.cell? ⟨wr.heap.size, 2, none⟩ = some (.slice to s.types.length tc) ∧ w'.cell? ⟨wr.heap.size, 3, none⟩ = some (.slice go s.guards.length gc)) (first | exact ⟨x30, x32, x33⟩ | exact ⟨d0, d2, d3⟩ | exact ⟨e0, e2, e3⟩ | exact HKP.out | (go_keep; done))
          (first
            | (go_at_call 65; refine (HCP.out ()).mono ?_; rintro e w2 ⟨v2, rfl, T2, hw2⟩; obtain ⟨vo, vc, rfl⟩ := owns_slice T2; have X5 := X4.later hw2; have d0 := X5.cell 0; have d2 := X5.cell 2; have d3 := X5.cell 3; have HGP : Hid (∀ _ : Unit, _) := fun _ => l3guards_any go gc s.guards w2 (by omega) (AllAt.lower (HIG4.out.later (Keeps.of_below hw2)) (Nat.zero_le _)); have W5 := HW4.out.later hw2; have F5 := HF4.out.later (Keeps.of_below hw2))
            | (go_at_call 71; refine (HGP.out ()).mono ?_; rintro e w3 ⟨v3, rfl, G3, hw3⟩; obtain ⟨uo, uc, rfl⟩ := owns_slice G3; have X6 := X5.later hw3; have e0 := X6.cell 0; have e2 := X6.cell 2; have e3 := X6.cell 3; have W6 := W5.later hw3; have F6 := F5.later (Keeps.of_below hw3); obtain ⟨to3, tc3, go3, gc3, z0, z1, z2, _, _⟩ := W6.sts.at_ x none (by have := HO.out; unfold Cf.st at this; rw [List.getD_eq_getElem?_getD, List.getElem?_eq_getElem hxS] at this; rw [List.getElem?_eq_getElem hxS]; exact congrArg some this); have fz := W6.sts.own.frozen; have HKP : Hid ((((w3.setCell ⟨w.heap.size + 1 + 1 + 1, x * 3, none⟩ (.bool true)).setCell ⟨w.heap.size + 1 + 1 + 1, x * 3 + 1, none⟩ (.slice vo s.types.length vc)).setCell ⟨w.heap.size + 1 + 1 + 1, x * 3 + 2, none⟩ (.slice uo s.guards.length uc)).cell? ⟨wr.heap.size, 0, none⟩ = some (.int .i64 x) ∧ (((w3.setCell ⟨w.heap.size + 1 + 1 + 1, x * 3, none⟩ (.bool true)).setCell ⟨w.heap.size + 1 + 1 + 1, x * 3 + 1, none⟩ (.slice vo s.types.length vc)).setCell ⟨w.heap.size + 1 + 1 + 1, x * 3 + 2, none⟩ (.slice uo s.guards.length uc)).cell? ⟨wr.heap.size, 2, none⟩ = some (.slice to s.types.length tc) ∧ (((w3.setCell ⟨w.heap.size + 1 + 1 + 1, x * 3, none⟩ (.bool true)).setCell ⟨w.heap.size + 1 + 1 + 1, x * 3 + 1, none⟩ (.slice vo s.types.length vc)).setCell ⟨w.heap.size + 1 + 1 + 1, x * 3 + 2, none⟩ (.slice uo s.guards.length uc)).cell? ⟨wr.heap.size, 3, none⟩ = some (.slice go s.guards.length gc)) := ⟨((World.cell?_setCell_far _ _ _ _ HNS.out).trans ((World.cell?_setCell_far _ _ _ _ HNS.out).trans (World.cell?_setCell_far _ _ _ _ HNS.out))).trans e0, ((World.cell?_setCell_far _ _ _ _ HNS.out).trans ((World.cell?_setCell_far _ _ _ _ HNS.out).trans (World.cell?_setCell_far _ _ _ _ HNS.out))).trans e2, ((World.cell?_setCell_far _ _ _ _ HNS.out).trans ((World.cell?_setCell_far _ _ _ _ HNS.out).trans (World.cell?_setCell_far _ _ _ _ HNS.out))).trans e3⟩))
        have HLO : Hid (w.heap.size + 1 + 1 + 1 + 1 + 1 ≤ w1.drew.heap.size) := W3.lt
        have I6 := AllAt.lower (owns_ints (owns_below T2 hw3)).1 HLO.out
        have G6 := AllAt.lower (owns_gds G3).1 (Nat.le_trans HLO.out hw2.size)
        have W7 := W6.put (k := x) hxS (s := s) (to := vo) (tc := vc) (go := uo) (gc := uc) I6 G6
        have K7 : Keeps (w.heap.size + 1 + 1 + 1 + 1 + 1) w3 (((w3.setCell ⟨w.heap.size + 1 + 1 + 1, x * 3, none⟩ (.bool true)).setCell ⟨w.heap.size + 1 + 1 + 1, x * 3 + 1, none⟩ (.slice vo s.types.length vc)).setCell ⟨w.heap.size + 1 + 1 + 1, x * 3 + 2, none⟩ (.slice uo s.guards.length uc)) := (((Keeps.refl _ _).setCell (by dsimp only; omega) _).setCell (by dsimp only; omega) _).setCell (by dsimp only; omega) _
        have F7 := F6.later K7
        have HC3 : Hid (CfOk p ⟨c'.sts.set x (some s), c'.due.set x true⟩) := reach_ok HOK.out HX.out.2 (reach_new HO.out)
        have HF3 : Hid (followF ⟨c'.sts.set x (some s), c'.due.set x true⟩ (fl.drop (j + 1)) = followF c fl) := by show _ = _; rw [HF2.out, reach_new HO.out]
        have W8 := W7.setDue (a := x) true
        have d7 := (W7.due.cell x).trans (boolArr_get hxD)
        have f7 := W7.due.frozen x
        have x7 := HKP.out.1
        clear HKP I6 G6 K7 d0 d2 d3 e0 e2 e3 X4 X5 X6 W5 W6 F5 F6 T2 G3 hw2 hw3 z0 z1 z2 fz x30 x32 x33 HCP HGP HW4 HF4 HIG4 W2 W3 F3 IT3 IG3 X3 HF2 HO
        generalize (((w3.setCell ⟨w.heap.size + 1 + 1 + 1, x * 3, none⟩ (.bool true)).setCell ⟨w.heap.size + 1 + 1 + 1, x * 3 + 1, none⟩ (.slice vo s.types.length vc)).setCell ⟨w.heap.size + 1 + 1 + 1, x * 3 + 2, none⟩ (.slice uo s.guards.length uc)) = w7 at *
        have F8 := F7.later (w' := w7.setCell ⟨w.heap.size + 1 + 1 + 1 + 1, x, none⟩ (.bool true)) ((Keeps.refl _ _).setCell (by dsimp only; omega) _)
        clear F7 W7
        go_wp2_with fail
        go_roundg (gk - 1)
        case measure => exact HG2.out.2
        case rel => exact ⟨j + 1, ⟨c'.sts.set x (some s), c'.due.set x true⟩, by omega, by go_num, HF3.out, HC3.out, HG2.out.1, F8, W8⟩
      | some t =>
        have HOT : Hid _ := HOK.out.ok x t HO.out
        go_wp2_with fail
        generalize hw1 : wr.alloc (.cells #[.int .i64 x, .bool true, .slice to s.types.length tc, .slice go s.guards.length gc] 135) = w1 at *
        clear f0 f1 f2 f3 hw1
        dsimp only [stT, stG, Option.isSome] at s0 s1 s2 JT JG
        have hD1 : Below w1.heap.size w1 w1.drew := (Below.refl _ _).drew
        have X4 := X3.later hD1
        have HSM : Hid (∀ _ : Unit, _) := fun _ => l3same_any true true to2 to go2 go tc2 tc gc2 gc t.types s.types t.guards s.guards w1.drew (by have := HOT.out.len; omega) (by have := HOT.out.few; omega) (AllAt.lower (JT.later (Keeps.of_below hD1)) (Nat.zero_le _)) (AllAt.lower (IT3.later (Keeps.of_below hD1)) (Nat.zero_le _)) (AllAt.lower (JG.later (Keeps.of_below hD1)) (Nat.zero_le _)) (AllAt.lower (IG3.later (Keeps.of_below hD1)) (Nat.zero_le _))
        unfold stV at HSM
        rw [st_same] at HSM
        have HW4 : Hid _ := W3.later hD1
        have HF4 : Hid (FolsAt (w.heap.size + 1 + 1 + 1 + 1 + 1) w1.drew (some ⟨fb, fof, none⟩) fl) := F3.later (Keeps.of_below hD1)
        have x30 := X3.cell 0
        have x31 := X3.cell 1
        have x32 := X3.cell 2
        have x33 := X3.cell 3
        have hsl1 : w.heap.size + 1 + 1 + 1 < w1.drew.heap.size := W3.sts.own.lt
        have HF3 : Hid (followF c fl = if t = s then followF c' (fl.drop (j + 1)) else .error (13, x)) := by
          show _ = _
          rw [HF2.out, reach_old HO.out]
          split
          · rename_i h1; split at h1
            · cases h1
            · rename_i h2; rw [if_neg h2]
          · rename_i h1; split at h1
            · rename_i h2; rw [if_pos h2]; obtain rfl := Option.some.inj h1; rfl
            · cases h1
        clear hD1 HF2 HO
        go_wp2_with fail
        go_region_held3 (fun w' => w'.cell? ⟨wr.heap.size, 0, none⟩ = some (.int .i64 x) ∧ w'.cell? ⟨wr.heap.size, 1, none⟩ = some (.bool true) ∧ w'.cell? ⟨wr.heap.size, 2, none⟩ = some (.slice to s.types.length tc) ∧ w'.cell? ⟨wr.heap.size, 3, none⟩ = some (.slice go s.guards.length gc) ∧ w'.cell? ⟨w.heap.size + 1 + 1 + 1, x * 3, none⟩ = some (.bool true) ∧ w'.cell? ⟨w.heap.size + 1 + 1 + 1, x * 3 + 1, none⟩ = some (.slice to2 t.types.length tc2) ∧ w'.cell? ⟨w.heap.size + 1 + 1 + 1, x * 3 + 2, none⟩ = some (.slice go2 t.guards.length gc2)) (first | exact ⟨x30, x31, x32, x33, s0, s1, s2⟩ | exact ⟨d0, d1, d2, d3, d4, d5, d6⟩ | (go_keep; done))
          (first | (go_at_call 72; refine (HSM.out ()).mono ?_; rintro e w2 ⟨rfl, hw2⟩; have X5 := X4.later hw2; have d0 := X5.cell 0; have d1 := X5.cell 1; have d2 := X5.cell 2; have d3 := X5.cell 3; have d4 := (hw2.cell (p := ⟨w.heap.size + 1 + 1 + 1, x * 3, none⟩) hsl1).trans s0; have d5 := (hw2.cell (p := ⟨w.heap.size + 1 + 1 + 1, x * 3 + 1, none⟩) hsl1).trans s1; have d6 := (hw2.cell (p := ⟨w.heap.size + 1 + 1 + 1, x * 3 + 2, none⟩) hsl1).trans s2; have W5 := HW4.out.later hw2; have F5 := HF4.out.later (Keeps.of_below hw2)))
        clear x30 x31 x32 x33 s0 s1 s2 d1 d2 d3 d4 d5 d6 HSM HW4 HF4 W2 W3 F3 IT3 IG3 JT JG X3 X4 hw2
        by_cases hts : t = s
        · have HF5 : Hid (followF c' (fl.drop (j + 1)) = followF c fl) := by have := HF3.out; rw [if_pos hts] at this; exact this.symm
          have kd : decide (t = s) = true := decide_eq_true hts
          rw [kd]
          clear HF3 hts kd
          go_wp2_with fail
          go_roundg (gk - 1)
          case measure => exact HG2.out.2
          case rel => exact ⟨j + 1, c', by omega, by go_num, HF5.out, HOK.out, HG2.out.1, F5, W5⟩
        · have HVF : Hid (verF ps p pi = (13, (pi : Int), (x : Int))) := HE.out x (by have := HF3.out; rw [if_neg hts] at this; exact this)
          have kd : decide (t = s) = false := decide_eq_false hts
          rw [kd]
          clear HF3 hts kd
          go_wp2_with fail
          refine (l3fault_any _ _ _ _).mono ?_
          rintro e wf ⟨rfl, hwf⟩
          have WF := W5.later hwf
          have cF := WF.flt.cell
          have fF := WF.flt.frozen
          go_wp2_with fail
          refine HQ.out _ _ (bodyPost_ret (v := .tuple #[.slice none 0 0, .agg #[.int .i64 13, .int .i64 pi, .int .i64 x]]) ?_ rfl ⟨⟨.slice none 0 0, ?_⟩, ?_⟩)
          · simp [results, Tryz.results35, go_sem, cF]
          · rw [HVF.out]; rfl
          · iterate 3 (refine Below.setCell ?_ (by simp) _)
            exact WF.below
    · obtain rfl : j = fl.length := by omega
      have k1 : ¬ (fl.length : Int) < fl.length := by omega
      have HR : Hid (followF c fl = .ok c') := by show _ = _; rw [← HF.out, List.drop_length]; rfl
      clear HF HG
      go_wp2_with fail
      exact HN.out _ _ _ _ _ _ _ _ _ _ _ _ _ _ _ _ _ _ _ _ _ _ _ _ _ _ _ _ _ _ _ _ _ _ _ _ _ _ _ _ _ _ _ _ _ _ HR.out W2
end Go.Proofs.YtmfippfnhcphhaaGreatDoor
