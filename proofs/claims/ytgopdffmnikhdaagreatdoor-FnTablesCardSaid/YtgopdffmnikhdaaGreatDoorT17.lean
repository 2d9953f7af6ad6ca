import Derived.Test.YtgopdffmnikhdaaGreatDoorT16
namespace Go.Proofs.YtgopdffmnikhdaaGreatDoor
open Go.RowKit Go.Deep
attribute [local go_sem] run_store_float vi
theorem kv_at {ks : List Int} {k : Nat} {y : Int} (h : ks[k]? = some y) : (kvs ks)[k * 5]? = some (.int .i64 2) ∧ (kvs ks)[k * 5 + 1]? = some (.int .i64 y) ∧ (kvs ks)[k * 5 + 2]? = some (.float .f64 0) ∧ (kvs ks)[k * 5 + 3]? = some (.string ByteArray.empty) ∧ (kvs ks)[k * 5 + 4]? = some (.int .i64 0) := by
  induction ks generalizing k with
  | nil => simp at h
  | cons a t ih =>
    cases k with
    | zero => simp at h; subst h; exact ⟨rfl, rfl, rfl, rfl, rfl⟩
    | succ k =>
      have := ih (k := k) (by simpa using h)
      have e : ∀ j, (kvs (a :: t))[(k + 1) * 5 + j]? = (kvs t)[k * 5 + j]? := fun j => by
        rw [show (k + 1) * 5 + j = k * 5 + j + 1 + 1 + 1 + 1 + 1 by omega]
        rfl
      exact ⟨(e 0).trans this.1, (e 1).trans this.2.1, (e 2).trans this.2.2.1, (e 3).trans this.2.2.2.1, (e 4).trans this.2.2.2.2⟩
set_option maxRecDepth 8000 in
set_option maxHeartbeats 4000000 in
theorem konst_new (bp lo r : Nat) (ks : List Int) (ns : List I5) (x : Int) (w : World) (hn : ks.length ≤ 4) (hx : x ∉ ks) (N : PnAt w lo bp r ks ns) : Calls Tryz.prog 11 #[pl bp, .agg (vi x)] w fun e w' => e = .returned (.int .i64 ks.length) ∧ PnAt w' lo bp r (ks ++ [x]) ns ∧ Below lo w w' := by
  obtain ⟨⟨kv, qv, tv, hB, hK, hR⟩, hlb⟩ := N
  obtain ⟨so, sc, rfl⟩ := owns_slice hK
  obtain ⟨L, hL⟩ : ∃ L, L = ks.length := ⟨_, rfl⟩
  rw [← hL] at hn hK hB ⊢
  have hlo : lo ≤ w.heap.size := Nat.le_trans hlb (Nat.le_of_lt hB.lt)
  have HK : Hid (w.ownsRow lo 44 5 (.slice so L sc) L (kvs ks)) := hK
  have HR : Hid (w.ownsRow lo 48 5 qv ns.length (ivs ns)) := hR
  have HL : Hid (L = ks.length) := hL
  have HX : Hid (x ∉ ks) := hx
  have HB : Hid (Blk w bp (pnA r (.slice so L sc) qv tv) 57) := hB
  have A0 : Below w.heap.size w (w.alloc (.cells (vi x) 44)) := (Below.refl _ _).alloc (Nat.le_refl _) _
  have b1 := (hB.later A0).cell
  clear hK hR hL hB hx
  go_enter Tryz.func11, Tryz.ntmps11
  go_wp2_with fail
  go_loopw [13] (fun i wr => ∃ k : Nat, k ≤ L ∧ i = .int .i64 k ∧ Hid (Below (w.heap.size + 1) (w.alloc (.cells (vi x) 44)) wr)) (fun i _ => L - (intOf i).toNat)
  case atStart => exact ⟨0, Nat.zero_le _, rfl, Below.refl _ _⟩
  case round =>
    obtain ⟨k, hk, rfl, hb⟩ := hrel
    have X := (Blk.new w (vi x) 44).later (by simpa using hb.out)
    have xc := X.cell
    by_cases hlt : k < L
    · obtain ⟨y, hy⟩ : ∃ y, ks[k]? = some y := ⟨_, List.getElem?_eq_getElem (HL.out ▸ hlt)⟩
      have Hy : Hid (y ≠ x) := fun e => HX.out (e ▸ List.mem_of_getElem? hy)
      obtain ⟨h0, h1, h2, h3, h4⟩ := kv_at hy
      have K1 := owns_below (owns_below HK.out A0) (by simpa using hb.out)
      rcases owns_form K1 with ⟨_, h⟩ | ⟨g, sc', hs, hr⟩
      · omega
      injection hs with hs _ hs'
      subst hs hs'
      have c0 := owns_cell K1 h0
      have c1 := owns_cell K1 h1
      have c2 := owns_cell K1 h2
      have c3 := owns_cell K1 h3
      have c4 := owns_cell K1 h4
      have xa := fun o => (X.alloc o).cell
      clear K1 h0 h1 h2 h3 h4 hy
      have hne : y ≠ x := Hy.out
      go_wp2_with fail
      go_roundw
      case rel => exact ⟨k + 1, by omega, by go_num, hb.out.alloc (by have := hb.out.size; simpa using this) _⟩
      case measure => simp [intOf]; omega
    · obtain ⟨W0, hW0⟩ : ∃ z, z = wr.drew := ⟨_, rfl⟩
      have BG : Below w.heap.size w W0 := hW0 ▸ (bl2 A0 (by simpa using hb.out)).drew
      have Z : Blk W0 w.heap.size (vi x) 44 := hW0 ▸ X
      have Y : Blk W0 bp (pnA r (.slice so L sc) qv tv) 57 := HB.out.later BG
      have R0 := owns_below HK.out BG
      have Q0 := owns_below HR.out BG
      go_wp2_with fail
      have zs := X.cell
      refine rgM (fun W => (∀ o, W.cell? ⟨w.heap.size, o, none⟩ = (vi x)[o]?)) zs (fun hS => ?_)
      iterate 5 (refine tkM rfl (by kernel_rfl) (by rfl) hS ⟨?_, fun W hW => ?_, ?_⟩; rotate_left; (focus (go_simp; with_reducible rfl)); try simp only [Act.put, List.setIfInBounds_toArray])
      refine permM [6, 5, 7, 8, 9, 10, 11, 12] (by kernel_rfl) ?_
      refine tkM rfl (by kernel_rfl) (by rfl) hS ⟨?_, fun W hW => ?_, ?_⟩
      rotate_left
      · go_simp
        with_reducible rfl
      try simp only [Act.put]
      rw [← hW0] at hS ⊢
      clear hW0 zs
      have hbn : w.heap.size ≠ bp := blk_ne Z Y (by decide)
      have hs0 : lo ≤ W0.heap.size := Nat.le_trans hlo BG.size
      have hown : w.heap.size ∉ (Value.slice so L sc).ownBlock.toList := fun hm => Nat.lt_irrefl _ (HK.out.lt _ (by simpa using hm)).2
      have ys := Y.cell
      have ya := fun o => (Y.alloc o).cell
      refine doM2 rfl rfl (by kernel_rfl) (by rfl) (by rfl) (fun K2 hK2 => ?a1) (fun K2 hK2 => ?b1)
      case' a1 =>
        go_wp2_with fail; refine hK2.out _ _ hS (fun _ => ?_); clear hK2 K2
        refine doM rfl (by kernel_rfl) (by rfl) (fun K2 hK2 => ?_)
        go_wp2_with fail; refine hK2.out _ _ (Z.alloc _).cell (fun hS => ?_); clear hK2 K2
      case' b1 =>
        go_wp2_with fail; refine hK2.out _ _ (Z.alloc _).cell (fun hS => ?_); clear hK2 K2
        refine doM rfl (by kernel_rfl) (by rfl) (fun K2 hK2 => ?_)
        go_wp2_with fail; refine hK2.out _ _ (Z.alloc _).cell (fun hS => ?_); clear hK2 K2
      all_goals
        refine doM rfl (by kernel_rfl) (by rfl) (fun K2 hK2 => ?_)
        have Z1 := Z.alloc (.cells (vi x) 44)
        have Y1 := Y.alloc (.cells (vi x) 44)
        have A1 : Below W0.heap.size W0 (W0.alloc (.cells (vi x) 44)) := (Below.refl _ _).alloc (Nat.le_refl _) _
        have R1 := owns_below R0 A1
        have Q1 := owns_below Q0 A1
        refine opApp eltVa (.tmp 28) (.tmp 30) rfl lo (.slice so L sc) L (kvs ks) (vi x).toList W0.heap.size (by simp [Act.eval]) R1 (by simp [Act.eval]) (fun k v hv => by rw [Nat.zero_add, (Blk.new W0 (vi x) 44).cell]; simpa using hv) rfl (by simp [Value.oneCell']) (by omega) (by decide) (Nat.le_trans hs0 A1.size) ?_
        intro v' w3 ho3 hg3 h5
        obtain ⟨so', sc', rfl⟩ := owns_slice ho3
        have gC : Chg (Value.slice so L sc).ownBlock.toList (W0.alloc (.cells (vi x) 44)) w3 := Chg.grown hg3 (fun k hk => by rw [hk]; simp)
        have Z3 := Z1.chg gC hown
        have Y3 := Y1.chg gC (row_ne2 R1 Y1 (by decide))
        have Q3 := owns_other Q1 (fun k hk => gC.block k (rows_ne Q1 R1 (by decide) hk) (Q1.lt k hk).2)
        refine hK2.out _ _ Z3.cell (fun hS => ?_)
        clear hK2 K2
        iterate 3 (refine tkM rfl (by kernel_rfl) (by rfl) hS ⟨?_, fun W hW => ?_, ?_⟩; rotate_left; (focus (go_simp; with_reducible rfl)); try simp only [Act.put, List.setIfInBounds_toArray])
        refine doM rfl (by kernel_rfl) (by rfl) (fun K2 hK2 => ?_)
        have y3 := Y3.cell
        have f3 := Y3.frozen
        have C4 : Chg [bp] w3 (w3.setCell ⟨bp, 6, none⟩ (.slice so' (L + 1) sc')) := (Chg.refl _ _).set (by simp) _ _
        have Y4 := Y3.set 6 (.slice so' (L + 1) sc')
        have K4 := owns_other ho3 (fun k hk => C4.block k (by intro e; simp at e; subst e; exact row_ne2 ho3 Y3 (by decide) (by simp [hk])) (ho3.lt k hk).2)
        have Q4 := owns_other Q3 (fun k hk => C4.block k (by intro e; simp at e; subst e; exact row_ne2 Q3 Y3 (by decide) (by simp [hk])) (Q3.lt k hk).2)
        have hF : PnAt (w3.setCell ⟨bp, 6, none⟩ (.slice so' (L + 1) sc')) lo bp r (ks ++ [x]) ns ∧ Below lo w (w3.setCell ⟨bp, 6, none⟩ (.slice so' (L + 1) sc')) := by
          refine ⟨⟨⟨.slice so' (L + 1) sc', qv, tv, Y4, ?_, Q4⟩, hlb⟩, blo (blo ((BG.mono hlo).trans (A1.mono hs0)) gC (row_lo R1) hlo) C4 (by simpa using hlb) hlo⟩
          rw [HL.out] at K4 ⊢
          simpa [kvs] using K4
        have HF : Hid (PnAt (w3.setCell ⟨bp, 6, none⟩ (.slice so' (L + 1) sc')) lo bp r (ks ++ [x]) ns ∧ Below lo w (w3.setCell ⟨bp, 6, none⟩ (.slice so' (L + 1) sc'))) := hF
        have y4 := Y4.cell
        have Z4 := (Z3.chg C4 (by simpa using hbn)).cell
        have ew : IntKind.i64.wrap (((L + 1 : Nat) : Int) - 1) = L := by rw [wq (by omega) (by omega)]; omega
        have ew2 : IntKind.i64.wrap ((L : Int) + 1 - 1) = L := by rw [wq (by omega) (by omega)]; omega
        clear hF
        go_wp2_with fail
        refine hK2.out _ _ Z4 (fun _ => enM (by kernel_rfl) (NoPanic.normal ?_))
        clear hK2 K2
        go_wp2_with fail
        go_ret
        exact ⟨rfl, HF.out⟩
end Go.Proofs.YtgopdffmnikhdaaGreatDoor
namespace Go.Proofs.YtgopdffmnikhdaaGreatDoor
open Go.RowKit Go.Deep
attribute [local go_sem] run_store_float vi
@[local go_sem] theorem run_eqf0 (w : World) : (Op.equalIn 9999 42 (.float .f64 0) (.float .f64 0)).run Tryz.prog w = .ok true w := by kernel_rfl
set_option maxRecDepth 8000 in
set_option maxHeartbeats 4000000 in
theorem konst_old (bp lo r : Nat) (ks : List Int) (ns : List I5) (x : Int) (w : World) (hn : ks.length ≤ 4) (hx : ks[0]? = some x) (N : PnAt w lo bp r ks ns) : Calls Tryz.prog 11 #[pl bp, .agg (vi x)] w fun e w' => e = .returned (.int .i64 0) ∧ PnAt w' lo bp r ks ns ∧ Below lo w w' := by
  have HN : Hid (PnAt w lo bp r ks ns) := N
  obtain ⟨⟨kv, qv, tv, hB, hK, hR⟩, hlb⟩ := N
  obtain ⟨L, hL⟩ : ∃ L, L = ks.length := ⟨_, rfl⟩
  have hl : 0 < L := by rw [hL]; exact (List.getElem?_eq_some_iff.1 hx).1
  rw [← hL] at hn hK
  have hlo : lo ≤ w.heap.size := Nat.le_trans hlb (Nat.le_of_lt hB.lt)
  rcases owns_form hK with ⟨_, h⟩ | ⟨g, sc, rfl, hr⟩
  · omega
  have A0 : Below w.heap.size w (w.alloc (.cells (vi x) 44)) := (Below.refl _ _).alloc (Nat.le_refl _) _
  have A1 : Below w.heap.size w ((w.alloc (.cells (vi x) 44)).alloc (.cells (vi x) 44)) := bl2 A0 ((Below.refl _ _).alloc (Nat.le_refl _) _)
  have b1 := (hB.later A0).cell
  obtain ⟨h0, h1, h2, h3, h4⟩ := kv_at hx
  have K1 := owns_below hK A0
  have c0 := owns_cell K1 h0
  have c1 := owns_cell K1 h1
  have c2 := owns_cell K1 h2
  have c3 := owns_cell K1 h3
  have c4 := owns_cell K1 h4
  have xa := fun o => ((Blk.new w (vi x) 44).alloc o).cell
  have hl' : (0 : Int) < L := by omega
  have HA : Hid (Below w.heap.size w ((w.alloc (.cells (vi x) 44)).alloc (.cells (vi x) 44))) := A1
  clear K1 h0 h1 h2 h3 h4 hK hR hB hL hx A1
  go_enter Tryz.func11, Tryz.ntmps11
  go_wp2_with fail
  refine wp_loop_rounds 1 ?_
  rw [rounds_succ]
  go_wp2_with fail
  go_ret
  exact ⟨rfl, HN.out.later HA.out, HA.out.mono hlo⟩
/-- What comes of a number that is looked up in the table of constants. -/
abbrev kAdd (x : Int) : List Int := if x = 1 then [1] else [1, x]
abbrev kIx (x : Int) : Nat := if x = 1 then 0 else 1
theorem konst_n (bp lo r : Nat) (ns : List I5) (x : Int) (w : World) (N : PnAt w lo bp r [1] ns) : Calls Tryz.prog 11 #[pl bp, .agg (vi x)] w fun e w' => e = .returned (.int .i64 (kIx x)) ∧ PnAt w' lo bp r (kAdd x) ns ∧ Below lo w w' := by
  by_cases h : x = 1
  · subst h
    exact (konst_old bp lo r [1] ns 1 w (by simp) rfl N).mono fun e w' h => by simpa [kIx, kAdd] using h
  · exact (konst_new bp lo r [1] ns x w (by simp) (by simpa using h) N).mono fun e w' g => by simpa [h, kIx, kAdd] using g
end Go.Proofs.YtgopdffmnikhdaaGreatDoor
namespace Go.Proofs.YtgopdffmnikhdaaGreatDoor
open Go.RowKit Go.Deep
attribute [local go_sem] run_store_float vi
/-- The instructions that MadeTables makes. -/
abbrev mIns (kx : Nat) : List I5 := [⟨4, 0, 0, 0, 0⟩, ⟨4, 1, kx, 0, 0⟩, ⟨4, 2, 0, 0, 0⟩, ⟨37, 0, 0, 0, 0⟩, ⟨38, 0, 9, 0, 0⟩, ⟨3, 0, 0, 0, 0⟩, ⟨12, 3, 0, 0, 0⟩, ⟨42, 3, 0, 0, 0⟩, ⟨39, 0, 4, 0, 0⟩, ⟨22, 3, 0, 0, 0⟩, ⟨29, -4, 0, 0, 0⟩]
abbrev mIns0 (kx : Nat) : List I5 := [⟨4, 0, 0, 0, 0⟩, ⟨4, 1, kx, 0, 0⟩, ⟨4, 2, 0, 0, 0⟩, ⟨37, 0, 0, 0, 0⟩, ⟨38, 0, 0, 0, 0⟩, ⟨3, 0, 0, 0, 0⟩, ⟨12, 3, 0, 0, 0⟩, ⟨42, 3, 0, 0, 0⟩, ⟨39, 0, 4, 0, 0⟩]
abbrev mIns1 (kx : Nat) : List I5 := [⟨4, 0, 0, 0, 0⟩, ⟨4, 1, kx, 0, 0⟩, ⟨4, 2, 0, 0, 0⟩, ⟨37, 0, 0, 0, 0⟩, ⟨38, 0, 9, 0, 0⟩, ⟨3, 0, 0, 0, 0⟩, ⟨12, 3, 0, 0, 0⟩, ⟨42, 3, 0, 0, 0⟩, ⟨39, 0, 4, 0, 0⟩]
theorem kLen (n : Int) : (kAdd n).length ≤ 4 := by unfold kAdd; split <;> simp
theorem kHd (n : Int) : (kAdd n)[0]? = some 1 := by unfold kAdd; split <;> simp
set_option maxRecDepth 8000 in
set_option maxHeartbeats 8000000 in
theorem made_any (n : Int) (w : World) : Calls Tryz.prog 5 #[.int .i64 n] w fun e w' => ∃ g b kv qv, e = .returned (.agg #[.slice (some ⟨g, 0, none⟩) 1 1]) ∧ Blk w' g (pr6 ⟨#[109, 97, 105, 110]⟩ 0 6 (.slice none 0 0) kv qv (.slice none 0 0)) 54 ∧ w.heap.size ≤ g ∧ w'.ownsRow b 44 5 kv (kAdd n).length (kvs (kAdd n)) ∧ w'.ownsRow b 48 5 qv 11 (ivs (mIns (kIx n))) ∧ w.heap.size ≤ b ∧ Below w.heap.size w w' := by
  have A0 : Below w.heap.size w (w.alloc (.cells #[.slice none 0 0] 26)) := (Below.refl _ _).alloc (Nat.le_refl _) _
  go_enter Tryz.func5, Tryz.ntmps5
  go_wp2_with fail
  refine (pen0 6 rfl _).mono ?_
  rintro e w1 ⟨bp, rfl, N, B1⟩
  have BB : Hid (Below (w.heap.size + 1) (w.alloc (.cells #[.slice none 0 0] 26)) w1) := (show Below (w.heap.size + 1) (w.alloc (.cells #[.slice none 0 0] 26)) w1 by simpa using B1)
  have HN : Hid (PnAt w1 (w.heap.size + 1) bp 6 [] []) := (show PnAt w1 (w.heap.size + 1) bp 6 [] [] by simpa using N)
  clear N B1
  go_wp2_with fail
  refine (l1int_any 1 w1).mono ?_
  rintro e w2 ⟨rfl, B⟩
  replace BB : Hid (Below (w.heap.size + 1) (w.alloc (.cells #[.slice none 0 0] 26)) w2) := BB.out.trans (B.mono (by have := BB.out.size; simpa using this))
  replace HN : Hid (PnAt w2 (w.heap.size + 1) bp 6 [] []) := HN.out.later B
  clear B
  go_wp2_with fail
  refine (konst_new bp (w.heap.size + 1) 6 [] [] 1 w2 (by decide) (by simp) HN.out).mono ?_
  rintro e w3 ⟨rfl, N, B⟩
  replace BB : Hid (Below (w.heap.size + 1) (w.alloc (.cells #[.slice none 0 0] 26)) w3) := BB.out.trans B
  replace HN : Hid (PnAt w3 (w.heap.size + 1) bp 6 [1] []) := N
  clear N B
  go_wp2_with fail
  refine (penPut bp (w.heap.size + 1) 6 [1] [] 4 0 0 0 0 w3 (by simp) HN.out).mono ?_
  rintro e w4 ⟨rfl, N, B⟩
  replace BB : Hid (Below (w.heap.size + 1) (w.alloc (.cells #[.slice none 0 0] 26)) w4) := BB.out.trans B
  replace HN : Hid (PnAt w4 (w.heap.size + 1) bp 6 [1] [⟨4, 0, 0, 0, 0⟩]) := N
  clear N B
  go_wp2_with fail
  refine (l1int_any n w4).mono ?_
  rintro e w5 ⟨rfl, B⟩
  replace BB : Hid (Below (w.heap.size + 1) (w.alloc (.cells #[.slice none 0 0] 26)) w5) := BB.out.trans (B.mono (by have := BB.out.size; simpa using this))
  replace HN : Hid (PnAt w5 (w.heap.size + 1) bp 6 [1] [⟨4, 0, 0, 0, 0⟩]) := HN.out.later B
  clear B
  go_wp2_with fail
  refine (konst_n bp (w.heap.size + 1) 6 [⟨4, 0, 0, 0, 0⟩] n w5 HN.out).mono ?_
  rintro e w6 ⟨rfl, N, B⟩
  replace BB : Hid (Below (w.heap.size + 1) (w.alloc (.cells #[.slice none 0 0] 26)) w6) := BB.out.trans B
  replace HN : Hid (PnAt w6 (w.heap.size + 1) bp 6 (kAdd n) [⟨4, 0, 0, 0, 0⟩]) := N
  clear N B
  go_wp2_with fail
  refine (penPut bp (w.heap.size + 1) 6 (kAdd n) [⟨4, 0, 0, 0, 0⟩] 4 1 (kIx n) 0 0 w6 (by simp) HN.out).mono ?_
  rintro e w7 ⟨rfl, N, B⟩
  replace BB : Hid (Below (w.heap.size + 1) (w.alloc (.cells #[.slice none 0 0] 26)) w7) := BB.out.trans B
  replace HN : Hid (PnAt w7 (w.heap.size + 1) bp 6 (kAdd n) [⟨4, 0, 0, 0, 0⟩, ⟨4, 1, (kIx n), 0, 0⟩]) := N
  clear N B
  go_wp2_with fail
  refine (l1int_any 1 w7).mono ?_
  rintro e w8 ⟨rfl, B⟩
  replace BB : Hid (Below (w.heap.size + 1) (w.alloc (.cells #[.slice none 0 0] 26)) w8) := BB.out.trans (B.mono (by have := BB.out.size; simpa using this))
  replace HN : Hid (PnAt w8 (w.heap.size + 1) bp 6 (kAdd n) [⟨4, 0, 0, 0, 0⟩, ⟨4, 1, (kIx n), 0, 0⟩]) := HN.out.later B
  clear B
  go_wp2_with fail
  refine (konst_old bp (w.heap.size + 1) 6 (kAdd n) [⟨4, 0, 0, 0, 0⟩, ⟨4, 1, (kIx n), 0, 0⟩] 1 w8 (kLen n) (kHd n) HN.out).mono ?_
  rintro e w9 ⟨rfl, N, B⟩
  replace BB : Hid (Below (w.heap.size + 1) (w.alloc (.cells #[.slice none 0 0] 26)) w9) := BB.out.trans B
  replace HN : Hid (PnAt w9 (w.heap.size + 1) bp 6 (kAdd n) [⟨4, 0, 0, 0, 0⟩, ⟨4, 1, (kIx n), 0, 0⟩]) := N
  clear N B
  go_wp2_with fail
  refine (penPut bp (w.heap.size + 1) 6 (kAdd n) [⟨4, 0, 0, 0, 0⟩, ⟨4, 1, (kIx n), 0, 0⟩] 4 2 0 0 0 w9 (by simp) HN.out).mono ?_
  rintro e w10 ⟨rfl, N, B⟩
  replace BB : Hid (Below (w.heap.size + 1) (w.alloc (.cells #[.slice none 0 0] 26)) w10) := BB.out.trans B
  replace HN : Hid (PnAt w10 (w.heap.size + 1) bp 6 (kAdd n) [⟨4, 0, 0, 0, 0⟩, ⟨4, 1, (kIx n), 0, 0⟩, ⟨4, 2, 0, 0, 0⟩]) := N
  clear N B
  go_wp2_with fail
  refine (penPut bp (w.heap.size + 1) 6 (kAdd n) [⟨4, 0, 0, 0, 0⟩, ⟨4, 1, (kIx n), 0, 0⟩, ⟨4, 2, 0, 0, 0⟩] 37 0 0 0 0 w10 (by simp) HN.out).mono ?_
  rintro e w11 ⟨rfl, N, B⟩
  replace BB : Hid (Below (w.heap.size + 1) (w.alloc (.cells #[.slice none 0 0] 26)) w11) := BB.out.trans B
  replace HN : Hid (PnAt w11 (w.heap.size + 1) bp 6 (kAdd n) [⟨4, 0, 0, 0, 0⟩, ⟨4, 1, (kIx n), 0, 0⟩, ⟨4, 2, 0, 0, 0⟩, ⟨37, 0, 0, 0, 0⟩]) := N
  clear N B
  go_wp2_with fail
  refine (penPut bp (w.heap.size + 1) 6 (kAdd n) [⟨4, 0, 0, 0, 0⟩, ⟨4, 1, (kIx n), 0, 0⟩, ⟨4, 2, 0, 0, 0⟩, ⟨37, 0, 0, 0, 0⟩] 38 0 0 0 0 w11 (by simp) HN.out).mono ?_
  rintro e w12 ⟨rfl, N, B⟩
  replace BB : Hid (Below (w.heap.size + 1) (w.alloc (.cells #[.slice none 0 0] 26)) w12) := BB.out.trans B
  replace HN : Hid (PnAt w12 (w.heap.size + 1) bp 6 (kAdd n) [⟨4, 0, 0, 0, 0⟩, ⟨4, 1, (kIx n), 0, 0⟩, ⟨4, 2, 0, 0, 0⟩, ⟨37, 0, 0, 0, 0⟩, ⟨38, 0, 0, 0, 0⟩]) := N
  clear N B
  go_wp2_with fail
  refine (penPut bp (w.heap.size + 1) 6 (kAdd n) [⟨4, 0, 0, 0, 0⟩, ⟨4, 1, (kIx n), 0, 0⟩, ⟨4, 2, 0, 0, 0⟩, ⟨37, 0, 0, 0, 0⟩, ⟨38, 0, 0, 0, 0⟩] 3 0 0 0 0 w12 (by simp) HN.out).mono ?_
  rintro e w13 ⟨rfl, N, B⟩
  replace BB : Hid (Below (w.heap.size + 1) (w.alloc (.cells #[.slice none 0 0] 26)) w13) := BB.out.trans B
  replace HN : Hid (PnAt w13 (w.heap.size + 1) bp 6 (kAdd n) [⟨4, 0, 0, 0, 0⟩, ⟨4, 1, (kIx n), 0, 0⟩, ⟨4, 2, 0, 0, 0⟩, ⟨37, 0, 0, 0, 0⟩, ⟨38, 0, 0, 0, 0⟩, ⟨3, 0, 0, 0, 0⟩]) := N
  clear N B
  go_wp2_with fail
  refine (penPut bp (w.heap.size + 1) 6 (kAdd n) [⟨4, 0, 0, 0, 0⟩, ⟨4, 1, (kIx n), 0, 0⟩, ⟨4, 2, 0, 0, 0⟩, ⟨37, 0, 0, 0, 0⟩, ⟨38, 0, 0, 0, 0⟩, ⟨3, 0, 0, 0, 0⟩] 12 3 0 0 0 w13 (by simp) HN.out).mono ?_
  rintro e w14 ⟨rfl, N, B⟩
  replace BB : Hid (Below (w.heap.size + 1) (w.alloc (.cells #[.slice none 0 0] 26)) w14) := BB.out.trans B
  replace HN : Hid (PnAt w14 (w.heap.size + 1) bp 6 (kAdd n) [⟨4, 0, 0, 0, 0⟩, ⟨4, 1, (kIx n), 0, 0⟩, ⟨4, 2, 0, 0, 0⟩, ⟨37, 0, 0, 0, 0⟩, ⟨38, 0, 0, 0, 0⟩, ⟨3, 0, 0, 0, 0⟩, ⟨12, 3, 0, 0, 0⟩]) := N
  clear N B
  go_wp2_with fail
  refine (penPut bp (w.heap.size + 1) 6 (kAdd n) [⟨4, 0, 0, 0, 0⟩, ⟨4, 1, (kIx n), 0, 0⟩, ⟨4, 2, 0, 0, 0⟩, ⟨37, 0, 0, 0, 0⟩, ⟨38, 0, 0, 0, 0⟩, ⟨3, 0, 0, 0, 0⟩, ⟨12, 3, 0, 0, 0⟩] 42 3 0 0 0 w14 (by simp) HN.out).mono ?_
  rintro e w15 ⟨rfl, N, B⟩
  replace BB : Hid (Below (w.heap.size + 1) (w.alloc (.cells #[.slice none 0 0] 26)) w15) := BB.out.trans B
  replace HN : Hid (PnAt w15 (w.heap.size + 1) bp 6 (kAdd n) [⟨4, 0, 0, 0, 0⟩, ⟨4, 1, (kIx n), 0, 0⟩, ⟨4, 2, 0, 0, 0⟩, ⟨37, 0, 0, 0, 0⟩, ⟨38, 0, 0, 0, 0⟩, ⟨3, 0, 0, 0, 0⟩, ⟨12, 3, 0, 0, 0⟩, ⟨42, 3, 0, 0, 0⟩]) := N
  clear N B
  go_wp2_with fail
  refine (penPut bp (w.heap.size + 1) 6 (kAdd n) [⟨4, 0, 0, 0, 0⟩, ⟨4, 1, (kIx n), 0, 0⟩, ⟨4, 2, 0, 0, 0⟩, ⟨37, 0, 0, 0, 0⟩, ⟨38, 0, 0, 0, 0⟩, ⟨3, 0, 0, 0, 0⟩, ⟨12, 3, 0, 0, 0⟩, ⟨42, 3, 0, 0, 0⟩] 39 0 4 0 0 w15 (by simp) HN.out).mono ?_
  rintro e w16 ⟨rfl, N, B⟩
  replace BB : Hid (Below (w.heap.size + 1) (w.alloc (.cells #[.slice none 0 0] 26)) w16) := BB.out.trans B
  replace HN : Hid (PnAt w16 (w.heap.size + 1) bp 6 (kAdd n) [⟨4, 0, 0, 0, 0⟩, ⟨4, 1, (kIx n), 0, 0⟩, ⟨4, 2, 0, 0, 0⟩, ⟨37, 0, 0, 0, 0⟩, ⟨38, 0, 0, 0, 0⟩, ⟨3, 0, 0, 0, 0⟩, ⟨12, 3, 0, 0, 0⟩, ⟨42, 3, 0, 0, 0⟩, ⟨39, 0, 4, 0, 0⟩]) := N
  clear N B
  obtain ⟨⟨kv, qv, tv, hB, hK, hR⟩, hlb⟩ := HN.out
  rcases owns_form hR with ⟨_, h⟩ | ⟨g, sc, rfl, hr⟩
  · simp at h
  have hR' : w16.ownsRow (w.heap.size + 1) 48 5 (.slice (some ⟨g, 0, none⟩) 9 sc) 9 (ivs (mIns0 (kIx n))) := hR
  have hB' : Blk w16 bp (pnA 6 kv (.slice (some ⟨g, 0, none⟩) 9 sc) tv) 57 := hB
  have x0 := hB'.cell
  have x1 := hR'.frozenAt
  have x2 := owns_cell hR' (j := 22) rfl
  have HR : Hid (w16.ownsRow (w.heap.size + 1) 48 5 (.slice (some ⟨g, 0, none⟩) 9 sc) 9 (ivs (mIns0 (kIx n)))) := hR'
  have HB : Hid (Blk w16 bp (pnA 6 kv (.slice (some ⟨g, 0, none⟩) 9 sc) tv) 57) := hB'
  have HK : Hid (w16.ownsRow (w.heap.size + 1) 44 5 kv (kAdd n).length (kvs (kAdd n))) := hK
  have hgb : g ≠ bp := fun e => row_ne2 hR' hB' (by decide) (by simp [e, Value.ownBlock])
  have hbg : bp ≠ g := fun e => hgb e.symm
  have x7 : w16.cell? ⟨bp, 7, none⟩ = some (.slice (some ⟨g, 0, none⟩) 9 sc) := x0 7
  clear hR hB hR' hB' hK hr x0
  go_wp2_with fail
  go_region_held3 (fun w' => w'.cell? ⟨bp, 7, none⟩ = some (.slice (some ⟨g, 0, none⟩) 9 sc)) (go_keep)
    (first | (go_at_call 13; refine (penAt bp (w.heap.size + 1) 6 (kAdd n) (mIns0 (kIx n)) _ (HN.out.later (Below.refl _ _).drew)).mono ?_; rintro e w17 ⟨rfl, rfl⟩))
  have C4 : Chg [g] w16 (w16.setCell ⟨g, 22, none⟩ (.int .i64 9)).drew := ((Chg.refl _ _).set (by simp) _ _).below (Below.refl _ _).drew
  have Y4 := HB.out.chg C4 (by simpa using hbg)
  have R4 : (w16.setCell ⟨g, 22, none⟩ (.int .i64 9)).drew.ownsRow (w.heap.size + 1) 48 5 (.slice (some ⟨g, 0, none⟩) 9 sc) 9 (ivs (mIns1 (kIx n))) := owns_below (HR.out.stored 22 (.int .i64 9)).1 (Below.refl _ _).drew
  have K4 := owns_other HK.out (fun k hk => C4.block k (by intro e; simp at e; subst e; exact rows_ne HK.out HR.out (by decide) hk (by simp [Value.ownBlock])) (HK.out.lt k hk).2)
  have hg := (HR.out.lt g (by simp [Value.ownBlock])).1
  have B4 : Below (w.heap.size + 1) (w.alloc (.cells #[.slice none 0 0] 26)) (w16.setCell ⟨g, 22, none⟩ (.int .i64 9)).drew := BB.out.trans (C4.low (by have := BB.out.size; simpa using this) (fun q hq => by simp at hq; omega))
  replace HN : Hid (PnAt (w16.setCell ⟨g, 22, none⟩ (.int .i64 9)).drew (w.heap.size + 1) bp 6 (kAdd n) (mIns1 (kIx n))) := (show PnAt _ _ _ _ _ _ from ⟨⟨kv, .slice (some ⟨g, 0, none⟩) 9 sc, tv, Y4, K4, R4⟩, hlb⟩)
  replace BB : Hid (Below (w.heap.size + 1) (w.alloc (.cells #[.slice none 0 0] 26)) (w16.setCell ⟨g, 22, none⟩ (.int .i64 9)).drew) := B4
  clear C4 Y4 R4 K4 B4 HB HR HK x1 x2 x7 hg
  go_wp2_with fail
  refine (penBack bp (w.heap.size + 1) 6 (kAdd n) (mIns1 (kIx n)) _ (by simp) HN.out).mono ?_
  rintro e w17 ⟨rfl, N, B⟩
  replace BB : Hid (Below (w.heap.size + 1) (w.alloc (.cells #[.slice none 0 0] 26)) w17) := BB.out.trans B
  replace HN : Hid (PnAt w17 (w.heap.size + 1) bp 6 (kAdd n) (mIns (kIx n))) := N
  clear N B hgb hbg
  obtain ⟨⟨kv, qv, tv, hB, hK, hR⟩, hlb⟩ := HN.out
  have x0 := hB.cell
  have HK : Hid (w17.ownsRow (w.heap.size + 1) 44 5 kv (kAdd n).length (kvs (kAdd n))) := hK
  have HR : Hid (w17.ownsRow (w.heap.size + 1) 48 5 qv 11 (ivs (mIns (kIx n)))) := hR
  have Z := (Blk.new w #[.slice none 0 0] 26).later (by simpa using BB.out)
  have Za := fun o => (Z.alloc o).cell
  have Zf := fun o => (Z.alloc o).frozen
  clear hB hK hR
  go_wp2_with fail
  have s17 := BB.out.size
  simp only [World.size_alloc] at s17
  have A1 : Below w17.heap.size w17 (w17.alloc (.cells (pr6 ⟨#[109, 97, 105, 110]⟩ 0 6 (.slice none 0 0) kv qv (.slice none 0 0)) 54)) := (Below.refl _ _).alloc (Nat.le_refl _) _
  have C5 : Chg [w.heap.size] (w17.alloc (.cells (pr6 ⟨#[109, 97, 105, 110]⟩ 0 6 (.slice none 0 0) kv qv (.slice none 0 0)) 54)) ((w17.alloc (.cells (pr6 ⟨#[109, 97, 105, 110]⟩ 0 6 (.slice none 0 0) kv qv (.slice none 0 0)) 54)).setCell ⟨w.heap.size, 0, none⟩ (.slice (some ⟨w17.heap.size, 0, none⟩) 1 1)) := (Chg.refl _ _).set (by simp) _ _
  have P := (Blk.new w17 (pr6 ⟨#[109, 97, 105, 110]⟩ 0 6 (.slice none 0 0) kv qv (.slice none 0 0)) 54).chg C5 (by simp; omega)
  have K5 := owns_other (owns_below HK.out A1) (fun k hk => C5.block k (by have := (HK.out.lt k hk).1; simp; omega) ((owns_below HK.out A1).lt k hk).2)
  have R5 := owns_other (owns_below HR.out A1) (fun k hk => C5.block k (by have := (HR.out.lt k hk).1; simp; omega) ((owns_below HR.out A1).lt k hk).2)
  have F5 : Below w.heap.size w ((w17.alloc (.cells (pr6 ⟨#[109, 97, 105, 110]⟩ 0 6 (.slice none 0 0) kv qv (.slice none 0 0)) 54)).setCell ⟨w.heap.size, 0, none⟩ (.slice (some ⟨w17.heap.size, 0, none⟩) 1 1)) := ((A0.trans ((BB.out.mono (Nat.le_succ _)).trans (A1.mono (by omega))))).trans (C5.low (by simp; omega) (fun q hq => by simp at hq; omega))
  have Z5 := ((Z.alloc (.cells (pr6 ⟨#[109, 97, 105, 110]⟩ 0 6 (.slice none 0 0) kv qv (.slice none 0 0)) 54)).set 0 (.slice (some ⟨w17.heap.size, 0, none⟩) 1 1)).cell
  generalize hW5 : (w17.alloc (.cells #[.string ⟨#[109, 97, 105, 110]⟩, .int .i64 0, .int .i64 0, .bool false, .int .i64 6, .slice none 0 0, kv, qv, .slice none 0 0] 54)).setCell ⟨w.heap.size, 0, none⟩ (.slice (some ⟨w17.heap.size, 0, none⟩) 1 1) = W5
  have e5 : (w17.alloc (.cells (pr6 ⟨#[109, 97, 105, 110]⟩ 0 6 (.slice none 0 0) kv qv (.slice none 0 0)) 54)).setCell ⟨w.heap.size, 0, none⟩ (.slice (some ⟨w17.heap.size, 0, none⟩) 1 1) = W5 := hW5
  rw [e5] at P K5 R5 F5 Z5
  clear C5 A1 Za Zf hW5 e5
  have z0 : W5.cell? ⟨w.heap.size, 0, none⟩ = some (.slice (some ⟨w17.heap.size, 0, none⟩) 1 1) := Z5 0
  refine bodyPost_ret (v := .agg #[.slice (some ⟨w17.heap.size, 0, none⟩) 1 1]) (by simp [results, Tryz.results5, go_sem, z0]) rfl ?_
  exact ⟨w17.heap.size, w.heap.size + 1, kv, qv, rfl, P, by omega, K5, R5, by omega, F5⟩
end Go.Proofs.YtgopdffmnikhdaaGreatDoor
namespace Go.Proofs.YtgopdffmnikhdaaGreatDoor
open Go.RowKit Go.Deep
attribute [local go_sem] run_store_float vi
/-- Bytes that came in. -/
def BysAt (w : World) (ao : Option Addr) (n : Nat) : Prop := n = 0 ∨ ∃ b o, ao = some ⟨b, o, none⟩ ∧ ∀ i, i < n → ∃ x : Int, 0 ≤ x ∧ x ≤ 255 ∧ w.cell? ⟨b, o + i, none⟩ = some (.int .u8 x)
theorem BysAt.later {w w' : World} {ao : Option Addr} {n : Nat} (h : BysAt w ao n) (hb : Below w.heap.size w w') : BysAt w' ao n := by
  rcases h with h | ⟨b, o, h1, h2⟩
  · exact .inl h
  · exact .inr ⟨b, o, h1, fun i hi => let ⟨x, x0, x1, x2⟩ := h2 i hi; ⟨x, x0, x1, cb x2 hb⟩⟩
theorem wByte_any (ao : Option Addr) (n cap i : Nat) (w : World) (hn : n ≤ 1048576) (hi : i ≤ 2) (H : BysAt w ao n) : Calls Tryz.prog 4 #[.slice ao n cap, .int .i64 i] w fun e w' => ∃ x : Int, e = .returned (.int .i64 x) ∧ 0 ≤ x ∧ x ≤ 255 ∧ w' = w := by
  by_cases h0 : n = 0
  · subst h0
    go_enter Tryz.func4, Tryz.ntmps4
    go_wp2_with fail
    go_ret
    exact ⟨0, rfl, by omega, by omega, rfl⟩
  · obtain ⟨b, o, rfl, G⟩ := H.resolve_left h0
    have hm : i % n < n := Nat.mod_lt _ (by omega)
    obtain ⟨x, x0, x1, x2⟩ := G (i % n) hm
    have g0 : ¬ (n : Int) = 0 := by omega
    have e1 : (i : Int).tmod n = ((i % n : Nat) : Int) := by rw [Int.tmod_eq_emod_of_nonneg (by omega)]; omega
    have e2 : IntKind.i64.wrap ((i : Int).tmod n) = ((i % n : Nat) : Int) := by rw [e1]; exact wq (by omega) (by omega)
    have ew : IntKind.i64.wrap x = x := wq (by omega) (by omega)
    generalize i % n = j at *
    have hm' : (j : Int) < n := by omega
    clear H G
    go_enter Tryz.func4, Tryz.ntmps4
    go_wp2_with fail
    go_ret
    exact ⟨x, rfl, x0, x1, rfl⟩
end Go.Proofs.YtgopdffmnikhdaaGreatDoor
