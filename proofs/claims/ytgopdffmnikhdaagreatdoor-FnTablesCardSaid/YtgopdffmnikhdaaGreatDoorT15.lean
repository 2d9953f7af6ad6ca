import Derived.Test.YtgopdffmnikhdaaGreatDoorT14
import Derived.Deep.MidRow
namespace Go.Proofs.YtgopdffmnikhdaaGreatDoor
open Go.RowKit Go.Deep
attribute [local go_sem] run_store_float vi
theorem SlSt.forms {lo bm L n : Nat} {m : Mc} {xs : List Value} {w : World} (h : SlSt lo w bm m L n xs) : ∃ so sc fo fc, m.slots = .slice so L sc ∧ m.free = .slice fo n fc := by
  obtain ⟨so, sc, h1⟩ := owns_slice h.row
  rcases h.heap with ⟨rfl, fo, fc, h2⟩ | ⟨g, c, h2, _⟩
  · exact ⟨so, sc, fo, fc, h1, h2⟩
  · exact ⟨so, sc, _, c, h1, h2⟩
theorem Mn.used {b : Sb} {kx : Nat} {n pc : Int} {m : Mc} {d k tk : Int} {L nf : Nat} {W : World} (h : Mn b kx n pc m d k tk L nf W) (hL : L ≤ 100000) (hn : nf ≤ L) : Calls Tryz.prog 17 #[pl b.bm] W fun e w' => e = .returned (.int .i64 ((L : Int) - nf)) ∧ Below W.heap.size W w' := by
  obtain ⟨sv, fv, xs, mv, hs, h1⟩ := h.m
  obtain ⟨so, sc, fo, fc, e1, e2⟩ := h1.forms
  have e1 : sv = .slice so L sc := e1
  have e2 : fv = .slice fo nf fc := e2
  subst e1 e2
  exact used_any b.bm (me m b pc d k tk mv hs (.slice so L sc) (.slice fo nf fc)) so fo L sc nf fc W hn (by omega) h1.x
/-- What holds of the slots in Most's loop. -/
def Gm (x : Nat) (d k : Int) (L nf mo : Nat) : Prop := 0 ≤ d ∧ d ≤ k ∧ nf ≤ L ∧ L ≤ 2 ∧ mo ≤ 1 ∧ (x ≠ 7 → L - nf ≤ mo ∧ (1 ≤ k → mo = 1)) ∧ (x = 7 → 1 ≤ L - nf ∧ L - nf ≤ mo + 1)
theorem Gm.step {d k dm d' k' : Int} {x x' L nf Lm nm L' nf' mo : Nat} (h : Gm x d k L nf mo) (h0 : L - nf ≤ mo) (h1 : GbR 0 x d L nf dm Lm nm) (h2 : MvR x x' dm k Lm nm d' k' L' nf') (hk : x' = 7 ∨ x = 7 → 1 ≤ k') (hm : x = 7 → mo = 1) : Gm x' d' k' L' nf' mo := by
  unfold Gm GbR MvR at *
  omega
/-- Where Most's loop stands. -/
def MsI (b : Sb) (kx : Nat) (n : Int) (m : Mc) (c : Cc) (t : Tc) (g mo : Nat) (W : World) : Prop :=
  (∃ x i d k tk L nf, At b kx n 0 m c t x i d k tk L nf W ∧ Iv n x i k tk ∧ Gm x d k L nf mo ∧ mu n x i + 1 ≤ g) ∨ (mo = 1 ∧ ∃ d L nf, Fin b kx n 0 m d n n L nf W)
theorem Iv.seven {n : Int} {x : Nat} {i k tk : Int} (h : Iv n x i k tk) (hn : 1 ≤ n) (hx : 7 ≤ x) : 1 ≤ k := by
  rcases h with h | h | h | h | h | h <;> omega
set_option maxHeartbeats 4000000 in
theorem most_any (kx : Nat) (n : Int) (co : Option Addr) (cn cc : Nat) (is : Array Value) (w : World) (hn : 1 ≤ n) (H : Hid (NewOk kx n 0 #[.slice co cn cc] is w)) (hI : ∃ a1 n1 c1 a2 n2 c2 t1 d1 e1, is = #[.slice a1 n1 c1, .slice a2 n2 c2, .int .i64 t1, .int .i64 d1, .int .i64 e1]) :
    Calls Tryz.prog 8 #[.agg #[.slice co cn cc], .agg is] w fun e w' => e = .returned (.int .i64 1) ∧ Below w.heap.size w w' := by
  obtain ⟨a1, n1, c1, a2, n2, c2, t1, d1, e1, rfl⟩ := hI
  go_enter Tryz.func8, Tryz.ntmps8
  go_wp2_with (go_at_call 15; refine (H.out _ (bl2 ((Below.refl _ _).alloc (Nat.le_refl _) _) ((Below.refl _ _).alloc (Nat.le_refl _) _))).mono ?_; rintro e W0 ⟨b, m, c, t, rfl, hbx, hlo, hw0, K, A0⟩)
  have hB0 : Below w.heap.size w b.w0 := by rw [hw0]; exact bl2 ((Below.refl _ _).alloc (Nat.le_refl _) _) ((Below.refl _ _).alloc (Nat.le_refl _) _)
  have hlw : w.heap.size ≤ b.lo := by rw [hlo]; simp; omega
  have HA : Hid (MsI b kx n (mR m) c t 4000 0 W0) := .inl ⟨0, 1, 0, 0, 0, 0, 0, A0, .inl ⟨by decide, rfl, rfl, rfl⟩, by unfold Gm; omega, by have := K.n; unfold mu; omega⟩
  have HB : Hid (∀ W, Sd b kx n W → Below w.heap.size w W) := fun W h => hB0.trans (h.low.mono hlw)
  have HK : Hid (Ok b kx n 0) := K
  clear A0 hlo hw0 hB0 hlw K
  go_loopg [6] 4000 (fun g y wr => ∃ mo : Nat, y = .int .i64 mo ∧ Hid (MsI b kx n (mR m) c t g mo wr))
  case atStart => exact ⟨0, rfl, HA⟩
  case round =>
    obtain ⟨mo, rfl, HI⟩ := hrel
    rcases HI.out with ⟨x, i, d, k, tk, L, nf, hA, hI, hG, hg⟩ | ⟨rfl, d, L, nf, hF⟩
    · have hM := hA.mn hI.le
      have cl : ∀ {W : World}, Sd b kx n W → W.cell? ⟨b.bl, 0, none⟩ = some (pl b.bm) := fun h => by
        obtain ⟨la, l1, l2, _⟩ := h.l
        exact (l1.cell 0).trans l2.m
      have co2 : wr.cell? ⟨b.bm, 17, none⟩ = some (.bool false) := by
        obtain ⟨sv, fv, xs, mv, hs, h1⟩ := hM.m
        exact h1.x.cell 17
      have c1 := cl hM.s
      have hkn := hI.kn HK.out.n1
      have hKn := HK.out.n
      have hG' := hG
      unfold Gm at hG'
      have HU : Hid (Calls Tryz.prog 17 #[pl b.bm] wr fun e w' => e = .returned (.int .i64 ((L : Int) - nf)) ∧ At b kx n 0 (mR m) c t x i d k tk L nf w' ∧ w'.cell? ⟨b.bl, 0, none⟩ = some (pl b.bm)) := (hM.used (by omega) hG'.2.2.1).mono fun e w' ⟨he, hb⟩ => ⟨he, hA.later hI.le hb, cl ((hA.later hI.le hb).mn hI.le).s⟩
      have HR : Hid (∀ (d : Int) (L nf mo : Nat) (W : World), Gm x d k L nf mo → L - nf ≤ mo → (x = 7 → mo = 1) → At b kx n 0 (mR m) c t x i d k tk L nf W → Calls Tryz.prog 16 #[pl b.bl, .int .i64 1] W fun e w' => e = .returned (.tuple #[]) ∧ ∃ g', g' < gk ∧ MsI b kx n (mR m) c t g' mo w') := by
        intro d L nf mo W hG h0 hm hA
        have hG' := hG
        unfold Gm at hG'
        refine (run1 hbx HK.out hG'.1 (by omega) (by omega) hG'.2.2.1 (.inr (.inl rfl)) hI hA).mono ?_
        rintro e w' ⟨rfl, ⟨h12, x', i', d', k', tk', L', nf', dm, Lm, nm, h1, h2, h3, h4, h5⟩ | ⟨h12, hF⟩⟩
        · exact ⟨rfl, mu n x' i' + 1, by omega, .inl ⟨x', i', d', k', tk', L', nf', h1, h2, hG.step h0 h4 h5 (fun h => by
            rcases h with h | h
            · exact h2.seven hn (by omega)
            · have h6 := hI.seven hn (by omega); unfold MvR at h5; omega) hm, Nat.le_refl _⟩⟩
        · subst h12
          obtain ⟨rfl, rfl⟩ := hI.end
          exact ⟨rfl, 0, by omega, .inr ⟨by omega, d, L, nf, hF⟩⟩
      by_cases hu : (mo : Int) < (L : Int) - nf
      · have h7 : x = 7 := by omega
        have HR7 : Hid (∀ W, At b kx n 0 (mR m) c t x i d k tk L nf W → Calls Tryz.prog 18 #[pl b.bm] W fun e w' => e = .returned (.tuple #[]) ∧ ∃ q : Nat, q < L ∧ At b kx n 0 (mR m) c t x i 0 k tk (q + 1) q w' ∧ w'.cell? ⟨b.bl, 0, none⟩ = some (pl b.bm)) := by
          intro W hA
          subst h7
          obtain ⟨p, hA⟩ := hA
          refine (gb7 (by omega) hG'.2.2.1 hA).mono ?_
          rintro e w' ⟨rfl, hp, h⟩
          exact ⟨rfl, p, hp, ⟨p, h⟩, cl h.s⟩
        have HC : Hid (∀ {W : World}, Sd b kx n W → W.cell? ⟨b.bl, 0, none⟩ = some (pl b.bm)) := cl
        have HG : Hid (Gm x d k L nf mo ∧ x = 7 ∧ Iv n x i k tk) := ⟨hG, h7, hI⟩
        clear hA hI hG hg hM HI cl hG' hkn hKn h7
        go_wp2_with (go_at_call 17; refine HU.out.mono ?_; rintro e w3 ⟨rfl, A3, cl3⟩; have HA3 : Hid (At b kx n 0 (mR m) c t x i d k tk L nf w3) := A3; clear A3)
        refine (HR7.out w3 HA3.out).mono ?_
        rintro e w4 ⟨rfl, q, hq, A4, cl4⟩
        have HA4 : Hid (At b kx n 0 (mR m) c t x i 0 k tk (q + 1) q w4) := A4
        clear A4
        go_wp2_with fail
        have hG := HG.out.1
        have h7 := HG.out.2.1
        have hk7 := HG.out.2.2.seven hn (by omega)
        have hle := HG.out.2.2.le
        unfold Gm at hG
        refine ((HA4.out.mn hle).used (by omega) (by omega)).mono ?_
        rintro e w5 ⟨rfl, hb5⟩
        have A5 := HA4.out.later hle hb5
        have HA5 : Hid (At b kx n 0 (mR m) c t x i 0 k tk (q + 1) q w5) := A5
        have c5 := HC.out (A5.mn hle).s
        have hR5 := HR.out 0 (q + 1) q 1 w5 (by unfold Gm; omega) (by omega) (fun _ => rfl) A5
        have HR5 : Hid (Calls Tryz.prog 16 #[pl b.bl, .int .i64 1] w5 fun e w' => e = .returned (.tuple #[]) ∧ ∃ g', g' < gk ∧ MsI b kx n (mR m) c t g' 1 w') := hR5
        have hq1 : (((q + 1 : Nat) : Int) - (q : Int)) = 1 := by omega
        have hmx : max (mo : Int) 1 = ((1 : Nat) : Int) := by omega
        rw [hq1]
        clear hG h7 hk7 hle A5 hR5 hq1
        go_wp2_with (go_at_call 16; refine HR5.out.mono ?_; rintro e w6 ⟨rfl, g', hg', HP⟩)
        go_roundg g'
        case measure => exact hg'
        case rel => exact ⟨1, congrArg (Value.int .i64) (by omega), HP⟩
      · have HRz : Hid (∀ W, At b kx n 0 (mR m) c t x i d k tk L nf W → Calls Tryz.prog 16 #[pl b.bl, .int .i64 1] W fun e w' => e = .returned (.tuple #[]) ∧ ∃ g', g' < gk ∧ MsI b kx n (mR m) c t g' mo w') := fun W hW => HR.out d L nf mo W hG (by omega) (by omega) hW
        clear hA hI hG hg hM HI cl hG' hkn hKn HR
        go_wp2_with (first
          | (go_at_call 17; refine HU.out.mono ?_; clear HU; rintro e w3 ⟨rfl, A3, cl3⟩; have HA3 : Hid (At b kx n 0 (mR m) c t x i d k tk L nf w3) := A3; clear A3)
          | (go_at_call 16; refine (HRz.out w3 HA3.out).mono ?_; rintro e w6 ⟨rfl, g', hg', HP⟩))
        go_roundg g'
        case measure => exact hg'
        case rel => exact ⟨mo, rfl, HP⟩
    · obtain ⟨la, l1, l2, _⟩ := hF.s.l
      have cl : wr.cell? ⟨b.bl, 0, none⟩ = some (pl b.bm) := (l1.cell 0).trans l2.m
      have co2 : wr.cell? ⟨b.bm, 17, none⟩ = some (.bool true) := by
        obtain ⟨sv, fv, xs, mv, h1⟩ := hF.m
        exact h1.x.cell 17
      have HFin : Hid (Below w.heap.size w wr) := HB.out _ hF.s
      clear hF l1 l2 HI
      go_wp2_with fail
      go_ret
      exact ⟨rfl, HFin.out⟩
end Go.Proofs.YtgopdffmnikhdaaGreatDoor
namespace Go.Proofs.YtgopdffmnikhdaaGreatDoor
open Go.RowKit Go.Deep
attribute [local go_sem] run_store_float vi
theorem infoReg : (Tryz.prog.info? 169).map (fun i => (i.zero, i.size, i.bytes)) = some (some (.agg #[.int .i64 0, .int .i64 0, .int .i64 0, .float .f64 0, .string ByteArray.empty, .int .i64 0, .pointer none, .slice none 0 0]), 8, 88) := by kernel_rfl
theorem infoCache : (Tryz.prog.info? 220).map (fun i => (i.zero, i.size, i.bytes)) = some (some (.agg #[.int .i64 0, .int .i64 0]), 2, 16) := by kernel_rfl
/-- The cells of a proto that takes no values. -/
abbrev pr6 (nm : ByteArray) (ln : Int) (s : Nat) (us ks qs ns : Value) : Array Value := #[.string nm, .int .i64 ln, .int .i64 0, .bool false, .int .i64 s, us, ks, qs, ns]
theorem made6 : madeCells #[.int .i64 0, .int .i64 0, .int .i64 0, .float .f64 0, .string ByteArray.empty, .int .i64 0, .pointer none, .slice none 0 0] (6 * 8) = (rA .none .none .none .none).arr := by
  apply Array.ext_getElem?
  intro i
  by_cases h : i < 48
  · unfold madeCells
    rw [Array.getElem?_map]
    rcases (by omega : i = i % 8 + 0 * 8 ∨ i = i % 8 + 1 * 8 ∨ i = i % 8 + 2 * 8 ∨ i = i % 8 + 3 * 8 ∨ i = i % 8 + 4 * 8 ∨ i = i % 8 + 5 * 8) with e | e | e | e | e | e <;> rcases (by omega : i % 8 = 0 ∨ i % 8 = 1 ∨ i % 8 = 2 ∨ i % 8 = 3 ∨ i % 8 = 4 ∨ i % 8 = 5 ∨ i % 8 = 6 ∨ i % 8 = 7) with f | f | f | f | f | f | f | f <;> (rw [f] at e; subst e; rfl)
  · rw [Array.getElem?_eq_none (by rw [size_madeCells]; omega), Array.getElem?_eq_none (by simp; omega)]
set_option maxHeartbeats 4000000 in
theorem filled0 (nm : ByteArray) (ln : Int) (s : Nat) (h6 : s = 6) (u0 k0 i0 n0 : Option Addr) (u1 u2 k1 k2 i1 i2 n1 n2 : Nat) (w : World) :
    Calls Tryz.prog 116 #[.agg (pr6 nm ln s (.slice u0 u1 u2) (.slice k0 k1 k2) (.slice i0 i1 i2) (.slice n0 n1 n2)), .slice none 0 0] w fun e w' => ∃ g, e = .returned (.slice (some ⟨g, 0, none⟩) 6 6) ∧ w.heap.size ≤ g ∧ RAt w' g (rA .none .none .none .none) ∧ Below w.heap.size w w' := by
  have X := Blk.new w (pr6 nm ln s (.slice u0 u1 u2) (.slice k0 k1 k2) (.slice i0 i1 i2) (.slice n0 n1 n2)) 54
  have x := X.cell
  have xa := fun o => (X.alloc o).cell
  have H6 : Hid (s = 6) := h6
  have hs : s ≤ 6 := by omega
  clear h6
  have hmk := fun W => run_make_k (P := Tryz.prog) 122 169 _ 8 88 Tryz.underlying122 infoReg .i64 .i64 s (by omega) (by omega) W
  go_enter Tryz.func116, Tryz.ntmps116
  go_wp2_with fail
  refine wp_loop_rounds 1 ?_
  rw [rounds_succ]
  go_wp2_with fail
  go_ret
  obtain rfl := H6.out
  refine ⟨w.heap.size + 1, rfl, by omega, ?_, bl2 ((Below.refl _ _).alloc (Nat.le_refl _) _) ((Below.refl _ _).alloc (Nat.le_refl _) _)⟩
  rw [made6]
  exact Blk.newHere _ _ (by simp)
/-- The cells of a new call. -/
abbrev cN (b : Nat) : Cc := ⟨.int .i64 1, .int .i64 0, .pointer none, .int .i64 0, .int .i64 0, .int .i64 0, .slice (some ⟨b, 0, none⟩) 6 6, .slice none 0 0, .bool false, .bool false, .int .i64 0, .slice none 0 0, .string ByteArray.empty, .int .i64 (-1)⟩
set_option maxHeartbeats 4000000 in
theorem openCall0 (cp np pc s : Nat) (h6 : s = 6) (nm : ByteArray) (ln : Int) (u0 k0 i0 n0 : Option Addr) (u1 u2 k1 k2 i1 i2 n1 n2 : Nat) (w : World) (hn : 0 < np) (hP : ∀ i, i < 9 → w.cell? ⟨cp, i, none⟩ = (pr6 nm ln s (.slice u0 u1 u2) (.slice k0 k1 k2) (.slice i0 i1 i2) (.slice n0 n1 n2))[i]?) :
    Calls Tryz.prog 33 #[.agg #[.slice (some ⟨cp, 0, none⟩) np pc], .int .i64 0, .pointer none, .slice none 0 0] w fun e w' => ∃ bc br, e = .returned (.pointer (some ⟨bc, 0, none⟩)) ∧ w.heap.size ≤ bc ∧ w.heap.size ≤ br ∧ CAt w' bc (cN br) ∧ RAt w' br (rA .none .none .none .none) ∧ Below w.heap.size w w' := by
  have B0 := (Below.refl w.heap.size w).alloc (Nat.le_refl _) (.cells #[.slice (some ⟨cp, 0, none⟩) np pc] 26)
  have X := Blk.new w #[.slice (some ⟨cp, 0, none⟩) np pc] 26
  have x := X.cell
  have q0 := cb (hP 0 (by decide)) B0
  have q1 := cb (hP 1 (by decide)) B0
  have q2 := cb (hP 2 (by decide)) B0
  have q3 := cb (hP 3 (by decide)) B0
  have q4 := cb (hP 4 (by decide)) B0
  have q5 := cb (hP 5 (by decide)) B0
  have q6 := cb (hP 6 (by decide)) B0
  have q7 := cb (hP 7 (by decide)) B0
  have q8 := cb (hP 8 (by decide)) B0
  have hi : (0 : Int) < np := by omega
  have H6 : Hid (s = 6) := h6
  clear hP h6
  go_enter Tryz.func33, Tryz.ntmps33
  go_wp2_with fail
  refine (filled0 nm ln s H6.out u0 k0 i0 n0 u1 u2 k1 k2 i1 i2 n1 n2 _).mono ?_
  rintro e w1 ⟨g, rfl, hg, R1, B1⟩
  clear q0 q1 q2 q3 q4 q5 q6 q7 q8 x X
  go_wp2_with fail
  go_ret
  have s0 := B0.size
  simp only [World.size_alloc] at hg
  exact ⟨w1.heap.size, g, rfl, by have := B1.size; simp at this; omega, by omega, Blk.new w1 _ _, R1.alloc _, bl2 (bl2 B0 B1) ((Below.refl _ _).alloc (Nat.le_refl _) _)⟩
end Go.Proofs.YtgopdffmnikhdaaGreatDoor
namespace Go.Proofs.YtgopdffmnikhdaaGreatDoor
open Go.RowKit Go.Deep
attribute [local go_sem] run_store_float vi
/-- The cells of a new machine. -/
abbrev mN (pace : Int) (bts bk q : Nat) : Mc := ⟨.int .i64 pace, .int .i64 0, .int .i64 0, .int .i64 0, .int .i64 0, .slice none 0 0, .slice none 0 0, .slice (some ⟨bk, 0, none⟩) q q, .int .i64 0, .int .i64 0, .slice (some ⟨bts, 0, none⟩) 1 1, .int .i64 0, .bool false, .slice none 0 0, .int .i64 0, .slice none 0 0, .string ByteArray.empty, .bool false, .int .i64 0, .int .i64 0, .int .i64 0, .int .i64 0, .slice none 0 0, .slice none 0 0, .string ByteArray.empty, .string ByteArray.empty, .int .i64 0, .int .i64 0⟩
/-- The cells of a new task. -/
abbrev tN (bf : Nat) : Tc := ⟨.int .i64 2, .int .i64 0, .int .i64 0, .float .f64 0, .string ByteArray.empty, .int .i64 0, .slice (some ⟨bf, 0, none⟩) 1 1, .int .i64 (-1), .bool false, .slice none 0 0⟩
/-- What newMachine makes. -/
structure NmAt (w : World) (pace : Int) (Qk : World → Nat → Prop) (bm bts bt bf bc br g : Nat) (w' : World) : Prop where
  ge : w.heap.size ≤ bm ∧ w.heap.size ≤ bt ∧ w.heap.size ≤ bc ∧ w.heap.size ≤ br
  m : ∃ bk q, MAt w' bm (mN pace bts bk q)
  ts : Blk w' bts #[.pointer (some ⟨bt, 0, none⟩)] 93
  t : TAt w' bt (tN bf)
  f : Blk w' bf #[.iface 105 (.pointer (some ⟨bc, 0, none⟩))] 112
  c : CAt w' bc (cN br)
  r : RAt w' br (rA .none .none .none .none)
  q : Qk w' g
  b : Below w.heap.size w w'
set_option maxHeartbeats 4000000 in
set_option maxRecDepth 8000 in
theorem newMachine0 (cp pcc s : Nat) (h6 : s = 6) (nm : ByteArray) (ln : Int) (u0 k0 i0 n0 : Option Addr) (u1 u2 k1 k2 i1 i2 n1 n2 : Nat) (a2 : Option Addr) (l2 c1 c2 : Nat) (ti de ce pace : Int) (Qk : World → Nat → Prop) (w : World) (hp0 : 0 ≤ pace) (hp1 : pace ≤ 1000) (hP : ∀ i, i < 9 → w.cell? ⟨cp, i, none⟩ = (pr6 nm ln s (.slice u0 u1 u2) (.slice k0 k1 k2) (.slice i0 i1 i2) (.slice n0 n1 n2))[i]?)
    (HQ : Hid (∀ W W' g, Qk W g → Below W.heap.size W W' → Qk W' g))
    (HI : Hid (∀ W, Below w.heap.size w W → Calls Tryz.prog 30 #[.agg #[.slice none 0 c1, .slice a2 l2 c2, .int .i64 ti, .int .i64 de, .int .i64 ce]] W fun e w' => e = .returned (.bool true) ∧ Below W.heap.size W w'))
    (HP : Hid (∀ W, Below w.heap.size w W → Calls Tryz.prog 31 #[.agg #[.slice (some ⟨cp, 0, none⟩) 1 pcc]] W fun e w' => ∃ g q : Nat, e = .returned (.agg #[.slice (some ⟨g, 0, none⟩) 1 1, .int .i64 q]) ∧ q = 0 ∧ Qk w' g ∧ Below W.heap.size W w')) :
    Calls Tryz.prog 19 #[.agg #[.slice (some ⟨cp, 0, none⟩) 1 pcc], .agg #[.slice none 0 c1, .slice a2 l2 c2, .int .i64 ti, .int .i64 de, .int .i64 ce], .int .i64 pace] w fun e w' => ∃ bm bts bt bf bc br g, e = .returned (.tuple #[.pointer (some ⟨bm, 0, none⟩), .slice (some ⟨g, 0, none⟩) 1 1]) ∧ NmAt w pace Qk bm bts bt bf bc br g w' := by
  have HW : Hid (∀ i, i < 9 → w.cell? ⟨cp, i, none⟩ = (pr6 nm ln s (.slice u0 u1 u2) (.slice k0 k1 k2) (.slice i0 i1 i2) (.slice n0 n1 n2))[i]?) := hP
  have H6 : Hid (s = 6) := h6
  clear hP h6
  obtain ⟨W, hW⟩ : ∃ W, W = (w.alloc (.cells #[.slice (some ⟨cp, 0, none⟩) 1 pcc] 26)).alloc (.cells #[.slice none 0 c1, .slice a2 l2 c2, .int .i64 ti, .int .i64 de, .int .i64 ce] 30) := ⟨_, rfl⟩
  have BW : Below w.heap.size w W := hW ▸ bl2 ((Below.refl _ _).alloc (Nat.le_refl _) _) ((Below.refl _ _).alloc (Nat.le_refl _) _)
  have X : Blk W w.heap.size #[.slice (some ⟨cp, 0, none⟩) 1 pcc] 26 := hW ▸ (Blk.new w _ _).alloc _
  have Y : Blk W (w.heap.size + 1) #[.slice none 0 c1, .slice a2 l2 c2, .int .i64 ti, .int .i64 de, .int .i64 ce] 30 := hW ▸ Blk.newHere _ _ (by simp)
  go_enter Tryz.func19, Tryz.ntmps19
  go_wp2_with fail
  rw [← hW]
  clear hW
  have hin : inR pace 0 1000 = true := by simp [inR, hp0, hp1]
  refine (within_any pace 0 1000 W).mono ?_
  rintro e w1 ⟨rfl, rfl⟩
  rw [hin]
  have y1 := Y.cell
  go_wp2_with (go_at_call 30; refine (HI.out _ BW).mono ?_; rintro e w2 ⟨rfl, B2⟩; have x2 := (X.later B2).cell)
  refine (HP.out w2 (bl2 BW B2)).mono ?_
  rintro e w3 ⟨g, q, rfl, hq, HQ3, B3⟩
  have BT : Below w.heap.size w w3 := bl2 (bl2 BW B2) B3
  have X3 := (X.later B2).later B3
  have Y3 := (Y.later B2).later B3
  have x3 := fun o => (X3.alloc o).cell
  have y3 := fun o => (Y3.alloc o).cell
  have HQ0 : Hid (q = 0) := hq
  have HK3 : Hid (Qk w3 g) := HQ3
  clear hq HQ3 x2 y1
  go_wp2_with fail
  refine wp_loop_rounds 1 ?_
  rw [rounds_succ]
  obtain ⟨W4, hW4⟩ : ∃ z, z = w3.alloc (.cells #[.slice (some ⟨g, 0, none⟩) 1 1, .int .i64 q] 102) := ⟨_, rfl⟩
  have B4 : Below w3.heap.size w3 W4 := hW4 ▸ (Below.refl _ _).alloc (Nat.le_refl _) _
  have Q4 : Blk W4 w3.heap.size #[.slice (some ⟨g, 0, none⟩) 1 1, .int .i64 q] 102 := hW4 ▸ Blk.new w3 _ _
  rw [← hW4]
  have x4 := (X3.later B4).cell
  have hP4 : ∀ i, i < 9 → W4.cell? ⟨cp, i, none⟩ = (pr6 nm ln s (.slice u0 u1 u2) (.slice k0 k1 k2) (.slice i0 i1 i2) (.slice n0 n1 n2))[i]? := fun i hi => by
    have h := HW.out i hi
    rw [List.getElem?_toArray, List.getElem?_eq_getElem (by simpa using hi)] at h ⊢
    exact cb h (bl2 BT B4)
  have HP4 : Hid (∀ i, i < 9 → W4.cell? ⟨cp, i, none⟩ = (pr6 nm ln s (.slice u0 u1 u2) (.slice k0 k1 k2) (.slice i0 i1 i2) (.slice n0 n1 n2))[i]?) := hP4
  clear hW4 x3 y3 hP4
  go_wp2_with fail
  refine (openCall0 cp 1 pcc s H6.out nm ln u0 k0 i0 n0 u1 u2 k1 k2 i1 i2 n1 n2 W4 (by decide) HP4.out).mono ?_
  rintro e w5 ⟨bc, br, rfl, hbc, hbr, C5, R5, B5⟩
  have Q5 := Q4.later B5
  have q5 := fun o o' => (Q5.later (bl2 ((Below.refl _ _).alloc (Nat.le_refl _) o) ((Below.refl _ _).alloc (Nat.le_refl _) o'))).cell
  have hq0 : q ≤ 1 := by rw [HQ0.out]; omega
  have hmk := fun W => run_make_k (P := Tryz.prog) 76 220 _ 2 16 Tryz.underlying76 infoCache .i64 .i64 q (by omega) (by omega) W
  clear x4
  go_wp2_with fail
  have hs5 : w.heap.size ≤ w5.heap.size := Nat.le_trans (bl2 BT B4).size B5.size
  have hs4 : w.heap.size ≤ W4.heap.size := (bl2 BT B4).size
  refine hidW3 (S := fun W => NmAt w pace Qk (w5.heap.size + 1 + 1 + 1 + 1) (w5.heap.size + 1 + 1 + 1) (w5.heap.size + 1) w5.heap.size bc br g W ∧ Blk W w3.heap.size #[.slice (some ⟨g, 0, none⟩) 1 1, .int .i64 q] 102) ?nm ?_
  case nm =>
    have A : ∀ {W : World} {o : Obj}, Below W.heap.size W (W.alloc o) := (Below.refl _ _).alloc (Nat.le_refl _) _
    have BA := bl2 (bl2 (bl2 (bl2 (A (W := w5) (o := .cells #[.iface 105 (.pointer (some ⟨bc, 0, none⟩))] 112)) (A (o := .cells (tN w5.heap.size).arr 98))) (A (o := .cells (madeCells #[.int .i64 0, .int .i64 0] (q * 2)) 220))) (A (o := .cells #[.pointer (some ⟨w5.heap.size + 1, 0, none⟩)] 93))) (A (o := .cells (mN pace (w5.heap.size + 1 + 1 + 1) (w5.heap.size + 1 + 1) q).arr 81))
    have F1 := Blk.new w5 #[.iface 105 (.pointer (some ⟨bc, 0, none⟩))] 112
    have T1 : Blk _ (w5.heap.size + 1) (tN w5.heap.size).arr 98 := Blk.newHere (W := w5.alloc (.cells #[.iface 105 (.pointer (some ⟨bc, 0, none⟩))] 112)) _ _ (by simp)
    have S1 : Blk _ (w5.heap.size + 1 + 1 + 1) #[.pointer (some ⟨w5.heap.size + 1, 0, none⟩)] 93 := Blk.newHere (W := ((w5.alloc (.cells #[.iface 105 (.pointer (some ⟨bc, 0, none⟩))] 112)).alloc (.cells (tN w5.heap.size).arr 98)).alloc (.cells (madeCells #[.int .i64 0, .int .i64 0] (q * 2)) 220)) _ _ (by simp)
    exact ⟨⟨⟨by omega, by omega, by omega, by omega⟩, ⟨_, _, Blk.newHere _ _ (by simp)⟩, S1.alloc _, ((T1.alloc _).alloc _).alloc _, (((F1.alloc _).alloc _).alloc _).alloc _, C5.later BA, R5.later BA, HQ.out _ _ _ (HQ.out _ _ _ (HQ.out _ _ _ HK3.out B4) B5) BA, bl2 (bl2 (bl2 BT B4) B5) BA⟩, Q5.later BA⟩
  intro W6 hW6
  have HN6 : Hid (NmAt w pace Qk (w5.heap.size + 1 + 1 + 1 + 1) (w5.heap.size + 1 + 1 + 1) (w5.heap.size + 1) w5.heap.size bc br g W6) := hW6.1
  have k6 : ∀ i, W6.drew.cell? ⟨w3.heap.size, i, none⟩ = (#[.slice (some ⟨g, 0, none⟩) 1 1, .int .i64 q] : Array Value)[i]? := hW6.2.cell
  clear hW6 q5 hmk
  go_region_held3 (fun W => ∀ i, W.cell? ⟨w3.heap.size, i, none⟩ = (#[.slice (some ⟨g, 0, none⟩) 1 1, .int .i64 q] : Array Value)[i]?) (with_reducible exact k6) (fail)
  go_wp2_with fail
  have h := HN6.out
  exact bodyPost_ret (v := .tuple #[.pointer (some ⟨w5.heap.size + 1 + 1 + 1 + 1, 0, none⟩), .slice (some ⟨g, 0, none⟩) 1 1]) (by simp [results, Tryz.results19, go_sem]) rfl ⟨_, _, _, _, _, _, _, rfl, h.ge, h.m, h.ts, h.t, h.f, h.c, h.r, HQ.out _ _ _ h.q (Below.refl _ _).drew, h.b.drew⟩
end Go.Proofs.YtgopdffmnikhdaaGreatDoor
namespace Go.Proofs.YtgopdffmnikhdaaGreatDoor
open Go.RowKit Go.Deep
attribute [local go_sem] run_store_float run_store_fn vi
/-- The builtins. -/
def bltL : List Value := [.func (.func 79) #[] #[], .func (.func 80) #[] #[], .func (.func 81) #[] #[], .func (.func 82) #[] #[], .func (.func 83) #[] #[], .func (.func 84) #[] #[], .func (.func 85) #[] #[], .func (.func 86) #[] #[], .func (.func 87) #[] #[], .func (.func 88) #[] #[], .func (.func 89) #[] #[], .func (.func 90) #[] #[], .func (.func 91) #[] #[], .func (.func 92) #[] #[], .func (.func 93) #[] #[]]
set_option maxHeartbeats 4000000 in
set_option maxRecDepth 20000 in
theorem builtins_any (w : World) : Calls Tryz.prog 21 #[] w fun e w' => e = .returned (.agg bltL.toArray) ∧ Below w.heap.size w w' := by
  go_enter Tryz.func21, Tryz.ntmps21
  go_wp2_with fail
  exact bodyPost_ret (v := .agg bltL.toArray) (by simp [results, Tryz.results21, go_sem]; rfl) rfl ⟨rfl, (Below.refl _ _).alloc (Nat.le_refl _) _⟩
theorem plE {ops : Array Oper} {rest : List Oper} {Q : Exit → Act → World → Prop} {a : Act} {w : World} {oi : Oper} (hgd : oi.guard = none) (h : ∃ v, (execOp a.eval oi).run Tryz.prog w = .ok (.value v) w ∧ wpList Tryz.prog ops Q rest (a.put oi.dst v) w) : wpList Tryz.prog ops Q (oi :: rest) a w := by
  obtain ⟨v, h1, h2⟩ := h
  refine wpList_plain hgd fun K hK => ?_
  unfold Oper.wp
  rw [h1]
  exact hK _ _ h2
/-- The table of actions. -/
def actL : List Value := [.nilFunc, .bool false, .func (.func 34) #[] #[], .bool true, .func (.func 35) #[] #[], .bool true, .func (.func 36) #[] #[], .bool true, .func (.func 37) #[] #[], .bool true, .func (.func 38) #[] #[], .bool true, .func (.func 39) #[] #[], .bool true, .func (.func 40) #[] #[], .bool true, .func (.func 41) #[] #[], .bool true, .func (.func 42) #[] #[], .bool true, .func (.func 43) #[] #[], .bool true, .func (.func 44) #[] #[], .bool true, .func (.func 45) #[] #[], .bool true, .func (.func 46) #[] #[], .bool true, .func (.func 47) #[] #[], .bool true, .func (.func 48) #[] #[], .bool false, .func (.func 49) #[] #[], .bool false, .func (.func 50) #[] #[], .bool false, .func (.func 51) #[] #[], .bool false, .func (.func 52) #[] #[], .bool false, .func (.func 53) #[] #[], .bool false, .func (.func 53) #[] #[], .bool false, .func (.func 54) #[] #[], .bool true, .func (.func 55) #[] #[], .bool true, .func (.func 56) #[] #[], .bool true, .func (.func 57) #[] #[], .bool true, .func (.func 58) #[] #[], .bool true, .func (.func 59) #[] #[], .bool true, .func (.func 60) #[] #[], .bool false, .func (.func 61) #[] #[], .bool false, .func (.func 62) #[] #[], .bool false, .func (.func 63) #[] #[], .bool true, .func (.func 64) #[] #[], .bool true, .func (.func 65) #[] #[], .bool true, .func (.func 66) #[] #[], .bool true, .func (.func 67) #[] #[], .bool true, .func (.func 68) #[] #[], .bool false, .func (.func 69) #[] #[], .bool true, .func (.func 70) #[] #[], .bool false, .func (.func 71) #[] #[], .bool false, .func (.func 72) #[] #[], .bool false, .func (.func 73) #[] #[], .bool false, .func (.func 74) #[] #[], .bool true, .func (.func 75) #[] #[], .bool false, .func (.func 76) #[] #[], .bool false, .func (.func 77) #[] #[], .bool false, .func (.func 78) #[] #[], .bool false]
theorem actL_one : actL.toArray.all (·.oneCell') = true := by kernel_rfl
set_option maxHeartbeats 4000000 in
set_option maxRecDepth 20000 in
theorem actions_any (w : World) : Calls Tryz.prog 20 #[] w fun e w' => e = .returned (.agg actL.toArray) ∧ Below w.heap.size w w' := by
  have Z := Blk.new w Tryz.zeroCells66 66
  go_enter Tryz.func20, Tryz.ntmps20
  refine wp_seq_k ?_
  intro K hK
  have HK : Hid _ := hK
  clear hK
  go_wp2_with fail
  refine HK.out _ _ ?_
  clear HK K
  refine wp_seq_k ?_
  intro K hK
  have HK : Hid _ := hK
  clear hK
  refine wp_region_list ?_
  iterate 46 (refine plE rfl ⟨?_, ?_, ?_⟩; rotate_left; (focus (go_simp; with_reducible rfl)); simp only [Act.put, List.setIfInBounds_toArray, List.set_cons_succ, List.set_cons_zero])
  refine plE rfl ⟨.agg actL.toArray, ?_, ?_⟩
  · go_simp
    rfl
  simp only [Act.put, List.setIfInBounds_toArray, List.set_cons_succ, List.set_cons_zero]
  have hth : (w.alloc (.cells Tryz.zeroCells66 66)).there w.heap.size 0 actL.toArray.size := by
    have h := Z.there
    have e : Tryz.zeroCells66.size = actL.toArray.size := by kernel_rfl
    rw [e] at h
    exact h
  refine plS rfl ⟨_, exec_store (cells := actL.toArray) hth (by kernel_rfl) actL_one rfl rfl rfl, ?_⟩
  have hra := World.rangeAt_setCells_same _ w.heap.size 0 actL (by simpa using hth)
  have hB : Below w.heap.size w ((w.alloc (.cells Tryz.zeroCells66 66)).setCells w.heap.size 0 actL) := ((Below.refl w.heap.size w).alloc (Nat.le_refl _) _).trans ((Chg.sets' (L := [w.heap.size]) (List.mem_singleton.2 rfl) actL 0 (Chg.refl [w.heap.size] (w.alloc (.cells Tryz.zeroCells66 66)))).low (by rw [World.size_alloc]; omega) (by simp))
  refine hidW3 (S := fun W => W.rangeAt w.heap.size 0 actL ∧ Below w.heap.size w W) ⟨hra, hB⟩ ?_
  intro W5 hW5
  have HR : Hid (W5.rangeAt w.heap.size 0 actL) := hW5.1
  have HB5 : Hid (Below w.heap.size w W5) := hW5.2
  clear hW5 hra hB hth Z
  go_wp2_with fail
  refine HK.out _ _ ?_
  clear HK K
  go_wp2_with fail
  exact bodyPost_ret (res_cell (cs := actL) Tryz.results20 rfl HR.out Tryz.underlying66 rfl (by kernel_rfl)) rfl ⟨rfl, HB5.out⟩
end Go.Proofs.YtgopdffmnikhdaaGreatDoor
