import Derived.Test.YtmfippfnhcphhaaGreatDoorC30
import Derived.Test.YtmfippfnhcphhaaGreatDoorC17
import Derived.Test.YtmfippfnhcphhaaGreatDoorC22
namespace Go.Proofs.YtmfippfnhcphhaaGreatDoor
open Go.RowKit Go.Deep

/-! ### Reading, as the other one does it -/
structure RgAt (B rb m : Nat) (w : World) (rd : Rd) (vt vr vk : Value) : Prop where
  blk : Blk w rb #[vt, vr, vk] 211
  low : B ≤ rb
  types : w.ownsRow B 3 1 vt m (ints rd.types)
  read : w.ownsRow B 3 1 vr rd.stay.length (ints rd.stay)
  taken : w.ownsRow B 3 1 vk rd.taken.length (ints rd.taken)
  nt : vt.ownBlock ≠ some rb
  nr : vr.ownBlock ≠ some rb
  nk : vk.ownBlock ≠ some rb
  tr : ∀ k, vt.ownBlock = some k → vr.ownBlock ≠ some k
  tk : ∀ k, vt.ownBlock = some k → vk.ownBlock ≠ some k
  rk : ∀ k, vr.ownBlock = some k → vk.ownBlock ≠ some k
theorem RgAt.later {B rb m : Nat} {w w' : World} {rd : Rd} {vt vr vk : Value} (h : RgAt B rb m w rd vt vr vk) (hb : Below w.heap.size w w') : RgAt B rb m w' rd vt vr vk :=
  ⟨h.blk.later hb, h.low, owns_below h.types hb, owns_below h.read hb, owns_below h.taken hb, h.nt, h.nr, h.nk, h.tr, h.tk, h.rk⟩
theorem RgAt.addRead {B rb m : Nat} {w w2 : World} {rd : Rd} {vt vr vr' vk : Value} {x : Int} {o : Obj} {S : Nat} (h : RgAt B rb m w rd vt vr vk) (h1 : w2.ownsRow B 3 1 vr' (rd.stay.length + 1) (ints (rd.stay ++ [x]))) (h2 : (w.alloc o).grownBy w2 vr.ownBlock) (hS : w.heap.size ≤ S) (h3 : vr'.ownBlock = vr.ownBlock ∨ vr'.ownBlock = some S) (hB : B ≤ w.heap.size) :
    RgAt B rb m (w2.setCell ⟨rb, 1, none⟩ vr') ⟨rd.types, rd.stay ++ [x], rd.taken⟩ vt vr' vk ∧ Below B w (w2.setCell ⟨rb, 1, none⟩ vr') := by
  have hlt := h.blk.lt
  have hnr' : vr'.ownBlock ≠ some rb := by
    rcases h3 with h3 | h3
    · rw [h3]; exact h.nr
    · rw [h3]; intro e; simp at e; omega
  have hb2 := blk_grown (h.blk.alloc o) h2 (fun e => h.nr e.symm)
  have T2 := owns_grown (h.types.alloc o) h2 (fun k hk e => h.tr k hk e.symm)
  have K2 := owns_grown (h.taken.alloc o) h2 (fun k hk e => h.rk k e.symm hk)
  have hset : ∀ {v : Value}, v.ownBlock ≠ some rb → ∀ k, v.ownBlock = some k → (w2.setCell ⟨rb, 1, none⟩ vr').heap[k]? = w2.heap[k]? := fun hn k hk => Below.heap_setCell _ _ _ _ (fun e => hn (by rw [hk, e]))
  have hs := hb2.set 1 vr'
  have e1 : (#[vt, vr, vk] : Array Value).setIfInBounds 1 vr' = #[vt, vr', vk] := rfl
  rw [e1] at hs
  refine ⟨⟨hs, h.low, owns_other T2 (hset h.nt), by simpa using owns_other h1 (hset hnr'), owns_other K2 (hset h.nk), h.nt, hnr', h.nk, ?_, h.tk, ?_⟩, ?_⟩
  · intro k hk e
    rcases h3 with h3 | h3
    · exact h.tr k hk (h3 ▸ e)
    · have := (h.types.lt k hk).2
      rw [h3] at e
      simp at e
      omega
  · intro k hk e
    rcases h3 with h3 | h3
    · exact h.rk k (h3 ▸ hk) e
    · have := (h.taken.lt k e).2
      rw [h3] at hk
      simp at hk
      omega
  · exact (((Below.refl B w).alloc hB o).grown h2 (by simp; omega) (fun k hk => (h.read.lt k hk).1)).setCell h.low _
def placesF (want : Int) : Nat → Nat → Rd → Option Rd
  | 0, _, s => some s
  | c + 1, q, s => if tyAt s.types (q : Int) = want then placesF want c (q + 1) ⟨s.types, s.stay ++ [(q : Int)], s.taken⟩ else none
def RgPost (B rb m : Nat) (vt vk : Value) (w : World) (r : Option Rd) (e : Ending) (w' : World) : Prop :=
  (match r with | none => e = .returned (.bool false) | some rd => e = .returned (.bool true) ∧ ∃ vr, RgAt B rb m w' rd vt vr vk) ∧ Below B w w'

set_option maxRecDepth 100000 in
set_option maxHeartbeats 3200000 in
theorem places_any (B rb m q cnt : Nat) (want : Int) (rd : Rd) (to : Option Addr) (tc : Nat) (vr vk : Value) (w : World) (h : RgAt B rb m w rd (.slice to m tc) vr vk) (hB : B ≤ w.heap.size) (hm : rd.types.length = m) (hq : q + cnt ≤ m) (hm2 : m ≤ 250) (hc : cnt ≤ 3) (hs : rd.stay.length ≤ 100) :
    Calls Tryz.prog 226 #[.pointer (some ⟨rb, 0, none⟩), .agg #[.int .i64 q, .int .i64 cnt, .int .i64 want]] w (RgPost B rb m (.slice to m tc) vk w (placesF want cnt q rd)) := by
  have P0 := Blk.new w #[.int .i64 q, .int .i64 cnt, .int .i64 want] 298
  have R0 := h.later ((Below.refl _ _).alloc (Nat.le_refl _) (.cells #[.int .i64 q, .int .i64 cnt, .int .i64 want] 298))
  have B0 := (Below.refl B w).alloc hB (.cells #[.int .i64 q, .int .i64 cnt, .int .i64 want] 298)
  have S0 : ∀ k, vr.ownBlock = some k → k ≠ w.heap.size := fun k hk => by have := (h.read.lt k hk).2; omega
  have hrw : rb ≠ w.heap.size := by have := h.blk.lt; omega
  have HM : Hid (rd.types.length = m) := hm
  have HS0 : Hid (rd.stay.length ≤ 100) := hs
  clear hm h hs
  go_enter Tryz.func226, Tryz.ntmps226
  go_wp2_with fail
  go_loopw [5] (fun y wr => ∃ (j : Nat) (rd1 : Rd) (vr1 : Value), y = .int .i64 ((q : Int) + j) ∧ j ≤ cnt ∧ Hid (placesF want (cnt - j) (q + j) rd1 = placesF want cnt q rd) ∧ Hid (rd1.types.length = m ∧ rd1.stay.length ≤ rd.stay.length + j) ∧ RgAt B rb m wr rd1 (.slice to m tc) vr1 vk ∧ Blk wr w.heap.size #[.int .i64 q, .int .i64 cnt, .int .i64 want] 298 ∧ (∀ k, vr1.ownBlock = some k → k ≠ w.heap.size) ∧ Below B w wr) (fun y _ => q + cnt - (intOf y).toNat)
  case atStart => exact ⟨0, rd, vr, by simp, Nat.zero_le _, rfl, ⟨HM.out, by omega⟩, R0, P0, S0, B0⟩
  case round =>
    obtain ⟨j, rd1, vr1, rfl, hj, HQ, HL, R1, P1, S1, B1⟩ := hrel
    clear R0 P0 S0 B0
    have p1 := P1.cell
    have hsl : rd1.stay.length ≤ 103 := by have := HL.out; have := HS0.out; omega
    obtain ⟨ro, rc, rfl⟩ := owns_slice R1.read
    obtain ⟨ko, kc, rfl⟩ := owns_slice R1.taken
    by_cases hjl : j < cnt
    · rcases owns_form R1.types with ⟨_, h0⟩ | ⟨g, cap', h1, h2, h3⟩
      · omega
      simp only [Value.slice.injEq] at h1
      obtain ⟨rfl, _, rfl⟩ := h1
      have ct := (R1.types.cellAt (q + j) (by omega)).trans (ints_get (by rw [HL.out.1]; omega))
      obtain ⟨ty, hty⟩ : ∃ ty, ty = rd1.types.getD (q + j) 0 := ⟨_, rfl⟩
      rw [← hty] at ct
      have HTY : Hid (tyAt rd1.types ((q + j : Nat) : Int) = ty) := hty.symm
      have HD : Hid (placesF want cnt q rd = if tyAt rd1.types ((q + j : Nat) : Int) = want then placesF want (cnt - (j + 1)) (q + j + 1) ⟨rd1.types, rd1.stay ++ [((q + j : Nat) : Int)], rd1.taken⟩ else none) := by
        show _ = _
        rw [← HQ.out, show cnt - j = (cnt - (j + 1)) + 1 by omega]
        rfl
      have r1 := R1.blk.cell
      have k1 : (q : Int) + j < (q : Int) + cnt := by omega
      have k2 : (q : Int) + j < m := by omega
      have k3 : (q : Int) + j = ((q + j : Nat) : Int) := by omega
      clear hty HQ
      by_cases hw : ty = want
      · subst hw
        have HN : Hid (placesF ty (cnt - (j + 1)) (q + (j + 1)) ⟨rd1.types, rd1.stay ++ [(q : Int) + j], rd1.taken⟩ = placesF ty cnt q rd) := by
          show _ = _
          rw [HD.out, if_pos HTY.out, k3]
          rfl
        clear HD HTY k3
        go_wp2_with fail
        go_quiet (fail)
        have hDR : ∀ n, Below wr.heap.size wr (wr.drewN n) := fun n => below_drewN (Below.refl _ _) n
        have R2 := fun n => R1.later (hDR n)
        have P2 := fun n => P1.later (hDR n)
        have B2 := fun n => below_drewN B1 n
        have HR2 : Hid _ := R2
        have HP2 : Hid _ := P2
        have HB2 : Hid _ := B2
        have hBw : B ≤ wr.heap.size := Nat.le_trans hB B1.size
        have hrbl := R1.blk.lt
        have hpl := P1.lt
        clear R2 P2 B2 hDR
        go_wp2_with (at_builtin; refine app_int rfl _ _ rfl B _ rd1.stay.length rd1.stay ((q : Int) + j) wr.heap.size rfl ((HR2.out _).read.alloc _) rfl ?c1 (by omega) ?c3 ?_)
        case c1 =>
          have hn := (Blk.new (wr.drewN nq) #[.int .i64 ((q : Int) + j)] 3).cell 0
          exact hn
        case c3 => first | omega | (simp; omega)
        · intro v2 w2 H1 H2 H3
          have R2 := HR2.out nq
          have hb2 := blk_grown (R2.blk.alloc _) H2 (fun e => R2.nr e.symm)
          have r2 := hb2.cell 1
          have f2 := hb2.frozen 1
          have P3 := (blk_grown ((HP2.out nq).alloc _) H2 (fun e => S1 _ e.symm rfl)).setOther (p := ⟨rb, 1, none⟩) (by dsimp only; intro e; exact hrw e.symm) v2
          obtain ⟨R3, B3⟩ := R2.addRead H1 H2 (S := wr.heap.size + 1) (Nat.le_succ _) H3 hBw
          have B4 := (HB2.out nq).trans B3
          have S3 : ∀ k, v2.ownBlock = some k → k ≠ w.heap.size := by
            intro k hk
            rcases H3 with H3 | H3
            · exact S1 k (H3 ▸ hk)
            · rw [H3] at hk
              simp at hk
              omega
          have HR3 : Hid _ := R3
          have HP3 : Hid _ := P3
          have HB4 : Hid _ := B4
          have HS3 : Hid _ := S3
          obtain ⟨vo, vc, rfl⟩ := owns_slice H1
          clear H1 H2 H3 hb2 R2 R3 P3 B3 B4 S3 HR2 HP2 HB2 S1 R1 P1 r1 p1 ct
          go_wp2_with fail
          go_roundw
          case rel => exact ⟨j + 1, ⟨rd1.types, rd1.stay ++ [(q : Int) + j], rd1.taken⟩, _, by go_num, by omega, HN.out, ⟨HL.out.1, by have := HL.out.2; simp; omega⟩, HR3.out, HP3.out, HS3.out, HB4.out⟩
          case measure => simp [intOf]; omega
      · have HN : Hid (placesF want cnt q rd = none) := by show _ = _; rw [HD.out, if_neg (by rw [HTY.out]; exact hw)]
        have k5 : (ty != want) = true := by simpa using hw
        clear HD HTY hw k3
        go_wp2_with fail
        go_quiet (fail)
        go_wp2_with fail
        go_ret
        refine ⟨?_, below_drewN B1 _⟩
        rw [HN.out]
        rfl
    · obtain rfl : j = cnt := by omega
      have HN : Hid (placesF want j q rd = some rd1) := by
        show _ = _
        rw [← HQ.out, Nat.sub_self]
        rfl
      have k1 : ¬ (q : Int) + j < (q : Int) + j := by omega
      clear HQ
      go_wp2_with fail
      go_ret
      refine ⟨?_, B1⟩
      rw [HN.out]
      exact ⟨rfl, _, R1⟩
end Go.Proofs.YtmfippfnhcphhaaGreatDoor

namespace Go.Proofs.YtmfippfnhcphhaaGreatDoor
open Go.RowKit Go.Deep

/-! ### Rows as slices.Clone and slicing want them -/
structure RowI (lo : Nat) (w : World) (ao : Option Addr) (cap : Nat) (xs : List Int) : Prop where
  cap : xs.length ≤ cap
  nil : ao = none → xs.length = 0
  form : ∀ a, ao = some a → ∃ b o, a = ⟨b, o, none⟩
  at_ : IntsAt lo w ao xs
  tag : ∀ b o, ao = some ⟨b, o, none⟩ → 0 < xs.length → ∃ arr, w.heap[b]? = some (.cells arr 3 (0, 0))
structure RowG (lo : Nat) (w : World) (ao : Option Addr) (cap : Nat) (xs : List Gd) : Prop where
  cap : xs.length ≤ cap
  nil : ao = none → xs.length = 0
  form : ∀ a, ao = some a → ∃ b o, a = ⟨b, o, none⟩
  at_ : GdsAt lo w ao xs
  tag : ∀ b o, ao = some ⟨b, o, none⟩ → 0 < xs.length → ∃ arr, w.heap[b]? = some (.cells arr 194 (0, 0))
/-- The block of a row that holds something. -/
theorem row_blk {α : Type} {lo : Nat} {w : World} {ao : Option Addr} {k : Nat} {at1 : Nat → Nat → α → Prop} {xs : List α} (h : AllAt lo w ao k at1 xs) {b o : Nat} (ha : ao = some ⟨b, o, none⟩) (hl : 0 < xs.length) : lo ≤ b ∧ b < w.heap.size := by
  obtain ⟨x, hx⟩ := some_of_lt hl
  obtain ⟨b', o', e, h1, h2, _⟩ := h 0 x hx
  rw [ha] at e
  simp at e
  obtain ⟨rfl, _⟩ := e
  exact ⟨h1, h2⟩
theorem RowI.later {lo : Nat} {w w' : World} {ao : Option Addr} {cap : Nat} {xs : List Int} (h : RowI lo w ao cap xs) (hk : Keeps lo w w') : RowI lo w' ao cap xs := ⟨h.cap, h.nil, h.form, h.at_.later hk, fun b o e hl => by obtain ⟨arr, ha⟩ := h.tag b o e hl; have hb := row_blk h.at_ e hl; exact ⟨arr, (hk.block b hb.1 hb.2).trans ha⟩⟩
theorem RowG.later {lo : Nat} {w w' : World} {ao : Option Addr} {cap : Nat} {xs : List Gd} (h : RowG lo w ao cap xs) (hk : Keeps lo w w') : RowG lo w' ao cap xs := ⟨h.cap, h.nil, h.form, h.at_.later hk, fun b o e hl => by obtain ⟨arr, ha⟩ := h.tag b o e hl; have hb := row_blk h.at_ e hl; exact ⟨arr, (hk.block b hb.1 hb.2).trans ha⟩⟩
theorem RowI.lower {lo lo' : Nat} {w : World} {ao : Option Addr} {cap : Nat} {xs : List Int} (h : RowI lo w ao cap xs) (hl : lo' ≤ lo) : RowI lo' w ao cap xs := ⟨h.cap, h.nil, h.form, AllAt.lower h.at_ hl, h.tag⟩
theorem RowG.lower {lo lo' : Nat} {w : World} {ao : Option Addr} {cap : Nat} {xs : List Gd} (h : RowG lo w ao cap xs) (hl : lo' ≤ lo) : RowG lo' w ao cap xs := ⟨h.cap, h.nil, h.form, AllAt.lower h.at_ hl, h.tag⟩
theorem RowI.of_owns {base n cap : Nat} {w : World} {ao : Option Addr} {xs : List Int} (h : w.ownsRow base 3 1 (.slice ao n cap) n (ints xs)) : RowI base w ao cap xs := by
  obtain ⟨h1, rfl⟩ := owns_ints h
  refine ⟨owns_cap h ao cap rfl, ?_, ?_, h1, ?_⟩
  · rintro rfl
    rcases owns_form h with ⟨_, h0⟩ | ⟨g, c, h2, _⟩
    · exact h0
    · simp at h2
  · rintro a rfl
    rcases owns_form h with ⟨h2, _⟩ | ⟨g, c, h2, _⟩
    · simp at h2
    · simp at h2; exact ⟨g, 0, h2.1⟩
  · rintro b o rfl _
    obtain ⟨b', e, ht⟩ := owns_tag h _ rfl
    simp at e
    rw [e.1]
    exact ht
/-- Rows are not touched by a store into a block of another type. -/
theorem RowI.store {lo : Nat} {w : World} {ao : Option Addr} {cap : Nat} {xs : List Int} (h : RowI lo w ao cap xs) {g : Nat} {arr : Array Value} {t : TypeId} (hg : Blk w g arr t) (ht : t ≠ 3) (o : Nat) (v : Value) : RowI lo (w.setCell ⟨g, o, none⟩ v) ao cap xs := by
  have hne : ∀ b o', ao = some ⟨b, o', none⟩ → 0 < xs.length → b ≠ g := by
    rintro b o' e hl rfl
    obtain ⟨a2, h2⟩ := h.tag b o' e hl
    unfold Blk at hg
    rw [hg] at h2
    simp at h2
    exact ht h2.2
  refine ⟨h.cap, h.nil, h.form, ?_, ?_⟩
  · intro i x hx
    obtain ⟨b, off, e, h1, h2, h3⟩ := h.at_ i x hx
    have hl : 0 < xs.length := by have := (List.getElem?_eq_some_iff.1 hx).1; omega
    exact ⟨b, off, e, h1, by rw [size_set]; exact h2, (World.cell?_setCell_far _ _ _ _ (fun e2 => hne b off e hl e2.symm)).trans h3⟩
  · intro b o' e hl
    obtain ⟨a2, h2⟩ := h.tag b o' e hl
    exact ⟨a2, (Below.heap_setCell _ _ _ _ (hne b o' e hl)).trans h2⟩
theorem RowG.store {lo : Nat} {w : World} {ao : Option Addr} {cap : Nat} {xs : List Gd} (h : RowG lo w ao cap xs) {g : Nat} {arr : Array Value} {t : TypeId} (hg : Blk w g arr t) (ht : t ≠ 194) (o : Nat) (v : Value) : RowG lo (w.setCell ⟨g, o, none⟩ v) ao cap xs := by
  have hne : ∀ b o', ao = some ⟨b, o', none⟩ → 0 < xs.length → b ≠ g := by
    rintro b o' e hl rfl
    obtain ⟨a2, h2⟩ := h.tag b o' e hl
    unfold Blk at hg
    rw [hg] at h2
    simp at h2
    exact ht h2.2
  refine ⟨h.cap, h.nil, h.form, ?_, ?_⟩
  · intro i x hx
    obtain ⟨b, off, e, h1, h2, h3, h4, h5⟩ := h.at_ i x hx
    have hl : 0 < xs.length := by have := (List.getElem?_eq_some_iff.1 hx).1; omega
    have hf := fun e2 => hne b off e hl e2
    exact ⟨b, off, e, h1, by rw [size_set]; exact h2, (World.cell?_setCell_far _ _ _ _ (fun e2 => hf e2.symm)).trans h3, (World.cell?_setCell_far _ _ _ _ (fun e2 => hf e2.symm)).trans h4, (World.cell?_setCell_far _ _ _ _ (fun e2 => hf e2.symm)).trans h5⟩
  · intro b o' e hl
    obtain ⟨a2, h2⟩ := h.tag b o' e hl
    exact ⟨a2, (Below.heap_setCell _ _ _ _ (hne b o' e hl)).trans h2⟩
theorem RowG.of_post {w w' : World} {ao : Option Addr} {cap : Nat} {l : List Gd} (h1 : l.length ≤ cap) (h2 : GdsAt w.heap.size w' ao l) (h3 : RTag w' ao 194) : RowG w.heap.size w' ao cap l := by
  refine ⟨h1, ?_, ?_, h2, ?_⟩
  · rintro rfl
    cases l with
    | nil => rfl
    | cons a r => obtain ⟨b, o, e, _⟩ := h2 0 a rfl; cases e
  · rintro a rfl
    obtain ⟨b, e, _⟩ := h3 a rfl
    exact ⟨b, 0, e⟩
  · rintro b o rfl _
    obtain ⟨b', e, ht⟩ := h3 _ rfl
    simp at e
    rw [e.1]
    exact ht
def StI (lo : Nat) (w : World) (sb j : Nat) (o : Option St) : Prop :=
  ∃ to tc go gc, w.cell? ⟨sb, j * 3, none⟩ = some (.bool o.isSome) ∧ w.cell? ⟨sb, j * 3 + 1, none⟩ = some (.slice to (stT o).length tc) ∧ w.cell? ⟨sb, j * 3 + 2, none⟩ = some (.slice go (stG o).length gc) ∧ RowI lo w to tc (stT o) ∧ RowG lo w go gc (stG o)
structure StsI (lo : Nat) (w : World) (sb : Nat) (sts : List (Option St)) : Prop where
  own : Own w sb 123 (sts.length * 3)
  at_ : ∀ j o, sts[j]? = some o → StI lo w sb j o
theorem StI.later {lo : Nat} {w w' : World} {sb j : Nat} {o : Option St} (h : StI lo w sb j o) (hk : Keeps lo w w') (hb : w'.heap[sb]? = w.heap[sb]?) : StI lo w' sb j o := by
  obtain ⟨to, tc, go, gc, h1, h2, h3, h4, h5⟩ := h
  have hc : ∀ i, w'.cell? ⟨sb, i, none⟩ = w.cell? ⟨sb, i, none⟩ := fun i => World.cell?_of_block (w := w) (a := ⟨sb, i, none⟩) hb
  exact ⟨to, tc, go, gc, (hc _).trans h1, (hc _).trans h2, (hc _).trans h3, h4.later hk, h5.later hk⟩
theorem StsI.later {lo : Nat} {w w' : World} {sb : Nat} {sts : List (Option St)} (h : StsI lo w sb sts) (hk : Keeps lo w w') (hb : w'.heap[sb]? = w.heap[sb]?) : StsI lo w' sb sts :=
  ⟨h.own.of_block hb, fun j o ho => (h.at_ j o ho).later hk hb⟩
theorem StsI.put {lo : Nat} {w : World} {sb : Nat} {sts : List (Option St)} (h : StsI lo w sb sts) {x : Nat} (hx : x < sts.length) (hsb : sb < lo) {s : St} {to go : Option Addr} {tc gc : Nat} (ht : RowI lo w to tc s.types) (hg : RowG lo w go gc s.guards) :
    StsI lo (((w.setCell ⟨sb, x * 3, none⟩ (.bool true)).setCell ⟨sb, x * 3 + 1, none⟩ (.slice to s.types.length tc)).setCell ⟨sb, x * 3 + 2, none⟩ (.slice go s.guards.length gc)) sb (sts.set x (some s)) := by
  have hk : Keeps lo w (((w.setCell ⟨sb, x * 3, none⟩ (.bool true)).setCell ⟨sb, x * 3 + 1, none⟩ (.slice to s.types.length tc)).setCell ⟨sb, x * 3 + 2, none⟩ (.slice go s.guards.length gc)) :=
    (((Keeps.refl lo w).setCell (p := ⟨sb, x * 3, none⟩) hsb _).setCell (p := ⟨sb, x * 3 + 1, none⟩) hsb _).setCell (p := ⟨sb, x * 3 + 2, none⟩) hsb _
  have ho := ((h.own.set (x * 3) (.bool true)).set (x * 3 + 1) (.slice to s.types.length tc)).set (x * 3 + 2) (.slice go s.guards.length gc)
  refine ⟨by rw [List.length_set]; exact ho, ?_⟩
  intro j o hj
  rw [List.getElem?_set] at hj
  by_cases hxj : x = j
  · subst hxj
    simp [hx] at hj
    subst hj
    have o1 := h.own.set (x * 3) (.bool true)
    have o2 := o1.set (x * 3 + 1) (.slice to s.types.length tc)
    refine ⟨to, tc, go, gc, ?_, ?_, own_set_cell o2 (by omega), ht.later hk, hg.later hk⟩
    · rw [cell_set_ne (by omega), cell_set_ne (by omega)]
      exact own_set_cell h.own (by omega)
    · rw [cell_set_ne (by omega)]
      exact own_set_cell o1 (by omega)
  · rw [if_neg hxj] at hj
    obtain ⟨to', tc', go', gc', h1, h2, h3, h4, h5⟩ := h.at_ j o hj
    refine ⟨to', tc', go', gc', ?_, ?_, ?_, h4.later hk, h5.later hk⟩
    · rw [cell_set_ne (by omega), cell_set_ne (by omega), cell_set_ne (by omega)]; exact h1
    · rw [cell_set_ne (by omega), cell_set_ne (by omega), cell_set_ne (by omega)]; exact h2
    · rw [cell_set_ne (by omega), cell_set_ne (by omega), cell_set_ne (by omega)]; exact h3

theorem StI.store {lo : Nat} {w : World} {sb j : Nat} {o : Option St} (h : StI lo w sb j o) {g : Nat} {arr : Array Value} {t : TypeId} (hg : Blk w g arr t) (ht : t ≠ 3) (ht2 : t ≠ 194) (hs : sb ≠ g) (q : Nat) (v : Value) : StI lo (w.setCell ⟨g, q, none⟩ v) sb j o := by
  obtain ⟨to, tc, go, gc, h1, h2, h3, h4, h5⟩ := h
  have hc : ∀ i, (w.setCell ⟨g, q, none⟩ v).cell? ⟨sb, i, none⟩ = w.cell? ⟨sb, i, none⟩ := fun i => World.cell?_setCell_far _ _ _ _ (fun e => hs e.symm)
  exact ⟨to, tc, go, gc, (hc _).trans h1, (hc _).trans h2, (hc _).trans h3, h4.store hg ht q v, h5.store hg ht2 q v⟩
/-! ### The verifier where it lies -/
/-- Its three blocks, between B and L. -/
structure VfIn (B L vb sb db : Nat) : Prop where
  v1 : B ≤ vb
  v2 : vb < L
  s1 : B ≤ sb
  s2 : sb < L
  d1 : B ≤ db
  d2 : db < L
  vs : vb ≠ sb
  vd : vb ≠ db
  sd : sb ≠ db
/-- Nothing is written below B, nor in what lies from L on. -/
structure Off (B L : Nat) (w w' : World) : Prop where
  below : Below B w w'
  keeps : Keeps L w w'
theorem Off.of_below {B L : Nat} {w w' : World} (h : Below w.heap.size w w') (hB : B ≤ w.heap.size) : Off B L w w' := ⟨h.mono hB, Keeps.of_below h⟩
theorem Off.refl (B L : Nat) (w : World) : Off B L w w := ⟨Below.refl _ _, Keeps.refl _ _⟩
theorem Off.trans {B L : Nat} {a b c : World} (h : Off B L a b) (k : Off B L b c) : Off B L a c := ⟨h.below.trans k.below, h.keeps.trans k.keeps⟩
theorem Off.size {B L : Nat} {a b : World} (h : Off B L a b) : a.heap.size ≤ b.heap.size := h.below.size
theorem Off.blk {B L : Nat} {a b : World} (h : Off B L a b) {g : Nat} {arr : Array Value} {t : TypeId} (x : Blk a g arr t) (hg : L ≤ g) : Blk b g arr t := (h.keeps.block g hg x.lt).trans x
theorem Off.set {B L : Nat} {a b : World} (h : Off B L a b) {p : Addr} (v : Value) (h1 : B ≤ p.block) (h2 : p.block < L) : Off B L a (b.setCell p v) := ⟨h.below.setCell h1 _, h.keeps.setCell h2 _⟩
theorem Off.setNew {B L : Nat} {a b : World} (h : Off B L a b) (hB : B ≤ a.heap.size) {p : Addr} (v : Value) (h1 : a.heap.size ≤ p.block) : Off B L a (b.setCell p v) :=
  ⟨h.below.setCell (Nat.le_trans hB h1) _, ⟨by rw [size_set]; exact h.size, fun k hk hs => (Below.heap_setCell _ _ _ _ (by omega)).trans (h.keeps.block k hk hs)⟩⟩
structure VfAt (L vb sb db : Nat) (cao : Option Addr) (ccap : Nat) (ps : List Pd) (p : Pd) (h : Ph) (w : World) (c : Cf) (l : Nat) : Prop where
  blk : Blk w vb #[.slice cao ps.length ccap, .string p.name, .int .i64 p.line, .int .i64 p.params, .bool p.rest, .int .i64 p.regs, .slice h.uo p.ups.length h.uc, .slice h.co p.consts.length h.cc, .slice h.io p.ins.length h.ic, .slice h.no p.named.length h.nc, .slice (some ⟨sb, 0, none⟩) p.ins.length p.ins.length, .slice (some ⟨db, 0, none⟩) p.ins.length p.ins.length, .int .i64 l] 145
  sts : StsI L w sb c.sts
  due : Blk w db (boolArr c.due) 4
  low : ∀ j, j < l → c.due.getD j false = false
  lenS : c.sts.length = p.ins.length
  lenD : c.due.length = p.ins.length
theorem VfAt.below {L vb sb db : Nat} {cao : Option Addr} {ccap : Nat} {ps : List Pd} {p : Pd} {h : Ph} {w w' : World} {c : Cf} {l : Nat} (x : VfAt L vb sb db cao ccap ps p h w c l) (hb : Below w.heap.size w w') : VfAt L vb sb db cao ccap ps p h w' c l :=
  ⟨x.blk.later hb, x.sts.later (Keeps.of_below hb) (hb.block sb x.sts.own.lt), x.due.later hb, x.low, x.lenS, x.lenD⟩
/-- A store into a block of another type, behind its own. -/
theorem VfAt.store {B L vb sb db : Nat} {cao : Option Addr} {ccap : Nat} {ps : List Pd} {p : Pd} {h : Ph} {w : World} {c : Cf} {l : Nat} (V : VfIn B L vb sb db) (x : VfAt L vb sb db cao ccap ps p h w c l) {g : Nat} {arr : Array Value} {t : TypeId} (hg : Blk w g arr t) (hL : L ≤ g) (ht : t ≠ 3) (ht2 : t ≠ 194) (q : Nat) (v : Value) : VfAt L vb sb db cao ccap ps p h (w.setCell ⟨g, q, none⟩ v) c l := by
  have n1 : vb ≠ g := by have := V.v2; omega
  have n2 : sb ≠ g := by have := V.s2; omega
  have n3 : db ≠ g := by have := V.d2; omega
  exact ⟨x.blk.setOther (p := ⟨g, q, none⟩) n1 _, ⟨x.sts.own.of_block (Below.heap_setCell _ _ _ _ n2), fun j o ho => (x.sts.at_ j o ho).store hg ht ht2 n2 q v⟩, x.due.setOther (p := ⟨g, q, none⟩) n3 _, x.low, x.lenS, x.lenD⟩
/-- A state is put in. -/
theorem VfAt.put {B L vb sb db : Nat} {cao : Option Addr} {ccap : Nat} {ps : List Pd} {p : Pd} {h : Ph} {w : World} {c : Cf} {l : Nat} (V : VfIn B L vb sb db) (x : VfAt L vb sb db cao ccap ps p h w c l) {k : Nat} (hk : k < p.ins.length) {s : St} {to go : Option Addr} {tc gc : Nat} (ht : RowI L w to tc s.types) (hg : RowG L w go gc s.guards) :
    VfAt L vb sb db cao ccap ps p h (((w.setCell ⟨sb, k * 3, none⟩ (.bool true)).setCell ⟨sb, k * 3 + 1, none⟩ (.slice to s.types.length tc)).setCell ⟨sb, k * 3 + 2, none⟩ (.slice go s.guards.length gc)) ⟨c.sts.set k (some s), c.due⟩ l := by
  have hs3 : ∀ j, j ≠ sb → (((w.setCell ⟨sb, k * 3, none⟩ (.bool true)).setCell ⟨sb, k * 3 + 1, none⟩ (.slice to s.types.length tc)).setCell ⟨sb, k * 3 + 2, none⟩ (.slice go s.guards.length gc)).heap[j]? = w.heap[j]? := fun j hj => by
    rw [Below.heap_setCell _ _ _ _ hj, Below.heap_setCell _ _ _ _ hj, Below.heap_setCell _ _ _ _ hj]
  exact ⟨(hs3 vb V.vs).trans x.blk, x.sts.put (by rw [x.lenS]; exact hk) V.s2 ht hg, (hs3 db V.sd.symm).trans x.due, x.low, by simp [x.lenS], x.lenD⟩
theorem VfAt.setDue {B L vb sb db : Nat} {cao : Option Addr} {ccap : Nat} {ps : List Pd} {p : Pd} {h : Ph} {w : World} {c : Cf} {l : Nat} (V : VfIn B L vb sb db) (x : VfAt L vb sb db cao ccap ps p h w c l) (k l' : Nat) (hl' : l' ≤ l) (hlk : l' ≤ k) :
    VfAt L vb sb db cao ccap ps p h ((w.setCell ⟨db, k, none⟩ (.bool true)).setCell ⟨vb, 12, none⟩ (.int .i64 l')) ⟨c.sts, c.due.set k true⟩ l' := by
  have D4 := x.due.set k (.bool true)
  rw [boolArr_set] at D4
  have V4 := x.blk.setOther (p := ⟨db, k, none⟩) V.vd (.bool true)
  have S4 := x.sts.later (w' := w.setCell ⟨db, k, none⟩ (.bool true)) ((Keeps.refl _ _).setCell V.d2 _) (Below.heap_setCell _ _ _ _ V.sd)
  have V5 := V4.set 12 (.int .i64 l')
  have S5 := S4.later (w' := (w.setCell ⟨db, k, none⟩ (.bool true)).setCell ⟨vb, 12, none⟩ (.int .i64 l')) ((Keeps.refl _ _).setCell V.v2 _) (Below.heap_setCell _ _ _ _ V.vs.symm)
  have D5 := D4.setOther (p := ⟨vb, 12, none⟩) V.vd.symm (.int .i64 l')
  refine ⟨V5, S5, D5, ?_, x.lenS, by simp [x.lenD]⟩
  intro j hj
  rw [due_set]
  rw [if_neg (by omega)]
  exact x.low j (by omega)
/-- One is taken out of what is due. -/
theorem VfAt.take {B L vb sb db : Nat} {cao : Option Addr} {ccap : Nat} {ps : List Pd} {p : Pd} {h : Ph} {w : World} {c : Cf} {l : Nat} (V : VfIn B L vb sb db) (x : VfAt L vb sb db cao ccap ps p h w c l) (k : Nat) : VfAt L vb sb db cao ccap ps p h (w.setCell ⟨db, k, none⟩ (.bool false)) ⟨c.sts, c.due.set k false⟩ l := by
  have D4 := x.due.set k (.bool false)
  rw [boolArr_set] at D4
  refine ⟨x.blk.setOther (p := ⟨db, k, none⟩) V.vd _, x.sts.later ((Keeps.refl _ _).setCell V.d2 _) (Below.heap_setCell _ _ _ _ V.sd), D4, ?_, x.lenS, by simp [x.lenD]⟩
  intro j hj
  rw [due_set]
  split
  · rfl
  · exact x.low j hj
/-- The least number moves on. -/
theorem VfAt.move {B L vb sb db : Nat} {cao : Option Addr} {ccap : Nat} {ps : List Pd} {p : Pd} {h : Ph} {w : World} {c : Cf} {l : Nat} (V : VfIn B L vb sb db) (x : VfAt L vb sb db cao ccap ps p h w c l) (l' : Nat) (hl : ∀ j, j < l' → c.due.getD j false = false) : VfAt L vb sb db cao ccap ps p h (w.setCell ⟨vb, 12, none⟩ (.int .i64 l')) c l' :=
  ⟨x.blk.set 12 (.int .i64 l'), x.sts.later ((Keeps.refl _ _).setCell V.v2 _) (Below.heap_setCell _ _ _ _ V.vs.symm), x.due.setOther (p := ⟨vb, 12, none⟩) V.vd.symm _, hl, x.lenS, x.lenD⟩
end Go.Proofs.YtmfippfnhcphhaaGreatDoor
