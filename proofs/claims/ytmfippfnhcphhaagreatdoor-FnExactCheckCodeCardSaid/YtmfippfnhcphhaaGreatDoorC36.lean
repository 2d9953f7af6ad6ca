import Derived.Test.YtmfippfnhcphhaaGreatDoorC31
import Derived.Deep.Cut
import Derived.Test.YtmfippfnhcphhaaGreatDoorC34
import Derived.Deep.RegionLaw
namespace Go.Proofs.YtmfippfnhcphhaaGreatDoor
open Go.RowKit Go.Deep

theorem RgAt.addTaken {B rb m : Nat} {w w2 : World} {rd : Rd} {vt vr vk vk' : Value} {x : Int} {o : Obj} {S : Nat} (h : RgAt B rb m w rd vt vr vk) (h1 : w2.ownsRow B 3 1 vk' (rd.taken.length + 1) (ints (rd.taken ++ [x]))) (h2 : (w.alloc o).grownBy w2 vk.ownBlock) (hS : w.heap.size ≤ S) (h3 : vk'.ownBlock = vk.ownBlock ∨ vk'.ownBlock = some S) (hB : B ≤ w.heap.size) :
    RgAt B rb m (w2.setCell ⟨rb, 2, none⟩ vk') ⟨rd.types, rd.stay, rd.taken ++ [x]⟩ vt vr vk' ∧ Below B w (w2.setCell ⟨rb, 2, none⟩ vk') := by
  have hlt := h.blk.lt
  have hnk' : vk'.ownBlock ≠ some rb := by
    rcases h3 with h3 | h3
    · rw [h3]; exact h.nk
    · rw [h3]; intro e; simp at e; omega
  have hb2 := blk_grown (h.blk.alloc o) h2 (fun e => h.nk e.symm)
  have T2 := owns_grown (h.types.alloc o) h2 (fun k hk e => h.tk k hk e.symm)
  have R2 := owns_grown (h.read.alloc o) h2 (fun k hk e => h.rk k hk e.symm)
  have hset : ∀ {v : Value}, v.ownBlock ≠ some rb → ∀ k, v.ownBlock = some k → (w2.setCell ⟨rb, 2, none⟩ vk').heap[k]? = w2.heap[k]? := fun hn k hk => Below.heap_setCell _ _ _ _ (fun e => hn (by rw [hk, e]))
  have hs := hb2.set 2 vk'
  have e1 : (#[vt, vr, vk] : Array Value).setIfInBounds 2 vk' = #[vt, vr, vk'] := rfl
  rw [e1] at hs
  refine ⟨⟨hs, h.low, owns_other T2 (hset h.nt), owns_other R2 (hset h.nr), by simpa using owns_other h1 (hset hnk'), h.nt, h.nr, hnk', h.tr, ?_, ?_⟩, ?_⟩
  · intro k hk e
    rcases h3 with h3 | h3
    · exact h.tk k hk (h3 ▸ e)
    · have := (h.types.lt k hk).2
      rw [h3] at e
      simp at e
      omega
  · intro k hk e
    rcases h3 with h3 | h3
    · exact h.rk k hk (h3 ▸ e)
    · have := (h.read.lt k hk).2
      rw [h3] at e
      simp at e
      omega
  · exact (((Below.refl B w).alloc hB o).grown h2 (by simp; omega) (fun k hk => (h.taken.lt k hk).1)).setCell h.low _
theorem RgAt.setType {B rb m g : Nat} {w : World} {rd : Rd} {tc : Nat} {vr vk : Value} (h : RgAt B rb m w rd (.slice (some ⟨g, 0, none⟩) m tc) vr vk) (q : Nat) (t : Int) :
    RgAt B rb m (w.setCell ⟨g, q, none⟩ (.int .i64 t)) ⟨rd.types.set q t, rd.stay, rd.taken⟩ (.slice (some ⟨g, 0, none⟩) m tc) vr vk ∧ Below B w (w.setCell ⟨g, q, none⟩ (.int .i64 t)) := by
  have T2 := (h.types.stored q (.int .i64 t)).1
  rw [ints_set] at T2
  have hg : (Value.slice (some ⟨g, 0, none⟩) m tc).ownBlock = some g := rfl
  have hne : ¬ rb = g := fun e => h.nt (by rw [hg, e])
  have hset : ∀ {v : Value}, v.ownBlock ≠ some g → ∀ k, v.ownBlock = some k → (w.setCell ⟨g, q, none⟩ (.int .i64 t)).heap[k]? = w.heap[k]? := fun hn k hk => Below.heap_setCell _ _ _ _ (fun e => hn (by rw [hk, e]))
  exact ⟨⟨h.blk.setOther (p := ⟨g, q, none⟩) hne _, h.low, T2, owns_other h.read (hset (h.tr g hg)), owns_other h.taken (hset (h.tk g hg)), h.nt, h.nr, h.nk, h.tr, h.tk, h.rk⟩, (Below.refl B w).setCell (h.types.lt g hg).1 _⟩
def RdPost (B rb m : Nat) (vt : Value) (w : World) (r : Option Rd) (e : Ending) (w' : World) : Prop :=
  (match r with | none => e = .returned (.bool false) | some rd => e = .returned (.bool true) ∧ ∃ vr vk, RgAt B rb m w' rd vt vr vk) ∧ Below B w w'

set_option maxRecDepth 100000 in
set_option maxHeartbeats 16000000 in
theorem operand_any (B rb m : Nat) (x want : Int) (rd : Rd) (to : Option Addr) (tc : Nat) (vr vk : Value) (w : World) (h : RgAt B rb m w rd (.slice to m tc) vr vk) (hB : B ≤ w.heap.size) (hm : rd.types.length = m) (hx1 : -(m : Int) ≤ x) (hx2 : x < m) (hm2 : m ≤ 250) (hs : rd.stay.length ≤ 100) (hk : rd.taken.length ≤ 100) :
    Calls Tryz.prog 225 #[.pointer (some ⟨rb, 0, none⟩), .agg #[.int .i64 x, .int .i64 want]] w (RdPost B rb m (.slice to m tc) w (rdOp want x rd)) := by
  have P0 := Blk.new w #[.int .i64 x, .int .i64 want] 247
  have D0 := (Below.refl w.heap.size w).alloc (Nat.le_refl _) (.cells #[.int .i64 x, .int .i64 want] 247)
  have hrbl := h.blk.lt
  obtain ⟨q, hq⟩ : ∃ q : Nat, regOf x = q := Int.eq_ofNat_of_zero_le (by unfold regOf; split <;> omega)
  have hqm : q < m := by
    have : regOf x < m := by unfold regOf; split <;> omega
    omega
  rcases owns_form h.types with ⟨_, h0⟩ | ⟨g, cap', h1, h2, h3⟩
  · omega
  simp only [Value.slice.injEq] at h1
  obtain ⟨rfl, _, rfl⟩ := h1
  obtain ⟨ro, rc, rfl⟩ := owns_slice h.read
  obtain ⟨ko, kc, rfl⟩ := owns_slice h.taken
  have ct := (h.types.cellAt q (by omega)).trans (ints_get (by rw [hm]; exact hqm))
  obtain ⟨ty, hty⟩ : ∃ ty, ty = rd.types.getD q 0 := ⟨_, rfl⟩
  rw [← hty] at ct
  have HTY : Hid (tyAt rd.types (regOf x) = ty) := by show _ = _; rw [hq, hty]; rfl
  have HQ : Hid (regOf x = q) := hq
  have HREG : Hid (∀ W, Calls Tryz.prog 172 #[.agg #[.int .i64 x, .int .i64 want]] W fun e w' => e = .returned (.int .i64 q) ∧ Below W.heap.size W w') := by
    intro W
    have := register_any x want (by omega) (by omega) W
    rw [hq] at this
    exact this
  have HTK : Hid (∀ W, Calls Tryz.prog 171 #[.agg #[.int .i64 x, .int .i64 want]] W fun e w' => e = .returned (.bool (decide (x < 0))) ∧ Below W.heap.size W w') := fun W => taken_any x want W
  have HM : Hid (rd.types.length = m) := hm
  have HCN : Hid (∀ W, RgAt B rb m W rd (.slice (some ⟨g, 0, none⟩) m tc) (.slice ro rd.stay.length rc) (.slice ko rd.taken.length kc) → Calls Tryz.prog 227 #[.slice ro rd.stay.length rc, .int .i64 q] W fun e w' => e = .returned (.bool (decide ((q : Int) ∈ rd.stay))) ∧ Below W.heap.size W w') := fun W hR => containsInt_any ro rc rd.stay q W (by omega) (AllAt.lower (owns_ints hR.read).1 (Nat.zero_le _))
  clear hty hq hm
  go_enter Tryz.func225, Tryz.ntmps225
  go_wp2_with fail
  refine (HREG.out _).mono ?_
  rintro e w1 ⟨rfl, hw1⟩
  have D1 := D0.trans (hw1.mono (by simp))
  have R1 := h.later D1
  have P1 := P0.later hw1
  have ct1 := (D1.cell (p := ⟨g, q, none⟩) h3).trans ct
  have r10 := R1.blk.cell 0
  have r11 := R1.blk.cell 1
  have p10 := P1.cell 0
  have p11 := P1.cell 1
  have hg1 : g < w1.heap.size := Nat.lt_of_lt_of_le h3 D1.size
  have hpl := P1.lt
  have hrl := R1.blk.lt
  have k2 : (q : Int) < m := by omega
  have hE1 : Below w1.heap.size w1 w1.drew := (Below.refl _ _).drew
  have HD1 : Hid (Below w.heap.size w w1) := D1
  have HR1 : Hid (RgAt B rb m w1 rd (.slice (some ⟨g, 0, none⟩) m tc) (.slice ro rd.stay.length rc) (.slice ko rd.taken.length kc)) := R1
  have HP1 : Hid (Blk w1 w.heap.size #[.int .i64 x, .int .i64 want] 247) := P1
  clear hw1 D0 P0 HREG ct h h2 D1
  go_wp2_with fail
  go_cut [29] from 8 (fun v29 wx => v29 = .bool (rdOp want x rd).isNone ∧ Hid (RgAt B rb m wx rd (.slice (some ⟨g, 0, none⟩) m tc) (.slice ro rd.stay.length rc) (.slice ko rd.taken.length kc)) ∧ Hid (Blk wx w.heap.size #[.int .i64 x, .int .i64 want] 247) ∧ Hid (Below w.heap.size w wx))
  case first =>
    by_cases hne : ty = want
    · rw [hne] at ct1 HTY
      clear hne
      by_cases hx0 : x < 0
      · have kx : decide (x < 0) = true := decide_eq_true hx0
        rw [kx] at HTK
        have HN : Hid ((rdOp want x rd).isNone = decide ((q : Int) ∈ rd.stay)) := by
          show _ = _
          by_cases hst : regOf x ∈ rd.stay
          · rw [rdOp_stays HTY.out hx0 hst]; rw [HQ.out] at hst; simp [hst]
          · rw [rdOp_takes HTY.out hx0 hst]; rw [HQ.out] at hst; simp [hst]
        clear HTY hx0 kx R1 P1
        generalize decide ((q : Int) ∈ rd.stay) = bb at *
        first
        | (go_region_with (first | (go_at_call 171; refine (HTK.out _).mono ?_; rintro e w2 ⟨rfl, hw2⟩; have R2 := (HR1.out.later hE1).later hw2; have P2 := (HP1.out.later hE1).later hw2; have s0 := R2.blk.cell 0; have s1 := R2.blk.cell 1; have s2 := (hw2.cell (p := ⟨g, q, none⟩) hg1).trans ct1; have s3 := P2.cell 0; have s4 := P2.cell 1; have HB2 : Hid (Below w.heap.size w w2) := HD1.out.trans ((hE1.trans hw2).mono HD1.out.size)) | (go_at_call 227; refine (HCN.out _ R2).mono ?_; rintro e w3 ⟨rfl, hw3⟩; have HR3 : Hid (RgAt B rb m w3 rd (.slice (some ⟨g, 0, none⟩) m tc) (.slice ro rd.stay.length rc) (.slice ko rd.taken.length kc)) := R2.later hw3; have HP3 : Hid (Blk w3 w.heap.size #[.int .i64 x, .int .i64 want] 247) := P2.later hw3; have HB3 : Hid (Below w.heap.size w w3) := HB2.out.trans (hw3.mono HB2.out.size))))
        | fail
        all_goals
          go_wp2_with fail
          go_meet
          case rel => exact ⟨by rw [HN.out], HR3.out, HP3.out, HB3.out⟩
      · have kx : decide (x < 0) = false := decide_eq_false hx0
        rw [kx] at HTK
        have HN : Hid ((rdOp want x rd).isNone = false) := by show _ = _; rw [rdOp_read HTY.out hx0]; rfl
        clear HTY hx0 kx R1 P1
        first
        | (go_region_with (first | (go_at_call 171; refine (HTK.out _).mono ?_; rintro e w2 ⟨rfl, hw2⟩; have HR2 : Hid (RgAt B rb m w2 rd (.slice (some ⟨g, 0, none⟩) m tc) (.slice ro rd.stay.length rc) (.slice ko rd.taken.length kc)) := (HR1.out.later hE1).later hw2; have HP2 : Hid (Blk w2 w.heap.size #[.int .i64 x, .int .i64 want] 247) := (HP1.out.later hE1).later hw2; have HB2 : Hid (Below w.heap.size w w2) := HD1.out.trans ((hE1.trans hw2).mono HD1.out.size))))
        | fail
        all_goals
          go_wp2_with fail
          go_meet
          case rel => exact ⟨by rw [HN.out], HR2.out, HP2.out, HB2.out⟩
    · have HN : Hid ((rdOp want x rd).isNone = true) := by show _ = _; rw [rdOp_no (by rw [HTY.out]; exact hne)]; rfl
      have k5 : (ty != want) = true := by simpa using hne
      have HDR : Hid (∀ n, Below w1.heap.size w1 (w1.drewN n)) := fun n => below_drewN (Below.refl _ _) n
      clear HTY hne R1 P1 hE1
      go_quiet (fail)
      go_wp2_with fail
      go_meet
      case rel => exact ⟨by rw [HN.out], HR1.out.later (HDR.out _), HP1.out.later (HDR.out _), HD1.out.trans ((HDR.out _).mono HD1.out.size)⟩
  case rest =>
    obtain ⟨rfl, HR, HP, HBc⟩ := hcut
    clear R1 P1 HR1 HP1 HD1 r10 r11 p10 p11 ct1 hg1 hpl hrl hE1 HCN
    have pc := HP.out.cell
    cases hrd : rdOp want x rd with
    | none =>
      have HRD : Hid _ := hrd
      clear hrd
      go_wp2_with fail
      go_ret
      unfold RdPost
      rw [HRD.out]
      exact ⟨rfl, HBc.out.mono hB⟩
    | some rd' =>
      by_cases hx0 : x < 0
      · have hty : tyAt rd.types (regOf x) = want := Classical.byContradiction fun hc => by rw [rdOp_no hc] at hrd; cases hrd
        have hns : ¬ regOf x ∈ rd.stay := fun hc => by rw [rdOp_stays hty hx0 hc] at hrd; cases hrd
        have HRD : Hid (rdOp want x rd = some ⟨rd.types.set q 0, rd.stay, rd.taken ++ [(q : Int)]⟩) := by show _ = _; rw [rdOp_takes hty hx0 hns, HQ.out, Int.toNat_natCast]
        rw [decide_eq_true hx0] at HTK
        clear hrd hty hns hx0 HTY
        go_wp2_with fail
        refine (HTK.out _).mono ?_
        rintro e w2 ⟨rfl, hw2⟩
        have R2 := HR.out.later hw2
        have B2 := HBc.out.trans (hw2.mono HBc.out.size)
        clear hw2 HR HP HBc pc
        have r2 := R2.blk.cell
        have ct2 := (R2.types.cellAt q (by omega)).trans (ints_get (by rw [HM.out]; exact hqm))
        have cf2 := R2.types.frozenAt q
        obtain ⟨R3, B3⟩ := R2.setType q 0
        have HR3 : Hid (RgAt B rb m (w2.setCell ⟨g, q, none⟩ (.int .i64 0)) ⟨rd.types.set q 0, rd.stay, rd.taken⟩ (.slice (some ⟨g, 0, none⟩) m tc) (.slice ro rd.stay.length rc) (.slice ko rd.taken.length kc)) := R3
        have HB3 : Hid (Below B w (w2.setCell ⟨g, q, none⟩ (.int .i64 0))) := (B2.mono hB).trans B3
        have hgr : ¬ g = rb := fun e => R2.nt (by rw [e]; rfl)
        have hBw : B ≤ (w2.setCell ⟨g, q, none⟩ (.int .i64 0)).heap.size := by rw [size_set]; exact Nat.le_trans hB B2.size
        clear R3 B3 B2
        go_wp2_with (at_builtin; refine app_int rfl _ _ rfl B _ rd.taken.length rd.taken (q : Int) _ rfl (HR3.out.taken.alloc _) rfl ?c1 (by omega) ?c3 ?_)
        case c1 =>
          have hn := (Blk.new (w2.setCell ⟨g, q, none⟩ (.int .i64 0)) #[.int .i64 q] 3).cell 0
          rw [size_set] at hn
          exact hn
        case c3 => exact Nat.le_trans hBw (by simp)
        · intro v2 w3 H1 H2 H3
          have hb2 := blk_grown (HR3.out.blk.alloc _) H2 (fun e => HR3.out.nk e.symm)
          have r3 := hb2.cell 2
          have f3 := hb2.frozen 2
          obtain ⟨R4, B4⟩ := HR3.out.addTaken H1 H2 (by simp) H3 hBw
          have HR4 : Hid (RgAt B rb m (w3.setCell ⟨rb, 2, none⟩ v2) ⟨rd.types.set q 0, rd.stay, rd.taken ++ [(q : Int)]⟩ (.slice (some ⟨g, 0, none⟩) m tc) (.slice ro rd.stay.length rc) v2) := R4
          have HB4 : Hid (Below B w (w3.setCell ⟨rb, 2, none⟩ v2)) := HB3.out.trans B4
          obtain ⟨vo, vc, rfl⟩ := owns_slice H1
          clear H1 H2 H3 hb2 R4 B4 HR3 HB3 R2 r2 ct2 cf2
          go_wp2_with fail
          go_ret
          unfold RdPost
          rw [HRD.out]
          exact ⟨⟨rfl, _, _, HR4.out⟩, HB4.out⟩
      · have hty : tyAt rd.types (regOf x) = want := Classical.byContradiction fun hc => by rw [rdOp_no hc] at hrd; cases hrd
        have HRD : Hid (rdOp want x rd = some rd) := rdOp_read hty hx0
        rw [decide_eq_false hx0] at HTK
        clear hrd hty hx0 HTY
        go_wp2_with fail
        refine (HTK.out _).mono ?_
        rintro e w2 ⟨rfl, hw2⟩
        have R2 := HR.out.later hw2
        have B2 := HBc.out.trans (hw2.mono HBc.out.size)
        clear hw2 HR HP HBc pc
        go_wp2_with fail
        go_ret
        unfold RdPost
        rw [HRD.out]
        exact ⟨⟨rfl, _, _, R2⟩, B2.mono hB⟩
end Go.Proofs.YtmfippfnhcphhaaGreatDoor

namespace Go.Proofs.YtmfippfnhcphhaaGreatDoor
open Go.RowKit Go.Deep

/-- append of one, as one step of a region. -/
theorem stp_int {ops : Array Oper} {o : Oper} {a : Act} {w : World} {K : Act → World → Prop} {Q : Exit → Act → World → Prop} {E : Prop} (hgd : o.guard = none) (s x : Operand) (ho : o.op = .call { callee := .builtin .append, args := #[s, x], argTypes := #[82, 82] })
    (base : Nat) (v : Value) (n : Nat) (xs : List Int) (u : Int) (B : Nat) (hs : a.eval s = v) (hown : w.ownsRow base 3 1 v n (ints xs)) (hx : a.eval x = .slice (some ⟨B, 0, none⟩) 1 1) (hB : w.cell? ⟨B, 0, none⟩ = some (.int .i64 u))
    (hn : n ≤ 1048576) (hbase : base ≤ w.heap.size)
    (h : ∀ v' w', w'.ownsRow base 3 1 v' (n + 1) (ints (xs ++ [u])) → w.grownBy w' v.ownBlock → (v'.ownBlock = v.ownBlock ∨ v'.ownBlock = some w.heap.size) → K (a.put o.dst v') w') :
    if Region.wanted o (yielded ops a.tmps) = true then Oper.wp Tryz.prog o a w K Q else E := by
  have hw : Region.wanted o (yielded ops a.tmps) = true := by simp [Region.wanted, hgd]
  rw [if_pos hw]
  obtain ⟨i0, hi, hz0, hz1, hz2⟩ := info_parts Tryz.info_int
  obtain ⟨v', w', hr, h2, h3, h4, h5⟩ := run_append_own_at (P := Tryz.prog) w base 82 o.type 3 i0 (.int .i64 0) 1 8 Tryz.underlying82 hi hz0 hz1 hz2 rfl (by decide) v n (ints xs) hown ⟨B, 0, none⟩ 1 1 [.int .i64 u] rfl (by
    intro j q hj
    match j, hj with
    | 0, hj => simp at hj; subst hj; simpa [Addr.add] using hB) (by simp [Value.oneCell']) (by unfold maxLen; omega) (by omega) hbase
  unfold Oper.wp execOp
  simp only [ho, resolve, invoke, builtin, Sem.run_bind, Sem.run_pure, Result.andThen_ok, List.map_toArray, List.map_cons, List.map_nil, hs, hx, hr]
  refine h v' w' ?_ h3 h5
  simpa [ints] using h2

theorem place_eq {r cnt : Nat} {want : Int} (h : (r = 14 ∧ cnt = 1 ∧ want = 1) ∨ (r = 15 ∧ cnt = 1 ∧ want = 2) ∨ (r = 16 ∧ cnt = 1 ∧ want = 3) ∨ (r = 17 ∧ cnt = 2 ∧ want = 1) ∨ (r = 18 ∧ cnt = 3 ∧ want = 1)) (q : Nat) (rd : Rd) : placesF want cnt q rd = rdI r (q : Int) rd := by
  rcases h with ⟨rfl, rfl, rfl⟩ | ⟨rfl, rfl, rfl⟩ | ⟨rfl, rfl, rfl⟩ | ⟨rfl, rfl, rfl⟩ | ⟨rfl, rfl, rfl⟩
  · simp [placesF, rdI, rdPlace]
  · simp [placesF, rdI, rdPlace]
  · simp [placesF, rdI, rdPlace]
  · simp only [placesF, rdI]
    by_cases h1 : tyAt rd.types (q : Int) = 1
    · by_cases h2 : tyAt rd.types ((q : Int) + 1) = 1
      · simp [h1, h2]
      · simp [h1, h2]
    · simp [h1]
  · simp only [placesF, rdI]
    by_cases h1 : tyAt rd.types (q : Int) = 1
    · by_cases h2 : tyAt rd.types ((q : Int) + 1) = 1
      · by_cases h3 : tyAt rd.types ((q : Int) + 2) = 1
        · have e : ((q : Int) + 1 + 1) = (q : Int) + 2 := by omega
          simp [h1, h2, h3, e]
        · have e : ((q : Int) + 1 + 1) = (q : Int) + 2 := by omega
          simp [h1, h2, h3, e]
      · simp [h1, h2]
    · simp [h1]

set_option maxRecDepth 100000 in
theorem one_number (rb : Nat) (v : Value) (w : World) : Calls Tryz.prog 189 #[.pointer (some ⟨rb, 0, none⟩), .iface 300 v] w fun e w' => e = .returned (.bool true) ∧ w' = w := by
  go_enter Tryz.func189, Tryz.ntmps189
  go_wp2_with fail
  go_ret
  exact ⟨rfl, rfl⟩

set_option maxRecDepth 100000 in
theorem one_target (rb : Nat) (v : Value) (w : World) : Calls Tryz.prog 189 #[.pointer (some ⟨rb, 0, none⟩), .iface 280 v] w fun e w' => e = .returned (.bool true) ∧ w' = w := by
  go_enter Tryz.func189, Tryz.ntmps189
  go_wp2_with fail
  go_ret
  exact ⟨rfl, rfl⟩

set_option maxRecDepth 100000 in
theorem one_result (rb : Nat) (v : Value) (w : World) : Calls Tryz.prog 189 #[.pointer (some ⟨rb, 0, none⟩), .iface 275 v] w fun e w' => e = .returned (.bool true) ∧ w' = w := by
  go_enter Tryz.func189, Tryz.ntmps189
  go_wp2_with fail
  go_ret
  exact ⟨rfl, rfl⟩

set_option maxRecDepth 100000 in
set_option maxHeartbeats 4000000 in
theorem one_operand (B rb m : Nat) (x want : Int) (rd : Rd) (to : Option Addr) (tc : Nat) (vr vk : Value) (w : World) (h : RgAt B rb m w rd (.slice to m tc) vr vk) (hB : B ≤ w.heap.size) (hm : rd.types.length = m) (hm2 : m ≤ 250) (hs : rd.stay.length ≤ 90) (hk : rd.taken.length ≤ 90) (hx1 : -(m : Int) ≤ x) (hx2 : x < m) :
    Calls Tryz.prog 189 #[.pointer (some ⟨rb, 0, none⟩), .iface 247 (.agg #[.int .i64 x, .int .i64 want])] w (RdPost B rb m (.slice to m tc) w (rdOp want x rd)) := by
  have A := (Below.refl w.heap.size w).alloc (Nat.le_refl _) (.cells #[.int .i64 x, .int .i64 want] 247)
  have HC : Hid (∀ _ : Unit, _) := fun _ => operand_any B rb m x want rd to tc vr vk _ (h.later A) (Nat.le_trans hB A.size) hm hx1 hx2 hm2 (by omega) (by omega)
  have HB : Hid (Below B w (w.alloc (.cells #[.int .i64 x, .int .i64 want] 247))) := A.mono hB
  clear A h
  go_enter Tryz.func189, Tryz.ntmps189
  go_wp2_with fail
  refine (HC.out ()).mono ?_
  unfold RdPost
  generalize rdOp want x rd = o at *
  clear HC
  cases o with
  | none =>
    rintro e w2 ⟨rfl, hb⟩
    go_wp2_with fail
    go_ret
    exact ⟨rfl, HB.out.trans hb⟩
  | some rd2 =>
    rintro e w2 ⟨⟨rfl, hR⟩, hb⟩
    have HR : Hid _ := hR
    clear hR
    go_wp2_with fail
    go_ret
    exact ⟨⟨rfl, HR.out⟩, HB.out.trans hb⟩
set_option maxRecDepth 100000 in
set_option maxHeartbeats 4000000 in
theorem one_places (B rb m q cnt : Nat) (want : Int) (rd : Rd) (to : Option Addr) (tc : Nat) (vr vk : Value) (w : World) (h : RgAt B rb m w rd (.slice to m tc) vr vk) (hB : B ≤ w.heap.size) (hm : rd.types.length = m) (hm2 : m ≤ 250) (hs : rd.stay.length ≤ 90) (_hk : rd.taken.length ≤ 90) (hq : q + cnt ≤ m) (hc : cnt ≤ 3) :
    Calls Tryz.prog 189 #[.pointer (some ⟨rb, 0, none⟩), .iface 298 (.agg #[.int .i64 q, .int .i64 cnt, .int .i64 want])] w (RdPost B rb m (.slice to m tc) w (placesF want cnt q rd)) := by
  have A := (Below.refl w.heap.size w).alloc (Nat.le_refl _) (.cells #[.int .i64 q, .int .i64 cnt, .int .i64 want] 298)
  have HC : Hid (∀ _ : Unit, _) := fun _ => places_any B rb m q cnt want rd to tc vr vk _ (h.later A) (Nat.le_trans hB A.size) hm hq hm2 hc (by omega)
  have HB : Hid (Below B w (w.alloc (.cells #[.int .i64 q, .int .i64 cnt, .int .i64 want] 298))) := A.mono hB
  clear A h
  go_enter Tryz.func189, Tryz.ntmps189
  go_wp2_with fail
  refine (HC.out ()).mono ?_
  unfold RgPost
  generalize hO : placesF want cnt q rd = o at *
  have HO : Hid _ := hO
  clear HC hO
  cases o with
  | none =>
    rintro e w2 ⟨rfl, hb⟩
    go_wp2_with fail
    go_ret
    unfold RdPost
    first | rw [HO.out] | skip
    exact ⟨rfl, HB.out.trans hb⟩
  | some rd2 =>
    rintro e w2 ⟨⟨rfl, vr2, hR⟩, hb⟩
    have HR : Hid (RgAt B rb m w2 rd2 (.slice to m tc) vr2 vk) := hR
    clear hR
    go_wp2_with fail
    go_ret
    unfold RdPost
    first | rw [HO.out] | skip
    exact ⟨⟨rfl, _, _, HR.out⟩, HB.out.trans hb⟩
set_option maxRecDepth 100000 in
set_option maxHeartbeats 8000000 in
theorem one_opening (B rb m q : Nat) (rd : Rd) (to : Option Addr) (tc : Nat) (vr vk : Value) (w : World) (h : RgAt B rb m w rd (.slice to m tc) vr vk) (hB : B ≤ w.heap.size) (hm : rd.types.length = m) (hm2 : m ≤ 250) (_hs : rd.stay.length ≤ 90) (hk : rd.taken.length ≤ 90) (hq : q + 2 ≤ m) :
    Calls Tryz.prog 189 #[.pointer (some ⟨rb, 0, none⟩), .iface 277 (.agg #[.int .i64 q])] w (RdPost B rb m (.slice to m tc) w (rdI 23 (q : Int) rd)) := by
  have A := (Below.refl w.heap.size w).alloc (Nat.le_refl _) (.cells #[.int .i64 q] 277)
  have R1 := h.later A
  have P1 := Blk.new w #[.int .i64 q] 277
  have HB : Hid (Below B w (w.alloc (.cells #[.int .i64 q] 277))) := A.mono hB
  have hBw : B ≤ (w.alloc (.cells #[.int .i64 q] 277)).heap.size := Nat.le_trans hB A.size
  rcases owns_form h.types with ⟨_, h0⟩ | ⟨g, cap', h1, h2, h3⟩
  · omega
  simp only [Value.slice.injEq] at h1
  obtain ⟨rfl, _, rfl⟩ := h1
  obtain ⟨ro, rc, rfl⟩ := owns_slice h.read
  obtain ⟨ko, kc, rfl⟩ := owns_slice h.taken
  have hwp : ∀ k, (Value.slice ko rd.taken.length kc).ownBlock = some k → k ≠ w.heap.size := fun k hk => by have := (h.taken.lt k hk).2; omega
  have hrbw : rb < w.heap.size := h.blk.lt
  clear A h h2 h3
  go_enter Tryz.func189, Tryz.ntmps189
  go_wp2_with fail
  generalize w.alloc (.cells #[.int .i64 q] 277) = w1 at *
  have r1 := R1.blk.cell
  have p1 := P1.cell
  have hr1 := R1.blk.lt
  have hp1 := P1.lt
  have hE1 : Below w1.heap.size w1 w1.drew := (Below.refl _ _).drew
  have HR1 : Hid (RgAt B rb m w1.drew rd (.slice (some ⟨g, 0, none⟩) m tc) (.slice ro rd.stay.length rc) (.slice ko rd.taken.length kc)) := R1.later hE1
  have HP1 : Hid (Blk w1.drew w.heap.size #[.int .i64 q] 277) := P1.later hE1
  clear R1 P1
  go_wp2_with fail
  go_region_law (refine stp_int rfl _ _ rfl B _ rd.taken.length rd.taken (q : Int) _ rfl (HR1.out.taken.alloc _) rfl ((Blk.new _ _ _).cell 0) (by omega) (Nat.le_trans hBw (by simp)) ?_; intro v2 w3 H1 H2 H3; obtain ⟨vo, vc, rfl⟩ := owns_slice H1; have hb2 := blk_grown (HR1.out.blk.alloc _) H2 (fun e => HR1.out.nk e.symm); have r3 := hb2.cell 2; have f3 := hb2.frozen 2)
  all_goals
    obtain ⟨R4, B4⟩ := HR1.out.addTaken H1 H2 (by simp) H3 hBw
    have P4 := (blk_grown (HP1.out.alloc _) H2 (fun e => hwp _ e.symm rfl)).setOther (p := ⟨rb, 2, none⟩) (by dsimp only; omega) (.slice vo (rd.taken.length + 1) vc)
    have HB4 : Hid (Below B w (w3.setCell ⟨rb, 2, none⟩ (.slice vo (rd.taken.length + 1) vc))) := HB.out.trans (((Below.refl B w1).drew).trans B4)
    have HR4 : Hid (RgAt B rb m (w3.setCell ⟨rb, 2, none⟩ (.slice vo (rd.taken.length + 1) vc)) ⟨rd.types, rd.stay, rd.taken ++ [(q : Int)]⟩ (.slice (some ⟨g, 0, none⟩) m tc) (.slice ro rd.stay.length rc) (.slice vo (rd.taken.length + 1) vc)) := R4
    have HP4 : Hid (Blk (w3.setCell ⟨rb, 2, none⟩ (.slice vo (rd.taken.length + 1) vc)) w.heap.size #[.int .i64 q] 277) := P4
    clear H1 H2 H3 hb2 r3 f3 R4 B4 P4 HR1 HP1 r1 p1 HB
    generalize w3.setCell ⟨rb, 2, none⟩ (.slice vo (rd.taken.length + 1) vc) = w4 at *
    have r4 := HR4.out.blk.cell
    have p4 := HP4.out.cell
    have c0 := (HR4.out.types.cellAt q (by omega)).trans (ints_get (by rw [hm]; omega))
    have c1 := (HR4.out.types.cellAt (q + 1) (by omega)).trans (ints_get (by rw [hm]; omega))
    obtain ⟨t0, ht0⟩ : ∃ t, t = rd.types.getD q 0 := ⟨_, rfl⟩
    obtain ⟨t1, ht1⟩ : ∃ t, t = rd.types.getD (q + 1) 0 := ⟨_, rfl⟩
    rw [← ht0] at c0
    rw [← ht1] at c1
    have HT0 : Hid (tyAt rd.types (q : Int) = t0) := ht0.symm
    have HT1 : Hid (tyAt rd.types ((q : Int) + 1) = t1) := by show _ = _; rw [ht1]; rfl
    have HDW : Hid (∀ n, Below w4.heap.size w4 (w4.drewN n)) := fun n => below_drewN (Below.refl _ _) n
    have HBW : Hid (B ≤ w4.heap.size) := Nat.le_trans HR4.out.low (Nat.le_of_lt HR4.out.blk.lt)
    have k1 : (q : Int) < m := by omega
    have k2 : (q : Int) + 1 < m := by omega
    clear ht0 ht1
    by_cases h0 : t0 = 1
    · by_cases h1 : t1 = 0
      · have HN : Hid (rdI 23 (q : Int) rd = some ⟨rd.types, rd.stay, rd.taken ++ [(q : Int)]⟩) := by
          show _ = _
          simp only [rdI]
          rw [if_pos ⟨HT0.out.trans h0, HT1.out.trans h1⟩]
        subst h0 h1
        go_wp2_with fail
        go_quiet (fail)
        go_wp2_with fail
        go_ret
        unfold RdPost
        rw [HN.out]
        exact ⟨⟨rfl, _, _, HR4.out.later (HDW.out _)⟩, HB4.out.trans ((HDW.out _).mono HBW.out)⟩
      · have HN : Hid (rdI 23 (q : Int) rd = none) := by
          show _ = _
          simp only [rdI]
          rw [if_neg (fun e => h1 (HT1.out.symm.trans e.2))]
        have e1 : (t1 == 0) = false := by simpa using h1
        subst h0
        clear h1
        go_wp2_with fail
        go_quiet (fail)
        go_wp2_with fail
        go_ret
        unfold RdPost
        rw [HN.out]
        exact ⟨rfl, HB4.out.trans ((HDW.out _).mono HBW.out)⟩
    · have HN : Hid (rdI 23 (q : Int) rd = none) := by
        show _ = _
        simp only [rdI]
        rw [if_neg (fun e => h0 (HT0.out.symm.trans e.1))]
      have e0 : (t0 == 1) = false := by simpa using h0
      clear h0
      go_wp2_with fail
      go_quiet (fail)
      go_wp2_with fail
      go_ret
      unfold RdPost
      rw [HN.out]
      exact ⟨rfl, HB4.out.trans ((HDW.out _).mono HBW.out)⟩
set_option maxRecDepth 100000 in
theorem one_any (np : Nat) (p : Pd) (B rb m r : Nat) (x : Int) (rd : Rd) (to : Option Addr) (tc : Nat) (vr vk : Value) (w : World) (h : RgAt B rb m w rd (.slice to m tc) vr vk) (hB : B ≤ w.heap.size) (hm : rd.types.length = m) (hm2 : m ≤ 250) (hs : rd.stay.length ≤ 90) (hk : rd.taken.length ≤ 90) (hmr : (m : Int) = p.regs) (hr : r ≤ 23) (hf : fitsR np p (convR r) x = true) :
    Calls Tryz.prog 189 #[.pointer (some ⟨rb, 0, none⟩), fieldVal np p r x] w (RdPost B rb m (.slice to m tc) w (rdI r x rd)) := by
  have hno : ∀ (T : TypeId) (v : Value), (∀ w, Calls Tryz.prog 189 #[.pointer (some ⟨rb, 0, none⟩), .iface T v] w fun e w' => e = .returned (.bool true) ∧ w' = w) → Calls Tryz.prog 189 #[.pointer (some ⟨rb, 0, none⟩), .iface T v] w (RdPost B rb m (.slice to m tc) w (some rd)) := by
    intro T v hc
    refine (hc w).mono ?_
    rintro e w' ⟨rfl, rfl⟩
    exact ⟨⟨rfl, _, _, h⟩, Below.refl _ _⟩
  have hop : ∀ t : Int, inR x (-p.regs) (p.regs - 1) = true → -(m : Int) ≤ x ∧ x < m := by
    intro _ hi
    simp [inR] at hi
    omega
  have hpl : ∀ (cnt : Nat) (want : Int), inR x 0 (p.regs - cnt) = true → cnt ≤ 3 → ((r = 14 ∧ cnt = 1 ∧ want = 1) ∨ (r = 15 ∧ cnt = 1 ∧ want = 2) ∨ (r = 16 ∧ cnt = 1 ∧ want = 3) ∨ (r = 17 ∧ cnt = 2 ∧ want = 1) ∨ (r = 18 ∧ cnt = 3 ∧ want = 1)) → Calls Tryz.prog 189 #[.pointer (some ⟨rb, 0, none⟩), .iface 298 (.agg #[.int .i64 x, .int .i64 cnt, .int .i64 want])] w (RdPost B rb m (.slice to m tc) w (rdI r x rd)) := by
    intro cnt want hi hc he
    simp [inR] at hi
    obtain ⟨q, rfl⟩ := Int.eq_ofNat_of_zero_le hi.1
    rw [← place_eq he]
    exact one_places B rb m q cnt want rd to tc vr vk w h hB hm hm2 hs hk (by omega) hc
  rcases forms_all r hr with rfl | rfl | rfl | rfl | rfl | rfl | rfl | rfl | rfl | rfl | rfl | rfl | rfl | rfl | rfl | rfl | rfl | rfl | rfl | rfl | rfl | rfl | rfl | rfl
  · exact hno _ _ (fun w => one_number rb _ w)
  · exact hno _ _ (fun w => one_number rb _ w)
  · exact hno _ _ (fun w => one_number rb _ w)
  · exact hno _ _ (fun w => one_number rb _ w)
  · exact hno _ _ (fun w => one_number rb _ w)
  · exact hno _ _ (fun w => one_number rb _ w)
  · exact hno _ _ (fun w => one_number rb _ w)
  · exact hno _ _ (fun w => one_number rb _ w)
  · exact hno _ _ (fun w => one_number rb _ w)
  · exact hno _ _ (fun w => one_number rb _ w)
  · exact hno _ _ (fun w => one_number rb _ w)
  · exact hno _ _ (fun w => one_target rb _ w)
  · exact one_operand B rb m x 1 rd to tc vr vk w h hB hm hm2 hs hk (hop 0 hf).1 (hop 0 hf).2
  · exact one_operand B rb m x 3 rd to tc vr vk w h hB hm hm2 hs hk (hop 0 hf).1 (hop 0 hf).2
  · exact hpl 1 1 hf (by omega) (by simp)
  · exact hpl 1 2 hf (by omega) (by simp)
  · exact hpl 1 3 hf (by omega) (by simp)
  · exact hpl 2 1 hf (by omega) (by simp)
  · exact hpl 3 1 hf (by omega) (by simp)
  · exact hno _ _ (fun w => one_result rb _ w)
  · exact hno _ _ (fun w => one_result rb _ w)
  · exact hno _ _ (fun w => one_result rb _ w)
  · exact hno _ _ (fun w => one_result rb _ w)
  · have hi : inR x 0 (p.regs - 2) = true := hf
    simp [inR] at hi
    obtain ⟨q, rfl⟩ := Int.eq_ofNat_of_zero_le hi.1
    exact one_opening B rb m q rd to tc vr vk w h hB hm hm2 hs hk (by omega)
end Go.Proofs.YtmfippfnhcphhaaGreatDoor
