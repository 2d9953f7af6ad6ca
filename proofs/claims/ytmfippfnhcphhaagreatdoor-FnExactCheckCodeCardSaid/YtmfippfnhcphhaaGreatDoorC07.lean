import Derived.Test.YtmfippfnhcphhaaGreatDoorC06
namespace Go.Proofs.YtmfippfnhcphhaaGreatDoor
open Go.RowKit Go.Deep
attribute [local go_sem] run_store_float

/-- The first that does not fit. -/
def firstBad {α : Type} (f : Nat → α → Bool) : Nat → List α → Option Nat
  | _, [] => none
  | k, x :: r => if f k x then firstBad f (k + 1) r else some k
theorem firstBad_drop {α : Type} {f : Nat → α → Bool} {l : List α} {k : Nat} {x : α} (h : l[k]? = some x) : firstBad f k (l.drop k) = if f k x then firstBad f (k + 1) (l.drop (k + 1)) else some k := by
  rw [drop_some h]; rfl

def namedB (p : Pd) (i : Nat) (m : Md) : Bool := decide ((i : Int) < 500) && inR m.name.size 1 40 && inR m.reg 0 (p.regs - 1) && decide (0 ≤ m.fr) && decide (m.fr ≤ m.to) && decide (m.to ≤ p.ins.length)

set_option maxRecDepth 100000 in
set_option maxHeartbeats 2000000 in
theorem l3namedOk_any (p : Pd) (h : Ph) (i : Nat) (m : Md) (w : World) (hi : p.named[i]? = some m) (hz : PFew p) (hr : 0 ≤ p.regs ∧ p.regs ≤ 250) (hp : PIn 0 w h p) :
    Calls Tryz.prog 119 #[.agg (p.cells h), .int .i64 i] w fun e w' => e = .returned (.bool (namedB p i m)) ∧ Below w.heap.size w w' := by
  have hlt : i < p.named.length := (List.getElem?_eq_some_iff.1 hi).1
  have hb1 : ∀ o, Below w.heap.size w (w.alloc o) := fun o => (Below.refl _ _).alloc (Nat.le_refl _) o
  obtain ⟨b, off, e0, _, hbl, p0, p1, p2, p3⟩ := hp.named.later (Keeps.of_below (hb1 (.cells (p.cells h) 43))) i m hi
  have E0 : Hid (namedB p i m = (decide ((i : Int) < 500) && inR m.name.size 1 40 && inR m.reg 0 (p.regs - 1) && decide (0 ≤ m.fr) && decide (m.fr ≤ m.to) && decide (m.to ≤ p.ins.length))) := rfl
  generalize namedB p i m = nb at *
  obtain ⟨z1, z2, z3, z4⟩ := hz
  clear hi hp
  obtain ⟨nm, ln, pa, re, rg, us, cs, is, ms⟩ := p
  obtain ⟨uo, uc, co, cc, io, ic, no, nc⟩ := h
  obtain ⟨m0, m1, m2, m3⟩ := m
  dsimp only [Pd.cells] at *
  subst e0
  obtain ⟨hr1, hr2⟩ := hr
  go_enter Tryz.func119, Tryz.ntmps119
  go_wp2_with (go_at_call 121; refine (l3in_any _ _ _ _).mono ?_; rintro e w' ⟨rfl, rfl⟩)
  all_goals
    go_ret
    refine ⟨ret_bool ?_, (hb1 _).alloc (by simp) _⟩
    rw [E0.out]
    clear p0 p1 p2 p3 hb1 E0
    first | (simp_all; done) | (simp_all; omega)
end Go.Proofs.YtmfippfnhcphhaaGreatDoor

namespace Go.Proofs.YtmfippfnhcphhaaGreatDoor
open Go.RowKit Go.Deep
attribute [local go_sem] run_store_float

def badT : Option Nat → Value
  | none => .tuple #[.int .i64 0, .bool true]
  | some i => .tuple #[.int .i64 i, .bool false]
theorem badT_none {o : Option Nat} (h : o = none) : Ending.returned (.tuple #[.int .i64 0, .bool true]) = .returned (badT o) := by rw [h]; rfl
theorem badT_some {o : Option Nat} {i : Nat} (h : o = some i) : Ending.returned (.tuple #[.int .i64 i, .bool false]) = .returned (badT o) := by rw [h]; rfl

set_option maxRecDepth 100000 in
set_option maxHeartbeats 2000000 in
theorem checkNamed_any (ao : Option Addr) (cap : Nat) (ps : List Pd) (i : Nat) (p : Pd) (w : World) (hi : ps[i]? = some p) (hz : PFew p) (hr : 0 ≤ p.regs ∧ p.regs ≤ 250) (hv : ProtosAt 0 w ao ps) :
    Calls Tryz.prog 77 #[.agg #[.slice ao ps.length cap], .int .i64 i] w fun e w' => e = .returned (badT (firstBad (namedB p) 0 p.named)) ∧ Below w.heap.size w w' := by
  have hlt : i < ps.length := (List.getElem?_eq_some_iff.1 hi).1
  have hb2 : ∀ o1 o2, Below w.heap.size w ((w.alloc o1).alloc o2) := fun o1 o2 => ((Below.refl _ _).alloc (Nat.le_refl _) o1).alloc (by simp) o2
  obtain ⟨b, off, rfl, _, hbl, h, n1, i1⟩ := hv i p hi
  have hn := i1.named
  clear hv hi i1
  obtain ⟨z1, z2, z3, z4⟩ := hz
  have E0 : Hid (∀ i m, namedB p i m = (decide ((i : Int) < 500) && inR m.name.size 1 40 && inR m.reg 0 (p.regs - 1) && decide (0 ≤ m.fr) && decide (m.fr ≤ m.to) && decide (m.to ≤ p.ins.length))) := fun _ _ => rfl
  have HF : Hid (∀ k m, p.named[k]? = some m → firstBad (namedB p) k (p.named.drop k) = if namedB p k m then firstBad (namedB p) (k + 1) (p.named.drop (k + 1)) else some k) := fun k m hm => firstBad_drop hm
  generalize namedB p = nb at *
  obtain ⟨nm, ln, pa, re, rg, us, cs, is, ms⟩ := p
  obtain ⟨uo, uc, co, cc, io, ic, no, nc⟩ := h
  obtain ⟨p0, p1, p2, p3, p4, p5, p6, p7, p8⟩ := n1
  dsimp only at *
  obtain ⟨hr1, hr2⟩ := hr
  have X0 := Blk.new (w.alloc (.cells #[.slice (some ⟨b, off, none⟩) ps.length cap] 25)) #[.string nm, .int .i64 ln, .int .i64 pa, .bool re, .int .i64 rg, .slice uo us.length uc, .slice co cs.length cc, .slice io is.length ic, .slice no ms.length nc] 43
  rw [nblk_alloc] at X0
  go_enter Tryz.func77, Tryz.ntmps77
  go_wp2_with fail
  go_loopw [18] (fun x wr => ∃ k : Nat, k ≤ ms.length ∧ k ≤ 500 ∧ x = .int .i64 k ∧ Hid (firstBad nb k (ms.drop k) = firstBad nb 0 ms) ∧ Below w.heap.size w wr ∧ Blk wr (w.heap.size + 1) #[.string nm, .int .i64 ln, .int .i64 pa, .bool re, .int .i64 rg, .slice uo us.length uc, .slice co cs.length cc, .slice io is.length ic, .slice no ms.length nc] 43) (fun x _ => ms.length - (intOf x).toNat)
  case atStart => exact ⟨0, Nat.zero_le _, by omega, rfl, rfl, hb2 _ _, X0⟩
  case round =>
    obtain ⟨k, hk, hk5, rfl, HQ, hb, X1⟩ := hrel
    clear X0 p0 p1 p2 p3 p4 p5 p6 p7 p8
    by_cases hkl : k < ms.length
    · obtain ⟨m, hmk⟩ := some_of_lt hkl
      obtain ⟨b', off', rfl, _, hbl', q0, q1, q2, q3⟩ := hn.later (Keeps.of_below hb) k m hmk
      have HD : Hid (firstBad nb 0 ms = if nb k m then firstBad nb (k + 1) (ms.drop (k + 1)) else some k) := HQ.out.symm.trans (HF.out k m hmk)
      have HN : Hid (nb k m = _) := E0.out k m
      have x1 := fun o => (X1.alloc o).cell
      have hba : ∀ o, Below w.heap.size w (wr.alloc o) := fun o => hb.alloc hb.size o
      have hXa : ∀ o, Blk (wr.alloc o) (w.heap.size + 1) _ _ := fun o => X1.alloc o
      obtain ⟨m0, m1, m2, m3⟩ := m
      dsimp only at *
      clear hn HF E0 HQ hb2 hmk
      go_wp2_with (go_at_call 131; refine (within_any _ _ _ _).mono ?_; rintro e w' ⟨rfl, rfl⟩)
      all_goals first
        | (go_ret2
           exact ⟨badT_some (by rw [HD.out, HN.out]; clear x1 hba hXa HD HN q0 q1 q2 q3; first | (simp_all; done) | (simp_all; omega)), hba _⟩)
        | (have h5 : ¬ (k : Int) = 500 := by simpa using (by assumption : ((k : Int) == 500) = false)
           go_roundw
           case rel => exact ⟨k + 1, by omega, by omega, by go_num, by
             show _ = _
             rw [HD.out, HN.out, if_pos]
             clear x1 hba hXa HD HN q0 q1 q2 q3
             first | (simp_all; done) | (simp_all; omega), hba _, hXa _⟩
           case measure => simp [intOf]; omega)
    · go_wp2_with fail
      go_ret2
      have h := HQ.out
      rw [List.drop_of_length_le (by omega)] at h
      exact ⟨badT_none h.symm, hb⟩
end Go.Proofs.YtmfippfnhcphhaaGreatDoor

namespace Go.Proofs.YtmfippfnhcphhaaGreatDoor
open Go.RowKit Go.Deep
attribute [local go_sem] run_store_float

def constG (_ : Nat) (v : Vd) : Bool := constB v

set_option maxRecDepth 100000 in
set_option maxHeartbeats 2000000 in
theorem checkConsts_any (ao : Option Addr) (cap : Nat) (ps : List Pd) (i : Nat) (p : Pd) (w : World) (hi : ps[i]? = some p) (hz : PFew p) (hf : Flts p.consts) (hv : ProtosAt 0 w ao ps) :
    Calls Tryz.prog 76 #[.agg #[.slice ao ps.length cap], .int .i64 i] w fun e w' => e = .returned (badT (firstBad constG 0 p.consts)) ∧ Below w.heap.size w w' := by
  have hlt : i < ps.length := (List.getElem?_eq_some_iff.1 hi).1
  have hb1 : ∀ o, Below w.heap.size w (w.alloc o) := fun o => (Below.refl _ _).alloc (Nat.le_refl _) o
  obtain ⟨b, off, rfl, _, hbl, h, n1, i1⟩ := hv i p hi
  have hn := i1.consts
  clear hv hi i1
  obtain ⟨z1, z2, z3, z4⟩ := hz
  obtain ⟨nm, ln, pa, re, rg, us, cs, is, ms⟩ := p
  obtain ⟨uo, uc, co, cc, io, ic, no, nc⟩ := h
  obtain ⟨p0, p1, p2, p3, p4, p5, p6, p7, p8⟩ := n1
  dsimp only at *
  have HF : Hid (∀ k m, cs[k]? = some m → firstBad constG k (cs.drop k) = if constG k m then firstBad constG (k + 1) (cs.drop (k + 1)) else some k) := fun k m hm => firstBad_drop hm
  go_enter Tryz.func76, Tryz.ntmps76
  go_wp2_with fail
  go_loopw [15] (fun x wr => ∃ k : Nat, k ≤ cs.length ∧ x = .int .i64 k ∧ Hid (firstBad constG k (cs.drop k) = firstBad constG 0 cs) ∧ Below w.heap.size w wr) (fun x _ => cs.length - (intOf x).toNat)
  case atStart => exact ⟨0, Nat.zero_le _, rfl, rfl, hb1 _⟩
  case round =>
    obtain ⟨k, hk, rfl, HQ, hb⟩ := hrel
    clear p0 p1 p2 p3 p4 p5 p6 p7 p8
    by_cases hkl : k < cs.length
    · obtain ⟨m, hmk⟩ := some_of_lt hkl
      obtain ⟨b', off', rfl, _, hbl', q0, q1, q2, q3, q4⟩ := hn.later (Keeps.of_below hb) k m hmk
      have hfm := hf m (List.mem_of_getElem? hmk)
      have HD : Hid (firstBad constG 0 cs = if constB m then firstBad constG (k + 1) (cs.drop (k + 1)) else some k) := HQ.out.symm.trans (HF.out k m hmk)
      have hba : ∀ o, Below w.heap.size w (wr.alloc o) := fun o => hb.alloc hb.size o
      clear hn HF HQ hb1 hmk hf
      have HM : Hid (m.flt < 18446744073709551616) := hfm
      clear hfm
      go_wp2_with fail
      refine (constFits_any m HM.out _).mono ?_
      rintro e w1 ⟨rfl, hw1⟩
      have hb2 := (hba _).trans (hw1.mono (hba _).size)
      generalize constB m = cb at *
      cases cb
      · go_wp2_with fail
        go_ret2
        exact ⟨badT_some (by rw [HD.out]; rfl), hb2⟩
      · go_wp2_with fail
        go_roundw
        case rel => exact ⟨k + 1, by omega, by go_num, by show _ = _; rw [HD.out]; rfl, hb2⟩
        case measure => simp [intOf]; omega
    · go_wp2_with fail
      go_ret2
      have h := HQ.out
      rw [List.drop_of_length_le (by omega)] at h
      exact ⟨badT_none h.symm, hb⟩
end Go.Proofs.YtmfippfnhcphhaaGreatDoor

namespace Go.Proofs.YtmfippfnhcphhaaGreatDoor
open Go.RowKit Go.Deep

def fitsR (np : Nat) (p : Pd) (role : Nat) (x : Int) : Bool :=
  match role with
  | 0 => x == 0
  | 1 => inR x 0 (p.regs - 1)
  | 2 => inR x (-p.regs) (p.regs - 1)
  | 3 => inR x (-p.regs) (p.regs - 1)
  | 4 => inR x 0 (p.regs - 1)
  | 5 => inR x 0 (p.regs - 1)
  | 6 => inR x 0 (p.regs - 1)
  | 7 => inR x 0 (p.consts.length - 1)
  | 8 => inR x 0 (p.ups.length - 1)
  | 9 => inR x 0 (np - 1)
  | 10 => inR x 0 (p.ins.length - 1)
  | 11 => inR x 1 100000
  | 12 => inR x 0 100000
  | 13 => inR x 0 p.regs
  | 14 => inR x 0 (p.regs - 2)
  | 15 => inR x 19 22
  | 16 => inR x 1 18
  | 17 => inR x 0 250
  | 18 => inR x 0 (p.regs - 3)
  | 21 => inR x 0 (p.regs - 1)
  | _ => inR x 0 (p.regs - 2)

theorem roles_all (n : Nat) (h : n ≤ 21) : n = 0 ∨ n = 1 ∨ n = 2 ∨ n = 3 ∨ n = 4 ∨ n = 5 ∨ n = 6 ∨ n = 7 ∨ n = 8 ∨ n = 9 ∨ n = 10 ∨ n = 11 ∨ n = 12 ∨ n = 13 ∨ n = 14 ∨ n = 15 ∨ n = 16 ∨ n = 17 ∨ n = 18 ∨ n = 19 ∨ n = 20 ∨ n = 21 := by omega

set_option maxRecDepth 100000 in
set_option maxHeartbeats 4000000 in
theorem l3fits_any (ao : Option Addr) (cap : Nat) (ps : List Pd) (i : Nat) (p : Pd) (role : Nat) (x : Int) (w : World) (hi : ps[i]? = some p) (hz : PFew p) (hm : ps.length ≤ 1048576) (hr : 0 ≤ p.regs ∧ p.regs ≤ 250) (hv : ProtosAt 0 w ao ps) (hro : role ≤ 21) :
    Calls Tryz.prog 180 #[.agg #[.slice ao ps.length cap], .int .i64 i, .int .i64 role, .int .i64 x] w fun e w' => e = .returned (.bool (fitsR ps.length p role x)) ∧ Below w.heap.size w w' := by
  have hlt : i < ps.length := (List.getElem?_eq_some_iff.1 hi).1
  have hb2 : ∀ o1 o2, Below w.heap.size w ((w.alloc o1).alloc o2) := fun o1 o2 => ((Below.refl _ _).alloc (Nat.le_refl _) o1).alloc (by simp) o2
  obtain ⟨b, off, rfl, _, hbl, h, n1, i1⟩ := hv i p hi
  clear hv hi i1
  obtain ⟨z1, z2, z3, z4⟩ := hz
  obtain ⟨nm, ln, pa, re, rg, us, cs, is, ms⟩ := p
  obtain ⟨uo, uc, co, cc, io, ic, no, nc⟩ := h
  obtain ⟨p0, p1, p2, p3, p4, p5, p6, p7, p8⟩ := n1
  dsimp only at *
  obtain ⟨hr1, hr2⟩ := hr
  rcases roles_all role hro with rfl | rfl | rfl | rfl | rfl | rfl | rfl | rfl | rfl | rfl | rfl | rfl | rfl | rfl | rfl | rfl | rfl | rfl | rfl | rfl | rfl | rfl
  all_goals
    clear hro
    go_enter Tryz.func180, Tryz.ntmps180
    go_wp2_with (go_at_call 121; refine (l3in_any _ _ _ _).mono ?_; rintro e w' ⟨rfl, rfl⟩)
    go_ret
    exact ⟨ret_bool rfl, hb2 _ _⟩
end Go.Proofs.YtmfippfnhcphhaaGreatDoor

namespace Go.Proofs.YtmfippfnhcphhaaGreatDoor
open Go.RowKit Go.Deep

/-- A field that names no register: its bounds. -/
def numLo (r : Nat) : Int := match r with | 1 => 1 | 6 => 19 | 7 => 1 | _ => 0
def numHi (np : Nat) (p : Pd) (r : Nat) : Int :=
  match r with
  | 1 => 100000
  | 2 => 100000
  | 3 => p.consts.length - 1
  | 4 => p.ups.length - 1
  | 5 => np - 1
  | 6 => 22
  | 7 => 18
  | 8 => 250
  | 9 => p.regs
  | 10 => p.regs - 2
  | _ => 0

theorem forms_all (n : Nat) (h : n ≤ 23) : n = 0 ∨ n = 1 ∨ n = 2 ∨ n = 3 ∨ n = 4 ∨ n = 5 ∨ n = 6 ∨ n = 7 ∨ n = 8 ∨ n = 9 ∨ n = 10 ∨ n = 11 ∨ n = 12 ∨ n = 13 ∨ n = 14 ∨ n = 15 ∨ n = 16 ∨ n = 17 ∨ n = 18 ∨ n = 19 ∨ n = 20 ∨ n = 21 ∨ n = 22 ∨ n = 23 := by omega

def fieldVal (np : Nat) (p : Pd) (r : Nat) (x : Int) : Value :=
  match r with
  | 11 => .iface 280 (.agg #[.int .i64 x, .int .i64 p.ins.length])
  | 12 => .iface 247 (.agg #[.int .i64 x, .int .i64 1])
  | 13 => .iface 247 (.agg #[.int .i64 x, .int .i64 3])
  | 14 => .iface 298 (.agg #[.int .i64 x, .int .i64 1, .int .i64 1])
  | 15 => .iface 298 (.agg #[.int .i64 x, .int .i64 1, .int .i64 2])
  | 16 => .iface 298 (.agg #[.int .i64 x, .int .i64 1, .int .i64 3])
  | 17 => .iface 298 (.agg #[.int .i64 x, .int .i64 2, .int .i64 1])
  | 18 => .iface 298 (.agg #[.int .i64 x, .int .i64 3, .int .i64 1])
  | 19 => .iface 275 (.agg #[.int .i64 x, .int .i64 0])
  | 20 => .iface 275 (.agg #[.int .i64 x, .int .i64 1])
  | 21 => .iface 275 (.agg #[.int .i64 x, .int .i64 2])
  | 22 => .iface 275 (.agg #[.int .i64 x, .int .i64 3])
  | 23 => .iface 277 (.agg #[.int .i64 x])
  | r => .iface 300 (.agg #[.int .i64 x, .int .i64 (numLo r), .int .i64 (numHi np p r)])

set_option maxRecDepth 100000 in
set_option maxHeartbeats 4000000 in
theorem numberOf_any (ao : Option Addr) (cap np : Nat) (p : Pd) (h : Ph) (r : Nat) (x : Int) (w : World) (hz : PFew p) (hm : np ≤ 1048576) (hr : 0 ≤ p.regs ∧ p.regs ≤ 250) (hro : r ≤ 10) :
    Calls Tryz.prog 224 #[.agg #[.slice ao np cap], .agg (p.cells h), .int .i64 r, .int .i64 x] w fun e w' => e = .returned (.agg #[.int .i64 x, .int .i64 (numLo r), .int .i64 (numHi np p r)]) ∧ Below w.heap.size w w' := by
  obtain ⟨z1, z2, z3, z4⟩ := hz
  obtain ⟨nm, ln, pa, re, rg, us, cs, is, ms⟩ := p
  obtain ⟨uo, uc, co, cc, io, ic, no, nc⟩ := h
  dsimp only [Pd.cells] at *
  obtain ⟨hr1, hr2⟩ := hr
  rcases (by omega : r = 0 ∨ r = 1 ∨ r = 2 ∨ r = 3 ∨ r = 4 ∨ r = 5 ∨ r = 6 ∨ r = 7 ∨ r = 8 ∨ r = 9 ∨ r = 10) with rfl | rfl | rfl | rfl | rfl | rfl | rfl | rfl | rfl | rfl | rfl
  all_goals
    clear hro
    go_enter Tryz.func224, Tryz.ntmps224
    go_wp2_with fail
    refine bodyPost_ret ?_ rfl ⟨rfl, (((Below.refl _ _).alloc (Nat.le_refl _) _).alloc (by simp) _).alloc (by simp; omega) _⟩
    simp [results, Tryz.results224, go_sem, numLo, numHi]

set_option maxRecDepth 100000 in
set_option maxHeartbeats 4000000 in
theorem fieldOf_any (ao : Option Addr) (cap np : Nat) (p : Pd) (h : Ph) (r : Nat) (x : Int) (w : World) (hz : PFew p) (hm : np ≤ 1048576) (hr : 0 ≤ p.regs ∧ p.regs ≤ 250) (hro : r ≤ 23) :
    Calls Tryz.prog 188 #[.agg #[.slice ao np cap], .agg (p.cells h), .int .i64 r, .int .i64 x] w fun e w' => e = .returned (fieldVal np p r x) ∧ Below w.heap.size w w' := by
  have hnum := fun r w h10 => numberOf_any ao cap np p h r x w hz hm hr h10
  have hb2 : ∀ o1 o2, Below w.heap.size w ((w.alloc o1).alloc o2) := fun o1 o2 => ((Below.refl _ _).alloc (Nat.le_refl _) o1).alloc (by simp) o2
  obtain ⟨z1, z2, z3, z4⟩ := hz
  obtain ⟨nm, ln, pa, re, rg, us, cs, is, ms⟩ := p
  obtain ⟨uo, uc, co, cc, io, ic, no, nc⟩ := h
  dsimp only [Pd.cells] at *
  obtain ⟨hr1, hr2⟩ := hr
  have HN : Hid _ := hnum
  clear hnum
  rcases forms_all r hro with rfl | rfl | rfl | rfl | rfl | rfl | rfl | rfl | rfl | rfl | rfl | rfl | rfl | rfl | rfl | rfl | rfl | rfl | rfl | rfl | rfl | rfl | rfl | rfl
  · clear hro
    go_enter Tryz.func188, Tryz.ntmps188
    go_wp2_with fail
    refine (HN.out 0 _ (by omega)).mono ?_
    rintro e w1 ⟨rfl, hw1⟩
    go_wp2_with fail
    go_ret
    exact ⟨rfl, (hb2 _ _).trans (hw1.mono (by simp; omega))⟩
  · clear hro
    go_enter Tryz.func188, Tryz.ntmps188
    go_wp2_with fail
    refine (HN.out 1 _ (by omega)).mono ?_
    rintro e w1 ⟨rfl, hw1⟩
    go_wp2_with fail
    go_ret
    exact ⟨rfl, (hb2 _ _).trans (hw1.mono (by simp; omega))⟩
  · clear hro
    go_enter Tryz.func188, Tryz.ntmps188
    go_wp2_with fail
    refine (HN.out 2 _ (by omega)).mono ?_
    rintro e w1 ⟨rfl, hw1⟩
    go_wp2_with fail
    go_ret
    exact ⟨rfl, (hb2 _ _).trans (hw1.mono (by simp; omega))⟩
  · clear hro
    go_enter Tryz.func188, Tryz.ntmps188
    go_wp2_with fail
    refine (HN.out 3 _ (by omega)).mono ?_
    rintro e w1 ⟨rfl, hw1⟩
    go_wp2_with fail
    go_ret
    exact ⟨rfl, (hb2 _ _).trans (hw1.mono (by simp; omega))⟩
  · clear hro
    go_enter Tryz.func188, Tryz.ntmps188
    go_wp2_with fail
    refine (HN.out 4 _ (by omega)).mono ?_
    rintro e w1 ⟨rfl, hw1⟩
    go_wp2_with fail
    go_ret
    exact ⟨rfl, (hb2 _ _).trans (hw1.mono (by simp; omega))⟩
  · clear hro
    go_enter Tryz.func188, Tryz.ntmps188
    go_wp2_with fail
    refine (HN.out 5 _ (by omega)).mono ?_
    rintro e w1 ⟨rfl, hw1⟩
    go_wp2_with fail
    go_ret
    exact ⟨rfl, (hb2 _ _).trans (hw1.mono (by simp; omega))⟩
  · clear hro
    go_enter Tryz.func188, Tryz.ntmps188
    go_wp2_with fail
    refine (HN.out 6 _ (by omega)).mono ?_
    rintro e w1 ⟨rfl, hw1⟩
    go_wp2_with fail
    go_ret
    exact ⟨rfl, (hb2 _ _).trans (hw1.mono (by simp; omega))⟩
  · clear hro
    go_enter Tryz.func188, Tryz.ntmps188
    go_wp2_with fail
    refine (HN.out 7 _ (by omega)).mono ?_
    rintro e w1 ⟨rfl, hw1⟩
    go_wp2_with fail
    go_ret
    exact ⟨rfl, (hb2 _ _).trans (hw1.mono (by simp; omega))⟩
  · clear hro
    go_enter Tryz.func188, Tryz.ntmps188
    go_wp2_with fail
    refine (HN.out 8 _ (by omega)).mono ?_
    rintro e w1 ⟨rfl, hw1⟩
    go_wp2_with fail
    go_ret
    exact ⟨rfl, (hb2 _ _).trans (hw1.mono (by simp; omega))⟩
  · clear hro
    go_enter Tryz.func188, Tryz.ntmps188
    go_wp2_with fail
    refine (HN.out 9 _ (by omega)).mono ?_
    rintro e w1 ⟨rfl, hw1⟩
    go_wp2_with fail
    go_ret
    exact ⟨rfl, (hb2 _ _).trans (hw1.mono (by simp; omega))⟩
  · clear hro
    go_enter Tryz.func188, Tryz.ntmps188
    go_wp2_with fail
    refine (HN.out 10 _ (by omega)).mono ?_
    rintro e w1 ⟨rfl, hw1⟩
    go_wp2_with fail
    go_ret
    exact ⟨rfl, (hb2 _ _).trans (hw1.mono (by simp; omega))⟩
  all_goals
    clear hro HN
    go_enter Tryz.func188, Tryz.ntmps188
    go_wp2_with fail
    go_ret
    exact ⟨rfl, hb2 _ _⟩
end Go.Proofs.YtmfippfnhcphhaaGreatDoor
