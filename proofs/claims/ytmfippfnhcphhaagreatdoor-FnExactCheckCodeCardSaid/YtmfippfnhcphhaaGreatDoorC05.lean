import Derived.Test.YtmfippfnhcphhaaGreatDoorC04
namespace Go.Proofs.YtmfippfnhcphhaaGreatDoor
open Go.RowKit Go.Deep
attribute [local go_sem] run_store_float

set_option maxHeartbeats 400000 in
theorem eqUp_any (u : Ud) (w : World) : Calls Tryz.prog 193 #[u.val, u.val] w fun e w' => e = .returned (.bool true) ∧ Below w.heap.size w w' := by
  obtain ⟨l, x⟩ := u
  dsimp only [Ud.val]
  go_enter Tryz.func193, Tryz.ntmps193
  go_wp2_with fail
  go_ret
  refine ⟨rfl, ?_⟩
  repeat (first | exact Below.refl _ _ | refine Below.alloc ?_ (by simp; try omega) _)

set_option maxHeartbeats 400000 in
theorem eqUpS_any (ao bo : Option Addr) (c1 c2 : Nat) (us : List Ud) (w : World) (hm : us.length ≤ 1048576) (h1 : UpsAt 0 w ao us) (h2 : UpsAt 0 w bo us) :
    Calls Tryz.prog 152 #[.slice ao us.length c1, .slice bo us.length c2] w fun e w' => e = .returned (.bool true) ∧ Below w.heap.size w w' := by
  go_enter Tryz.func152, Tryz.ntmps152
  go_wp2_with fail
  go_loopw [5] (fun i wr => ∃ k : Nat, k ≤ us.length ∧ i = .int .i64 k ∧ Below w.heap.size w wr) (fun i _ => us.length - (intOf i).toNat)
  case atStart => exact ⟨0, Nat.zero_le _, rfl, Below.refl _ _⟩
  case round =>
    obtain ⟨k, hk, rfl, hb⟩ := hrel
    by_cases hlt : k < us.length
    · obtain ⟨u, huk⟩ := some_of_lt hlt
      obtain ⟨b1, o1, rfl, _, hl1, p0, p1⟩ := h1.later (Keeps.of_below hb) k u huk
      obtain ⟨b2, o2, rfl, _, hl2, q0, q1⟩ := h2.later (Keeps.of_below hb) k u huk
      clear h1 h2
      go_wp2_with fail
      go_region_held3 (fun w' => w'.cell? ⟨b1, o1 + k * 2, none⟩ = some (.bool u.loc) ∧ w'.cell? ⟨b1, o1 + k * 2 + 1, none⟩ = some (.int .i64 u.idx) ∧ w'.cell? ⟨b2, o2 + k * 2, none⟩ = some (.bool u.loc) ∧ w'.cell? ⟨b2, o2 + k * 2 + 1, none⟩ = some (.int .i64 u.idx)) (go_keep)
        (first | (go_at_call 193; refine (eqUp_any u _).mono ?_; rintro e w1 ⟨rfl, hw1⟩; have d0 := (hw1.cell (p := ⟨b1, o1 + k * 2, none⟩) hl1).trans p0; have d1 := (hw1.cell (p := ⟨b1, o1 + k * 2 + 1, none⟩) hl1).trans p1; have d2 := (hw1.cell (p := ⟨b2, o2 + k * 2, none⟩) hl2).trans q0; have d3 := (hw1.cell (p := ⟨b2, o2 + k * 2 + 1, none⟩) hl2).trans q1))
      have B1 := hb.drew.trans (hw1.mono hb.size)
      go_wp2_with fail
      go_roundw
      case rel => exact ⟨k + 1, by omega, by go_num, B1⟩
      case measure => simp [intOf]; omega
    · go_wp2_with fail
      go_ret
      exact ⟨rfl, hb⟩

theorem quo_some (x : Nat) (hx : x < 18446744073709551616) (h : (FloatKind.f64.format.order x 0 == some .eq) = true) : ∃ r, floatBits .quo .f64 4607182418800017408 x = some r := by
  rcases zero_bits x hx h with rfl | rfl
  · exact ⟨_, div_zero⟩
  · exact ⟨_, div_minus⟩

set_option maxHeartbeats 400000 in
theorem sameFloat_any (x : Nat) (hx64 : x < 18446744073709551616) (w : World) : Calls Tryz.prog 229 #[.float .f64 x, .float .f64 x] w fun e w' => e = .returned (.bool true) ∧ w' = w := by
  cases hx : (FloatKind.f64.format.order x x != some .eq)
  · have hx' : (FloatKind.f64.format.order x x == some .eq) = true := by simpa using hx
    cases h0 : (FloatKind.f64.format.order x 0 == some .eq)
    · clear hx64
      go_enter Tryz.func229, Tryz.ntmps229
      go_wp2_with fail
      go_ret
      exact ⟨rfl, rfl⟩
    · obtain ⟨r, hr⟩ := quo_some x hx64 h0
      clear hx64
      have hd := fun (w : World) (t : TypeId) => run_float_arith (P := Tryz.prog) w .quo t .f64 _ x r hr
      clear hr
      go_enter Tryz.func229, Tryz.ntmps229
      go_wp2_with fail
      go_ret
      exact ⟨by simp, rfl⟩
  · clear hx64
    go_enter Tryz.func229, Tryz.ntmps229
    go_wp2_with fail
    go_ret
    exact ⟨rfl, rfl⟩

set_option maxHeartbeats 400000 in
theorem eqValue_any (u : Vd) (hf : u.flt < 18446744073709551616) (w : World) : Calls Tryz.prog 194 #[u.val, u.val] w fun e w' => e = .returned (.bool true) ∧ Below w.heap.size w w' := by
  obtain ⟨x0, x1, x2, x3, x4⟩ := u
  dsimp only [Vd.val] at hf ⊢
  have HF : Hid (x2 < 18446744073709551616) := hf
  clear hf
  go_enter Tryz.func194, Tryz.ntmps194
  go_wp2_with fail
  refine (sameFloat_any x2 HF.out _).mono ?_
  rintro e w1 ⟨rfl, rfl⟩
  go_wp2_with fail
  go_ret
  refine ⟨rfl, ?_⟩
  repeat (first | exact Below.refl _ _ | refine Below.alloc ?_ (by simp; try omega) _)

set_option maxHeartbeats 400000 in
theorem eqValueS_any (ao bo : Option Addr) (c1 c2 : Nat) (us : List Vd) (w : World) (hm : us.length ≤ 1048576) (hf : ∀ u ∈ us, u.flt < 18446744073709551616) (h1 : ValsAt 0 w ao us) (h2 : ValsAt 0 w bo us) :
    Calls Tryz.prog 153 #[.slice ao us.length c1, .slice bo us.length c2] w fun e w' => e = .returned (.bool true) ∧ Below w.heap.size w w' := by
  go_enter Tryz.func153, Tryz.ntmps153
  go_wp2_with fail
  go_loopw [5] (fun i wr => ∃ k : Nat, k ≤ us.length ∧ i = .int .i64 k ∧ Below w.heap.size w wr) (fun i _ => us.length - (intOf i).toNat)
  case atStart => exact ⟨0, Nat.zero_le _, rfl, Below.refl _ _⟩
  case round =>
    obtain ⟨k, hk, rfl, hb⟩ := hrel
    by_cases hlt : k < us.length
    · obtain ⟨u, huk⟩ := some_of_lt hlt
      obtain ⟨b1, o1, rfl, _, hl1, p0, p1, p2, p3, p4⟩ := h1.later (Keeps.of_below hb) k u huk
      obtain ⟨b2, o2, rfl, _, hl2, q0, q1, q2, q3, q4⟩ := h2.later (Keeps.of_below hb) k u huk
      have hfu := hf u (List.mem_of_getElem? huk)
      clear h1 h2 hf
      go_wp2_with fail
      go_region_held3 (fun w' => w'.cell? ⟨b1, o1 + k * 5, none⟩ = some (.int .i64 u.kind) ∧ w'.cell? ⟨b1, o1 + k * 5 + 1, none⟩ = some (.int .i64 u.num) ∧ w'.cell? ⟨b1, o1 + k * 5 + 2, none⟩ = some (.float .f64 u.flt) ∧ w'.cell? ⟨b1, o1 + k * 5 + 3, none⟩ = some (.string u.str) ∧ w'.cell? ⟨b1, o1 + k * 5 + 4, none⟩ = some (.int .i64 u.ref) ∧ w'.cell? ⟨b2, o2 + k * 5, none⟩ = some (.int .i64 u.kind) ∧ w'.cell? ⟨b2, o2 + k * 5 + 1, none⟩ = some (.int .i64 u.num) ∧ w'.cell? ⟨b2, o2 + k * 5 + 2, none⟩ = some (.float .f64 u.flt) ∧ w'.cell? ⟨b2, o2 + k * 5 + 3, none⟩ = some (.string u.str) ∧ w'.cell? ⟨b2, o2 + k * 5 + 4, none⟩ = some (.int .i64 u.ref)) (go_keep)
        (first | (go_at_call 194; refine (eqValue_any u hfu _).mono ?_; rintro e w1 ⟨rfl, hw1⟩; have d00 := (hw1.cell (p := ⟨b1, o1 + k * 5, none⟩) hl1).trans p0; have d01 := (hw1.cell (p := ⟨b1, o1 + k * 5 + 1, none⟩) hl1).trans p1; have d02 := (hw1.cell (p := ⟨b1, o1 + k * 5 + 2, none⟩) hl1).trans p2; have d03 := (hw1.cell (p := ⟨b1, o1 + k * 5 + 3, none⟩) hl1).trans p3; have d04 := (hw1.cell (p := ⟨b1, o1 + k * 5 + 4, none⟩) hl1).trans p4; have d10 := (hw1.cell (p := ⟨b2, o2 + k * 5, none⟩) hl2).trans q0; have d11 := (hw1.cell (p := ⟨b2, o2 + k * 5 + 1, none⟩) hl2).trans q1; have d12 := (hw1.cell (p := ⟨b2, o2 + k * 5 + 2, none⟩) hl2).trans q2; have d13 := (hw1.cell (p := ⟨b2, o2 + k * 5 + 3, none⟩) hl2).trans q3; have d14 := (hw1.cell (p := ⟨b2, o2 + k * 5 + 4, none⟩) hl2).trans q4))
      have B1 := hb.drew.trans (hw1.mono hb.size)
      go_wp2_with fail
      go_roundw
      case rel => exact ⟨k + 1, by omega, by go_num, B1⟩
      case measure => simp [intOf]; omega
    · go_wp2_with fail
      go_ret
      exact ⟨rfl, hb⟩

set_option maxHeartbeats 400000 in
theorem eqIns_any (u : Nd) (w : World) : Calls Tryz.prog 195 #[u.val, u.val] w fun e w' => e = .returned (.bool true) ∧ Below w.heap.size w w' := by
  obtain ⟨x0, x1, x2, x3, x4⟩ := u
  dsimp only [Nd.val]
  go_enter Tryz.func195, Tryz.ntmps195
  go_wp2_with fail
  go_ret
  refine ⟨rfl, ?_⟩
  repeat (first | exact Below.refl _ _ | refine Below.alloc ?_ (by simp; try omega) _)
set_option maxHeartbeats 400000 in
theorem eqInsS_any (ao bo : Option Addr) (c1 c2 : Nat) (us : List Nd) (w : World) (hm : us.length ≤ 1048576) (h1 : InssAt 0 w ao us) (h2 : InssAt 0 w bo us) :
    Calls Tryz.prog 154 #[.slice ao us.length c1, .slice bo us.length c2] w fun e w' => e = .returned (.bool true) ∧ Below w.heap.size w w' := by
  go_enter Tryz.func154, Tryz.ntmps154
  go_wp2_with fail
  go_loopw [5] (fun i wr => ∃ k : Nat, k ≤ us.length ∧ i = .int .i64 k ∧ Below w.heap.size w wr) (fun i _ => us.length - (intOf i).toNat)
  case atStart => exact ⟨0, Nat.zero_le _, rfl, Below.refl _ _⟩
  case round =>
    obtain ⟨k, hk, rfl, hb⟩ := hrel
    by_cases hlt : k < us.length
    · obtain ⟨u, huk⟩ := some_of_lt hlt
      obtain ⟨b1, o1, rfl, _, hl1, p0, p1, p2, p3, p4⟩ := h1.later (Keeps.of_below hb) k u huk
      obtain ⟨b2, o2, rfl, _, hl2, q0, q1, q2, q3, q4⟩ := h2.later (Keeps.of_below hb) k u huk
      clear h1 h2
      go_wp2_with fail
      go_region_held3 (fun w' => w'.cell? ⟨b1, o1 + k * 5, none⟩ = some (.int .i64 u.op) ∧ w'.cell? ⟨b1, o1 + k * 5 + 1, none⟩ = some (.int .i64 u.a) ∧ w'.cell? ⟨b1, o1 + k * 5 + 2, none⟩ = some (.int .i64 u.b) ∧ w'.cell? ⟨b1, o1 + k * 5 + 3, none⟩ = some (.int .i64 u.c) ∧ w'.cell? ⟨b1, o1 + k * 5 + 4, none⟩ = some (.int .i64 u.d) ∧ w'.cell? ⟨b2, o2 + k * 5, none⟩ = some (.int .i64 u.op) ∧ w'.cell? ⟨b2, o2 + k * 5 + 1, none⟩ = some (.int .i64 u.a) ∧ w'.cell? ⟨b2, o2 + k * 5 + 2, none⟩ = some (.int .i64 u.b) ∧ w'.cell? ⟨b2, o2 + k * 5 + 3, none⟩ = some (.int .i64 u.c) ∧ w'.cell? ⟨b2, o2 + k * 5 + 4, none⟩ = some (.int .i64 u.d)) (go_keep)
        (first | (go_at_call 195; refine (eqIns_any u _).mono ?_; rintro e w1 ⟨rfl, hw1⟩; have d00 := (hw1.cell (p := ⟨b1, o1 + k * 5, none⟩) hl1).trans p0; have d01 := (hw1.cell (p := ⟨b1, o1 + k * 5 + 1, none⟩) hl1).trans p1; have d02 := (hw1.cell (p := ⟨b1, o1 + k * 5 + 2, none⟩) hl1).trans p2; have d03 := (hw1.cell (p := ⟨b1, o1 + k * 5 + 3, none⟩) hl1).trans p3; have d04 := (hw1.cell (p := ⟨b1, o1 + k * 5 + 4, none⟩) hl1).trans p4; have d10 := (hw1.cell (p := ⟨b2, o2 + k * 5, none⟩) hl2).trans q0; have d11 := (hw1.cell (p := ⟨b2, o2 + k * 5 + 1, none⟩) hl2).trans q1; have d12 := (hw1.cell (p := ⟨b2, o2 + k * 5 + 2, none⟩) hl2).trans q2; have d13 := (hw1.cell (p := ⟨b2, o2 + k * 5 + 3, none⟩) hl2).trans q3; have d14 := (hw1.cell (p := ⟨b2, o2 + k * 5 + 4, none⟩) hl2).trans q4))
      have B1 := hb.drew.trans (hw1.mono hb.size)
      go_wp2_with fail
      go_roundw
      case rel => exact ⟨k + 1, by omega, by go_num, B1⟩
      case measure => simp [intOf]; omega
    · go_wp2_with fail
      go_ret
      exact ⟨rfl, hb⟩

set_option maxHeartbeats 400000 in
theorem eqNamed_any (u : Md) (w : World) : Calls Tryz.prog 196 #[u.val, u.val] w fun e w' => e = .returned (.bool true) ∧ Below w.heap.size w w' := by
  obtain ⟨x0, x1, x2, x3⟩ := u
  dsimp only [Md.val]
  go_enter Tryz.func196, Tryz.ntmps196
  go_wp2_with fail
  go_ret
  refine ⟨rfl, ?_⟩
  repeat (first | exact Below.refl _ _ | refine Below.alloc ?_ (by simp; try omega) _)
set_option maxHeartbeats 400000 in
theorem eqNamedS_any (ao bo : Option Addr) (c1 c2 : Nat) (us : List Md) (w : World) (hm : us.length ≤ 1048576) (h1 : NamsAt 0 w ao us) (h2 : NamsAt 0 w bo us) :
    Calls Tryz.prog 155 #[.slice ao us.length c1, .slice bo us.length c2] w fun e w' => e = .returned (.bool true) ∧ Below w.heap.size w w' := by
  go_enter Tryz.func155, Tryz.ntmps155
  go_wp2_with fail
  go_loopw [5] (fun i wr => ∃ k : Nat, k ≤ us.length ∧ i = .int .i64 k ∧ Below w.heap.size w wr) (fun i _ => us.length - (intOf i).toNat)
  case atStart => exact ⟨0, Nat.zero_le _, rfl, Below.refl _ _⟩
  case round =>
    obtain ⟨k, hk, rfl, hb⟩ := hrel
    by_cases hlt : k < us.length
    · obtain ⟨u, huk⟩ := some_of_lt hlt
      obtain ⟨b1, o1, rfl, _, hl1, p0, p1, p2, p3⟩ := h1.later (Keeps.of_below hb) k u huk
      obtain ⟨b2, o2, rfl, _, hl2, q0, q1, q2, q3⟩ := h2.later (Keeps.of_below hb) k u huk
      clear h1 h2
      go_wp2_with fail
      go_region_held3 (fun w' => w'.cell? ⟨b1, o1 + k * 4, none⟩ = some (.string u.name) ∧ w'.cell? ⟨b1, o1 + k * 4 + 1, none⟩ = some (.int .i64 u.reg) ∧ w'.cell? ⟨b1, o1 + k * 4 + 2, none⟩ = some (.int .i64 u.fr) ∧ w'.cell? ⟨b1, o1 + k * 4 + 3, none⟩ = some (.int .i64 u.to) ∧ w'.cell? ⟨b2, o2 + k * 4, none⟩ = some (.string u.name) ∧ w'.cell? ⟨b2, o2 + k * 4 + 1, none⟩ = some (.int .i64 u.reg) ∧ w'.cell? ⟨b2, o2 + k * 4 + 2, none⟩ = some (.int .i64 u.fr) ∧ w'.cell? ⟨b2, o2 + k * 4 + 3, none⟩ = some (.int .i64 u.to)) (go_keep)
        (first | (go_at_call 196; refine (eqNamed_any u _).mono ?_; rintro e w1 ⟨rfl, hw1⟩; have d00 := (hw1.cell (p := ⟨b1, o1 + k * 4, none⟩) hl1).trans p0; have d01 := (hw1.cell (p := ⟨b1, o1 + k * 4 + 1, none⟩) hl1).trans p1; have d02 := (hw1.cell (p := ⟨b1, o1 + k * 4 + 2, none⟩) hl1).trans p2; have d03 := (hw1.cell (p := ⟨b1, o1 + k * 4 + 3, none⟩) hl1).trans p3; have d10 := (hw1.cell (p := ⟨b2, o2 + k * 4, none⟩) hl2).trans q0; have d11 := (hw1.cell (p := ⟨b2, o2 + k * 4 + 1, none⟩) hl2).trans q1; have d12 := (hw1.cell (p := ⟨b2, o2 + k * 4 + 2, none⟩) hl2).trans q2; have d13 := (hw1.cell (p := ⟨b2, o2 + k * 4 + 3, none⟩) hl2).trans q3))
      have B1 := hb.drew.trans (hw1.mono hb.size)
      go_wp2_with fail
      go_roundw
      case rel => exact ⟨k + 1, by omega, by go_num, B1⟩
      case measure => simp [intOf]; omega
    · go_wp2_with fail
      go_ret
      exact ⟨rfl, hb⟩
end Go.Proofs.YtmfippfnhcphhaaGreatDoor

namespace Go.Proofs.YtmfippfnhcphhaaGreatDoor
open Go.RowKit Go.Deep

def Flts (vs : List Vd) : Prop := ∀ u ∈ vs, u.flt < 18446744073709551616

set_option maxHeartbeats 2000000 in
theorem eqProto_any (p : Pd) (h g : Ph) (w : World) (hz : PFew p) (hf : Flts p.consts) (hp : PIn 0 w h p) (gp : PIn 0 w g p) :
    Calls Tryz.prog 86 #[.agg (p.cells h), .agg (p.cells g)] w fun e w' => e = .returned (.bool true) ∧ Below w.heap.size w w' := by
  obtain ⟨z1, z2, z3, z4⟩ := hz
  obtain ⟨i1, i2, i3, i4⟩ := hp
  obtain ⟨j1, j2, j3, j4⟩ := gp
  obtain ⟨nm, ln, pa, re, rg, us, cs, is, ms⟩ := p
  obtain ⟨uo, uc, co, cc, io, ic, no, nc⟩ := h
  obtain ⟨uo', uc', co', cc', io', ic', no', nc'⟩ := g
  dsimp only [Pd.cells] at *
  have hb2 : ∀ o1 o2, Below w.heap.size w ((w.alloc o1).alloc o2) := fun o1 o2 => ((Below.refl _ _).alloc (Nat.le_refl _) o1).alloc (by simp) o2
  go_enter Tryz.func86, Tryz.ntmps86
  go_wp2_with fail
  refine (eqUpS_any uo uo' uc uc' us _ z1 (i1.later (Keeps.of_below (hb2 _ _))) (j1.later (Keeps.of_below (hb2 _ _)))).mono ?_
  rintro e w1 ⟨rfl, hw1⟩
  have B1 := (hb2 _ _).trans (hw1.mono (by simp; omega))
  have X0 := (Blk.new w #[.string nm, .int .i64 ln, .int .i64 pa, .bool re, .int .i64 rg, .slice uo us.length uc, .slice co cs.length cc, .slice io is.length ic, .slice no ms.length nc] 43).alloc (.cells #[.string nm, .int .i64 ln, .int .i64 pa, .bool re, .int .i64 rg, .slice uo' us.length uc', .slice co' cs.length cc', .slice io' is.length ic', .slice no' ms.length nc'] 43)
  have Y0 := Blk.new (w.alloc (.cells #[.string nm, .int .i64 ln, .int .i64 pa, .bool re, .int .i64 rg, .slice uo us.length uc, .slice co cs.length cc, .slice io is.length ic, .slice no ms.length nc] 43)) #[.string nm, .int .i64 ln, .int .i64 pa, .bool re, .int .i64 rg, .slice uo' us.length uc', .slice co' cs.length cc', .slice io' is.length ic', .slice no' ms.length nc'] 43
  rw [nblk_alloc] at Y0
  have X1 := X0.later hw1
  have Y1 := Y0.later hw1
  clear X0 Y0 hw1
  have x1 := X1.cell
  have y1 := Y1.cell
  go_wp2_with fail
  refine (eqValueS_any co co' cc cc' cs _ z2 hf (i2.later (Keeps.of_below B1)) (j2.later (Keeps.of_below B1))).mono ?_
  rintro e w2 ⟨rfl, hw2⟩
  have B2 := B1.trans (hw2.mono B1.size)
  have X2 := X1.later hw2
  have Y2 := Y1.later hw2
  clear X1 Y1 hw2 x1 y1
  have x1 := X2.cell
  have y1 := Y2.cell
  go_wp2_with fail
  refine (eqInsS_any io io' ic ic' is _ z3 (i3.later (Keeps.of_below B2)) (j3.later (Keeps.of_below B2))).mono ?_
  rintro e w3 ⟨rfl, hw3⟩
  have B3 := B2.trans (hw3.mono B2.size)
  have X3 := X2.later hw3
  have Y3 := Y2.later hw3
  clear X2 Y2 hw3 x1 y1
  have x1 := X3.cell
  have y1 := Y3.cell
  go_wp2_with fail
  refine (eqNamedS_any no no' nc nc' ms _ z4 (i4.later (Keeps.of_below B3)) (j4.later (Keeps.of_below B3))).mono ?_
  rintro e w4 ⟨rfl, hw4⟩
  have B4 := B3.trans (hw4.mono B3.size)
  clear x1 y1
  go_wp2_with fail
  go_ret
  exact ⟨rfl, B4⟩

set_option maxHeartbeats 1000000 in
theorem eqProtoS_any (ao bo : Option Addr) (c1 c2 : Nat) (us : List Pd) (w : World) (hm : us.length ≤ 1048576) (hz : ∀ p ∈ us, PFew p) (hf : ∀ p ∈ us, Flts p.consts) (h1 : ProtosAt 0 w ao us) (h2 : ProtosAt 0 w bo us) :
    Calls Tryz.prog 39 #[.slice ao us.length c1, .slice bo us.length c2] w fun e w' => e = .returned (.bool true) ∧ Below w.heap.size w w' := by
  go_enter Tryz.func39, Tryz.ntmps39
  go_wp2_with fail
  go_loopw [5] (fun i wr => ∃ k : Nat, k ≤ us.length ∧ i = .int .i64 k ∧ Below w.heap.size w wr) (fun i _ => us.length - (intOf i).toNat)
  case atStart => exact ⟨0, Nat.zero_le _, rfl, Below.refl _ _⟩
  case round =>
    obtain ⟨k, hk, rfl, hb⟩ := hrel
    by_cases hlt : k < us.length
    · obtain ⟨u, huk⟩ := some_of_lt hlt
      obtain ⟨b1, o1, rfl, _, hl1, x, n1, i1⟩ := h1.later (Keeps.of_below hb) k u huk
      obtain ⟨b2, o2, rfl, _, hl2, y, n2, i2⟩ := h2.later (Keeps.of_below hb) k u huk
      have hfu := hf u (List.mem_of_getElem? huk)
      have hzu := hz u (List.mem_of_getElem? huk)
      obtain ⟨p0, p1, p2, p3, p4, p5, p6, p7, p8⟩ := id n1
      obtain ⟨q0, q1, q2, q3, q4, q5, q6, q7, q8⟩ := id n2
      clear h1 h2 hf hz
      have i1d : PIn 0 wr.drew x u := i1.later (Keeps.of_below (Below.refl _ _).drew)
      have i2d : PIn 0 wr.drew y u := i2.later (Keeps.of_below (Below.refl _ _).drew)
      have n1d : NineAt wr.drew b1 (o1 + k * 9) x u := n1
      have n2d : NineAt wr.drew b2 (o2 + k * 9) y u := n2
      go_wp2_with fail
      go_region_held3 (fun w' => w'.cell? ⟨b1, o1 + k * 9, none⟩ = some (.string u.name) ∧ w'.cell? ⟨b1, o1 + k * 9 + 1, none⟩ = some (.int .i64 u.line) ∧ w'.cell? ⟨b1, o1 + k * 9 + 2, none⟩ = some (.int .i64 u.params) ∧ w'.cell? ⟨b1, o1 + k * 9 + 3, none⟩ = some (.bool u.rest) ∧ w'.cell? ⟨b1, o1 + k * 9 + 4, none⟩ = some (.int .i64 u.regs) ∧ w'.cell? ⟨b1, o1 + k * 9 + 5, none⟩ = some (.slice x.uo u.ups.length x.uc) ∧ w'.cell? ⟨b1, o1 + k * 9 + 6, none⟩ = some (.slice x.co u.consts.length x.cc) ∧ w'.cell? ⟨b1, o1 + k * 9 + 7, none⟩ = some (.slice x.io u.ins.length x.ic) ∧ w'.cell? ⟨b1, o1 + k * 9 + 8, none⟩ = some (.slice x.no u.named.length x.nc) ∧ w'.cell? ⟨b2, o2 + k * 9, none⟩ = some (.string u.name) ∧ w'.cell? ⟨b2, o2 + k * 9 + 1, none⟩ = some (.int .i64 u.line) ∧ w'.cell? ⟨b2, o2 + k * 9 + 2, none⟩ = some (.int .i64 u.params) ∧ w'.cell? ⟨b2, o2 + k * 9 + 3, none⟩ = some (.bool u.rest) ∧ w'.cell? ⟨b2, o2 + k * 9 + 4, none⟩ = some (.int .i64 u.regs) ∧ w'.cell? ⟨b2, o2 + k * 9 + 5, none⟩ = some (.slice y.uo u.ups.length y.uc) ∧ w'.cell? ⟨b2, o2 + k * 9 + 6, none⟩ = some (.slice y.co u.consts.length y.cc) ∧ w'.cell? ⟨b2, o2 + k * 9 + 7, none⟩ = some (.slice y.io u.ins.length y.ic) ∧ w'.cell? ⟨b2, o2 + k * 9 + 8, none⟩ = some (.slice y.no u.named.length y.nc)) (go_keep)
        (first | (go_at_call 86; refine (eqProto_any u x y wr.drew hzu hfu i1d i2d).mono ?_; rintro e w1 ⟨rfl, hw1⟩; obtain ⟨d0, d1, d2, d3, d4, d5, d6, d7, d8⟩ := n1d.later hw1 hl1; obtain ⟨e0, e1, e2, e3, e4, e5, e6, e7, e8⟩ := n2d.later hw1 hl2))
      have B1 := hb.drew.trans (hw1.mono hb.size)
      go_wp2_with fail
      go_roundw
      case rel => exact ⟨k + 1, by omega, by go_num, B1⟩
      case measure => simp [intOf]; omega
    · go_wp2_with fail
      go_ret
      exact ⟨rfl, hb⟩

set_option maxHeartbeats 400000 in
theorem eqCode_any (ao bo : Option Addr) (c1 c2 : Nat) (us : List Pd) (w : World) (hm : us.length ≤ 1048576) (hz : ∀ p ∈ us, PFew p) (hf : ∀ p ∈ us, Flts p.consts) (h1 : ProtosAt 0 w ao us) (h2 : ProtosAt 0 w bo us) :
    Calls Tryz.prog 17 #[.agg #[.slice ao us.length c1], .agg #[.slice bo us.length c2]] w fun e w' => e = .returned (.bool true) ∧ Below w.heap.size w w' := by
  have hb2 : ∀ o1 o2, Below w.heap.size w ((w.alloc o1).alloc o2) := fun o1 o2 => ((Below.refl _ _).alloc (Nat.le_refl _) o1).alloc (by simp) o2
  go_enter Tryz.func17, Tryz.ntmps17
  go_wp2_with fail
  refine (eqProtoS_any ao bo c1 c2 us _ hm hz hf (h1.later (Keeps.of_below (hb2 _ _))) (h2.later (Keeps.of_below (hb2 _ _)))).mono ?_
  rintro e w1 ⟨rfl, hw1⟩
  have B1 := (hb2 _ _).trans (hw1.mono (by simp; omega))
  go_wp2_with fail
  go_ret
  exact ⟨rfl, B1⟩

set_option maxHeartbeats 400000 in
theorem eqFault_any (c p a : Int) (w : World) :
    Calls Tryz.prog 16 #[.agg #[.int .i64 c, .int .i64 p, .int .i64 a], .agg #[.int .i64 c, .int .i64 p, .int .i64 a]] w fun e w' => e = .returned (.bool true) ∧ Below w.heap.size w w' := by
  go_enter Tryz.func16, Tryz.ntmps16
  go_wp2_with fail
  go_ret
  refine ⟨rfl, ?_⟩
  repeat (first | exact Below.refl _ _ | refine Below.alloc ?_ (by simp; try omega) _)
end Go.Proofs.YtmfippfnhcphhaaGreatDoor

namespace Go.Proofs.YtmfippfnhcphhaaGreatDoor
open Go.RowKit Go.Deep

def inR (x lo hi : Int) : Bool := decide (lo ≤ x) && decide (x ≤ hi)

set_option maxHeartbeats 400000 in
theorem l3in_any (x lo hi : Int) (w : World) :
    Calls Tryz.prog 121 #[.int .i64 x, .int .i64 lo, .int .i64 hi] w fun e w' => e = .returned (.bool (inR x lo hi)) ∧ w' = w := by
  go_enter Tryz.func121, Tryz.ntmps121
  go_wp2
  · go_ret
    exact ⟨ret_bool (by simp [inR, *]), rfl⟩
  · go_ret
    exact ⟨ret_bool (by simp [inR]; omega), rfl⟩

set_option maxHeartbeats 400000 in
theorem within_any (x lo hi : Int) (w : World) :
    Calls Tryz.prog 131 #[.int .i64 x, .int .i64 lo, .int .i64 hi] w fun e w' => e = .returned (.bool (inR x lo hi)) ∧ w' = w := by
  go_enter Tryz.func131, Tryz.ntmps131
  go_wp2
  · go_ret
    exact ⟨ret_bool (by simp [inR, *]), rfl⟩
  · go_ret
    exact ⟨ret_bool (by simp [inR]; omega), rfl⟩

def most (p : Pd) : Int := if p.rest then wrap64 (p.regs - 1) else p.regs
def headOk (p : Pd) (i : Nat) : Bool :=
  decide (p.name.size ≤ 40) && inR p.line 0 100000 && inR p.regs 0 250 && inR p.params 0 (most p) && decide (p.ups.length ≤ 250) && decide (p.consts.length ≤ 500) && (decide (0 < i) || (p.params == 0 && (p.ups.length : Int) == 0))

theorem ret_ib {k : Int} {a b : Bool} (h : a = b) : Ending.returned (.tuple #[.int .i64 k, .bool a]) = .returned (.tuple #[.int .i64 k, .bool b]) := by rw [h]

set_option maxHeartbeats 2000000 in
theorem l3headOk_any (ao : Option Addr) (cap : Nat) (ps : List Pd) (i : Nat) (p : Pd) (w : World) (hi : ps[i]? = some p) (hz : PFew p) (_hm : ps.length ≤ 1048576) (hv : ProtosAt 0 w ao ps) :
    Calls Tryz.prog 117 #[.agg #[.slice ao ps.length cap], .int .i64 i] w fun e w' => e = .returned (.bool (headOk p i)) ∧ Below w.heap.size w w' := by
  have hlt : i < ps.length := (List.getElem?_eq_some_iff.1 hi).1
  have hb1 : ∀ o, Below w.heap.size w (w.alloc o) := fun o => (Below.refl _ _).alloc (Nat.le_refl _) o
  obtain ⟨b, off, rfl, _, hbl, h, n1, i1⟩ := hv i p hi
  clear hv hi
  obtain ⟨z1, z2, z3, z4⟩ := hz
  obtain ⟨nm, ln, pa, re, rg, us, cs, is, ms⟩ := p
  obtain ⟨uo, uc, co, cc, io, ic, no, nc⟩ := h
  obtain ⟨p0, p1, p2, p3, p4, p5, p6, p7, p8⟩ := n1
  dsimp only at *
  go_enter Tryz.func117, Tryz.ntmps117
  go_wp2_with (go_at_call 121; refine (l3in_any _ _ _ _).mono ?_; rintro e w' ⟨rfl, rfl⟩)
  all_goals
    go_ret
    refine ⟨ret_bool ?_, (hb1 _).alloc (by simp) _⟩
    clear p0 p1 p2 p3 p4 p5 p6 p7 p8 hb1
    first
    | (simp_all [headOk, most]; done)
    | (simp_all [headOk, most]; omega)
set_option maxHeartbeats 2000000 in
theorem checkHead_any (ao : Option Addr) (cap : Nat) (ps : List Pd) (i : Nat) (p : Pd) (w : World) (hi : ps[i]? = some p) (hz : PFew p) (_hm : ps.length ≤ 1048576) (hv : ProtosAt 0 w ao ps) :
    Calls Tryz.prog 75 #[.agg #[.slice ao ps.length cap], .int .i64 i] w fun e w' => e = .returned (.tuple #[.int .i64 0, .bool (headOk p i)]) ∧ Below w.heap.size w w' := by
  have hlt : i < ps.length := (List.getElem?_eq_some_iff.1 hi).1
  have hb1 : ∀ o, Below w.heap.size w (w.alloc o) := fun o => (Below.refl _ _).alloc (Nat.le_refl _) o
  obtain ⟨b, off, rfl, _, hbl, h, n1, i1⟩ := hv i p hi
  clear hv hi
  obtain ⟨z1, z2, z3, z4⟩ := hz
  obtain ⟨nm, ln, pa, re, rg, us, cs, is, ms⟩ := p
  obtain ⟨uo, uc, co, cc, io, ic, no, nc⟩ := h
  obtain ⟨p0, p1, p2, p3, p4, p5, p6, p7, p8⟩ := n1
  dsimp only at *
  go_enter Tryz.func75, Tryz.ntmps75
  go_wp2_with (go_at_call 131; refine (within_any _ _ _ _).mono ?_; rintro e w' ⟨rfl, rfl⟩)
  all_goals
    go_ret2
    refine ⟨ret_ib ?_, (hb1 _).alloc (by simp) _⟩
    clear p0 p1 p2 p3 p4 p5 p6 p7 p8 hb1
    first
    | (simp_all [headOk, most]; done)
    | (simp_all [headOk, most]; omega)
end Go.Proofs.YtmfippfnhcphhaaGreatDoor

namespace Go.Proofs.YtmfippfnhcphhaaGreatDoor
open Go.RowKit Go.Deep

def insSum (ps : List Pd) : Nat := sumL (fun p => p.ins.length) ps
def sizeB (ps : List Pd) : Bool := inR ps.length 1 200 && decide ((insSum ps : Int) ≤ 6000)

theorem insSum_take {l : List Pd} {k : Nat} {p : Pd} (h : l[k]? = some p) : sumL (fun p => p.ins.length) (l.take (k + 1)) = sumL (fun p => p.ins.length) (l.take k) + p.ins.length := by
  induction l generalizing k with
  | nil => simp at h
  | cons x r ih =>
    cases k with
    | zero => simp at h; subst h; simp [sumL]
    | succ k =>
      simp at h
      have := ih h
      simp only [List.take_succ_cons, sumL]
      omega
theorem sumIns_le (l : List Pd) (k : Nat) : sumL (fun p => p.ins.length) (l.take k) ≤ sumL bulkP l := by
  induction l generalizing k with
  | nil => simp [sumL]
  | cons x r ih =>
    cases k with
    | zero => simp [sumL]
    | succ k =>
      have := ih k
      simp only [List.take_succ_cons, sumL]
      have : x.ins.length ≤ bulkP x := by unfold bulkP; omega
      omega

set_option maxRecDepth 100000 in
set_option maxHeartbeats 2000000 in
theorem sizesFit_any (ao : Option Addr) (cap : Nat) (ps : List Pd) (w : World) (hm : bulkPs ps ≤ 1048576) (hv : ProtosAt 0 w ao ps) :
    Calls Tryz.prog 74 #[.agg #[.slice ao ps.length cap]] w fun e w' => e = .returned (.bool (sizeB ps)) ∧ Below w.heap.size w w' := by
  have hl : ps.length ≤ 1048576 := by unfold bulkPs at hm; omega
  have hsum : sumL bulkP ps ≤ 1048576 := by unfold bulkPs at hm; omega
  have hb1 : ∀ o, Below w.heap.size w (w.alloc o) := fun o => (Below.refl _ _).alloc (Nat.le_refl _) o
  have C0 := Blk.new w #[.slice ao ps.length cap] 25
  clear hm
  go_enter Tryz.func74, Tryz.ntmps74
  go_wp2_with fail
  go_loopw [3, 9] (fun s y wr => ∃ k : Nat, k ≤ ps.length ∧ y = .int .i64 k ∧ s = .int .i64 (sumL (fun p => p.ins.length) (ps.take k) : Nat) ∧ Below w.heap.size w wr ∧ Blk wr w.heap.size #[.slice ao ps.length cap] 25) (fun _ y _ => ps.length - (intOf y).toNat)
  case atStart => exact ⟨0, Nat.zero_le _, rfl, rfl, hb1 _, C0⟩
  case round =>
    obtain ⟨k, hk, rfl, rfl, hb, C1⟩ := hrel
    clear C0
    by_cases hkl : k < ps.length
    · obtain ⟨p, hpk⟩ := some_of_lt hkl
      obtain ⟨b, off, rfl, _, hbl, h, ⟨p0, p1, p2, p3, p4, p5, p6, p7, p8⟩, _⟩ := hv.later (Keeps.of_below hb) k p hpk
      have HT : Hid _ := insSum_take hpk
      have h1 := sumIns_le ps k
      have h2 := sumIns_le ps (k + 1)
      rw [HT.out] at h2
      have hba : ∀ o, Below w.heap.size w (wr.alloc o) := fun o => hb.alloc hb.size o
      have CA : Hid (∀ o, Blk (wr.alloc o) w.heap.size #[.slice (some ⟨b, off, none⟩) ps.length cap] 25) := fun o => C1.alloc o
      generalize hq : sumL (fun p => p.ins.length) (ps.take k) = q at *
      clear hv hq
      go_wp2_with fail
      go_roundw
      case rel => exact ⟨k + 1, by omega, by go_num, by rw [HT.out]; go_num, hba _, CA.out _⟩
      case measure => simp [intOf]; omega
    · have hall : ps.take k = ps := List.take_of_length_le (by omega)
      rw [hall]
      have E0 : Hid (sizeB ps = (inR ps.length 1 200 && decide (((sumL (fun p => p.ins.length) ps : Nat) : Int) ≤ 6000))) := rfl
      have hle := sumIns_le ps ps.length
      rw [List.take_length] at hle
      have c1 := C1.cell
      generalize sumL (fun p => p.ins.length) ps = q at *
      clear hv hall
      go_wp2_with (go_at_call 131; refine (within_any _ _ _ _).mono ?_; rintro e w' ⟨rfl, rfl⟩)
      all_goals
        go_ret
        exact ⟨ret_bool (by rw [E0.out]; simp_all), hb⟩
end Go.Proofs.YtmfippfnhcphhaaGreatDoor
