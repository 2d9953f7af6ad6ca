import Derived.Test.YtgopdffmnikhdaaGreatDoorT06
namespace Go.Proofs.YtgopdffmnikhdaaGreatDoor
open Go.RowKit Go.Deep
attribute [local go_sem] run_store_float vi
theorem asFloat_one (w : World) : Calls Tryz.prog 148 #[.agg (vi 1)] w fun e w' => e = .returned (.float .f64 0x3FF0000000000000) ∧ Below w.heap.size w w' := by
  have B0 : ∀ o, Below w.heap.size w (w.alloc o) := fun _ => (Below.refl _ _).alloc (Nat.le_refl _) _
  go_enter Tryz.func148, Tryz.ntmps148
  go_wp2_with fail
  go_ret
  exact ⟨rfl, B0 _⟩
theorem isNaN_one (w : World) : Calls Tryz.prog 147 #[.float .f64 0x3FF0000000000000] w fun e w' => e = .returned (.bool false) ∧ w' = w := by
  go_enter Tryz.func147, Tryz.ntmps147
  go_wp2_with fail
  go_ret
  exact ⟨rfl, rfl⟩
set_option maxHeartbeats 2000000 in
theorem doFor_any (bl bc br : Nat) (o t c d e f i n : Int) (cc : Cc) (r3 r4 r5 : R8) (w : World) (C : CAt w bc { cc with regs := .slice (some ⟨br, 0, none⟩) 6 6 }) (X : RAt w br ⟨.int i, .int n, .int 1, r3, r4, r5⟩) :
    Calls Tryz.prog 69 #[.pointer (some ⟨bl, 0, none⟩), .pointer (some ⟨bc, 0, none⟩), .agg (qa o 0 t c d e f)] w fun e w' => e = .returned .nilIface ∧ Below w.heap.size w w' := by
  have B0 : Below w.heap.size w (w.alloc (.cells (qa o 0 t c d e f) 149)).drew := ((Below.refl _ _).alloc (Nat.le_refl _) _).drew
  have xs := fun o => (X.alloc o).cell
  have ds := fun o => (C.alloc o).cell
  have zs := (Blk.new w (qa o 0 t c d e f) 149).cell
  have e3 : IntKind.i64.wrap (0 + 3) = 3 := by decide
  go_enter Tryz.func69, Tryz.ntmps69
  go_wp2_with fail
  go_region
  go_wp2_with fail
  obtain ⟨W, hW⟩ : ∃ z, z = (w.alloc (.cells (qa o 0 t c d e f) 149)).drew := ⟨_, rfl⟩
  rw [← hW] at B0 ⊢
  have HX : Hid (RAt W br ⟨.int i, .int n, .int 1, r3, r4, r5⟩) := X.later B0
  have HB : Hid (Below w.heap.size w W) := B0
  clear hW xs ds zs B0 X C
  go_loopw [26, 8] (fun x y wr => ∃ k : Nat, k ≤ 3 ∧ x = .int .i64 k ∧ y = .bool true ∧ Hid (Below W.heap.size W wr)) (fun x _ _ => 3 - (intOf x).toNat)
  case atStart => exact ⟨0, by omega, rfl, rfl, Below.refl _ _⟩
  case round =>
    obtain ⟨k, hk, rfl, rfl, HW⟩ := hrel
    have xs := (HX.out.later HW.out).cell
    have xa := fun o => ((HX.out.later HW.out).alloc o).cell
    obtain rfl | h : k = 3 ∨ k < 3 := by omega
    · go_wp2_with fail
      refine (isZero_int 1 _).mono ?_
      rintro e w1 ⟨rfl, hw1⟩
      have HY : Hid (Blk w1 wr.heap.size (vi 1) 44) := (Blk.new wr (vi 1) 44).later hw1
      have ys := HY.out.cell
      have HV : Hid (Below W.heap.size W w1) := bl2 (HW.out.alloc (HW.out.size) _) hw1
      clear xs xa hw1 HW
      go_wp2_with fail
      refine (asFloat_one _).mono ?_
      rintro e w2 ⟨rfl, hw2⟩
      go_wp2_with fail
      refine (isNaN_one _).mono ?_
      rintro e w2 ⟨rfl, rfl⟩
      go_wp2_with fail
      have HV2 : Hid (Below W.heap.size W w2) := bl2 HV.out hw2
      clear HV hw2 ys HY
      go_loopw [57] (fun x ws => ∃ k : Nat, k ≤ 3 ∧ x = .int .i64 k ∧ Hid (Below W.heap.size W ws)) (fun x _ => 3 - (intOf x).toNat)
      case atStart => exact ⟨0, by omega, rfl, HV2.out⟩
      case round =>
        obtain ⟨k, hk, rfl, HW⟩ := hrel
        have xs := (HX.out.later HW.out).cell
        have xa := fun o => ((HX.out.later HW.out).alloc o).cell
        obtain rfl | rfl | rfl | rfl : k = 3 ∨ k = 0 ∨ k = 1 ∨ k = 2 := by omega
        · go_wp2_with fail
          go_ret
          exact ⟨rfl, bl2 HB.out HW.out⟩
        all_goals
          go_wp2_with fail
          go_roundw
          case rel => first | exact ⟨1, by decide, by go_num, HW.out.alloc HW.out.size _⟩ | exact ⟨2, by decide, by go_num, HW.out.alloc HW.out.size _⟩ | exact ⟨3, by decide, by go_num, HW.out.alloc HW.out.size _⟩
          case measure => simp [intOf]
    · obtain rfl | rfl | rfl : k = 0 ∨ k = 1 ∨ k = 2 := by omega
      all_goals
        go_wp2_with fail
        refine (isNumber_int _ _).mono ?_
        rintro e w1 ⟨rfl, hw1⟩
        have ys := ((Blk.new wr _ 169).later hw1).cell
        go_wp2_with fail
        go_roundw
        case rel => first | exact ⟨1, by decide, by go_num, by go_num, bl2 (HW.out.alloc (HW.out.size) _) hw1⟩ | exact ⟨2, by decide, by go_num, by go_num, bl2 (HW.out.alloc (HW.out.size) _) hw1⟩ | exact ⟨3, by decide, by go_num, by go_num, bl2 (HW.out.alloc (HW.out.size) _) hw1⟩
        case measure => simp [intOf]
end Go.Proofs.YtgopdffmnikhdaaGreatDoor
namespace Go.Proofs.YtgopdffmnikhdaaGreatDoor
open Go.RowKit Go.Deep
theorem run_store_fn (P : Program) (w : World) (a : Addr) (m : Mode) (k : Fn) (x y : Array Value) : (store a (.func k x y) m).run P w = stored P w a (.func k x y) m := run_store P w a _ m rfl
attribute [local go_sem] run_store_float vi run_store_fn
/-- What an instruction is and which function does it. -/
structure Ac (w : World) (bl qb qi a : Nat) (fn : Nat) (g : Bool) (o x b c d e f : Int) : Prop where
  q : ∃ qc, w.cell? ⟨bl, 2, none⟩ = some (.slice (some ⟨qb, 0, none⟩) 1 qc)
  i : ∃ ic, w.cell? ⟨qb, 0, none⟩ = some (.slice (some ⟨qi, 0, none⟩) 11 ic)
  lt : a < 11
  op : 0 ≤ o ∧ o < 47
  ins : ∀ j, j < 7 → w.cell? ⟨qi, a * 7 + j, none⟩ = (qa o x b c d e f)[j]?
  fn : w.cell? ⟨bl, 8 + o.toNat * 2, none⟩ = some (.func (.func fn) #[] #[])
  on : w.cell? ⟨bl, 8 + o.toNat * 2 + 1, none⟩ = some (.bool g)
set_option maxHeartbeats 2000000 in
set_option maxRecDepth 8000 in
theorem do_on (bl bc qb qi a fn : Nat) (o x b c d e f : Int) (cc : Cc) (ts : List TypeId) (Q : World → Prop) (w : World) (ht : 65 ∉ ts) (hcf : Hid (∀ args W, (callFunc fn args).run Tryz.prog W = .ok (.enter fn args) W)) (A : Ac w bl qb qi a fn true o x b c d e f)
    (C : CAt w bc { cc with proto := .int .i64 0, at_ := .int .i64 a })
    (HD : Hid (∀ W, Below w.heap.size w W → Calls Tryz.prog fn #[.pointer (some ⟨bl, 0, none⟩), .pointer (some ⟨bc, 0, none⟩), .agg (qa o x b c d e f)] W fun e w' => e = .returned .nilIface ∧ FrT ts W w' ∧ CAt w' bc { cc with proto := .int .i64 0, at_ := .int .i64 a } ∧ Q w')) :
    Calls Tryz.prog 181 #[.pointer (some ⟨bl, 0, none⟩), .pointer (some ⟨bc, 0, none⟩)] w fun e w' => e = .returned .nilIface ∧ ∃ w1, Q w1 ∧ FrT ts w w1 ∧ Chg [bc] w1 w' ∧ CAt w' bc { cc with proto := .int .i64 0, at_ := .int .i64 (a + 1) } := by
  obtain ⟨⟨qc, hq⟩, ⟨ic, hi⟩, ha, ⟨ho, ho2⟩, hI, hf, hg⟩ := A
  have ds := C.cell
  have i0 := hI 0 (by decide)
  have i1 := hI 1 (by decide)
  have i2 := hI 2 (by decide)
  have i3 := hI 3 (by decide)
  have i4 := hI 4 (by decide)
  have i5 := hI 5 (by decide)
  have i6 := hI 6 (by decide)
  simp only [Nat.add_zero] at i0
  simp at i0 i1 i2 i3 i4 i5 i6
  have a0 : (0 : Int) ≤ a := by omega
  have a1 : (a : Int) < 11 := by omega
  clear hI
  have da := fun o => (C.alloc o).cell
  have qa' := ca hq
  have ia' := ca hi
  have j0 := ca i0
  have j1 := ca i1
  have j2 := ca i2
  have j3 := ca i3
  have j4 := ca i4
  have j5 := ca i5
  have j6 := ca i6
  go_enter Tryz.func181, Tryz.ntmps181
  go_wp2_with fail
  go_region
  go_wp2_with fail
  obtain ⟨W, hW⟩ : ∃ z, z = (w.alloc (.cells (qa o x b c d e f) 149)).drew := ⟨_, rfl⟩
  rw [← hW]
  have Z : Blk W w.heap.size (qa o x b c d e f) 149 := by rw [hW]; exact Blk.new w _ _
  have B : Below w.heap.size w W := by rw [hW]; exact ((Below.refl _ _).alloc (Nat.le_refl _) _).drew
  have f1 := ca (cb hf B)
  have g1 := ca (cb hg B)
  have f2 := cb hf B
  have g2 := cb hg B
  have zs := Z.cell
  have za := fun o => (Z.alloc o).cell
  clear hW da qa' ia' j0 j1 j2 j3 j4 j5 j6 ds i0 i1 i2 i3 i4 i5 i6 hq hi
  go_region
  go_wp2_with fail
  rw [hcf.out, Oper.upon_enter]
  have B2 : Below w.heap.size w (W.alloc (.cells #[.func (.func fn) #[] #[], .bool true] 65)).drew := (B.alloc B.size _).drew
  have Y := Blk.new W #[.func (.func fn) #[] #[], .bool true] 65
  refine (HD.out _ B2).mono ?_
  rintro e w1 ⟨rfl, hF, hC, hQ⟩
  have Y1 := (Y.later (Below.refl _ _).drew).fr hF ht
  have ys := Y1.cell
  have cs := hC.cell
  have cf := hC.frozen
  have wa : IntKind.i64.wrap ((a : Int) + 1) = a + 1 := wr (by omega) (by omega)
  clear zs za f1 f2 g1 g2
  go_wp2_with fail
  go_ret
  exact ⟨rfl, w1, hQ, (FrT.below B2).trans hF (fun _ h => h), (Chg.refl _ _).set (by simp) _ _, hC.set 3 _⟩
set_option maxHeartbeats 2000000 in
set_option maxRecDepth 8000 in
theorem do_off (bl bc qb qi a fn : Nat) (o x b c d e f : Int) (cc : Cc) (ts : List TypeId) (Q : World → Prop) (w : World) (ht : 65 ∉ ts) (hcf : Hid (∀ args W, (callFunc fn args).run Tryz.prog W = .ok (.enter fn args) W)) (A : Ac w bl qb qi a fn false o x b c d e f)
    (C : CAt w bc { cc with proto := .int .i64 0, at_ := .int .i64 a })
    (HD : Hid (∀ W, Below w.heap.size w W → Calls Tryz.prog fn #[.pointer (some ⟨bl, 0, none⟩), .pointer (some ⟨bc, 0, none⟩), .agg (qa o x b c d e f)] W fun e w' => e = .returned .nilIface ∧ FrT ts W w' ∧ Q w')) :
    Calls Tryz.prog 181 #[.pointer (some ⟨bl, 0, none⟩), .pointer (some ⟨bc, 0, none⟩)] w fun e w' => e = .returned .nilIface ∧ FrT ts w w' ∧ Q w' := by
  obtain ⟨⟨qc, hq⟩, ⟨ic, hi⟩, ha, ⟨ho, ho2⟩, hI, hf, hg⟩ := A
  have ds := C.cell
  have i0 := hI 0 (by decide)
  have i1 := hI 1 (by decide)
  have i2 := hI 2 (by decide)
  have i3 := hI 3 (by decide)
  have i4 := hI 4 (by decide)
  have i5 := hI 5 (by decide)
  have i6 := hI 6 (by decide)
  simp only [Nat.add_zero] at i0
  simp at i0 i1 i2 i3 i4 i5 i6
  have a0 : (0 : Int) ≤ a := by omega
  have a1 : (a : Int) < 11 := by omega
  clear hI
  have da := fun o => (C.alloc o).cell
  have qa' := ca hq
  have ia' := ca hi
  have j0 := ca i0
  have j1 := ca i1
  have j2 := ca i2
  have j3 := ca i3
  have j4 := ca i4
  have j5 := ca i5
  have j6 := ca i6
  go_enter Tryz.func181, Tryz.ntmps181
  go_wp2_with fail
  go_region
  go_wp2_with fail
  obtain ⟨W, hW⟩ : ∃ z, z = (w.alloc (.cells (qa o x b c d e f) 149)).drew := ⟨_, rfl⟩
  rw [← hW]
  have Z : Blk W w.heap.size (qa o x b c d e f) 149 := by rw [hW]; exact Blk.new w _ _
  have B : Below w.heap.size w W := by rw [hW]; exact ((Below.refl _ _).alloc (Nat.le_refl _) _).drew
  have f1 := ca (cb hf B)
  have g1 := ca (cb hg B)
  have f2 := cb hf B
  have g2 := cb hg B
  have zs := Z.cell
  have za := fun o => (Z.alloc o).cell
  clear hW da qa' ia' j0 j1 j2 j3 j4 j5 j6 ds i0 i1 i2 i3 i4 i5 i6 hq hi
  go_region
  go_wp2_with fail
  rw [hcf.out, Oper.upon_enter]
  have B2 : Below w.heap.size w (W.alloc (.cells #[.func (.func fn) #[] #[], (.bool false)] 65)).drew := (B.alloc B.size _).drew
  have Y := Blk.new W #[.func (.func fn) #[] #[], (.bool false)] 65
  refine (HD.out _ B2).mono ?_
  rintro e w1 ⟨rfl, hF, hQ⟩
  have Y1 := (Y.later (Below.refl _ _).drew).fr hF ht
  have ys := Y1.cell
  clear zs za f1 f2 g1 g2
  go_wp2_with fail
  go_ret
  exact ⟨rfl, (FrT.below B2).trans hF (fun _ h => h), hQ⟩
theorem enters {f : FuncId} {fn : Func} {c : Code} (hf : Tryz.prog.funcs[f]? = some fn) (hname : (fn.name == "runtime.NumGoroutine") = false) (hb : fn.body = some c) : Hid (∀ args w, (callFunc f args).run Tryz.prog w = .ok (.enter f args) w) := by
  intro args w
  have h1 : fn.name ≠ "runtime.NumGoroutine" := by simpa using hname
  simp [callFunc, hf, h1, hb]
theorem enters_tick : Hid (∀ args w, (callFunc 36 args).run Tryz.prog w = .ok (.enter 36 args) w) := enters (fn := Tryz.f36) (by kernel_rfl) (by kernel_rfl) rfl
end Go.Proofs.YtgopdffmnikhdaaGreatDoor
namespace Go.Proofs.YtgopdffmnikhdaaGreatDoor
open Go.RowKit Go.Deep
attribute [local go_sem] run_store_float vi
@[go_sem] theorem as_call_coll (v : Value) (w : World) : (Instr.typeAssert (.iface 105 v) 112 114 true).run Tryz.prog w = .ok (.tuple #[.pointer none, .bool false]) w := by kernel_rfl
@[go_sem] theorem as_call_after (v : Value) (w : World) : (Instr.typeAssert (.iface 105 v) 112 116 true).run Tryz.prog w = .ok (.tuple #[.pointer none, .bool false]) w := by kernel_rfl
@[go_sem] theorem as_call_call (v : Value) (w : World) : (Instr.typeAssert (.iface 105 v) 112 105 true).run Tryz.prog w = .ok (.tuple #[v, .bool true]) w := by kernel_rfl
theorem as_nil (v : Value) (w : World) : Calls Tryz.prog 235 #[.nilIface, v] w fun e w' => e = .returned (.bool false) ∧ w' = w := by
  go_enter Tryz.func235, Tryz.ntmps235
  go_wp2_with fail
  go_ret
  exact ⟨rfl, rfl⟩
theorem attempt_nil (bl : Nat) (w : World) : Calls Tryz.prog 177 #[.pointer (some ⟨bl, 0, none⟩), .nilIface] w fun e w' => e = .returned (.tuple #[]) ∧ Below w.heap.size w w' := by
  have B0 : ∀ o, Below w.heap.size w (w.alloc o) := fun _ => (Below.refl _ _).alloc (Nat.le_refl _) _
  go_enter Tryz.func177, Tryz.ntmps177
  go_wp2_with fail
  refine (as_nil _ _).mono ?_
  rintro e w1 ⟨rfl, rfl⟩
  go_wp2_with fail
  refine bodyPost_ret (results_none rfl _ _ _) rfl ?_
  exact ⟨rfl, B0 _⟩
theorem work_gen (bl bc bm : Nat) (P : World → Prop) (w : World) (hl : w.cell? ⟨bl, 0, none⟩ = some (.pointer (some ⟨bm, 0, none⟩))) (hh : w.cell? ⟨bm, 12, none⟩ = some (.bool false))
    (HD : Hid (Calls Tryz.prog 181 #[.pointer (some ⟨bl, 0, none⟩), .pointer (some ⟨bc, 0, none⟩)] w fun e w' => e = .returned .nilIface ∧ w'.cell? ⟨bl, 0, none⟩ = some (.pointer (some ⟨bm, 0, none⟩)) ∧ w'.cell? ⟨bm, 12, none⟩ = some (.bool false) ∧ P w')) :
    Calls Tryz.prog 104 #[.pointer (some ⟨bl, 0, none⟩), .pointer (some ⟨bc, 0, none⟩)] w fun e w' => e = .returned (.tuple #[]) ∧ ∃ w1, P w1 ∧ Below w1.heap.size w1 w' := by
  go_enter Tryz.func104, Tryz.ntmps104
  go_wp2_with fail
  refine HD.out.mono ?_
  rintro e w1 ⟨rfl, h1, h2, hP⟩
  clear hl hh
  go_wp2_with fail
  refine (attempt_nil bl _).mono ?_
  rintro e w2 ⟨rfl, hw2⟩
  have a1 := cb h1 hw2
  have a2 := cb h2 hw2
  clear h1 h2
  go_wp2_with fail
  refine bodyPost_ret (results_none rfl _ _ _) rfl ?_
  exact ⟨rfl, w1, hP, hw2⟩
set_option maxRecDepth 8000 in
set_option maxHeartbeats 2000000 in
theorem move_work (bl bm bt bts bf bc fc : Nat) (m : Mc) (t : Tc) (P : World → Prop) (w : World) (hl : w.cell? ⟨bl, 0, none⟩ = some (.pointer (some ⟨bm, 0, none⟩)))
    (X : MAt w bm { m with tasks := .slice (some ⟨bts, 0, none⟩) 1 1, cur := .int .i64 0, wk := .int .i64 0 }) (h : w.cell? ⟨bts, 0, none⟩ = some (.pointer (some ⟨bt, 0, none⟩)))
    (Y : TAt w bt { t with frames := .slice (some ⟨bf, 0, none⟩) 1 fc }) (hf : w.cell? ⟨bf, 0, none⟩ = some (.iface 105 (.pointer (some ⟨bc, 0, none⟩)))) (hc : w.cell? ⟨bc, 8, none⟩ = some (.bool false))
    (HW : Hid (∀ W, Below w.heap.size w W → Calls Tryz.prog 104 #[.pointer (some ⟨bl, 0, none⟩), .pointer (some ⟨bc, 0, none⟩)] W fun e w' => e = .returned (.tuple #[]) ∧ P w')) :
    Calls Tryz.prog 24 #[.pointer (some ⟨bl, 0, none⟩)] w fun e w' => e = .returned (.tuple #[]) ∧ P w' := by
  go_enter Tryz.func24, Tryz.ntmps24
  go_wp2_with fail
  refine (running_any bm bt bts { m with wk := .int .i64 0 } _ X h).mono ?_
  rintro e w1 ⟨rfl, hw1⟩
  have Y1 := Y.later hw1
  have X1 := X.later hw1
  have ys := Y1.cell
  have xs := X1.cell
  have l1 := cb hl hw1
  go_wp2_with fail
  refine (innermost_any bt bf fc t _ _ Y1 (cb hf hw1)).mono ?_
  rintro e w2 ⟨rfl, hw2⟩
  have hw3 := bl2 hw1 hw2
  have c2 := cb hc hw3
  clear ys xs l1
  go_wp2_with fail
  refine (HW.out _ hw3).mono ?_
  rintro e w3 ⟨rfl, hP⟩
  go_wp2_with fail
  go_end0
  exact ⟨rfl, hP⟩
set_option maxRecDepth 8000 in
set_option maxHeartbeats 2000000 in
theorem move_leave (bl bm bt bts bf bc fc : Nat) (m : Mc) (t : Tc) (P : World → Prop) (w : World) (hl : w.cell? ⟨bl, 0, none⟩ = some (.pointer (some ⟨bm, 0, none⟩)))
    (X : MAt w bm { m with tasks := .slice (some ⟨bts, 0, none⟩) 1 1, cur := .int .i64 0, wk := .int .i64 0 }) (h : w.cell? ⟨bts, 0, none⟩ = some (.pointer (some ⟨bt, 0, none⟩)))
    (Y : TAt w bt { t with frames := .slice (some ⟨bf, 0, none⟩) 1 fc }) (hf : w.cell? ⟨bf, 0, none⟩ = some (.iface 105 (.pointer (some ⟨bc, 0, none⟩)))) (hc : w.cell? ⟨bc, 8, none⟩ = some (.bool true))
    (HW : Hid (∀ W, Below w.heap.size w W → Calls Tryz.prog 103 #[.pointer (some ⟨bl, 0, none⟩), .pointer (some ⟨bt, 0, none⟩), .pointer (some ⟨bc, 0, none⟩)] W fun e w' => e = .returned (.tuple #[]) ∧ P w')) :
    Calls Tryz.prog 24 #[.pointer (some ⟨bl, 0, none⟩)] w fun e w' => e = .returned (.tuple #[]) ∧ P w' := by
  go_enter Tryz.func24, Tryz.ntmps24
  go_wp2_with fail
  refine (running_any bm bt bts { m with wk := .int .i64 0 } _ X h).mono ?_
  rintro e w1 ⟨rfl, hw1⟩
  have Y1 := Y.later hw1
  have X1 := X.later hw1
  have ys := Y1.cell
  have xs := X1.cell
  have l1 := cb hl hw1
  go_wp2_with fail
  refine (innermost_any bt bf fc t _ _ Y1 (cb hf hw1)).mono ?_
  rintro e w2 ⟨rfl, hw2⟩
  have hw3 := bl2 hw1 hw2
  have c2 := cb hc hw3
  clear ys xs l1
  go_wp2_with fail
  refine (HW.out _ hw3).mono ?_
  rintro e w3 ⟨rfl, hP⟩
  go_wp2_with fail
  go_end0
  exact ⟨rfl, hP⟩
end Go.Proofs.YtgopdffmnikhdaaGreatDoor
namespace Go.Proofs.YtgopdffmnikhdaaGreatDoor
open Go.RowKit Go.Deep
attribute [local go_sem] run_store_float vi
set_option maxHeartbeats 2000000 in
theorem endCall_any (bl bm bt bf bc fc cp pc : Nat) (pv : Int) (cc : Cc) (m : Mc) (t : Tc) (vo : Option Addr) (vl vc : Nat) (w : World) (hfc : 1 ≤ fc) (hl0 : w.cell? ⟨bl, 0, none⟩ = some (.pointer (some ⟨bm, 0, none⟩))) (BL : ∃ A, Blk w bl A 72) (hl1 : w.cell? ⟨bl, 1, none⟩ = some (.slice (some ⟨cp, 0, none⟩) 1 pc)) (hp : w.cell? ⟨cp, 2, none⟩ = some (.int .i64 pv))
    (C : CAt w bc { cc with proto := .int .i64 0, self := .pointer none, wk := .int .i64 1, wv := .slice vo vl vc })
    (X : MAt w bm m) (T : TAt w bt { t with frames := .slice (some ⟨bf, 0, none⟩) 1 fc }) :
    Calls Tryz.prog 178 #[.pointer (some ⟨bl, 0, none⟩), .pointer (some ⟨bt, 0, none⟩), .pointer (some ⟨bc, 0, none⟩)] w fun e w' => e = .returned (.tuple #[]) ∧ Chg [bc, bt, bm] w w' ∧ MAt w' bm { m with has := .bool true, got := .slice vo vl vc } ∧ TAt w' bt { t with frames := .slice (some ⟨bf, 0, none⟩) 0 fc } := by
  obtain ⟨A, BL⟩ := BL
  have hbc : bl ∉ [bc] := by simpa using blk_ne BL C (by decide)
  have hbt : bl ∉ [bt] := by simpa using blk_ne BL T (by decide)
  have htc : bt ∉ [bc] := by simpa using blk_ne T C (by decide)
  have hct : bc ∉ [bt] := by simpa using blk_ne C T (by decide)
  have hmc : bm ∉ [bc] := by simpa using blk_ne X C (by decide)
  have hmt : bm ∉ [bt] := by simpa using blk_ne X T (by decide)
  have htm : bt ∉ [bm] := by simpa using blk_ne T X (by decide)
  have cs := C.cell
  have cf := C.frozen
  go_enter Tryz.func178, Tryz.ntmps178
  go_wp2_with fail
  go_region
  go_wp2_with fail
  obtain ⟨W, hW⟩ : ∃ z, z = ((w.setCell ⟨bc, 13, none⟩ (.int .i64 pv)).setCell ⟨bc, 4, none⟩ (.int .i64 0)).drew := ⟨_, rfl⟩
  rw [← hW]
  have C0 : Chg [bc] w W := by rw [hW]; exact (((Chg.refl _ _).set (by simp) _ _).set (by simp) _ _).below (Below.refl _ _).drew
  have C1 : CAt W bc { cc with proto := .int .i64 0, self := .pointer none, wk := .int .i64 1, wv := .slice vo vl vc, limit := .int .i64 pv, line := .int .i64 0 } := by rw [hW]; exact ((C.set 13 _).set 4 _).later (Below.refl _ _).drew
  have l1 := C0.cell hbc hl0
  clear hW cs cf hl0 hl1
  refine (pop_any bt bf fc t _ hfc (T.chg C0 htc)).mono ?_
  rintro e w1 ⟨rfl, C2, T2⟩
  have D1 := C1.chg C2 hct
  have l2 := C2.cell hbt l1
  have X2 := (X.chg C0 hmc).chg C2 hmt
  have ds := D1.cell
  clear C1 l1 C
  go_wp2_with fail
  have ds : ∀ o, w1.drew.cell? ⟨bc, o, none⟩ = (Cc.arr { cc with proto := .int .i64 0, self := .pointer none, wk := .int .i64 1, wv := .slice vo vl vc, limit := .int .i64 pv, line := .int .i64 0 })[o]? := D1.cell
  have l2 : w1.drew.cell? ⟨bl, 0, none⟩ = some (.pointer (some ⟨bm, 0, none⟩)) := l2
  go_region_held3 (fun W => (∀ o, W.cell? ⟨bc, o, none⟩ = (Cc.arr { cc with proto := .int .i64 0, self := .pointer none, wk := .int .i64 1, wv := .slice vo vl vc, limit := .int .i64 pv, line := .int .i64 0 })[o]?) ∧ W.cell? ⟨bl, 0, none⟩ = some (.pointer (some ⟨bm, 0, none⟩))) (with_reducible exact ⟨ds, l2⟩) (first | (go_at_call 100; refine (give_any bm m vo vl vc _ (X2.later (Below.refl _ _).drew)).mono ?_; rintro e w2 ⟨rfl, C3, X3⟩; have ds := ((D1.later (Below.refl _ _).drew).chg C3 (by simpa using blk_ne D1 X2 (by decide))).cell; have l2 : w2.cell? ⟨bl, 0, none⟩ = some (.pointer (some ⟨bm, 0, none⟩)) := C3.cell (by simpa using blk_ne BL X (by decide)) l2))
  go_wp2_with fail
  go_end0
  exact ⟨rfl, ((((Chg.refl [bc, bt, bm] w).trans C0 (by simp)).trans C2 (by simp)).below (Below.refl _ _).drew).trans C3 (by simp), X3, ((T2.later (Below.refl _ _).drew).chg C3 htm)⟩
set_option maxHeartbeats 2000000 in
theorem leave_any (bl bm bt bf bc fc cp pc : Nat) (pv sv : Int) (cc : Cc) (m : Mc) (t : Tc) (go vo : Option Addr) (gl gc vl vc : Nat) (w : World) (hfc : 1 ≤ fc) (hl0 : w.cell? ⟨bl, 0, none⟩ = some (.pointer (some ⟨bm, 0, none⟩))) (BL : ∃ A, Blk w bl A 72) (hl1 : w.cell? ⟨bl, 1, none⟩ = some (.slice (some ⟨cp, 0, none⟩) 1 pc)) (BP : ∃ A, Blk w cp A 54) (hp : w.cell? ⟨cp, 2, none⟩ = some (.int .i64 pv))
    (C : CAt w bc { cc with proto := .int .i64 0, self := .pointer none, wk := .int .i64 1, wv := .slice vo vl vc, saved := .int .i64 sv, fences := .slice none 0 0 })
    (X : MAt w bm { m with got := .slice go gl gc }) (T : TAt w bt { t with frames := .slice (some ⟨bf, 0, none⟩) 1 fc }) :
    Calls Tryz.prog 103 #[.pointer (some ⟨bl, 0, none⟩), .pointer (some ⟨bt, 0, none⟩), .pointer (some ⟨bc, 0, none⟩)] w fun e w' => e = .returned (.tuple #[]) ∧ Chg [bc, bt, bm] w w' ∧ MAt w' bm { m with has := .bool true, got := .slice vo vl vc } ∧ TAt w' bt { t with frames := .slice (some ⟨bf, 0, none⟩) 0 fc } := by
  obtain ⟨A, BL⟩ := BL
  obtain ⟨B, BP⟩ := BP
  have hbc : bl ∉ [bc] := by simpa using blk_ne BL C (by decide)
  have hbm : bl ∉ [bm] := by simpa using blk_ne BL X (by decide)
  have hpc : cp ∉ [bc] := by simpa using blk_ne BP C (by decide)
  have hpm : cp ∉ [bm] := by simpa using blk_ne BP X (by decide)
  have hcm : bc ∉ [bm] := by simpa using blk_ne C X (by decide)
  have hmc : bm ∉ [bc] := by simpa using blk_ne X C (by decide)
  have htc : bt ∉ [bc] := by simpa using blk_ne T C (by decide)
  have htm : bt ∉ [bm] := by simpa using blk_ne T X (by decide)
  have ew : IntKind.i64.wrap (0 - 1) = -1 := by decide
  go_enter Tryz.func103, Tryz.ntmps103
  go_wp2_with fail
  refine (take_any bm m go gl gc _ X).mono ?_
  rintro e w1 ⟨rfl, C1, X1⟩
  have D1 := C.chg C1 hcm
  have cs := D1.cell
  have cf := D1.frozen
  go_wp2_with fail
  have C2 : Chg [bc] w1 (w1.setCell ⟨bc, 4, none⟩ (.int .i64 sv)) := (Chg.refl _ _).set (by simp) _ _
  refine (endCall_any bl bm bt bf bc fc cp pc pv { cc with saved := .int .i64 sv, fences := .slice none 0 0, line := .int .i64 sv } { m with has := .bool false, got := .slice none 0 0 } t vo vl vc _ hfc (C2.cell hbc (C1.cell hbm hl0)) ⟨_, (BL.chg C1 hbm).chg C2 hbc⟩ (C2.cell hbc (C1.cell hbm hl1)) (C2.cell hpc (C1.cell hpm hp)) (D1.set 4 _) (X1.chg C2 hmc) ((T.chg C1 htm).chg C2 htc)).mono ?_
  rintro e w2 ⟨rfl, C3, X3, T3⟩
  go_wp2_with fail
  go_end0
  exact ⟨rfl, (((Chg.refl [bc, bt, bm] w).trans C1 (by simp)).trans C2 (by simp)).trans C3 (by simp), X3, T3⟩
end Go.Proofs.YtgopdffmnikhdaaGreatDoor
