import Derived.Test.YtgopdffmnikhdaaGreatDoorT15
namespace Go.Proofs.YtgopdffmnikhdaaGreatDoor
open Go.RowKit Go.Deep
attribute [local go_sem] run_store_float vi
/-- The cells of a loom. -/
def lmL (m p q a b : Value) (t d c : Int) : List Value := [m, p, q, a, b, .int .i64 t, .int .i64 d, .int .i64 c] ++ actL ++ bltL ++ [.nilFunc]
theorem build_loom (bm : Option Addr) (p0 q0 a0 b0 : Option Addr) (p1 p2 q1 q2 a1 a2 b1 b2 : Nat) (t d c : Int) (w : World) : (Instr.build 72 #[(0, .pointer bm), (1, .agg #[.slice p0 p1 p2]), (2, .slice q0 q1 q2), (3, .agg #[.slice a0 a1 a2, .slice b0 b1 b2, .int .i64 t, .int .i64 d, .int .i64 c]), (4, .agg actL.toArray), (5, .agg bltL.toArray)]).run Tryz.prog w = .ok (.agg (lmL (.pointer bm) (.slice p0 p1 p2) (.slice q0 q1 q2) (.slice a0 a1 a2) (.slice b0 b1 b2) t d c).toArray) w := by kernel_rfl
/-- The quick code lies there. -/
def QkAt (kx : Nat) (W : World) (g : Nat) : Prop := ∃ qi ic A A2, Blk W g A 154 ∧ A[0]? = some (.slice (some ⟨qi, 0, none⟩) 11 ic) ∧ Blk W qi A2 149 ∧ ∀ a, a < 11 → ∀ j, j < 7 → A2[a * 7 + j]? = (insT kx a)[j]?
theorem QkAt.later {kx g : Nat} {W W' : World} (h : QkAt kx W g) (hb : Below W.heap.size W W') : QkAt kx W' g :=
  let ⟨qi, ic, A, A2, h1, h2, h3, h4⟩ := h
  ⟨qi, ic, A, A2, h1.later hb, h2, h3.later hb, h4⟩
abbrev in0 : Array Value := #[.slice none 0 0, .slice none 0 0, .int .i64 1000, .int .i64 1, .int .i64 1000]
theorem lmL_lm (bm cp g pcc : Nat) : Lm (lmL (.pointer (some ⟨bm, 0, none⟩)) (.slice (some ⟨cp, 0, none⟩) 1 pcc) (.slice (some ⟨g, 0, none⟩) 1 1) (.slice none 0 0) (.slice none 0 0) 1000 1 1000).toArray bm cp g pcc 1 1000 1000 := ⟨rfl, rfl, rfl, rfl, rfl⟩
theorem lmL_la (m p q a b : Value) (t d c : Int) : LA (lmL m p q a b t d c).toArray := ⟨⟨rfl, rfl⟩, ⟨rfl, rfl⟩, ⟨rfl, rfl⟩, ⟨rfl, rfl⟩, ⟨rfl, rfl⟩, ⟨rfl, rfl⟩, ⟨rfl, rfl⟩, ⟨rfl, rfl⟩, ⟨rfl, rfl⟩⟩
theorem exec_build {oi : Oper} {a : Act} {w : World} {t : TypeId} {ps : Array (Nat × Operand)} {v : Value} (ho : oi.op = .build t ps) (h : (Instr.build t (ps.map fun (i, x) => (i, a.eval x))).run Tryz.prog w = .ok v w) : (execOp a.eval oi).run Tryz.prog w = .ok (.value v) w := by
  unfold execOp
  simp only [ho]
  simp [h]
theorem wp_val {oi : Oper} {a : Act} {w w' : World} {K : Act → World → Prop} {Q : Exit → Act → World → Prop} (v : Value) (h : (execOp a.eval oi).run Tryz.prog w = .ok (.value v) w') (hk : K (a.put oi.dst v) w') : Oper.wp Tryz.prog oi a w K Q := by
  unfold Oper.wp
  rw [h]
  exact hk
set_option maxHeartbeats 4000000 in
set_option maxRecDepth 8000 in
theorem newLoom0 (cp pcc s : Nat) (h6 : s = 6) (nm : ByteArray) (ln : Int) (u0 k0 i0 n0 : Option Addr) (u1 u2 k1 k2 i1 i2 n1 n2 : Nat) (pace : Int) (Qk : World → Nat → Prop) (w : World) (hp0 : 0 ≤ pace) (hp1 : pace ≤ 1000) (hP : ∀ i, i < 9 → w.cell? ⟨cp, i, none⟩ = (pr6 nm ln s (.slice u0 u1 u2) (.slice k0 k1 k2) (.slice i0 i1 i2) (.slice n0 n1 n2))[i]?)
    (HQ : Hid (∀ W W' g, Qk W g → Below W.heap.size W W' → Qk W' g))
    (HI : Hid (∀ W, Below w.heap.size w W → Calls Tryz.prog 30 #[.agg in0] W fun e w' => e = .returned (.bool true) ∧ Below W.heap.size W w'))
    (HP : Hid (∀ W, Below w.heap.size w W → Calls Tryz.prog 31 #[.agg #[.slice (some ⟨cp, 0, none⟩) 1 pcc]] W fun e w' => ∃ g q : Nat, e = .returned (.agg #[.slice (some ⟨g, 0, none⟩) 1 1, .int .i64 q]) ∧ q = 0 ∧ Qk w' g ∧ Below W.heap.size W w')) :
    Calls Tryz.prog 15 #[.agg #[.slice (some ⟨cp, 0, none⟩) 1 pcc], .agg in0, .int .i64 pace] w fun e w' => ∃ bl bm bts bt bf bc br g, e = .returned (pl bl) ∧ NmAt w pace Qk bm bts bt bf bc br g w' ∧ Blk w' bl (lmL (.pointer (some ⟨bm, 0, none⟩)) (.slice (some ⟨cp, 0, none⟩) 1 pcc) (.slice (some ⟨g, 0, none⟩) 1 1) (.slice none 0 0) (.slice none 0 0) 1000 1 1000).toArray 72 := by
  have HW : Hid (∀ i, i < 9 → w.cell? ⟨cp, i, none⟩ = (pr6 nm ln s (.slice u0 u1 u2) (.slice k0 k1 k2) (.slice i0 i1 i2) (.slice n0 n1 n2))[i]?) := hP
  clear hP
  obtain ⟨W, hW⟩ : ∃ W, W = (w.alloc (.cells #[.slice (some ⟨cp, 0, none⟩) 1 pcc] 26)).alloc (.cells in0 30) := ⟨_, rfl⟩
  have BW : Below w.heap.size w W := hW ▸ bl2 ((Below.refl _ _).alloc (Nat.le_refl _) _) ((Below.refl _ _).alloc (Nat.le_refl _) _)
  have X : Blk W w.heap.size #[.slice (some ⟨cp, 0, none⟩) 1 pcc] 26 := hW ▸ (Blk.new w _ _).alloc _
  have Y : Blk W (w.heap.size + 1) in0 30 := hW ▸ Blk.newHere _ _ (by simp)
  have HN : Hid (Calls Tryz.prog 19 #[.agg #[.slice (some ⟨cp, 0, none⟩) 1 pcc], .agg in0, .int .i64 pace] W fun e w' => ∃ bm bts bt bf bc br g, e = .returned (.tuple #[.pointer (some ⟨bm, 0, none⟩), .slice (some ⟨g, 0, none⟩) 1 1]) ∧ NmAt W pace Qk bm bts bt bf bc br g w') := newMachine0 cp pcc s h6 nm ln u0 k0 i0 n0 u1 u2 k1 k2 i1 i2 n1 n2 none 0 0 0 1000 1 1000 pace Qk W hp0 hp1 (fun i hi => by
      have h := HW.out i hi
      rw [List.getElem?_toArray, List.getElem?_eq_getElem (by simpa using hi)] at h ⊢
      exact cb h BW) HQ (fun W1 h1 => HI.out W1 (bl2 BW h1)) (fun W1 h1 => HP.out W1 (bl2 BW h1))
  clear h6
  go_enter Tryz.func15, Tryz.ntmps15
  go_wp2_with fail
  rw [← hW]
  clear hW
  refine HN.out.mono ?_
  rintro e w1 ⟨bm, bts, bt, bf, bc, br, g, rfl, N1⟩
  have HN1 : Hid (NmAt W pace Qk bm bts bt bf bc br g w1) := N1
  have B1 := N1.b
  have X1 := X.later B1
  have Y1 := Y.later B1
  clear N1 HN
  go_wp2_with fail
  refine rgM (fun W => (∀ o, W.cell? ⟨w.heap.size, o, none⟩ = (#[.slice (some ⟨cp, 0, none⟩) 1 pcc] : Array Value)[o]?) ∧ (∀ o, W.cell? ⟨w.heap.size + 1, o, none⟩ = (in0 : Array Value)[o]?)) ⟨X1.cell, Y1.cell⟩ (fun hS => ?_)
  iterate 4 (refine tkM rfl (by kernel_rfl) (by rfl) hS ⟨?_, fun W hW => ?_, ?_⟩; rotate_left; (focus (obtain ⟨y1, y2⟩ := hW; go_simp; with_reducible rfl)); simp only [Act.put, List.getElem_toArray, List.getElem_cons_zero, List.getElem_cons_succ, List.setIfInBounds_toArray, List.set_cons_succ, List.set_cons_zero])
  have X2 : Blk w1.drew w.heap.size #[.slice (some ⟨cp, 0, none⟩) 1 pcc] 26 := X1
  have Y2 : Blk w1.drew (w.heap.size + 1) in0 30 := Y1
  refine doM rfl (by kernel_rfl) (by rfl) (fun K2 hK2 => ?_)
  go_wp2_with fail
  refine (actions_any w1.drew).mono ?_
  rintro e w2 ⟨rfl, B2⟩
  have X3 := X2.later B2
  have Y3 := Y2.later B2
  refine hK2.out _ _ ⟨X3.cell, Y3.cell⟩ (fun hS => ?_)
  clear hK2 K2
  try simp only [Act.put, List.getElem_toArray, List.getElem_cons_zero, List.getElem_cons_succ, List.setIfInBounds_toArray, List.set_cons_succ, List.set_cons_zero]
  refine doM rfl (by kernel_rfl) (by rfl) (fun K2 hK2 => ?_)
  go_wp2_with fail
  refine (builtins_any w2).mono ?_
  rintro e w3 ⟨rfl, B3⟩
  have X4 := X3.later B3
  have Y4 := Y3.later B3
  refine hK2.out _ _ ⟨X4.cell, Y4.cell⟩ (fun hS => ?_)
  clear hK2 K2
  try simp only [Act.put, List.getElem_toArray, List.getElem_cons_zero, List.getElem_cons_succ, List.setIfInBounds_toArray, List.set_cons_succ, List.set_cons_zero]
  refine doM rfl (by kernel_rfl) (by rfl) (fun K2 hK2 => ?_)
  have hbl := build_loom (some ⟨bm, 0, none⟩) (some ⟨cp, 0, none⟩) (some ⟨g, 0, none⟩) none none 1 pcc 1 1 0 0 0 0 1000 1 1000 w3
  refine wp_val (w' := w3) (.agg (lmL (.pointer (some ⟨bm, 0, none⟩)) (.slice (some ⟨cp, 0, none⟩) 1 pcc) (.slice (some ⟨g, 0, none⟩) 1 1) (.slice none 0 0) (.slice none 0 0) 1000 1 1000).toArray) ?bl ?_
  case bl =>
    refine exec_build rfl ?_
    simp only [List.map_toArray, List.map_cons, List.map_nil]
    exact hbl
  obtain ⟨LL, hLL⟩ : ∃ LL, LL = (lmL (.pointer (some ⟨bm, 0, none⟩)) (.slice (some ⟨cp, 0, none⟩) 1 pcc) (.slice (some ⟨g, 0, none⟩) 1 1) (.slice none 0 0) (.slice none 0 0) 1000 1 1000).toArray := ⟨_, rfl⟩
  rw [← hLL]
  refine hK2.out _ _ ⟨X4.cell, Y4.cell⟩ (fun hS => ?_)
  clear hK2 K2 hbl
  try simp only [Act.put, List.getElem_toArray, List.getElem_cons_zero, List.getElem_cons_succ, List.setIfInBounds_toArray, List.set_cons_succ, List.set_cons_zero]
  have HLL : Hid (LL = (lmL (.pointer (some ⟨bm, 0, none⟩)) (.slice (some ⟨cp, 0, none⟩) 1 pcc) (.slice (some ⟨g, 0, none⟩) 1 1) (.slice none 0 0) (.slice none 0 0) 1000 1 1000).toArray) := hLL
  clear hLL
  refine doM rfl (by kernel_rfl) (by rfl) (fun K2 hK2 => ?_)
  go_wp2_with fail
  have X5 := X4.alloc (.cells LL 72)
  have Y5 := Y4.alloc (.cells LL 72)
  have L5 : Blk (w3.alloc (.cells LL 72)) w3.heap.size LL 72 := Blk.new w3 _ _
  have BF : Below w1.heap.size w1 (w3.alloc (.cells LL 72)) := bl2 (bl2 (bl2 (Below.refl _ _).drew B2) B3) ((Below.refl _ _).alloc (Nat.le_refl _) _)
  refine hK2.out _ _ ⟨X5.cell, Y5.cell⟩ (fun hS => ?_)
  clear hK2 K2
  refine tkM rfl (by kernel_rfl) (by rfl) hS ⟨?_, fun W hW => ?_, ?_⟩
  rotate_left
  · go_simp
    with_reducible rfl
  simp only [Act.put, List.getElem_toArray, List.getElem_cons_zero, List.getElem_cons_succ, List.setIfInBounds_toArray, List.set_cons_succ, List.set_cons_zero]
  refine enM (by kernel_rfl) (NoPanic.normal ?_)
  obtain ⟨W6, hW6⟩ : ∃ z, z = w3.alloc (.cells LL 72) := ⟨_, rfl⟩
  rw [← hW6] at L5 BF ⊢
  clear hW6
  go_wp2_with fail
  go_ret
  have h := HN1.out
  refine ⟨w3.heap.size, bm, bts, bt, bf, bc, br, g, rfl, ⟨⟨?_, ?_, ?_, ?_⟩, ?_, h.ts.later BF, h.t.later BF, h.f.later BF, h.c.later BF, h.r.later BF, HQ.out _ _ _ h.q BF, bl2 (bl2 BW h.b) BF⟩, HLL.out ▸ L5⟩
  · exact Nat.le_trans BW.size h.ge.1
  · exact Nat.le_trans BW.size h.ge.2.1
  · exact Nat.le_trans BW.size h.ge.2.2.1
  · exact Nat.le_trans BW.size h.ge.2.2.2
  · obtain ⟨bk, q, hm⟩ := h.m
    exact ⟨bk, q, hm.later BF⟩
end Go.Proofs.YtgopdffmnikhdaaGreatDoor
namespace Go.Proofs.YtgopdffmnikhdaaGreatDoor
open Go.RowKit Go.Deep
/-- **newLoom makes a loom that stands ahead of its first instruction.** -/
theorem newOk (kx cp ck pcc kn kc : Nat) (n pc : Int) (nm : ByteArray) (ln : Int) (u0 i0 n0 : Option Addr) (u1 u2 i1 i2 n1 n2 : Nat) (ka : Array Value) (w : World) (hk : kx ≤ 1) (hkn : kx < kn) (hn1 : 1 ≤ n) (hn : n ≤ 300) (hp0 : 0 ≤ pc) (hp1 : pc ≤ 1000)
    (PB : Blk w cp (pr6 nm ln 6 (.slice u0 u1 u2) (.slice (some ⟨ck, 0, none⟩) kn kc) (.slice i0 i1 i2) (.slice n0 n1 n2)) 54)
    (KB : Blk w ck ka 44) (hka : (∀ j, j < 5 → ka[j]? = (vi 1)[j]?) ∧ ∀ j, j < 5 → ka[kx * 5 + j]? = (vi n)[j]?)
    (HI : Hid (∀ W, Below w.heap.size w W → Calls Tryz.prog 30 #[.agg in0] W fun e w' => e = .returned (.bool true) ∧ Below W.heap.size W w'))
    (HP : Hid (∀ W, Below w.heap.size w W → Calls Tryz.prog 31 #[.agg #[.slice (some ⟨cp, 0, none⟩) 1 pcc]] W fun e w' => ∃ g q : Nat, e = .returned (.agg #[.slice (some ⟨g, 0, none⟩) 1 1, .int .i64 q]) ∧ q = 0 ∧ QkAt kx w' g ∧ Below W.heap.size W w')) :
    NewOk kx n pc #[.slice (some ⟨cp, 0, none⟩) 1 pcc] in0 w := by
  intro W hW
  have PW := PB.later hW
  refine (newLoom0 cp pcc 6 rfl nm ln u0 (some ⟨ck, 0, none⟩) i0 n0 u1 u2 kn kc i1 i2 n1 n2 pc (QkAt kx) W hp0 hp1 (fun i _ => PW.cell i) (fun _ _ _ h hb => h.later hb) (fun W1 h1 => HI.out W1 (bl2 hW h1)) (fun W1 h1 => HP.out W1 (bl2 hW h1))).mono ?_
  rintro e w' ⟨bl, bm, bts, bt, bf, bc, br, g, rfl, N, L⟩
  obtain ⟨qi, ic, A, A2, q1, q2, q3, q4⟩ := N.q
  obtain ⟨bk, q, hm⟩ := N.m
  have PF := PW.later N.b
  have KF := KB.later (bl2 hW N.b)
  refine ⟨⟨bl, bm, bts, bt, bf, bc, br, g, qi, cp, ck, 1, pcc, 1, W.heap.size, W, none⟩, mN pc bts bk q, cN br, tN bf, rfl, rfl, rfl, rfl, ⟨hk, Nat.le_refl _, hn1, hn, hp0⟩, ?_⟩
  refine (⟨⟨⟨_, L, lmL_lm bm cp g pcc, lmL_la _ _ _ _ _ _ _ _⟩, ⟨A, q1, ic, q2⟩, ⟨A2, q3, q4⟩, ⟨_, PF, ⟨kn, kc, rfl, hkn⟩, 0, rfl⟩, ⟨ka, KF, hka⟩, N.ts, ⟨_, N.f, rfl⟩, N.b, ⟨N.ge.2.2.2, N.ge.2.2.1, N.ge.2.1, N.ge.1⟩, fun _ h => nomatch h⟩, N.c, N.r, N.t, .slice none 0 0, .slice none 0 0, [], 0, ⟨hm, World.ownsRow_nil _ _ _ _, .inl ⟨rfl, none, 0, rfl⟩, fun _ h => by simp [Value.ownBlock] at h, N.ge.1⟩, fun j hj => by omega, fun _ h => nomatch h⟩ : RS ⟨bl, bm, bts, bt, bf, bc, br, g, qi, cp, ck, 1, pcc, 1, W.heap.size, W, none⟩ kx n pc (mR (mN pc bts bk q)) (cN br) (tN bf) 0 (rA .none .none .none .none) none 0 0 0 0 0 w')
attribute [local go_sem] run_store_float vi
theorem eltVa : Elt 50 44 (.agg #[.int .i64 0, .int .i64 0, .float .f64 0, .string ByteArray.empty, .int .i64 0]) 5 48 := ⟨Tryz.underlying50, by kernel_rfl, rfl, by decide⟩
theorem eltIn : Elt 51 48 (.agg #[.int .i64 0, .int .i64 0, .int .i64 0, .int .i64 0, .int .i64 0]) 5 40 := ⟨Tryz.underlying51, by kernel_rfl, rfl, by decide⟩
/-- An instruction of a code that is being made. -/
structure I5 where
  (o a b c d : Int)
abbrev I5.vals (x : I5) : List Value := [.int .i64 x.o, .int .i64 x.a, .int .i64 x.b, .int .i64 x.c, .int .i64 x.d]
abbrev kvs (ks : List Int) : List Value := ks.flatMap fun x => (vi x).toList
abbrev ivs (ns : List I5) : List Value := ns.flatMap I5.vals
abbrev pnA (r : Nat) (kv qv tv : Value) : Array Value := #[.string ⟨#[109, 97, 105, 110]⟩, .int .i64 0, .int .i64 0, .bool false, .int .i64 r, .slice none 0 0, kv, qv, .slice none 0 0, tv, .int .i64 0, .int .i64 0]
/-- A pen: a code that is being made. -/
structure PnAt (w : World) (lo bp r : Nat) (ks : List Int) (ns : List I5) : Prop where
  v : ∃ kv qv tv, Blk w bp (pnA r kv qv tv) 57 ∧ w.ownsRow lo 44 5 kv ks.length (kvs ks) ∧ w.ownsRow lo 48 5 qv ns.length (ivs ns)
  lb : lo ≤ bp
theorem PnAt.later {w w' : World} {lo bp r : Nat} {ks : List Int} {ns : List I5} (h : PnAt w lo bp r ks ns) (hb : Below w.heap.size w w') : PnAt w' lo bp r ks ns :=
  let ⟨kv, qv, tv, h1, h2, h3⟩ := h.v
  ⟨⟨kv, qv, tv, h1.later hb, owns_below h2 hb, owns_below h3 hb⟩, h.lb⟩
theorem own_ty {w : World} {lo e s n : Nat} {v : Value} {xs : List Value} (h : w.ownsRow lo e s v n xs) {k : Nat} (hk : v.ownBlock = some k) : ∃ (c : Array Value) (f : Nat × Nat), w.heap[k]? = some (Obj.cells c e f) := by
  rcases owns_parts h with ⟨rfl, _, _⟩ | ⟨g', c, rfl, _, ⟨d, hd, _⟩, _, _⟩
  · simp [Value.ownBlock] at hk
  · simp [Value.ownBlock] at hk
    subst hk
    exact ⟨d, _, hd⟩
theorem rows_ne {w : World} {l1 l2 e1 e2 s1 s2 n1 n2 : Nat} {v1 v2 : Value} {xs ys : List Value} (h : w.ownsRow l1 e1 s1 v1 n1 xs) (g : w.ownsRow l2 e2 s2 v2 n2 ys) (ht : e1 ≠ e2) {k : Nat} (hk : v1.ownBlock = some k) : k ∉ v2.ownBlock.toList := fun hm => by
  obtain ⟨c, f, h1⟩ := own_ty h hk
  obtain ⟨c', f', h2⟩ := own_ty g (k := k) (by simpa using hm)
  have e := h1.symm.trans h2
  injection e with e
  injection e with _ e
  exact ht e
theorem l1int_any (x : Int) (w : World) : Calls Tryz.prog 12 #[.int .i64 x] w fun e w' => e = .returned (.agg (vi x)) ∧ Below w.heap.size w w' := by
  go_enter Tryz.func12, Tryz.ntmps12
  go_wp2_with fail
  exact bodyPost_ret (v := .agg (vi x)) (by simp [results, Tryz.results12, go_sem]; rfl) rfl ⟨rfl, (Below.refl _ _).alloc (Nat.le_refl _) _⟩
set_option maxHeartbeats 4000000 in
theorem penPut (bp lo r : Nat) (ks : List Int) (ns : List I5) (o a b c d : Int) (w : World) (hn : ns.length ≤ 100) (N : PnAt w lo bp r ks ns) : Calls Tryz.prog 10 #[pl bp, .int .i64 o, .int .i64 a, .int .i64 b, .int .i64 c, .int .i64 d] w fun e w' => e = .returned (.int .i64 ns.length) ∧ PnAt w' lo bp r ks (ns ++ [⟨o, a, b, c, d⟩]) ∧ Below lo w w' := by
  obtain ⟨⟨kv, qv, tv, hB, hK, hR⟩, hlb⟩ := N
  obtain ⟨so, sc, rfl⟩ := owns_slice hR
  obtain ⟨L, hL⟩ : ∃ L, L = ns.length := ⟨_, rfl⟩
  rw [← hL] at hn hR hB ⊢
  have hlo : lo ≤ w.heap.size := Nat.le_trans hlb (Nat.le_of_lt hB.lt)
  have HK : Hid (w.ownsRow lo 44 5 kv ks.length (kvs ks)) := hK
  have HR : Hid (w.ownsRow lo 48 5 (.slice so L sc) L (ivs ns)) := hR
  have HL : Hid (L = ns.length) := hL
  have HB : Hid (Blk w bp (pnA r kv (.slice so L sc) tv) 57) := hB
  have x := hB.cell
  clear hK hR hL hB
  go_enter Tryz.func10, Tryz.ntmps10
  go_wp2_with (at_builtin; refine app_one eltIn rfl _ _ rfl lo _ L _ (I5.vals ⟨o, a, b, c, d⟩) w.heap.size rfl (owns_below HR.out ((Below.refl _ _).alloc (Nat.le_refl _) _)) rfl ?qc0 rfl ?qc1 ?qc2 (by decide) ?qc3 ?_)
  case qc0 => exact fun k v hv => by rw [Nat.zero_add, (Blk.new w (I5.vals ⟨o, a, b, c, d⟩).toArray 48).cell]; simpa using hv
  case qc1 => simp [Value.oneCell']
  case qc2 => omega
  case qc3 => simp; omega
  intro v' w3 ho3 hg3 h5
  obtain ⟨so', sc', rfl⟩ := owns_slice ho3
  have A0 : Below w.heap.size w (w.alloc (.cells (I5.vals ⟨o, a, b, c, d⟩).toArray 48)) := (Below.refl _ _).alloc (Nat.le_refl _) _
  have R1 := owns_below HR.out A0
  have K1 := owns_below HK.out A0
  have gC : Chg (Value.slice so L sc).ownBlock.toList (w.alloc (.cells (I5.vals ⟨o, a, b, c, d⟩).toArray 48)) w3 := Chg.grown hg3 (fun k hk => by rw [hk]; simp)
  have B3 := (HB.out.alloc (.cells (I5.vals ⟨o, a, b, c, d⟩).toArray 48)).chg gC (row_ne2 R1 (HB.out.alloc _) (by decide))
  have K3 := owns_other K1 (fun k hk => gC.block k (rows_ne K1 R1 (by decide) hk) (K1.lt k hk).2)
  have hb3 : Below lo w w3 := (A0.mono hlo).trans (gC.low (by simp; omega) (fun q hq => (R1.lt q (by simpa using hq)).1))
  have C4 : Chg [bp] w3 (w3.setCell ⟨bp, 7, none⟩ (.slice so' (L + 1) sc')) := (Chg.refl _ _).set (by simp) _ _
  have B4 := B3.set 7 (.slice so' (L + 1) sc')
  have K4 := owns_other K3 (fun k hk => C4.block k (by intro e; simp at e; subst e; exact row_ne2 K3 B3 (by decide) (by simp [hk])) (K3.lt k hk).2)
  have Q4 := owns_other ho3 (fun k hk => C4.block k (by intro e; simp at e; subst e; exact row_ne2 ho3 B3 (by decide) (by simp [hk])) (ho3.lt k hk).2)
  have hF : PnAt (w3.setCell ⟨bp, 7, none⟩ (.slice so' (L + 1) sc')) lo bp r ks (ns ++ [⟨o, a, b, c, d⟩]) ∧ Below lo w (w3.setCell ⟨bp, 7, none⟩ (.slice so' (L + 1) sc')) := by
    refine ⟨⟨⟨kv, .slice so' (L + 1) sc', tv, B4, K4, ?_⟩, hlb⟩, hb3.setCell (p := ⟨bp, 7, none⟩) hlb _⟩
    rw [HL.out] at Q4 ⊢
    simpa [ivs] using Q4
  have HF : Hid (PnAt (w3.setCell ⟨bp, 7, none⟩ (.slice so' (L + 1) sc')) lo bp r ks (ns ++ [⟨o, a, b, c, d⟩]) ∧ Below lo w (w3.setCell ⟨bp, 7, none⟩ (.slice so' (L + 1) sc'))) := hF
  have x3 := B3.cell
  have f3 := B3.frozen
  have x4 := B4.cell
  have ew : IntKind.i64.wrap (((L + 1 : Nat) : Int) - 1) = L := by rw [wq (by omega) (by omega)]; omega
  have ew2 : IntKind.i64.wrap ((L : Int) + 1 - 1) = L := by rw [wq (by omega) (by omega)]; omega
  clear hF B4 K4 Q4 C4 hb3 K3 B3 gC K1 R1 hg3 ho3 h5 x
  go_wp2_with fail
  go_ret
  exact ⟨rfl, HF.out⟩
theorem penAt (bp lo r : Nat) (ks : List Int) (ns : List I5) (w : World) (N : PnAt w lo bp r ks ns) : Calls Tryz.prog 13 #[pl bp] w fun e w' => e = .returned (.int .i64 ns.length) ∧ w' = w := by
  obtain ⟨⟨kv, qv, tv, hB, hK, hR⟩, hlb⟩ := N
  obtain ⟨so, sc, rfl⟩ := owns_slice hR
  have x := hB.cell
  clear hR hK
  generalize ns.length = L at *
  go_enter Tryz.func13, Tryz.ntmps13
  go_wp2_with fail
  go_ret
  exact ⟨rfl, rfl⟩
theorem penBack (bp lo r : Nat) (ks : List Int) (ns : List I5) (w : World) (hn : ns.length ≤ 90) (N : PnAt w lo bp r ks ns) : Calls Tryz.prog 14 #[pl bp, .int .i64 3] w fun e w' => e = .returned (.tuple #[]) ∧ PnAt w' lo bp r ks (ns ++ [⟨22, 3, 0, 0, 0⟩] ++ [⟨29, -4, 0, 0, 0⟩]) ∧ Below lo w w' := by
  have HN : Hid (PnAt w lo bp r ks ns) := N
  clear N
  go_enter Tryz.func14, Tryz.ntmps14
  go_wp2_with fail
  refine (penPut bp lo r ks ns 22 3 0 0 0 w (by omega) HN.out).mono ?_
  rintro e w1 ⟨rfl, N1, B1⟩
  have HN1 : Hid (PnAt w1 lo bp r ks (ns ++ [⟨22, 3, 0, 0, 0⟩])) := N1
  clear N1
  go_wp2_with fail
  refine (penPut bp lo r ks (ns ++ [⟨22, 3, 0, 0, 0⟩]) 29 (-4) 0 0 0 w1 (by simp; omega) HN1.out).mono ?_
  rintro e w2 ⟨rfl, N2, B2⟩
  go_wp2_with fail
  go_end0
  exact ⟨rfl, N2, B1.trans B2⟩
end Go.Proofs.YtgopdffmnikhdaaGreatDoor
namespace Go.Proofs.YtgopdffmnikhdaaGreatDoor
open Go.RowKit Go.Deep
attribute [local go_sem] run_store_float vi
set_option maxRecDepth 8000 in
set_option maxHeartbeats 4000000 in
theorem pen0 (r : Nat) (h6 : r = 6) (w : World) : Calls Tryz.prog 9 #[.int .i64 r] w fun e w' => ∃ bp, e = .returned (pl bp) ∧ PnAt w' w.heap.size bp 6 [] [] ∧ Below w.heap.size w w' := by
  have H6 : Hid (r = 6) := h6
  have hs : r ≤ 6 := by omega
  clear h6
  have hmk := fun W => run_make_k (P := Tryz.prog) 55 3 _ 1 8 Tryz.underlying55 Tryz.info_int .i64 .i64 r (by omega) (by omega) W
  go_enter Tryz.func9, Tryz.ntmps9
  go_wp2_with fail
  obtain rfl := H6.out
  go_ret
  exact ⟨w.heap.size + 1, rfl, ⟨⟨.slice none 0 0, .slice none 0 0, _, Blk.newHere _ _ (by simp), World.ownsRow_nil _ _ _ _, World.ownsRow_nil _ _ _ _⟩, by omega⟩, bl2 ((Below.refl _ _).alloc (Nat.le_refl _) _) ((Below.refl _ _).alloc (Nat.le_refl _) _)⟩
end Go.Proofs.YtgopdffmnikhdaaGreatDoor
