import Derived.Test.YtgiflmnfnoildaaGreatDoorM31
import Derived.Deep.RegionHeld3
namespace Go.Proofs.YtgiflmnfnoildaaGreatDoor
open Go.RowKit Go.Deep
set_option maxRecDepth 1000000 in
set_option maxHeartbeats 8000000 in
theorem stp_r4c (vb x5 x6 x7 x8:Nat) (bN pb pof m ac ccap uc:Nat) (ub:Bool) (ao uo:Option Addr) (ps:List Pd) (us:List Ud) (t0 t1 t2 t3:TypeId) (v0 v1 v2 v3:Value) (w:World) (c1 c2 c3 c4 c9 c10 c11 c12 c13 c14 c15 c16 c17 c18 c19 c20 c21 c22 c23 c24 c25 c26 c27 c28 c29 c30 c31 c32 c33 c34 c35 c36 c37 c38 c39 c40 c41 c42 c43 c44 c45 c46 c47 c48 c49 c50 c51 c52 c53 c54 c55 c56 c57 c58 c59 c60 c61 c62 c63 c64 c65 c66 c67 c68 c69 c70 c71 c72 c73 c74 c75 c76 c77 c78 c79 c80 c81 c82 c83 c84 c85 c86 c87 c88 c89 c90 c91 c92 c93 c94 c95 c96 c97 c98 c99 c100:Value) (Q:Exit→Act→World→Prop) (PO:World→Prop)
  (hq:∀(u40 u41 u42 u43 u44 u45 u46 u47 u48 u49 u50 u51 u52 u53 u54 u55 u56 u57 u58 u59 u60 u61 u62 u63:Value) (wx:World),PO wx→Q .normal ⟨List.toArray (.pointer (some ⟨vb,0,none⟩)::c1::c2::c3::c4::.pointer (some ⟨x5,0,none⟩)::.pointer (some ⟨x6,0,none⟩)::.pointer (some ⟨x7,0,none⟩)::.pointer (some ⟨x8,0,none⟩)::c9::c10::c11::c12::c13::c14::c15::c16::c17::c18::c19::c20::c21::c22::c23::c24::c25::c26::c27::c28::c29::c30::c31::c32::c33::c34::c35::c36::c37::c38::.bool (!ub)::u40::u41::u42::u43::u44::u45::u46::u47::u48::u49::u50::u51::u52::u53::u54::u55::u56::u57::u58::u59::u60::u61::u62::u63::c64::c65::c66::c67::c68::c69::c70::c71::c72::c73::c74::c75::c76::c77::c78::c79::c80::c81::c82::c83::c84::c85::c86::c87::c88::c89::c90::c91::c92::c93::c94::c95::c96::c97::c98::c99::c100::[]),[]⟩ wx)
  (hall:Calls Tryz.prog 185 #[.pointer (some ⟨x8,0,none⟩),.agg #[.iface t0 v0,.iface t1 v1,.iface t2 v2,.iface t3 v3]] w.drew fun e w'=>e=.returned (.bool true)∧PO w'∧w'.cell? ⟨x7,0,none⟩=some (.iface t0 v0)∧w'.cell? ⟨x7,1,none⟩=some (.iface t1 v1)∧w'.cell? ⟨x7,2,none⟩=some (.iface t2 v2)∧w'.cell? ⟨x7,3,none⟩=some (.iface t3 v3)∧w'.cell? ⟨x5,0,none⟩=some (.int .i64 11)∧w'.cell? ⟨x5,2,none⟩=some (.int .i64 bN)∧w'.cell? ⟨x6,1,none⟩=some (.slice ao m ac)∧w'.cell? ⟨vb,0,none⟩=some (.slice (some ⟨pb,pof,none⟩) ps.length ccap)∧w'.cell? ⟨pb,pof+bN*9+5,none⟩=some (.slice uo us.length uc))
  (hup:∀W,PO W→W.cell? ⟨x7,0,none⟩=some (.iface t0 v0)∧W.cell? ⟨x7,1,none⟩=some (.iface t1 v1)∧W.cell? ⟨x7,2,none⟩=some (.iface t2 v2)∧W.cell? ⟨x7,3,none⟩=some (.iface t3 v3)∧W.cell? ⟨x5,0,none⟩=some (.int .i64 11)∧W.cell? ⟨x5,2,none⟩=some (.int .i64 bN)∧W.cell? ⟨x6,1,none⟩=some (.slice ao m ac)∧W.cell? ⟨vb,0,none⟩=some (.slice (some ⟨pb,pof,none⟩) ps.length ccap)∧W.cell? ⟨pb,pof+bN*9+5,none⟩=some (.slice uo us.length uc)→Calls Tryz.prog 186 #[.slice ao m ac,.slice uo us.length uc] W fun e w'=>e=.returned (.bool ub)∧PO w'∧w'.cell? ⟨x7,0,none⟩=some (.iface t0 v0)∧w'.cell? ⟨x7,1,none⟩=some (.iface t1 v1)∧w'.cell? ⟨x7,2,none⟩=some (.iface t2 v2)∧w'.cell? ⟨x7,3,none⟩=some (.iface t3 v3)∧w'.cell? ⟨x5,0,none⟩=some (.int .i64 11)∧w'.cell? ⟨x5,2,none⟩=some (.int .i64 bN)∧w'.cell? ⟨x6,1,none⟩=some (.slice ao m ac)∧w'.cell? ⟨vb,0,none⟩=some (.slice (some ⟨pb,pof,none⟩) ps.length ccap)∧w'.cell? ⟨pb,pof+bN*9+5,none⟩=some (.slice uo us.length uc))
  (_hbn:(bN:Int)<ps.length)
  (hS0:w.drew.cell? ⟨x7,0,none⟩=some (.iface t0 v0)∧w.drew.cell? ⟨x7,1,none⟩=some (.iface t1 v1)∧w.drew.cell? ⟨x7,2,none⟩=some (.iface t2 v2)∧w.drew.cell? ⟨x7,3,none⟩=some (.iface t3 v3)∧w.drew.cell? ⟨x5,0,none⟩=some (.int .i64 11)∧w.drew.cell? ⟨x5,2,none⟩=some (.int .i64 bN)∧w.drew.cell? ⟨x6,1,none⟩=some (.slice ao m ac)∧w.drew.cell? ⟨vb,0,none⟩=some (.slice (some ⟨pb,pof,none⟩) ps.length ccap)∧w.drew.cell? ⟨pb,pof+bN*9+5,none⟩=some (.slice uo us.length uc)) :
  Code.wp Tryz.prog pcS4 Q ⟨List.toArray (.pointer (some ⟨vb,0,none⟩)::c1::c2::c3::c4::.pointer (some ⟨x5,0,none⟩)::.pointer (some ⟨x6,0,none⟩)::.pointer (some ⟨x7,0,none⟩)::.pointer (some ⟨x8,0,none⟩)::c9::c10::c11::c12::c13::c14::c15::c16::c17::c18::c19::c20::c21::c22::c23::c24::c25::c26::c27::c28::c29::c30::c31::c32::c33::c34::c35::c36::c37::c38::c39::c40::c41::c42::c43::c44::c45::c46::c47::c48::c49::c50::c51::c52::c53::c54::c55::c56::c57::c58::c59::c60::c61::c62::c63::c64::c65::c66::c67::c68::c69::c70::c71::c72::c73::c74::c75::c76::c77::c78::c79::c80::c81::c82::c83::c84::c85::c86::c87::c88::c89::c90::c91::c92::c93::c94::c95::c96::c97::c98::c99::c100::[]),[]⟩ w:=by
 conv=>arg 2;whnf
 have HQ:Hid _:=hq
 clear hq
 refine wp_region_noPanic ?_
 refine wp_region_held_drew (S:=fun w'=>w'.cell? ⟨x7,0,none⟩=some (.iface t0 v0)∧w'.cell? ⟨x7,1,none⟩=some (.iface t1 v1)∧w'.cell? ⟨x7,2,none⟩=some (.iface t2 v2)∧w'.cell? ⟨x7,3,none⟩=some (.iface t3 v3)∧w'.cell? ⟨x5,0,none⟩=some (.int .i64 11)∧w'.cell? ⟨x5,2,none⟩=some (.int .i64 bN)∧w'.cell? ⟨x6,1,none⟩=some (.slice ao m ac)∧w'.cell? ⟨vb,0,none⟩=some (.slice (some ⟨pb,pof,none⟩) ps.length ccap)∧w'.cell? ⟨pb,pof+bN*9+5,none⟩=some (.slice uo us.length uc)) (by kernel_rfl) hS0 (fun hSa=>?_)
 refine wpAnyH_take (i := 0) (oi := ({ dst := some 40, op := Op.load 296 (Operand.tmp 7), type := 296, pos := "l1_given.go:1129", after := #[], guard := none } : Oper)) (v := ?v0) rfl (by kernel_rfl) (by kernel_rfl) (by kernel_rfl) (fun _ _ _ h => h) (Or.inl ⟨by rfl, ?hy0⟩) hSa ?rest0
 case hy0=>(intro w' hSw;(try dsimp only at hSw);go_simp;try with_reducible rfl)
 case rest0=>
 try simp only [Act.put,List.setIfInBounds_toArray,List.set_cons_zero,List.set_cons_succ]
 refine wpAnyH_ready (rs:=[1]) (by kernel_rfl) (by simp) ?_
 refine AllReadyH.cons (o := ({ dst := some 41, op := Op.call { callee := Callee.value (Operand.func 185), args := #[Operand.tmp 8, Operand.tmp 40], argTypes := #[299, 296] }, type := 4, pos := "l1_given.go:1129", after := #[{ on := 0, ground := Ground.data }], guard := none } : Oper)) rfl (fun K hK => ?_) AllReadyH.nil
 go_simp
 refine (hall).mono ?_
 rintro e w2 ⟨rfl,hpo,hS2⟩
 go_wp2_with fail
 refine hK.out _ _ ?_ (fun hSb=>?_)
 ·exact hS2
 clear hK K
 try simp only [Act.put,List.setIfInBounds_toArray,List.set_cons_zero,List.set_cons_succ]
 refine wpAnyH_take (i := 2) (oi := ({ dst := some 42, op := Op.unOp UnOp.not 4 (Operand.tmp 41), type := 4, pos := "l1_given.go:1129", after := #[{ on := 1, ground := Ground.data }], guard := none } : Oper)) (v := ?v2) rfl (by kernel_rfl) (by kernel_rfl) (by kernel_rfl) (fun _ _ _ h => h) (Or.inl ⟨by rfl, ?hy2⟩) hSb ?rest2
 case hy2=>(intro w' hSw;(try dsimp only at hSw);go_simp;try with_reducible rfl)
 case rest2=>
 try simp only [Act.put,List.setIfInBounds_toArray,List.set_cons_zero,List.set_cons_succ]
 refine wpAnyH_take (i := 3) (oi := ({ dst := some 43, op := Op.move (Operand.tmp 42), type := 4, pos := "l1_given.go:1129", after := #[{ on := 2, ground := Ground.data }, { on := 1, ground := Ground.chain }], guard := none } : Oper)) (v := ?v3) rfl (by kernel_rfl) (by kernel_rfl) (by kernel_rfl) (fun _ _ _ h => h) (Or.inl ⟨by rfl, ?hy3⟩) hSb ?rest3
 case hy3=>(intro w' hSw;(try dsimp only at hSw);go_simp;try with_reducible rfl)
 case rest3=>
 try simp only [Act.put,List.setIfInBounds_toArray,List.set_cons_zero,List.set_cons_succ]
 refine wpAnyH_take (i := 4) (oi := ({ dst := some 44, op := Op.fieldAddr 81 (Operand.tmp 5) 0, type := 0, pos := "l1_given.go:1129", after := #[{ on := 3, ground := Ground.guard }], guard := some (3, false) } : Oper)) (v := ?v4) rfl (by kernel_rfl) (by kernel_rfl) (by kernel_rfl) (fun _ _ _ h => h) (Or.inl ⟨by rfl, ?hy4⟩) hSb ?rest4
 case hy4=>(intro w' hSw;(try dsimp only at hSw);go_simp;try with_reducible rfl)
 case rest4=>
 try simp only [Act.put,List.setIfInBounds_toArray,List.set_cons_zero,List.set_cons_succ]
 refine wpAnyH_take (i := 5) (oi := ({ dst := some 45, op := Op.load 3 (Operand.tmp 44), type := 3, pos := "l1_given.go:1129", after := #[{ on := 4, ground := Ground.data }, { on := 3, ground := Ground.guard }], guard := some (3, false) } : Oper)) (v := ?v5) rfl (by kernel_rfl) (by kernel_rfl) (by kernel_rfl) (fun _ _ _ h => h) (Or.inl ⟨by rfl, ?hy5⟩) hSb ?rest5
 case hy5=>(intro w' hSw;(try dsimp only at hSw);go_simp;try with_reducible rfl)
 case rest5=>
 try simp only [Act.put,List.setIfInBounds_toArray,List.set_cons_zero,List.set_cons_succ]
 refine wpAnyH_take (i := 6) (oi := ({ dst := some 46, op := Op.binOp BinOp.eql 3 (Operand.tmp 45) (Operand.const (Value.int IntKind.i64 11)) 3, type := 4, pos := "l1_given.go:1129", after := #[{ on := 5, ground := Ground.data }, { on := 3, ground := Ground.guard }], guard := some (3, false) } : Oper)) (v := ?v6) rfl (by kernel_rfl) (by kernel_rfl) (by kernel_rfl) (fun _ _ _ h => h) (Or.inl ⟨by rfl, ?hy6⟩) hSb ?rest6
 case hy6=>(intro w' hSw;(try dsimp only at hSw);go_simp;try with_reducible rfl)
 case rest6=>
 try simp only [Act.put,List.setIfInBounds_toArray,List.set_cons_zero,List.set_cons_succ]
 refine wpAnyH_take (i := 7) (oi := ({ dst := some 47, op := Op.move (Operand.tmp 46), type := 4, pos := "l1_given.go:1129", after := #[{ on := 6, ground := Ground.data }, { on := 3, ground := Ground.chain }, { on := 3, ground := Ground.guard }], guard := some (3, false) } : Oper)) (v := ?v7) rfl (by kernel_rfl) (by kernel_rfl) (by kernel_rfl) (fun _ _ _ h => h) (Or.inl ⟨by rfl, ?hy7⟩) hSb ?rest7
 case hy7=>(intro w' hSw;(try dsimp only at hSw);go_simp;try with_reducible rfl)
 case rest7=>
 try simp only [Act.put,List.setIfInBounds_toArray,List.set_cons_zero,List.set_cons_succ]
 refine wpAnyH_take (i := 8) (oi := ({ dst := some 48, op := Op.fieldAddr 146 (Operand.tmp 6) 1, type := 0, pos := "l1_given.go:1129", after := #[{ on := 7, ground := Ground.guard }], guard := some (7, true) } : Oper)) (v := ?v8) rfl (by kernel_rfl) (by kernel_rfl) (by kernel_rfl) (fun _ _ _ h => h) (Or.inl ⟨by rfl, ?hy8⟩) hSb ?rest8
 case hy8=>(intro w' hSw;(try dsimp only at hSw);go_simp;try with_reducible rfl)
 case rest8=>
 try simp only [Act.put,List.setIfInBounds_toArray,List.set_cons_zero,List.set_cons_succ]
 refine wpAnyH_take (i := 9) (oi := ({ dst := some 49, op := Op.load 99 (Operand.tmp 48), type := 99, pos := "l1_given.go:1129", after := #[{ on := 8, ground := Ground.data }, { on := 7, ground := Ground.guard }], guard := some (7, true) } : Oper)) (v := ?v9) rfl (by kernel_rfl) (by kernel_rfl) (by kernel_rfl) (fun _ _ _ h => h) (Or.inl ⟨by rfl, ?hy9⟩) hSb ?rest9
 case hy9=>(intro w' hSw;(try dsimp only at hSw);go_simp;try with_reducible rfl)
 case rest9=>
 try simp only [Act.put,List.setIfInBounds_toArray,List.set_cons_zero,List.set_cons_succ]
 refine wpAnyH_take (i := 10) (oi := ({ dst := some 50, op := Op.move (Operand.tmp 0), type := 166, pos := "l1_given.go:1129", after := #[{ on := 7, ground := Ground.guard }], guard := some (7, true) } : Oper)) (v := ?v10) rfl (by kernel_rfl) (by kernel_rfl) (by kernel_rfl) (fun _ _ _ h => h) (Or.inl ⟨by rfl, ?hy10⟩) hSb ?rest10
 case hy10=>(intro w' hSw;(try dsimp only at hSw);go_simp;try with_reducible rfl)
 case rest10=>
 try simp only [Act.put,List.setIfInBounds_toArray,List.set_cons_zero,List.set_cons_succ]
 refine wpAnyH_take (i := 11) (oi := ({ dst := some 51, op := Op.nilCheck (Operand.tmp 50), type := 0, pos := "l1_given.go:1129", after := #[{ on := 10, ground := Ground.data }, { on := 7, ground := Ground.guard }], guard := some (7, true) } : Oper)) (v := ?v11) rfl (by kernel_rfl) (by kernel_rfl) (by kernel_rfl) (fun _ _ _ h => h) (Or.inl ⟨by rfl, ?hy11⟩) hSb ?rest11
 case hy11=>(intro w' hSw;(try dsimp only at hSw);go_simp;try with_reducible rfl)
 case rest11=>
 try simp only [Act.put,List.setIfInBounds_toArray,List.set_cons_zero,List.set_cons_succ]
 refine wpAnyH_take (i := 12) (oi := ({ dst := some 52, op := Op.fieldAddr 168 (Operand.tmp 51) 0, type := 0, pos := "l1_given.go:1129", after := #[{ on := 11, ground := Ground.data }, { on := 7, ground := Ground.guard }], guard := some (7, true) } : Oper)) (v := ?v12) rfl (by kernel_rfl) (by kernel_rfl) (by kernel_rfl) (fun _ _ _ h => h) (Or.inl ⟨by rfl, ?hy12⟩) hSb ?rest12
 case hy12=>(intro w' hSw;(try dsimp only at hSw);go_simp;try with_reducible rfl)
 case rest12=>
 try simp only [Act.put,List.setIfInBounds_toArray,List.set_cons_zero,List.set_cons_succ]
 refine wpAnyH_take (i := 13) (oi := ({ dst := some 53, op := Op.fieldAddr 31 (Operand.tmp 52) 0, type := 0, pos := "l1_given.go:1129", after := #[{ on := 12, ground := Ground.data }, { on := 7, ground := Ground.guard }], guard := some (7, true) } : Oper)) (v := ?v13) rfl (by kernel_rfl) (by kernel_rfl) (by kernel_rfl) (fun _ _ _ h => h) (Or.inl ⟨by rfl, ?hy13⟩) hSb ?rest13
 case hy13=>(intro w' hSw;(try dsimp only at hSw);go_simp;try with_reducible rfl)
 case rest13=>
 try simp only [Act.put,List.setIfInBounds_toArray,List.set_cons_zero,List.set_cons_succ]
 refine wpAnyH_take (i := 14) (oi := ({ dst := some 54, op := Op.load 29 (Operand.tmp 53), type := 29, pos := "l1_given.go:1129", after := #[{ on := 13, ground := Ground.data }, { on := 7, ground := Ground.guard }], guard := some (7, true) } : Oper)) (v := ?v14) rfl (by kernel_rfl) (by kernel_rfl) (by kernel_rfl) (fun _ _ _ h => h) (Or.inl ⟨by rfl, ?hy14⟩) hSb ?rest14
 case hy14=>(intro w' hSw;(try dsimp only at hSw);go_simp;try with_reducible rfl)
 case rest14=>
 try simp only [Act.put,List.setIfInBounds_toArray,List.set_cons_zero,List.set_cons_succ]
 refine wpAnyH_take (i := 15) (oi := ({ dst := some 55, op := Op.fieldAddr 81 (Operand.tmp 5) 2, type := 0, pos := "l1_given.go:1129", after := #[{ on := 7, ground := Ground.guard }], guard := some (7, true) } : Oper)) (v := ?v15) rfl (by kernel_rfl) (by kernel_rfl) (by kernel_rfl) (fun _ _ _ h => h) (Or.inl ⟨by rfl, ?hy15⟩) hSb ?rest15
 case hy15=>(intro w' hSw;(try dsimp only at hSw);go_simp;try with_reducible rfl)
 case rest15=>
 try simp only [Act.put,List.setIfInBounds_toArray,List.set_cons_zero,List.set_cons_succ]
 refine wpAnyH_take (i := 16) (oi := ({ dst := some 56, op := Op.load 3 (Operand.tmp 55), type := 3, pos := "l1_given.go:1129", after := #[{ on := 15, ground := Ground.data }, { on := 7, ground := Ground.guard }], guard := some (7, true) } : Oper)) (v := ?v16) rfl (by kernel_rfl) (by kernel_rfl) (by kernel_rfl) (fun _ _ _ h => h) (Or.inl ⟨by rfl, ?hy16⟩) hSb ?rest16
 case hy16=>(intro w' hSw;(try dsimp only at hSw);go_simp;try with_reducible rfl)
 case rest16=>
 try simp only [Act.put,List.setIfInBounds_toArray,List.set_cons_zero,List.set_cons_succ]
 refine wpAnyH_take (i := 17) (oi := ({ dst := some 57, op := Op.indexAddr 29 (Operand.tmp 54) (Operand.tmp 56), type := 0, pos := "l1_given.go:1129", after := #[{ on := 14, ground := Ground.data }, { on := 16, ground := Ground.data }, { on := 7, ground := Ground.guard }], guard := some (7, true) } : Oper)) (v := ?v17) rfl (by kernel_rfl) (by kernel_rfl) (by kernel_rfl) (fun _ _ _ h => h) (Or.inl ⟨by rfl, ?hy17⟩) hSb ?rest17
 case hy17=>(intro w' hSw;(try dsimp only at hSw);go_simp;try with_reducible rfl)
 case rest17=>
 try simp only [Act.put,List.setIfInBounds_toArray,List.set_cons_zero,List.set_cons_succ]
 refine wpAnyH_take (i := 18) (oi := ({ dst := some 58, op := Op.fieldAddr 77 (Operand.tmp 57) 5, type := 0, pos := "l1_given.go:1129", after := #[{ on := 17, ground := Ground.data }, { on := 7, ground := Ground.guard }], guard := some (7, true) } : Oper)) (v := ?v18) rfl (by kernel_rfl) (by kernel_rfl) (by kernel_rfl) (fun _ _ _ h => h) (Or.inl ⟨by rfl, ?hy18⟩) hSb ?rest18
 case hy18=>(intro w' hSw;(try dsimp only at hSw);go_simp;try with_reducible rfl)
 case rest18=>
 try simp only [Act.put,List.setIfInBounds_toArray,List.set_cons_zero,List.set_cons_succ]
 refine wpAnyH_take (i := 19) (oi := ({ dst := some 59, op := Op.load 73 (Operand.tmp 58), type := 73, pos := "l1_given.go:1129", after := #[{ on := 18, ground := Ground.data }, { on := 7, ground := Ground.guard }], guard := some (7, true) } : Oper)) (v := ?v19) rfl (by kernel_rfl) (by kernel_rfl) (by kernel_rfl) (fun _ _ _ h => h) (Or.inl ⟨by rfl, ?hy19⟩) hSb ?rest19
 case hy19=>(intro w' hSw;(try dsimp only at hSw);go_simp;try with_reducible rfl)
 case rest19=>
 try simp only [Act.put,List.setIfInBounds_toArray,List.set_cons_zero,List.set_cons_succ]
 refine wpAnyH_ready (rs:=[20]) (by kernel_rfl) (by simp) ?_
 refine AllReadyH.cons (o := ({ dst := some 60, op := Op.call { callee := Callee.value (Operand.func 186), args := #[Operand.tmp 49, Operand.tmp 59], argTypes := #[99, 73] }, type := 4, pos := "l1_given.go:1129", after := #[{ on := 9, ground := Ground.data }, { on := 19, ground := Ground.data }, { on := 7, ground := Ground.chain }, { on := 7, ground := Ground.guard }], guard := some (7, true) } : Oper)) rfl (fun K hK => ?_) AllReadyH.nil
 go_simp
 refine (hup _ hpo hSb).mono ?_
 rintro e w3 ⟨rfl,hpo3,hS3⟩
 go_wp2_with fail
 refine hK.out _ _ ?_ (fun hSc=>?_)
 ·exact hS3
 clear hK K
 try simp only [Act.put,List.setIfInBounds_toArray,List.set_cons_zero,List.set_cons_succ]
 refine wpAnyH_take (i := 21) (oi := ({ dst := some 61, op := Op.unOp UnOp.not 4 (Operand.tmp 60), type := 4, pos := "l1_given.go:1129", after := #[{ on := 20, ground := Ground.data }, { on := 7, ground := Ground.guard }], guard := some (7, true) } : Oper)) (v := ?v21) rfl (by kernel_rfl) (by kernel_rfl) (by kernel_rfl) (fun _ _ _ h => h) (Or.inl ⟨by rfl, ?hy21⟩) hSc ?rest21
 case hy21=>(intro w' hSw;(try dsimp only at hSw);go_simp;try with_reducible rfl)
 case rest21=>
 try simp only [Act.put,List.setIfInBounds_toArray,List.set_cons_zero,List.set_cons_succ]
 refine wpAnyH_take (i := 22) (oi := ({ dst := some 62, op := Op.pick (Operand.tmp 47) (Operand.tmp 61) (Operand.const (Value.bool false)), type := 4, pos := "l1_given.go:1129", after := #[{ on := 7, ground := Ground.data }, { on := 21, ground := Ground.data }, { on := 3, ground := Ground.guard }], guard := some (3, false) } : Oper)) (v := ?v22) rfl (by kernel_rfl) (by kernel_rfl) (by kernel_rfl) (fun _ _ _ h => h) (Or.inl ⟨by rfl, ?hy22⟩) hSc ?rest22
 case hy22=>(intro w' hSw;(try dsimp only at hSw);go_simp;try with_reducible rfl)
 case rest22=>
 try simp only [Act.put,List.setIfInBounds_toArray,List.set_cons_zero,List.set_cons_succ]
 refine wpAnyH_take (i := 23) (oi := ({ dst := some 63, op := Op.pick (Operand.tmp 43) (Operand.const (Value.bool true)) (Operand.tmp 62), type := 4, pos := "l1_given.go:1129", after := #[{ on := 3, ground := Ground.data }, { on := 22, ground := Ground.data }], guard := none } : Oper)) (v := ?v23) rfl (by kernel_rfl) (by kernel_rfl) (by kernel_rfl) (fun _ _ _ h => h) (Or.inl ⟨by rfl, ?hy23⟩) hSc ?rest23
 case hy23=>(intro w' hSw;(try dsimp only at hSw);go_simp;try with_reducible rfl)
 case rest23=>
 try simp only [Act.put,List.setIfInBounds_toArray,List.set_cons_zero,List.set_cons_succ]
 refine wpAnyH_take (i := 24) (oi := ({ dst := some 39, op := Op.assign (Operand.tmp 63), type := 4, pos := "l1_given.go:1129", after := #[{ on := 23, ground := Ground.data }, { on := 20, ground := Ground.chain }], guard := none } : Oper)) (v := ?v24) rfl (by kernel_rfl) (by kernel_rfl) (by kernel_rfl) (fun _ _ _ h => h) (Or.inl ⟨by rfl, ?hy24⟩) hSc ?rest24
 case hy24=>(intro w' hSw;(try dsimp only at hSw);go_simp;try with_reducible rfl)
 case rest24=>
 try simp only [Act.put,List.setIfInBounds_toArray,List.set_cons_zero,List.set_cons_succ]
 refine wpAnyH_done (by kernel_rfl) ?_ _
 exact HQ.out _ _ _ _ _ _ _ _ _ _ _ _ _ _ _ _ _ _ _ _ _ _ _ _ _ hpo3
end Go.Proofs.YtgiflmnfnoildaaGreatDoor
