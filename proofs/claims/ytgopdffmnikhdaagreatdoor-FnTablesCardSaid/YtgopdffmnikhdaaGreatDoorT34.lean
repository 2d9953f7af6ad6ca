import Derived.Test.YtgopdffmnikhdaaGreatDoorT03
import Derived.Test.YtgopdffmnikhdaaGreatDoorT30
import Derived.Test.YtgopdffmnikhdaaGreatDoorT05
import Derived.Laws.StructEq
import Derived.Lib.SliceRun
import Derived.Lib.Walk
import Derived.Maps.AppendAt
import Derived.Test.YtgopdffmnikhdaaGreatDoorT25
import Derived.ArgAppend
namespace Go.Proofs.YtgopdffmnikhdaaGreatDoor
open Go.RowKit Go.Deep
set_option maxRecDepth 1000000 in
set_option maxHeartbeats 8000000 in
theorem stp_r4b (vb x5 x6 x7 x8:Nat) (op nb:Int)  (t0 t1 t2 t3:TypeId) (v0 v1 v2 v3:Value) (w:World) (c1 c2 c3 c4 c9 c10 c11 c12 c13 c14 c15 c16 c17 c18 c19 c20 c21 c22 c23 c24 c25 c26 c27 c28 c29 c30 c31 c32 c33 c34 c35 c36 c37 c38 c39 c40 c41 c42 c43 c44 c45 c46 c47 c48 c49 c50 c51 c52 c53 c54 c55 c56 c57 c58 c59 c60 c61 c62 c63 c64 c65 c66 c67 c68 c69 c70 c71 c72 c73 c74 c75 c76 c77 c78 c79 c80 c81 c82 c83 c84 c85 c86 c87 c88 c89 c90 c91 c92 c93 c94 c95 c96 c97 c98 c99 c100:Value) (Q:Exit→Act→World→Prop) (PO:World→Prop)
  (hq:∀(u40 u41 u42 u43 u44 u45 u46 u47 u48 u49 u50 u51 u52 u53 u54 u55 u56 u57 u58 u59 u60 u61 u62 u63:Value) (wx:World),PO wx→Q .normal ⟨List.toArray (.pointer (some ⟨vb,0,none⟩)::c1::c2::c3::c4::.pointer (some ⟨x5,0,none⟩)::.pointer (some ⟨x6,0,none⟩)::.pointer (some ⟨x7,0,none⟩)::.pointer (some ⟨x8,0,none⟩)::c9::c10::c11::c12::c13::c14::c15::c16::c17::c18::c19::c20::c21::c22::c23::c24::c25::c26::c27::c28::c29::c30::c31::c32::c33::c34::c35::c36::c37::c38::.bool false::u40::u41::u42::u43::u44::u45::u46::u47::u48::u49::u50::u51::u52::u53::u54::u55::u56::u57::u58::u59::u60::u61::u62::u63::c64::c65::c66::c67::c68::c69::c70::c71::c72::c73::c74::c75::c76::c77::c78::c79::c80::c81::c82::c83::c84::c85::c86::c87::c88::c89::c90::c91::c92::c93::c94::c95::c96::c97::c98::c99::c100::[]),[]⟩ wx)
  (hall:Calls Tryz.prog 305 #[.pointer (some ⟨x8,0,none⟩),.agg #[.iface t0 v0,.iface t1 v1,.iface t2 v2,.iface t3 v3]] w.drew fun e w'=>e=.returned (.bool true)∧PO w'∧w'.cell? ⟨x7,0,none⟩=some (.iface t0 v0)∧w'.cell? ⟨x7,1,none⟩=some (.iface t1 v1)∧w'.cell? ⟨x7,2,none⟩=some (.iface t2 v2)∧w'.cell? ⟨x7,3,none⟩=some (.iface t3 v3)∧w'.cell? ⟨x5,0,none⟩=some (.int .i64 op)∧w'.cell? ⟨x5,2,none⟩=some (.int .i64 nb))
  (hop:(op == 11)=false)
  (hS0:w.drew.cell? ⟨x7,0,none⟩=some (.iface t0 v0)∧w.drew.cell? ⟨x7,1,none⟩=some (.iface t1 v1)∧w.drew.cell? ⟨x7,2,none⟩=some (.iface t2 v2)∧w.drew.cell? ⟨x7,3,none⟩=some (.iface t3 v3)∧w.drew.cell? ⟨x5,0,none⟩=some (.int .i64 op)∧w.drew.cell? ⟨x5,2,none⟩=some (.int .i64 nb)) :
  Code.wp Tryz.prog pcS4 Q ⟨List.toArray (.pointer (some ⟨vb,0,none⟩)::c1::c2::c3::c4::.pointer (some ⟨x5,0,none⟩)::.pointer (some ⟨x6,0,none⟩)::.pointer (some ⟨x7,0,none⟩)::.pointer (some ⟨x8,0,none⟩)::c9::c10::c11::c12::c13::c14::c15::c16::c17::c18::c19::c20::c21::c22::c23::c24::c25::c26::c27::c28::c29::c30::c31::c32::c33::c34::c35::c36::c37::c38::c39::c40::c41::c42::c43::c44::c45::c46::c47::c48::c49::c50::c51::c52::c53::c54::c55::c56::c57::c58::c59::c60::c61::c62::c63::c64::c65::c66::c67::c68::c69::c70::c71::c72::c73::c74::c75::c76::c77::c78::c79::c80::c81::c82::c83::c84::c85::c86::c87::c88::c89::c90::c91::c92::c93::c94::c95::c96::c97::c98::c99::c100::[]),[]⟩ w:=by
 conv=>arg 2;whnf
 have HQ:Hid _:=hq
 clear hq
 refine rgN (fun w'=>w'.cell? ⟨x7,0,none⟩=some (.iface t0 v0)∧w'.cell? ⟨x7,1,none⟩=some (.iface t1 v1)∧w'.cell? ⟨x7,2,none⟩=some (.iface t2 v2)∧w'.cell? ⟨x7,3,none⟩=some (.iface t3 v3)∧w'.cell? ⟨x5,0,none⟩=some (.int .i64 op)∧w'.cell? ⟨x5,2,none⟩=some (.int .i64 nb)) hS0 (fun hS=>?_)
 iterate 1 (refine tkF (by kernel_rfl) (by rfl) hS ⟨?_,fun W hW=>?_,?_⟩;rotate_left;(focus ((try dsimp only at hW);go_simp;try with_reducible rfl));try simp only [Act.put,List.setIfInBounds_toArray,List.set_cons_zero,List.set_cons_succ])
 refine doN (by kernel_rfl) (by rfl) (fun K hK=>?_)
 go_simp
 refine (hall).mono ?_
 rintro e w2 ⟨rfl,hpo,hS2⟩
 go_wp2_with fail
 refine hK.out _ _ hS2 (fun hS=>?_)
 clear hK K
 try simp only [Act.put,List.setIfInBounds_toArray,List.set_cons_zero,List.set_cons_succ]
 iterate 6 (refine tkF (by kernel_rfl) (by rfl) hS ⟨?_,fun W hW=>?_,?_⟩;rotate_left;(focus ((try dsimp only at hW);go_simp;try with_reducible rfl));try simp only [Act.put,List.setIfInBounds_toArray,List.set_cons_zero,List.set_cons_succ])
 iterate 14 (refine tkG (by kernel_rfl) (by rfl) hS ?_;try simp only [Act.put,List.setIfInBounds_toArray,List.set_cons_zero,List.set_cons_succ])
 iterate 3 (refine tkF (by kernel_rfl) (by rfl) hS ⟨?_,fun W hW=>?_,?_⟩;rotate_left;(focus ((try dsimp only at hW);go_simp;try with_reducible rfl));try simp only [Act.put,List.setIfInBounds_toArray,List.set_cons_zero,List.set_cons_succ])
 refine enD (by kernel_rfl) (NoPanic.normal ?_)
 exact HQ.out _ _ _ _ _ _ _ _ _ _ _ _ _ _ _ _ _ _ _ _ _ _ _ _ _ hpo
theorem ints_at {w:World} {b off:Nat} {xs:List Int} (h:IntsAt 0 w (some ⟨b,off,none⟩) xs) {j:Nat} {u:Value} (hj:(ints xs)[j]?=some u):w.cell? ⟨b,off+j,none⟩=some u∧b<w.heap.size:=by
 simp only [ints,List.getElem?_map,Option.map_eq_some_iff] at hj
 obtain⟨x,hx,rfl⟩:=hj
 obtain⟨b',off',e,_,hl,hc⟩:=h j x hx
 simp at e
 obtain⟨rfl,rfl⟩:=e
 unfold IntAt at hc
 rw [Nat.mul_one] at hc
 exact⟨hc,hl⟩
theorem gds_at {w:World} {b off:Nat} {xs:List Gd} (h:GdsAt 0 w (some ⟨b,off,none⟩) xs) {j:Nat} {u:Value} (hj:(gds xs)[j]?=some u):w.cell? ⟨b,off+j,none⟩=some u∧b<w.heap.size:=by
 have hl:=(List.getElem?_eq_some_iff.1 hj).1
 rw [gds_length] at hl
 obtain⟨x,hx⟩:=some_of_lt (show j / 3<xs.length by omega)
 obtain⟨b',off',e,_,hb,c0,c1,c2⟩:=h (j / 3) x hx
 simp at e
 obtain⟨rfl,rfl⟩:=e
 have hg:=gds_get hx
 rcases (by omega:j % 3=0∨j % 3=1∨j % 3=2) with h3 | h3 | h3
 ·have:=hg 0 _ rfl
  rw [show j / 3*3+0=j by omega,hj] at this
  rw [Option.some.inj this,show off+j=off+j / 3*3 by omega]
  exact⟨c0,hb⟩
 ·have:=hg 1 _ rfl
  rw [show j / 3*3+1=j by omega,hj] at this
  rw [Option.some.inj this,show off+j=off+j / 3*3+1 by omega]
  exact⟨c1,hb⟩
 ·have:=hg 2 _ rfl
  rw [show j / 3*3+2=j by omega,hj] at this
  rw [Option.some.inj this,show off+j=off+j / 3*3+2 by omega]
  exact⟨c2,hb⟩
set_option maxRecDepth 100000 in
set_option maxHeartbeats 1600000 in
theorem cloneInt_any (ao:Option Addr) (cap m:Nat) (xs:List Int) (w:World) (hm:xs.length=m) (hml:m≤1048576) (hnil:ao=none→m=0) (hx:IntsAt 0 w ao xs) (hoff:∀a,ao=some a→∃b o,a=⟨b,o,none⟩) :
  Calls Tryz.prog 304 #[.slice ao m cap] w fun e w'=>∃v,e=.returned v∧w'.ownsRow w.heap.size 3 1 v m (ints xs)∧Below w.heap.size w w':=by
 have q22:∀(w:World) (a:Option Addr) (n c n' c':Nat),(binOp .eql 55 (.slice a n c) (.slice none n' c')).run Tryz.prog w=.ok (.bool a.isNone) w:=fun w a n c n' c'=>Lib.run_eql_slice_nil w _ _ a n c n' c' Tryz.underlying55
 cases ao with
 | none=>
  obtain rfl:=hnil rfl
  have:xs=[]:=List.length_eq_zero_iff.1 hm
  subst this
  go_enter Tryz.func304,Tryz.ntmps304
  go_wp2_with fail
  go_ret
  exact⟨_,rfl,World.ownsRow_nil _ _ _ _,Below.refl _ _⟩
 | some ad=>
  obtain⟨b,off,rfl⟩:=hoff _ rfl
  obtain⟨i0,hi,hz0,hz1,hz2⟩:=info_parts Tryz.info_int
  have HC:Hid (∀j u,(ints xs)[j]?=some u→w.cell? ⟨b,off+j,none⟩=some u∧b<w.heap.size):=by
   intro j u hj
   exact ints_at hx hj
  have HL:Hid ((ints xs).length=m*1):=by show _=_;simp [ints,hm]
  clear hx hm hoff hnil
  go_enter Tryz.func304,Tryz.ntmps304
  go_wp2_with (at_builtin;refine wpList_append_own _ rfl _ _ 55 rfl w.heap.size 3 i0 (.int .i64 0) 1 8 Tryz.underlying55 hi hz0 hz1 hz2 rfl (by decide) _ _ _ rfl (World.ownsRow_made w #[] 0 (Nat.le_refl _) (Nat.zero_le _) (by simp)) ⟨b,off,none⟩ m cap (ints xs) rfl ?qc1 ?qc2 ?qc3 ?qc4 ?qc5 ?qc6 ?_)
  case qc1=>exact HL.out
  case qc2=>
   intro j u hj
   rw [Addr.add_lit]
   obtain⟨h1,h2⟩:=HC.out j u hj
   exact (((Below.refl w.heap.size w).alloc (Nat.le_refl _) _).cell (p:=⟨b,off+j,none⟩) h2).trans h1
  case qc3=>
   intro u hu
   simp [ints] at hu;obtain ⟨x,_,rfl⟩:=hu;rfl
  case qc4=>unfold maxLen;omega
  case qc5=>omega
  case qc6=>simp
  ·intro v' w1 hown hgrow _
   have hown:w1.ownsRow w.heap.size 3 1 v' m (ints xs):=by simpa using hown
   have B1:Below w.heap.size w w1:=((Below.refl _ w).alloc (Nat.le_refl _) _).grown hgrow (by simp) (by intro k hk;simp [Value.ownBlock] at hk;omega)
   obtain⟨vo,vc,rfl⟩:=owns_slice hown
   clear hgrow
   go_wp2_with fail
   go_ret
   exact⟨_,rfl,hown,B1⟩
set_option maxRecDepth 100000 in
set_option maxHeartbeats 1600000 in
theorem cloneGd_any (ao:Option Addr) (cap m:Nat) (xs:List Gd) (w:World) (hm:xs.length=m) (hml:m≤1048576) (hnil:ao=none→m=0) (hx:GdsAt 0 w ao xs) (hoff:∀a,ao=some a→∃b o,a=⟨b,o,none⟩) :
  Calls Tryz.prog 357 #[.slice ao m cap] w fun e w'=>∃v,e=.returned v∧w'.ownsRow w.heap.size 373 3 v m (gds xs)∧Below w.heap.size w w':=by
 have q22:∀(w:World) (a:Option Addr) (n c n' c':Nat),(binOp .eql 316 (.slice a n c) (.slice none n' c')).run Tryz.prog w=.ok (.bool a.isNone) w:=fun w a n c n' c'=>Lib.run_eql_slice_nil w _ _ a n c n' c' Tryz.underlying316
 cases ao with
 | none=>
  obtain rfl:=hnil rfl
  have:xs=[]:=List.length_eq_zero_iff.1 hm
  subst this
  go_enter Tryz.func357,Tryz.ntmps357
  go_wp2_with fail
  go_ret
  exact⟨_,rfl,World.ownsRow_nil _ _ _ _,Below.refl _ _⟩
 | some ad=>
  obtain⟨b,off,rfl⟩:=hoff _ rfl
  obtain⟨i0,hi,hz0,hz1,hz2⟩:=info_parts Tryz.info_Guard
  have HC:Hid (∀j u,(gds xs)[j]?=some u→w.cell? ⟨b,off+j,none⟩=some u∧b<w.heap.size):=by
   intro j u hj
   exact gds_at hx hj
  have HL:Hid ((gds xs).length=m*3):=by show _=_;rw [gds_length,hm]
  clear hx hm hoff hnil
  go_enter Tryz.func357,Tryz.ntmps357
  go_wp2_with (at_builtin;refine wpList_append_own _ rfl _ _ 316 rfl w.heap.size 373 i0 (.agg #[.bool false,.int .i64 0,.int .i64 0]) 3 24 Tryz.underlying316 hi hz0 hz1 hz2 rfl (by decide) _ _ _ rfl (World.ownsRow_made w #[] 0 (Nat.le_refl _) (Nat.zero_le _) (by simp)) ⟨b,off,none⟩ m cap (gds xs) rfl ?qc1 ?qc2 ?qc3 ?qc4 ?qc5 ?qc6 ?_)
  case qc1=>exact HL.out
  case qc2=>
   intro j u hj
   rw [Addr.add_lit]
   obtain⟨h1,h2⟩:=HC.out j u hj
   exact (((Below.refl w.heap.size w).alloc (Nat.le_refl _) _).cell (p:=⟨b,off+j,none⟩) h2).trans h1
  case qc3=>
   intro u hu
   simp [gds,Gd.vals] at hu;obtain ⟨x,_,rfl | rfl | rfl⟩:=hu <;> rfl
  case qc4=>unfold maxLen;omega
  case qc5=>omega
  case qc6=>simp
  ·intro v' w1 hown hgrow _
   have hown:w1.ownsRow w.heap.size 373 3 v' m (gds xs):=by simpa using hown
   have B1:Below w.heap.size w w1:=((Below.refl _ w).alloc (Nat.le_refl _) _).grown hgrow (by simp) (by intro k hk;simp [Value.ownBlock] at hk;omega)
   obtain⟨vo,vc,rfl⟩:=owns_slice hown
   clear hgrow
   go_wp2_with fail
   go_ret
   exact⟨_,rfl,hown,B1⟩
def GbPost (lo:Nat) (w:World) (l:List Gd) (e:Ending) (w':World):Prop:=(∃ao cap,e=.returned (.slice ao l.length cap)∧RowG lo w' ao cap l)∧Below w.heap.size w w'
theorem RowG.of_own {w:World} {base n cap:Nat} {ao:Option Addr} {l:List Gd} (h:w.ownsRow base 373 3 (.slice ao n cap) n (gds l)):RowG base w ao cap l∧l.length=n:=by
 obtain⟨h1,h2⟩:=owns_gds h
 exact⟨RowG.of_post (by rw [←h2];exact owns_cap h _ _ rfl) h1 (owns_tag h),h2.symm⟩
theorem RowG.most {lo:Nat} {w:World} {ao:Option Addr} {cap:Nat} {l:List Gd} (h:RowG lo w ao cap l):RowG lo w ao cap l.dropLast:=by
 refine⟨Nat.le_trans (by simp) h.cap,fun e=>by have:=h.nil e;simp;omega,h.form,AllAt.dropLast h.at_,fun b o e hl=>h.tag b o e (by simp at hl;omega)⟩
theorem RowG.vals {lo:Nat} {w:World} {b o cap:Nat} {l:List Gd} (h:RowG lo w (some ⟨b,o,none⟩) cap l):∀j u,(gds l)[j]?=some u→w.cell? ⟨b,o+j,none⟩=some u:=by
 intro j u hj
 exact (gds_at (AllAt.lower h.at_ (Nat.zero_le _)) hj).1
set_option maxRecDepth 100000 in
theorem clip_any (ao:Option Addr) (m cap:Nat) (w:World) (hc:m≤cap) (hnil:ao=none→m=0) (hoff:∀x,ao=some x→∃b o,x=⟨b,o,none⟩) :
  Calls Tryz.prog 356 #[.slice ao m cap] w fun e w'=>e=.returned (.slice ao m m)∧w'=w:=by
 have k1:(m:Int)≤cap:=by omega
 cases ao with
 | none=>
  obtain rfl:=hnil rfl
  go_enter Tryz.func356,Tryz.ntmps356
  go_wp2_with fail
  go_ret
  exact⟨rfl,rfl⟩
 | some x=>
  obtain⟨b,o,rfl⟩:=hoff x rfl
  go_enter Tryz.func356,Tryz.ntmps356
  go_wp2_with fail
  go_ret
  exact⟨rfl,rfl⟩
set_option maxRecDepth 100000 in
set_option maxHeartbeats 3200000 in
theorem guardsBehind_other (op:Int) (lo:Nat) (a b c d:Int) (ao:Option Addr) (cap m:Nat) (gs:List Gd) (w:World) (hm:Hid (gs.length=m)) (hml:m≤50) (_hlo:lo≤w.heap.size) (hx:RowG lo w ao cap gs) (h31:op≠31) (h33:op≠33) (h32:op≠32) (h36:op≠36) (h34:op≠34) :
  Calls Tryz.prog 309 #[.agg #[.int .i64 op,.int .i64 a,.int .i64 b,.int .i64 c,.int .i64 d],.slice ao m cap] w (GbPost lo w (gbehF ⟨op,a,b,c,d⟩ gs)):=by
 have N0:=Blk.new w #[.int .i64 op,.int .i64 a,.int .i64 b,.int .i64 c,.int .i64 d] 48
 have B0:=(Below.refl w.heap.size w).alloc (Nat.le_refl _) (.cells #[.int .i64 op,.int .i64 a,.int .i64 b,.int .i64 c,.int .i64 d] 48)
 have HC:Hid (gbehF ⟨op,a,b,c,d⟩ gs=gs):=by
  show _=_
  unfold gbehF
  simp [h31,h33,h32,h36,h34]
 have HX1:Hid (RowG lo (w.alloc (.cells #[.int .i64 op,.int .i64 a,.int .i64 b,.int .i64 c,.int .i64 d] 48)) ao cap gs):=hx.later (Keeps.of_below B0)
 have t31:(op == 31)=false:=by simpa using h31
 have t33:(op == 33)=false:=by simpa using h33
 have t32:(op == 32)=false:=by simpa using h32
 have t36:(op == 36)=false:=by simpa using h36
 have t34:(op == 34)=false:=by simpa using h34
 clear h31 h33 h32 h36 h34 hx N0
 go_enter Tryz.func309,Tryz.ntmps309
 go_wp2_with fail
 go_ret
 rw [HC.out]
 refine⟨⟨ao,cap,?_,HX1.out⟩,B0⟩
 rw [hm.out];rfl
set_option maxRecDepth 100000 in
set_option maxHeartbeats 3200000 in
theorem guardsBehind_32 (lo:Nat) (a b c d:Int) (ao:Option Addr) (cap m:Nat) (gs:List Gd) (w:World) (hm:Hid (gs.length=m)) (hml:m≤50) (_hlo:lo≤w.heap.size) (hx:RowG lo w ao cap gs) (hne:m≠0) :
  Calls Tryz.prog 309 #[.agg #[.int .i64 32,.int .i64 a,.int .i64 b,.int .i64 c,.int .i64 d],.slice ao m cap] w (GbPost lo w (gbehF ⟨32,a,b,c,d⟩ gs)):=by
 have N0:=Blk.new w #[.int .i64 32,.int .i64 a,.int .i64 b,.int .i64 c,.int .i64 d] 48
 have B0:=(Below.refl w.heap.size w).alloc (Nat.le_refl _) (.cells #[.int .i64 32,.int .i64 a,.int .i64 b,.int .i64 c,.int .i64 d] 48)
 have HC:Hid (gbehF ⟨32,a,b,c,d⟩ gs=gs.dropLast):=by
  show _=_
  unfold gbehF
  simp
 have HX1:Hid (RowG lo (w.alloc (.cells #[.int .i64 32,.int .i64 a,.int .i64 b,.int .i64 c,.int .i64 d] 48)) ao cap gs):=hx.later (Keeps.of_below B0)
 obtain⟨k,rfl⟩:∃k,m=k+1:=⟨m - 1,by omega⟩
 have k1:((k:Int)+1 - 1)=k:=by omega
 have k2:(k:Int)≤cap:=by have:=hx.cap;have:=hm.out;omega
 have HK:Hid (gs.dropLast.length=k):=by show _=_;have:=hm.out;simp;omega
 obtain⟨y,rfl⟩:∃y,ao=some y:=by cases ao with | none=>(have h1:=hx.nil rfl;have h2:=hm.out;omega) | some y=>exact ⟨y,rfl⟩
 obtain⟨yb,yo,rfl⟩:=hx.form y rfl
 clear hx N0 hne
 go_enter Tryz.func309,Tryz.ntmps309
 go_wp2_with fail
 go_ret
 rw [HC.out]
 refine⟨⟨some ⟨yb,yo,none⟩,cap,?_,HX1.out.most⟩,B0⟩
 rw [HK.out];rfl
set_option maxRecDepth 100000 in
set_option maxHeartbeats 3200000 in
theorem guardsBehind_36 (lo:Nat) (a b c d:Int) (ao:Option Addr) (cap m:Nat) (gs:List Gd) (w:World) (hm:Hid (gs.length=m)) (hml:m≤50) (_hlo:lo≤w.heap.size) (hx:RowG lo w ao cap gs) (hne:m≠0) :
  Calls Tryz.prog 309 #[.agg #[.int .i64 36,.int .i64 a,.int .i64 b,.int .i64 c,.int .i64 d],.slice ao m cap] w (GbPost lo w (gbehF ⟨36,a,b,c,d⟩ gs)):=by
 have N0:=Blk.new w #[.int .i64 36,.int .i64 a,.int .i64 b,.int .i64 c,.int .i64 d] 48
 have B0:=(Below.refl w.heap.size w).alloc (Nat.le_refl _) (.cells #[.int .i64 36,.int .i64 a,.int .i64 b,.int .i64 c,.int .i64 d] 48)
 have HC:Hid (gbehF ⟨36,a,b,c,d⟩ gs=gs.dropLast):=by
  show _=_
  unfold gbehF
  simp
 have HX1:Hid (RowG lo (w.alloc (.cells #[.int .i64 36,.int .i64 a,.int .i64 b,.int .i64 c,.int .i64 d] 48)) ao cap gs):=hx.later (Keeps.of_below B0)
 obtain⟨k,rfl⟩:∃k,m=k+1:=⟨m - 1,by omega⟩
 have k1:((k:Int)+1 - 1)=k:=by omega
 have k2:(k:Int)≤cap:=by have:=hx.cap;have:=hm.out;omega
 have HK:Hid (gs.dropLast.length=k):=by show _=_;have:=hm.out;simp;omega
 obtain⟨y,rfl⟩:∃y,ao=some y:=by cases ao with | none=>(have h1:=hx.nil rfl;have h2:=hm.out;omega) | some y=>exact ⟨y,rfl⟩
 obtain⟨yb,yo,rfl⟩:=hx.form y rfl
 clear hx N0 hne
 go_enter Tryz.func309,Tryz.ntmps309
 go_wp2_with fail
 go_ret
 rw [HC.out]
 refine⟨⟨some ⟨yb,yo,none⟩,cap,?_,HX1.out.most⟩,B0⟩
 rw [HK.out];rfl
set_option maxRecDepth 100000 in
set_option maxHeartbeats 3200000 in
theorem guardsBehind_34 (lo:Nat) (a b c d:Int) (ao:Option Addr) (cap m:Nat) (gs:List Gd) (w:World) (hm:Hid (gs.length=m)) (hml:m≤50) (hlo:lo≤w.heap.size) (hx:RowG lo w ao cap gs) (hne:m≠0) :
  Calls Tryz.prog 309 #[.agg #[.int .i64 34,.int .i64 a,.int .i64 b,.int .i64 c,.int .i64 d],.slice ao m cap] w (GbPost lo w (gbehF ⟨34,a,b,c,d⟩ gs)):=by
 have N0:=Blk.new w #[.int .i64 34,.int .i64 a,.int .i64 b,.int .i64 c,.int .i64 d] 48
 have B0:=(Below.refl w.heap.size w).alloc (Nat.le_refl _) (.cells #[.int .i64 34,.int .i64 a,.int .i64 b,.int .i64 c,.int .i64 d] 48)
 have HC:Hid (gbehF ⟨34,a,b,c,d⟩ gs=keepLast gs a):=by
  show _=_
  unfold gbehF
  simp
 have HX1:Hid (RowG lo (w.alloc (.cells #[.int .i64 34,.int .i64 a,.int .i64 b,.int .i64 c,.int .i64 d] 48)) ao cap gs):=hx.later (Keeps.of_below B0)
 have n0:=N0.cell
 have HCL:Hid (∀_:Unit,_):=fun _=>cloneGd_any ao cap m gs (w.alloc (.cells #[.int .i64 34,.int .i64 a,.int .i64 b,.int .i64 c,.int .i64 d] 48)) hm.out (by omega) (fun e=>by have h1:=hx.nil e;have h2:=hm.out;omega) (AllAt.lower HX1.out.at_ (Nat.zero_le _)) hx.form
 go_enter Tryz.func309,Tryz.ntmps309
 go_wp2_with fail
 refine (HCL.out ()).mono ?_
 rintro e w1 ⟨v,rfl,hown,hw1⟩
 have B1:=B0.trans (hw1.mono (by simp))
 have N1:=N0.later hw1
 have n1:=N1.cell
 clear hw1 N0 B0 hx n0 HCL
 rcases m with _ | k
 ·exact absurd rfl hne
 ·obtain⟨g,cap1,q,rfl,hg1,hg2,hcap,hq,hqa,hfr,HG0,HS⟩:=owns_last hown hm.out
  have hgw:w.heap.size<g:=by simp at hg1;omega
  have HO:Hid ((w1.setCell ⟨g,k*3+1,none⟩ (.int .i64 a)).ownsRow (w.alloc (.cells #[.int .i64 34,.int .i64 a,.int .i64 b,.int .i64 c,.int .i64 d] 48)).heap.size 373 3 (.slice (some ⟨g,0,none⟩) (k+1) cap1) (k+1) (gds (keepLast gs a))):=by
   have h0:=HS a
   rw [gds_set hm.out] at h0
   exact h0
  have HB3:Hid (Below w.heap.size w (w1.setCell ⟨g,k*3+1,none⟩ (.int .i64 a))):=B1.setCell (by dsimp only;omega) _
  have HLO:Hid (lo≤w.heap.size):=hlo
  obtain⟨q0,q1,q2⟩:=hqa
  have f1:=hfr (k*3+1)
  have k1:((k:Int)+1 - 1)=k:=by omega
  clear hq HS HG0 hown hfr hg1 hgw hne hlo
  go_wp2_with fail
  go_ret
  rw [HC.out]
  obtain⟨h1,h2⟩:=RowG.of_own HO.out
  exact⟨⟨some ⟨g,0,none⟩,cap1,by rw [h2];rfl,h1.lower (by have:=HLO.out;simp;omega)⟩,HB3.out⟩
theorem stp_gdn {ops:Array Oper} {o:Oper} {a:Act} {w:World} {K:Act→World→Prop} {Q:Exit→Act→World→Prop} {E:Prop} (hgd:o.guard=none) (s x:Operand) (ho:o.op=.call {callee:=.builtin .append,args:=#[s,x],argTypes:=#[316,316]})
  (lo:Nat) (ao:Option Addr) (n cap:Nat) (xs:List Gd) (u:Gd) (B:Nat) (hs:a.eval s=.slice ao n n) (hr:RowG lo w ao cap xs) (hl:xs.length=n) (hx:a.eval x=.slice (some ⟨B,0,none⟩) 1 1) (hB:GdAt w B 0 u) (hn:n≤1048576)
  (h:∀v' w',w'.ownsRow w.heap.size 373 3 v' (n+1) (gds (xs ++ [u]))→w.grownBy w' none→K (a.put o.dst v') w') :
  if Region.wanted o (yielded ops a.tmps)=true then Oper.wp Tryz.prog o a w K Q else E:=by
 have hw:Region.wanted o (yielded ops a.tmps)=true:=by simp [Region.wanted,hgd]
 rw [if_pos hw]
 obtain⟨i0,hi,hz0,hz1,hz2⟩:=info_parts Tryz.info_Guard
 obtain⟨b0,b1,b2⟩:=hB
 have hnews:∀j q,u.vals[j]?=some q→w.cell? ((⟨B,0,none⟩:Addr).add j)=some q:=by
  intro j q hj
  match j,hj with
  | 0,hj=>simp [Gd.vals] at hj;subst hj;simpa [Addr.add] using b0
  | 1,hj=>simp [Gd.vals] at hj;subst hj;simpa [Addr.add] using b1
  | 2,hj=>simp [Gd.vals] at hj;subst hj;simpa [Addr.add] using b2
 have hone:∀q ∈ u.vals,q.oneCell'=true:=by intro q hq;simp [Gd.vals] at hq;rcases hq with rfl | rfl | rfl <;> rfl
 have hrun:∃v' w',(Builtin.append_ #[316,316] o.type #[.slice ao n n,.slice (some ⟨B,0,none⟩) 1 1]).run Tryz.prog w=.ok v' w'∧w'.ownsRow w.heap.size 373 3 v' (n+1) (gds xs ++ u.vals)∧w.grownBy w' none:=by
  cases ao with
  | none=>
   obtain rfl:n=0:=by have:=hr.nil rfl;omega
   obtain rfl:xs=[]:=List.eq_nil_of_length_eq_zero hl
   obtain⟨v',w',h1,h2,h3,_⟩:=run_append_own (P:=Tryz.prog) w w.heap.size 316 o.type 373 i0 (.agg #[.bool false,.int .i64 0,.int .i64 0]) 3 24 Tryz.underlying316 hi hz0 hz1 hz2 rfl (by decide) (.slice none 0 0) 0 [] (World.ownsRow_nil w _ _ _) ⟨B,0,none⟩ 1 1 u.vals rfl hnews hone (by unfold maxLen;omega) (by omega) (Nat.le_refl _)
   exact⟨v',w',h1,h2,h3⟩
  | some ad=>
   obtain⟨b,off,rfl⟩:=hr.form _ rfl
   exact run_append_arg_grows (P:=Tryz.prog) w 316 o.type 373 i0 (.agg #[.bool false,.int .i64 0,.int .i64 0]) 3 24 Tryz.underlying316 hi hz0 hz1 hz2 rfl (by decide) ⟨b,off,none⟩ n n (gds xs) (by rw [gds_length,hl]) (fun j q hj=>by rw [Addr.add_lit];exact hr.vals j q hj) ⟨B,0,none⟩ 1 1 u.vals rfl hnews (by omega) (by unfold maxLen;omega) (by omega)
 obtain⟨v',w',hrr,h2,h3⟩:=hrun
 unfold Oper.wp execOp
 simp only [ho,resolve,invoke,builtin,Sem.run_bind,Sem.run_pure,Result.andThen_ok,List.map_toArray,List.map_cons,List.map_nil,hs,hx,hrr]
 refine h v' w' ?_ h3
 rw [gds_append]
 simpa [gds] using h2
set_option maxRecDepth 100000 in
set_option maxHeartbeats 3200000 in
theorem guardsBehind_31 (lo:Nat) (a b c d:Int) (ao:Option Addr) (cap m:Nat) (gs:List Gd) (w:World) (hm:Hid (gs.length=m)) (hml:m≤50) (hlo:lo≤w.heap.size) (hx:RowG lo w ao cap gs) :
  Calls Tryz.prog 309 #[.agg #[.int .i64 31,.int .i64 a,.int .i64 b,.int .i64 c,.int .i64 d],.slice ao m cap] w (GbPost lo w (gbehF ⟨31,a,b,c,d⟩ gs)):=by
 have N0:=Blk.new w #[.int .i64 31,.int .i64 a,.int .i64 b,.int .i64 c,.int .i64 d] 48
 have B0:=(Below.refl w.heap.size w).alloc (Nat.le_refl _) (.cells #[.int .i64 31,.int .i64 a,.int .i64 b,.int .i64 c,.int .i64 d] 48)
 have HC:Hid (gbehF ⟨31,a,b,c,d⟩ gs=gs ++ [(⟨true,b,a⟩:Gd)]):=by
  show _=_
  unfold gbehF
  simp
 have HX1:Hid (RowG lo (w.alloc (.cells #[.int .i64 31,.int .i64 a,.int .i64 b,.int .i64 c,.int .i64 d] 48)) ao cap gs):=hx.later (Keeps.of_below B0)
 have HCL:Hid (∀w',_):=fun w'=>clip_any ao m cap w' (by have:=hx.cap;have:=hm.out;omega) (fun e=>by have h1:=hx.nil e;have h2:=hm.out;omega) hx.form
 have n0:=N0.cell 1
 have n2:=N0.cell 2
 have HLO:Hid (lo≤w.heap.size):=hlo
 have hz:(w.alloc (.cells #[.int .i64 31,.int .i64 a,.int .i64 b,.int .i64 c,.int .i64 d] 48)).heap.size=w.heap.size+1:=by simp
 clear hx hlo N0
 go_enter Tryz.func309,Tryz.ntmps309
 go_wp2_with fail
 generalize w.alloc (.cells #[.int .i64 31,.int .i64 a,.int .i64 b,.int .i64 c,.int .i64 d] 48)=w1 at *
 have P1:=Blk.new w1.drew #[.bool true,.int .i64 b,.int .i64 a] 373
 have hz1:w1.drew.heap.size=w.heap.size+1:=hz
 rw [hz1] at P1
 have D1:Below w1.heap.size w1 (w1.drew.alloc (.cells #[.bool true,.int .i64 b,.int .i64 a] 373)):=(Below.refl _ _).drew.alloc (Nat.le_refl _) _
 have HXD:Hid _:=HX1.out.later (Keeps.of_below D1)
 have hd:w1.heap.size≤(w1.drew.alloc (.cells #[.bool true,.int .i64 b,.int .i64 a] 373)).heap.size:=D1.size
 have HP1:Hid (∀o,_):=P1.cell
 have HD1:Hid _:=D1
 have HHD:Hid _:=hd
 have HHZ:Hid _:=hz
 have HB0:Hid _:=B0
 clear P1 D1 hd hz hz1 B0
 go_region_held3 (fun w'=>w'.cell? ⟨w.heap.size,1,none⟩=some (.int .i64 a)∧w'.cell? ⟨w.heap.size,2,none⟩=some (.int .i64 b)) (first | exact ⟨n0,n2⟩ | exact ⟨s0,s2⟩ | (go_keep;done))
  (first
   | (go_at_call 356;refine (HCL.out _).mono ?_;rintro e wq ⟨rfl,rfl⟩)
   | (refine stp_gdn rfl _ _ rfl lo ao m cap gs (⟨true,b,a⟩:Gd) (w.heap.size+1) rfl HXD.out hm.out (by first | rfl | (rw [←HHZ.out];rfl)) ⟨HP1.out 0,HP1.out 1,HP1.out 2⟩ (by omega) ?_;intro v' w2 H2 G2;obtain ⟨ao2,cap2,rfl⟩:=owns_slice H2;have B2:Below w1.heap.size w1 w2:=HD1.out.grown G2 HHD.out (fun k hk=>by cases hk);have HH2:Hid _:=H2;have hw1:w.heap.size<w1.heap.size:=(by have:=HHZ.out;omega);have s0:=(B2.cell (p:=⟨w.heap.size,1,none⟩) hw1).trans n0;have s2:=(B2.cell (p:=⟨w.heap.size,2,none⟩) hw1).trans n2;have HB2:Hid (Below w.heap.size w w2):=HB0.out.trans (B2.mono (Nat.le_of_lt hw1));clear H2 G2 B2))
 all_goals
  go_wp2_with fail
  go_ret
  rw [HC.out]
  obtain⟨h1,h2⟩:=RowG.of_own HH2.out
  exact⟨⟨ao2,cap2,by rw [h2];rfl,h1.lower (Nat.le_trans (Nat.le_trans HLO.out (by have:=HHZ.out;omega)) HHD.out)⟩,HB2.out⟩
set_option maxRecDepth 100000 in
set_option maxHeartbeats 3200000 in
theorem guardsBehind_33 (lo:Nat) (a b c d:Int) (ao:Option Addr) (cap m:Nat) (gs:List Gd) (w:World) (hm:Hid (gs.length=m)) (hml:m≤50) (hlo:lo≤w.heap.size) (hx:RowG lo w ao cap gs) :
  Calls Tryz.prog 309 #[.agg #[.int .i64 33,.int .i64 a,.int .i64 b,.int .i64 c,.int .i64 d],.slice ao m cap] w (GbPost lo w (gbehF ⟨33,a,b,c,d⟩ gs)):=by
 have N0:=Blk.new w #[.int .i64 33,.int .i64 a,.int .i64 b,.int .i64 c,.int .i64 d] 48
 have B0:=(Below.refl w.heap.size w).alloc (Nat.le_refl _) (.cells #[.int .i64 33,.int .i64 a,.int .i64 b,.int .i64 c,.int .i64 d] 48)
 have HC:Hid (gbehF ⟨33,a,b,c,d⟩ gs=gs ++ [(⟨false,a,0⟩:Gd)]):=by
  show _=_
  unfold gbehF
  simp
 have HX1:Hid (RowG lo (w.alloc (.cells #[.int .i64 33,.int .i64 a,.int .i64 b,.int .i64 c,.int .i64 d] 48)) ao cap gs):=hx.later (Keeps.of_below B0)
 have HCL:Hid (∀w',_):=fun w'=>clip_any ao m cap w' (by have:=hx.cap;have:=hm.out;omega) (fun e=>by have h1:=hx.nil e;have h2:=hm.out;omega) hx.form
 have n0:=N0.cell 1
 have n2:=N0.cell 2
 have HLO:Hid (lo≤w.heap.size):=hlo
 have hz:(w.alloc (.cells #[.int .i64 33,.int .i64 a,.int .i64 b,.int .i64 c,.int .i64 d] 48)).heap.size=w.heap.size+1:=by simp
 clear hx hlo N0
 go_enter Tryz.func309,Tryz.ntmps309
 go_wp2_with fail
 generalize w.alloc (.cells #[.int .i64 33,.int .i64 a,.int .i64 b,.int .i64 c,.int .i64 d] 48)=w1 at *
 have P1:=Blk.new w1.drew #[.bool false,.int .i64 a,.int .i64 0] 373
 have hz1:w1.drew.heap.size=w.heap.size+1:=hz
 rw [hz1] at P1
 have D1:Below w1.heap.size w1 (w1.drew.alloc (.cells #[.bool false,.int .i64 a,.int .i64 0] 373)):=(Below.refl _ _).drew.alloc (Nat.le_refl _) _
 have HXD:Hid _:=HX1.out.later (Keeps.of_below D1)
 have hd:w1.heap.size≤(w1.drew.alloc (.cells #[.bool false,.int .i64 a,.int .i64 0] 373)).heap.size:=D1.size
 have HP1:Hid (∀o,_):=P1.cell
 have HD1:Hid _:=D1
 have HHD:Hid _:=hd
 have HHZ:Hid _:=hz
 have HB0:Hid _:=B0
 clear P1 D1 hd hz hz1 B0
 go_region_held3 (fun w'=>w'.cell? ⟨w.heap.size,1,none⟩=some (.int .i64 a)∧w'.cell? ⟨w.heap.size,2,none⟩=some (.int .i64 b)) (first | exact ⟨n0,n2⟩ | exact ⟨s0,s2⟩ | (go_keep;done))
  (first
   | (go_at_call 356;refine (HCL.out _).mono ?_;rintro e wq ⟨rfl,rfl⟩)
   | (refine stp_gdn rfl _ _ rfl lo ao m cap gs (⟨false,a,0⟩:Gd) (w.heap.size+1) rfl HXD.out hm.out (by first | rfl | (rw [←HHZ.out];rfl)) ⟨HP1.out 0,HP1.out 1,HP1.out 2⟩ (by omega) ?_;intro v' w2 H2 G2;obtain ⟨ao2,cap2,rfl⟩:=owns_slice H2;have B2:Below w1.heap.size w1 w2:=HD1.out.grown G2 HHD.out (fun k hk=>by cases hk);have HH2:Hid _:=H2;have hw1:w.heap.size<w1.heap.size:=(by have:=HHZ.out;omega);have s0:=(B2.cell (p:=⟨w.heap.size,1,none⟩) hw1).trans n0;have s2:=(B2.cell (p:=⟨w.heap.size,2,none⟩) hw1).trans n2;have HB2:Hid (Below w.heap.size w w2):=HB0.out.trans (B2.mono (Nat.le_of_lt hw1));clear H2 G2 B2))
 all_goals
  go_wp2_with fail
  go_ret
  rw [HC.out]
  obtain⟨h1,h2⟩:=RowG.of_own HH2.out
  exact⟨⟨ao2,cap2,by rw [h2];rfl,h1.lower (Nat.le_trans (Nat.le_trans HLO.out (by have:=HHZ.out;omega)) HHD.out)⟩,HB2.out⟩
theorem guardsBehind_any (lo:Nat) (n:Nd) (ao:Option Addr) (cap m:Nat) (gs:List Gd) (w:World) (hm:Hid (gs.length=m)) (hml:m≤50) (hlo:lo≤w.heap.size) (hx:RowG lo w ao cap gs) (hne:n.op=32∨n.op=34∨n.op=36→m≠0) :
  Calls Tryz.prog 309 #[n.val,.slice ao m cap] w (GbPost lo w (gbehF n gs)):=by
 obtain⟨op,a,b,c,d⟩:=n
 dsimp only at hne
 by_cases h31:op=31
 ·subst h31;exact guardsBehind_31 lo a b c d ao cap m gs w hm hml hlo hx
 by_cases h33:op=33
 ·subst h33;exact guardsBehind_33 lo a b c d ao cap m gs w hm hml hlo hx
 by_cases h32:op=32
 ·subst h32;exact guardsBehind_32 lo a b c d ao cap m gs w hm hml hlo hx (hne (by simp))
 by_cases h36:op=36
 ·subst h36;exact guardsBehind_36 lo a b c d ao cap m gs w hm hml hlo hx (hne (by simp))
 by_cases h34:op=34
 ·subst h34;exact guardsBehind_34 lo a b c d ao cap m gs w hm hml hlo hx (hne (by simp))
 exact guardsBehind_other op lo a b c d ao cap m gs w hm hml hlo hx h31 h33 h32 h36 h34
end Go.Proofs.YtgopdffmnikhdaaGreatDoor
