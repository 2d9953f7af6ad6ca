import Derived.Test.YtaakadmnhpboiaaGreatDoorM31
import Derived.Test.YtaakadmnhpboiaaGreatDoorM25
namespace Go.Proofs.YtaakadmnhpboiaaGreatDoor
open Go.RowKit Go.Deep
set_option maxRecDepth 1000000 in
set_option maxHeartbeats 8000000 in
theorem stp_r8 (x5 x6 x7 x8 L m:Nat) (ro ago:Option Addr) (rc agc:Nat) (op na nb nc nd:Int) (s:St) (ts2:List Int) (gs2:List Gd) (w:World) (c0 c1 c2 c3 c4 c9 c10 c11 c12 c13 c14 c15 c16 c17 c18 c19 c20 c21 c22 c23 c24 c25 c26 c27 c28 c29 c30 c31 c32 c33 c34 c35 c36 c37 c38 c39 c40 c41 c42 c43 c44 c45 c46 c47 c48 c49 c50 c51 c52 c53 c54 c55 c56 c57 c58 c59 c60 c61 c62 c63 c64 c65 c66 c67 c68 c69 c70 c71 c72 c73 c74 c75 c76 c77 c78 c79 c80 c81 c82 c83 c84 c85 c86 c87 c88 c89 c90 c91 c92 c93 c94 c95 c96 c97 c98 c99 c100:Value) (Q:Exit→Act→World→Prop)
  (hq:∀(u76 u77 u78 u79 u80 u81 u82:Value) (x9:Nat) (wx:World) (bgo:Option Addr) (bgc:Nat),w.heap.size≤x9→Blk wx x9 #[.bool false,.slice ro m rc,.slice bgo gs2.length bgc] 98→RowI L wx ro rc ts2→RowG L wx bgo bgc gs2→Below w.heap.size w wx→Q .normal ⟨List.toArray (c0::c1::c2::c3::c4::.pointer (some ⟨x5,0,none⟩)::.pointer (some ⟨x6,0,none⟩)::.pointer (some ⟨x7,0,none⟩)::.pointer (some ⟨x8,0,none⟩)::.pointer (some ⟨x9,0,none⟩)::c10::c11::c12::c13::c14::c15::c16::c17::c18::c19::c20::c21::c22::c23::c24::c25::c26::c27::c28::c29::c30::c31::c32::c33::c34::c35::c36::c37::c38::c39::c40::c41::c42::c43::c44::c45::c46::c47::c48::c49::c50::c51::c52::c53::c54::c55::c56::c57::c58::c59::c60::c61::c62::c63::c64::c65::c66::c67::c68::c69::c70::c71::c72::c73::c74::c75::u76::u77::u78::u79::u80::u81::u82::c83::c84::c85::c86::c87::c88::c89::c90::c91::c92::c93::c94::c95::c96::c97::c98::c99::c100::[]),[]⟩ wx)
  (hrt:RowI L w ro rc ts2) (hLw:L≤w.heap.size)
  (hgb:∀W,Below w.heap.size w W→Calls Tryz.prog 118 #[.agg #[.int .i64 op,.int .i64 na,.int .i64 nb,.int .i64 nc,.int .i64 nd],.slice ago s.guards.length agc] W fun e w'=>(∃bgo bgc,e=.returned (.slice bgo gs2.length bgc)∧RowG L w' bgo bgc gs2)∧Below w.heap.size w w'∧Below W.heap.size W w')
  (hS:∀w',Below w.heap.size w w'→w'.cell? ⟨x8,0,none⟩=some (.slice ro m rc)∧w'.cell? ⟨x5,0,none⟩=some (.int .i64 op)∧w'.cell? ⟨x5,1,none⟩=some (.int .i64 na)∧w'.cell? ⟨x5,2,none⟩=some (.int .i64 nb)∧w'.cell? ⟨x5,3,none⟩=some (.int .i64 nc)∧w'.cell? ⟨x5,4,none⟩=some (.int .i64 nd)∧w'.cell? ⟨x6,2,none⟩=some (.slice ago s.guards.length agc)) :
  Code.wp Tryz.prog pcS8 Q ⟨List.toArray (c0::c1::c2::c3::c4::.pointer (some ⟨x5,0,none⟩)::.pointer (some ⟨x6,0,none⟩)::.pointer (some ⟨x7,0,none⟩)::.pointer (some ⟨x8,0,none⟩)::c9::c10::c11::c12::c13::c14::c15::c16::c17::c18::c19::c20::c21::c22::c23::c24::c25::c26::c27::c28::c29::c30::c31::c32::c33::c34::c35::c36::c37::c38::c39::c40::c41::c42::c43::c44::c45::c46::c47::c48::c49::c50::c51::c52::c53::c54::c55::c56::c57::c58::c59::c60::c61::c62::c63::c64::c65::c66::c67::c68::c69::c70::c71::c72::c73::c74::c75::c76::c77::c78::c79::c80::c81::c82::c83::c84::c85::c86::c87::c88::c89::c90::c91::c92::c93::c94::c95::c96::c97::c98::c99::c100::[]),[]⟩ w:=by
 conv=>arg 2;whnf
 have HQ:Hid _:=hq
 have HGB:Hid _:=hgb
 have HS:Hid _:=hS
 have HRT:Hid _:=hrt
 have HLw:Hid _:=hLw
 obtain⟨e0,e1,e2,e3,e4,e5,e6⟩:=hS w (Below.refl _ _)
 clear hq hgb hS hrt hLw
 go_region_held3 (fun w'=>w'.cell? ⟨x8,0,none⟩=some (.slice ro m rc)∧w'.cell? ⟨x5,0,none⟩=some (.int .i64 op)∧w'.cell? ⟨x5,1,none⟩=some (.int .i64 na)∧w'.cell? ⟨x5,2,none⟩=some (.int .i64 nb)∧w'.cell? ⟨x5,3,none⟩=some (.int .i64 nc)∧w'.cell? ⟨x5,4,none⟩=some (.int .i64 nd)∧w'.cell? ⟨x6,2,none⟩=some (.slice ago s.guards.length agc)) (first | (refine HS.out _ ?_;(repeat (first | assumption | exact HB3.out | exact Below.refl _ _ | refine Below.drew ?_ | refine below_al ?_ _ | refine below_st ?_ (by dsimp only;omega) _))))
  (first
   | (go_at_call 118;refine (HGB.out _ (by (repeat (first | assumption | exact HB3.out | exact Below.refl _ _ | refine Below.drew ?_ | refine below_al ?_ _ | refine below_st ?_ (by dsimp only;omega) _)))).mono ?_;rintro e w3 ⟨⟨bgo,bgc,rfl,RG3⟩,hw3,hw3b⟩;have HB3:Hid (Below w.heap.size w w3):=hw3;have HRG3:Hid (RowG L w3 bgo bgc gs2):=RG3;have hs3:w.heap.size≤w3.heap.size:=hw3.size;have zz:Blk w3 w.heap.size #[.bool false,.slice none 0 0,.slice none 0 0] 98:=Blk.later (w:=(w.alloc (.cells #[.bool false,.slice none 0 0,.slice none 0 0] 98)).drew) (Blk.new w #[.bool false,.slice none 0 0,.slice none 0 0] 98) hw3b;have z0:=zz.cell;have zf:=zz.frozen)
   | (go_at_call 118;refine (HGB.out _ (by (repeat (first | assumption | exact HB3.out | exact Below.refl _ _ | refine Below.drew ?_ | refine below_al ?_ _ | refine below_st ?_ (by dsimp only;omega) _)))).mono ?_;rintro e w3 ⟨⟨bgo,bgc,rfl,RG3⟩,hw3,hw3b⟩;have HB3:Hid (Below w.heap.size w w3):=hw3;have HRG3:Hid (RowG L w3 bgo bgc gs2):=RG3;have hs3:w.heap.size≤w3.heap.size:=hw3.size))
 ·have hB:Below w.heap.size w (w3.alloc (.cells #[.bool false,.slice ro m rc,.slice bgo gs2.length bgc] 98)):=below_al HB3.out _
  exact HQ.out _ _ _ _ _ _ _ w3.heap.size _ bgo bgc hs3 (Blk.new w3 #[.bool false,.slice ro m rc,.slice bgo gs2.length bgc] 98) (HRT.out.later (Keeps.of_below hB)) (HRG3.out.later (Keeps.of_below ((Below.refl _ _).alloc (Nat.le_refl _) _))) hB
 ·have hB:=below_st (below_st (below_st HB3.out (p:=⟨w.heap.size,0,none⟩) (Nat.le_refl _) (.bool false)) (p:=⟨w.heap.size,1,none⟩) (Nat.le_refl _) (.slice ro m rc)) (p:=⟨w.heap.size,2,none⟩) (Nat.le_refl _) (.slice bgo gs2.length bgc)
  exact HQ.out _ _ _ _ _ _ _ w.heap.size _ bgo bgc (Nat.le_refl _) (zz.three) (HRT.out.later (Keeps.of_below hB)) (((HRG3.out.store zz (by decide) 0 _).store (zz.set 0 _) (by decide) 1 _).store ((zz.set 0 _).set 1 _) (by decide) 2 _) hB
end Go.Proofs.YtaakadmnhpboiaaGreatDoor
