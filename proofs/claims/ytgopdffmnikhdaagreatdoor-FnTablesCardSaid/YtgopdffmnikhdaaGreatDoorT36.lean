import Derived.Test.YtgopdffmnikhdaaGreatDoorT30
import Derived.Test.YtgopdffmnikhdaaGreatDoorT35
import Derived.Test.YtgopdffmnikhdaaGreatDoorT26
import Derived.Lib.SliceRun
import Derived.Lib.Walk
import Derived.Maps.AppendAt
namespace Go.Proofs.YtgopdffmnikhdaaGreatDoor
open Go.RowKit Go.Deep
set_option maxRecDepth 1000000 in
set_option maxHeartbeats 8000000 in
theorem stp_r8 (x5 x6 x7 x8 L m:Nat) (ro ago:Option Addr) (rc agc:Nat) (op na nb nc nd:Int) (s:St) (ts2:List Int) (gs2:List Gd) (w:World) (c0 c1 c2 c3 c4 c9 c10 c11 c12 c13 c14 c15 c16 c17 c18 c19 c20 c21 c22 c23 c24 c25 c26 c27 c28 c29 c30 c31 c32 c33 c34 c35 c36 c37 c38 c39 c40 c41 c42 c43 c44 c45 c46 c47 c48 c49 c50 c51 c52 c53 c54 c55 c56 c57 c58 c59 c60 c61 c62 c63 c64 c65 c66 c67 c68 c69 c70 c71 c72 c73 c74 c75 c76 c77 c78 c79 c80 c81 c82 c83 c84 c85 c86 c87 c88 c89 c90 c91 c92 c93 c94 c95 c96 c97 c98 c99 c100:Value) (Q:Exit→Act→World→Prop)
  (hq:∀(u76 u77 u78 u79 u80 u81 u82:Value) (x9:Nat) (wx:World) (bgo:Option Addr) (bgc:Nat),w.heap.size≤x9→Blk wx x9 #[.bool false,.slice ro m rc,.slice bgo gs2.length bgc] 318→RowI L wx ro rc ts2→RowG L wx bgo bgc gs2→Below w.heap.size w wx→Q .normal ⟨List.toArray (c0::c1::c2::c3::c4::.pointer (some ⟨x5,0,none⟩)::.pointer (some ⟨x6,0,none⟩)::.pointer (some ⟨x7,0,none⟩)::.pointer (some ⟨x8,0,none⟩)::.pointer (some ⟨x9,0,none⟩)::c10::c11::c12::c13::c14::c15::c16::c17::c18::c19::c20::c21::c22::c23::c24::c25::c26::c27::c28::c29::c30::c31::c32::c33::c34::c35::c36::c37::c38::c39::c40::c41::c42::c43::c44::c45::c46::c47::c48::c49::c50::c51::c52::c53::c54::c55::c56::c57::c58::c59::c60::c61::c62::c63::c64::c65::c66::c67::c68::c69::c70::c71::c72::c73::c74::c75::u76::u77::u78::u79::u80::u81::u82::c83::c84::c85::c86::c87::c88::c89::c90::c91::c92::c93::c94::c95::c96::c97::c98::c99::c100::[]),[]⟩ wx)
  (hrt:RowI L w ro rc ts2) (hLw:L≤w.heap.size)
  (hgb:∀W,Below w.heap.size w W→Calls Tryz.prog 309 #[.agg #[.int .i64 op,.int .i64 na,.int .i64 nb,.int .i64 nc,.int .i64 nd],.slice ago s.guards.length agc] W fun e w'=>(∃bgo bgc,e=.returned (.slice bgo gs2.length bgc)∧RowG L w' bgo bgc gs2)∧Below w.heap.size w w'∧Below W.heap.size W w')
  (hS:∀w',Below w.heap.size w w'→w'.cell? ⟨x8,0,none⟩=some (.slice ro m rc)∧w'.cell? ⟨x5,0,none⟩=some (.int .i64 op)∧w'.cell? ⟨x5,1,none⟩=some (.int .i64 na)∧w'.cell? ⟨x5,2,none⟩=some (.int .i64 nb)∧w'.cell? ⟨x5,3,none⟩=some (.int .i64 nc)∧w'.cell? ⟨x5,4,none⟩=some (.int .i64 nd)∧w'.cell? ⟨x6,2,none⟩=some (.slice ago s.guards.length agc)) :
  Code.wp Tryz.prog pcS8 Q ⟨List.toArray (c0::c1::c2::c3::c4::.pointer (some ⟨x5,0,none⟩)::.pointer (some ⟨x6,0,none⟩)::.pointer (some ⟨x7,0,none⟩)::.pointer (some ⟨x8,0,none⟩)::c9::c10::c11::c12::c13::c14::c15::c16::c17::c18::c19::c20::c21::c22::c23::c24::c25::c26::c27::c28::c29::c30::c31::c32::c33::c34::c35::c36::c37::c38::c39::c40::c41::c42::c43::c44::c45::c46::c47::c48::c49::c50::c51::c52::c53::c54::c55::c56::c57::c58::c59::c60::c61::c62::c63::c64::c65::c66::c67::c68::c69::c70::c71::c72::c73::c74::c75::c76::c77::c78::c79::c80::c81::c82::c83::c84::c85::c86::c87::c88::c89::c90::c91::c92::c93::c94::c95::c96::c97::c98::c99::c100::[]),[]⟩ w:=by
 conv=>arg 2;whnf
 have HQ:Hid _:=hq
 have HGB:Hid _:=hgb
 have HS:Hid _:=hS
 have HRT:Hid _:=hrt
 have HLw:Hid _:=hLw
 obtain⟨e0,e1,e2,e3,e4,e5,e6⟩:=hS w (Below.refl _ _)
 clear hq hgb hS hrt hLw
 go_region_held3 (fun w'=>w'.cell? ⟨x8,0,none⟩=some (.slice ro m rc)∧w'.cell? ⟨x5,0,none⟩=some (.int .i64 op)∧w'.cell? ⟨x5,1,none⟩=some (.int .i64 na)∧w'.cell? ⟨x5,2,none⟩=some (.int .i64 nb)∧w'.cell? ⟨x5,3,none⟩=some (.int .i64 nc)∧w'.cell? ⟨x5,4,none⟩=some (.int .i64 nd)∧w'.cell? ⟨x6,2,none⟩=some (.slice ago s.guards.length agc)) (first | (refine HS.out _ ?_;(repeat (first | assumption | exact HB3.out | exact Below.refl _ _ | refine Below.drew ?_ | refine below_al ?_ _ | refine below_st ?_ (by dsimp only;omega) _))))
  (first
   | (go_at_call 309;refine (HGB.out _ (by (repeat (first | assumption | exact HB3.out | exact Below.refl _ _ | refine Below.drew ?_ | refine below_al ?_ _ | refine below_st ?_ (by dsimp only;omega) _)))).mono ?_;rintro e w3 ⟨⟨bgo,bgc,rfl,RG3⟩,hw3,hw3b⟩;have HB3:Hid (Below w.heap.size w w3):=hw3;have HRG3:Hid (RowG L w3 bgo bgc gs2):=RG3;have hs3:w.heap.size≤w3.heap.size:=hw3.size;have zz:Blk w3 w.heap.size #[.bool false,.slice none 0 0,.slice none 0 0] 318:=Blk.later (w:=(w.alloc (.cells #[.bool false,.slice none 0 0,.slice none 0 0] 318)).drew) (Blk.new w #[.bool false,.slice none 0 0,.slice none 0 0] 318) hw3b;have z0:=zz.cell;have zf:=zz.frozen)
   | (go_at_call 309;refine (HGB.out _ (by (repeat (first | assumption | exact HB3.out | exact Below.refl _ _ | refine Below.drew ?_ | refine below_al ?_ _ | refine below_st ?_ (by dsimp only;omega) _)))).mono ?_;rintro e w3 ⟨⟨bgo,bgc,rfl,RG3⟩,hw3,hw3b⟩;have HB3:Hid (Below w.heap.size w w3):=hw3;have HRG3:Hid (RowG L w3 bgo bgc gs2):=RG3;have hs3:w.heap.size≤w3.heap.size:=hw3.size))
 ·have hB:Below w.heap.size w (w3.alloc (.cells #[.bool false,.slice ro m rc,.slice bgo gs2.length bgc] 318)):=below_al HB3.out _
  exact HQ.out _ _ _ _ _ _ _ w3.heap.size _ bgo bgc hs3 (Blk.new w3 #[.bool false,.slice ro m rc,.slice bgo gs2.length bgc] 318) (HRT.out.later (Keeps.of_below hB)) (HRG3.out.later (Keeps.of_below ((Below.refl _ _).alloc (Nat.le_refl _) _))) hB
 ·have hB:=below_st (below_st (below_st HB3.out (p:=⟨w.heap.size,0,none⟩) (Nat.le_refl _) (.bool false)) (p:=⟨w.heap.size,1,none⟩) (Nat.le_refl _) (.slice ro m rc)) (p:=⟨w.heap.size,2,none⟩) (Nat.le_refl _) (.slice bgo gs2.length bgc)
  exact HQ.out _ _ _ _ _ _ _ w.heap.size _ bgo bgc (Nat.le_refl _) (zz.three) (HRT.out.later (Keeps.of_below hB)) (((HRG3.out.store zz (by decide) 0 _).store (zz.set 0 _) (by decide) 1 _).store ((zz.set 0 _).set 1 _) (by decide) 2 _) hB
attribute [local go_sem] run_eqg_Guard run_neq_Guard
set_option maxRecDepth 100000 in
set_option maxHeartbeats 1600000 in
theorem equalGd_any (p1 p2:Option Addr) (d1 d2:Nat) (g1 g2:List Gd) (w:World) (l3:g1.length≤1048576) (h3:GdsAt 0 w p1 g1) (h4:GdsAt 0 w p2 g2) :
  Calls Tryz.prog 302 #[.slice p1 g1.length d1,.slice p2 g2.length d2] w fun e w'=>e=.returned (.bool (decide (g1=g2)))∧Below w.heap.size w w':=by
 go_enter Tryz.func302,Tryz.ntmps302
 by_cases e2:g1.length=g2.length
 rotate_left
 ·have k2:((g1.length:Int) != g2.length)=true:=by simp;omega
  have HN:Hid (¬g1=g2):=fun h=>e2 (by rw [h])
  clear e2
  go_wp2_with fail
  go_ret
  exact⟨ret_bool (by simp [HN.out]),Below.refl _ _⟩
 ·have k2:((g1.length:Int) != g2.length)=false:=by simp;omega
  have E2:Hid (g1.length=g2.length):=e2
  clear e2
  go_wp2_with fail
  go_loopw [13] (fun y wr=>∃k:Nat,k≤g1.length∧y=.int .i64 k∧Hid ((g1=g2) ↔ (g1.drop k=g2.drop k))∧Below w.heap.size w wr) (fun y _=>g1.length - (intOf y).toNat)
  case atStart=>exact ⟨0,Nat.zero_le _,rfl,Iff.rfl,Below.refl _ _⟩
  case round=>
   obtain⟨k',hk',rfl,HQ,hb'⟩:=hrel
   by_cases hkl2:k'<g1.length
   ·obtain⟨x,hxk⟩:=some_of_lt hkl2
    have hkl3:k'<g2.length:=by rw [←E2.out];exact hkl2
    obtain⟨y,hyk⟩:=some_of_lt hkl3
    obtain⟨b,off,rfl,_,hbl,q0,q1,q2⟩:=h3.later (Keeps.of_below hb') k' x hxk
    obtain⟨b',off',rfl,_,hbl',q3,q4,q5⟩:=h4.later (Keeps.of_below hb') k' y hyk
    have HD:Hid ((g1=g2) ↔ (x=y∧g1.drop (k'+1)=g2.drop (k'+1))):=HQ.out.trans (drop_eq_step hxk hyk)
    have k3:(k':Int)<g2.length:=by omega
    obtain⟨x0,x1,x2'⟩:=x
    obtain⟨y0,y1,y2'⟩:=y
    dsimp only at *
    clear HQ h3 h4 hxk hyk
    by_cases hxy:(⟨x0,x1,x2'⟩:Gd)=⟨y0,y1,y2'⟩
    ·have HN:Hid ((g1=g2) ↔ g1.drop (k'+1)=g2.drop (k'+1)):=by
      show _ ↔ _
      rw [HD.out]
      exact⟨fun h=>h.2,fun h=>⟨hxy,h⟩⟩
     simp only [Gd.mk.injEq] at hxy
     obtain⟨rfl,rfl,rfl⟩:=hxy
     clear HD
     go_wp2_with fail
     go_quiet (fail)
     go_wp2_with fail
     go_roundw
     case rel=>exact ⟨k'+1,by omega,by go_num,HN.out,below_drewN hb' _⟩
     case measure=>simp [intOf];omega
    ·have HN:Hid (¬g1=g2):=by
      intro h
      exact hxy (HD.out.1 h).1
     have k4:(¬x0=y0)∨(x0=y0∧¬x1=y1)∨(x0=y0∧x1=y1∧¬x2'=y2'):=by
      simp only [Gd.mk.injEq] at hxy
      by_cases z0:x0=y0 <;> by_cases z1:x1=y1 <;> by_cases z2:x2'=y2' <;> simp_all
     clear HD hxy
     rcases k4 with k4 | ⟨rfl,k4⟩ | ⟨rfl,rfl,k4⟩
     ·have k5:(x0 == y0)=false:=by simpa using k4
      go_wp2_with fail
      go_quiet (fail)
      go_wp2_with fail
      go_ret
      exact⟨ret_bool (by simp [HN.out]),below_drewN hb' _⟩
     ·have k5:(x1 == y1)=false:=by simpa using k4
      go_wp2_with fail
      go_quiet (fail)
      go_wp2_with fail
      go_ret
      exact⟨ret_bool (by simp [HN.out]),below_drewN hb' _⟩
     ·have k5:(x2' == y2')=false:=by simpa using k4
      go_wp2_with fail
      go_quiet (fail)
      go_wp2_with fail
      go_ret
      exact⟨ret_bool (by simp [HN.out]),below_drewN hb' _⟩
   ·have HG:Hid (g1=g2):=by
     show _=_
     rw [HQ.out,List.drop_of_length_le (by omega),List.drop_of_length_le (by rw [←E2.out];omega)]
    clear HQ
    go_wp2_with fail
    go_ret
    exact⟨ret_bool (by simp [HG.out]),hb'⟩
end Go.Proofs.YtgopdffmnikhdaaGreatDoor
