import Derived.Test.YtaakadmnhpboiaaGreatDoorM46
import Derived.Test.YtaakadmnhpboiaaGreatDoorM44
import Derived.Test.YtaakadmnhpboiaaGreatDoorM04
import Derived.Deep.RegionHeld3
namespace Go.Proofs.YtaakadmnhpboiaaGreatDoor
open Go.RowKit Go.Deep
theorem ProtosAt.lower0 {lo:Nat} {w:World} {ao:Option Addr} {xs:List Pd} (h:ProtosAt lo w ao xs):ProtosAt 0 w ao xs:=by
 intro i x hx
 obtain⟨b,off,e,h1,hs,g,ha,hp⟩:=h i x hx
 exact⟨b,off,e,Nat.zero_le _,hs,g,ha,hp.lower (Nat.zero_le _)⟩
theorem fine_of {ps:List Pd} (hb:bulkPs ps≤1048576) (hg:∀p ∈ ps,PdIn p):Fine ps:=by
 refine⟨hb,fun p hp=>?_,fun p hp=>(hg p hp).flts,fun p hp=>(hg p hp).nds⟩
 have h1:bulkP p≤sumL bulkP ps:=sumL_mem hp
 unfold bulkPs at hb
 generalize sumL bulkP ps=S at *
 unfold bulkP bulkVs bulkMs at h1
 exact⟨by omega,by omega,by omega,by omega⟩
set_option maxRecDepth 100000 in
set_option maxHeartbeats 8000000 in
theorem checkLaw_any (ao:Option Addr) (cap:Nat) (ps:List Pd) (w:World) (hm:ps.length≤9223372036854775807) (hg:∀p ∈ ps,PdIn p) (hF:Forms w) (hv:ProtosAt 0 w ao ps) :
  Calls Tryz.prog 3 #[.agg #[.slice ao ps.length cap]] w fun e w'=>e=.returned (.bool true)∧Below w.heap.size w w':=by
 have C0:=Blk.new w #[.slice ao ps.length cap] 24
 have B0:=below_al (Below.refl w.heap.size w) (.cells #[.slice ao ps.length cap] 24)
 have hsz:=szCode_any ao cap ps 1048576 (w.alloc (.cells #[.slice ao ps.length cap] 24)) (by omega) (by omega) hm (fun p hp=>(hg p hp).sz) (hv.later (Keeps.of_below B0))
 by_cases hn:bulkPs ps≤1048576
 ·have FI:=fine_of hn hg
  have hps:ps.length≤1048576:=by unfold bulkPs at hn;omega
  rw [szN_pos (by omega)] at hsz
  obtain⟨q,hq⟩:∃q:Nat,(q:Int)=1048576 - (bulkPs ps:Int):=⟨(1048576 - bulkPs ps),by omega⟩
  rw [←hq] at hsz
  have HSZ:Hid (∀_:Unit,_):=fun _=>hsz
  have HTO:Hid (∀W,Below w.heap.size w W→Calls Tryz.prog 8 #[.agg #[.slice ao ps.length cap]] W fun e w'=>∃g,e=.returned (.agg #[.slice (some ⟨g,0,none⟩) ps.length ps.length])∧ProtosAt 0 w' (some ⟨g,0,none⟩) ps∧Below W.heap.size W w'):=fun W hb=>(toCode_any ao cap ps W hps FI.few (hv.later (Keeps.of_below hb))).mono fun e w' ⟨g,h1,h2,h3⟩=>⟨g,h1,ProtosAt.lower0 h2,h3⟩
  have HFI:Hid (Fine ps):=FI
  have HF:Hid (Forms w):=hF
  obtain⟨⟨f0,f1,f2⟩,hf⟩:∃f,f=checkF ps:=⟨_,rfl⟩
  have HSP:Hid (∀g W,ProtosAt 0 W (some ⟨g,0,none⟩) ps→Calls Tryz.prog 7 #[.agg #[.slice (some ⟨g,0,none⟩) ps.length ps.length]] W fun e w'=>e=.returned (.agg #[.int .i64 f0,.int .i64 f1,.int .i64 f2])∧Below W.heap.size W w'):=fun g W hp=>by have:=specCheckCode_any (some ⟨g,0,none⟩) ps.length ps W HFI.out hp;rw [←hf] at this;exact this
  have HIM:Hid (∀g W,Below w.heap.size w W→ProtosAt 0 W (some ⟨g,0,none⟩) ps→Calls Tryz.prog 9 #[.agg #[.slice (some ⟨g,0,none⟩) ps.length ps.length]] W fun e w'=>e=.returned (.agg #[.int .i64 f0,.int .i64 f1,.int .i64 f2])∧Below W.heap.size W w'):=fun g W hb hp=>by have:=implCheckCode_any (some ⟨g,0,none⟩) ps.length ps W HFI.out (HF.out.later hb) hp;rw [←hf] at this;exact this
  have HEQ:Hid (∀g k W,ProtosAt 0 W (some ⟨g,0,none⟩) ps→ProtosAt 0 W (some ⟨k,0,none⟩) ps→Calls Tryz.prog 11 #[.agg #[.slice (some ⟨g,0,none⟩) ps.length ps.length],.agg #[.slice (some ⟨k,0,none⟩) ps.length ps.length]] W fun e w'=>e=.returned (.bool true)∧Below W.heap.size W w'):=fun g k W h1 h2=>eqCode_any (some ⟨g,0,none⟩) (some ⟨k,0,none⟩) ps.length ps.length ps W hps HFI.out.few HFI.out.flts h1 h2
  have q0:¬(q:Int)<0:=by omega
  clear hsz hf hn hg hF hv FI hm hq
  go_enter Tryz.func3,Tryz.ntmps3
  have c0:=C0.cell 0
  go_wp2_with fail
  refine (HSZ.out ()).mono ?_
  rintro e w1 ⟨rfl,hw1⟩
  have B1:=B0.trans (hw1.mono B0.size)
  have C1:=C0.later hw1
  clear hw1 B0 C0 c0 HSZ
  have c1:=C1.cell 0
  go_wp2_with fail
  refine (HTO.out w1 B1).mono ?_
  rintro e w2 ⟨g2,rfl,P2,hw2⟩
  have B2:=B1.trans (hw2.mono B1.size)
  have C2:=C1.later hw2
  clear hw2 B1 C1 c1
  go_wp2_with fail
  refine (HSP.out g2 w2 P2).mono ?_
  rintro e w3 ⟨rfl,hw3⟩
  have A3:=below_al (Below.refl w3.heap.size w3) (.cells #[.int .i64 f0,.int .i64 f1,.int .i64 f2] 27)
  have B3:=B2.trans (hw3.mono B2.size)
  have B4:=B3.trans (A3.mono B3.size)
  have C4:=(C2.later hw3).later A3
  have F4:=Blk.new w3 #[.int .i64 f0,.int .i64 f1,.int .i64 f2] 27
  clear hw3 B2 B3 C2 P2 A3 HSP
  have c4:=C4.cell 0
  go_wp2_with fail
  generalize w3.alloc (.cells #[.int .i64 f0,.int .i64 f1,.int .i64 f2] 27)=w4 at *
  refine (HTO.out w4 B4).mono ?_
  rintro e w5 ⟨g5,rfl,P5,hw5⟩
  have A5:=below_al (Below.refl w5.heap.size w5) (.cells #[.slice (some ⟨g5,0,none⟩) ps.length ps.length] 31)
  have B5:=B4.trans (hw5.mono B4.size)
  have B6:=B5.trans (A5.mono B5.size)
  have C6:=(C4.later hw5).later A5
  have F6:=(F4.later hw5).later A5
  have P6:ProtosAt 0 _ _ ps:=P5.later (Keeps.of_below A5)
  have K6:=Blk.new w5 #[.slice (some ⟨g5,0,none⟩) ps.length ps.length] 31
  have HP6:Hid _:=P6
  clear hw5 B4 B5 C4 F4 P5 A5 c4 P6
  have k6:=K6.cell 0
  go_wp2_with fail
  generalize w5.alloc (.cells #[.slice (some ⟨g5,0,none⟩) ps.length ps.length] 31)=w6 at *
  refine (HIM.out g5 w6 B6 HP6.out).mono ?_
  rintro e w7 ⟨rfl,hw7⟩
  have A7:=below_al (Below.refl w7.heap.size w7) (.cells #[.int .i64 f0,.int .i64 f1,.int .i64 f2] 27)
  have B7:=B6.trans (hw7.mono B6.size)
  have B8:=B7.trans (A7.mono B7.size)
  have C8:=(C6.later hw7).later A7
  have F8:=(F6.later hw7).later A7
  have K8:=(K6.later hw7).later A7
  have G8:=Blk.new w7 #[.int .i64 f0,.int .i64 f1,.int .i64 f2] 27
  have HP8:Hid (ProtosAt 0 (w7.alloc (.cells #[.int .i64 f0,.int .i64 f1,.int .i64 f2] 27)) (some ⟨g5,0,none⟩) ps):=(ProtosAt.later HP6.out (Keeps.of_below hw7)).later (Keeps.of_below A7)
  clear hw7 B6 B7 C6 F6 K6 k6 A7 HP6 HIM
  have f8:=F8.cell
  have g8:=G8.cell
  go_wp2_with fail
  generalize w7.alloc (.cells #[.int .i64 f0,.int .i64 f1,.int .i64 f2] 27)=w8 at *
  refine (eqFault_any f0 f1 f2 w8).mono ?_
  rintro e w9 ⟨rfl,hw9⟩
  have B9:=B8.trans (hw9.mono B8.size)
  have C9:=C8.later hw9
  have K9:=K8.later hw9
  have HP9:Hid (ProtosAt 0 w9 (some ⟨g5,0,none⟩) ps):=ProtosAt.later HP8.out (Keeps.of_below hw9)
  clear hw9 B8 C8 F8 K8 G8 f8 g8 HP8
  have c9:=C9.cell 0
  have k9:=K9.cell 0
  go_wp2_with fail
  have Dd:Below w9.heap.size w9 w9.drew:=(Below.refl _ _).drew
  have Cd:=C9.later Dd
  have Kd:=K9.later Dd
  have HPd:Hid (ProtosAt 0 w9.drew (some ⟨g5,0,none⟩) ps):=ProtosAt.later HP9.out (Keeps.of_below Dd)
  go_region_held3 (fun w'=>w'.cell? ⟨w.heap.size,0,none⟩=some (.slice ao ps.length cap)∧w'.cell? ⟨w5.heap.size,0,none⟩=some (.slice (some ⟨g5,0,none⟩) ps.length ps.length)) (go_keep)
   (first
    | (go_at_call 8;refine (HTO.out w9.drew B9.drew).mono ?_;rintro e wa ⟨ga,rfl,Pa,hwa⟩;have ca:=(Cd.later hwa).cell 0;have ka:=(Kd.later hwa).cell 0;have HPa:Hid (ProtosAt 0 wa (some ⟨ga,0,none⟩) ps):=Pa)
    | (go_at_call 11;refine (HEQ.out g5 ga wa (ProtosAt.later HPd.out (Keeps.of_below hwa)) HPa.out).mono ?_;rintro e wb ⟨rfl,hwb⟩;have cb:=((Cd.later hwa).later hwb).cell 0;have kb:=((Kd.later hwa).later hwb).cell 0))
  go_wp2_with fail
  go_ret
  exact⟨rfl,(B9.drew.trans (hwa.mono B9.drew.size)).trans (hwb.mono (Nat.le_trans B9.drew.size hwa.size))⟩
 ·rw [szN_neg (by omega)] at hsz
  have HSZ:Hid (∀_:Unit,_):=fun _=>hsz
  clear hsz hn hg hF hv hm
  go_enter Tryz.func3,Tryz.ntmps3
  have c0:=C0.cell 0
  go_wp2_with fail
  refine (HSZ.out ()).mono ?_
  rintro e w1 ⟨rfl,hw1⟩
  have B1:=B0.trans (hw1.mono B0.size)
  clear c0 C0
  go_wp2_with fail
  go_ret
  exact⟨rfl,B1⟩
end Go.Proofs.YtaakadmnhpboiaaGreatDoor
