import Derived.Test.YtgopdffmnikhdaaGreatDoorT25
import Derived.ArgAppend
import Derived.Deep.Cut
import Derived.Deep.RegionLaw
namespace Go.Proofs.YtgopdffmnikhdaaGreatDoor
open Go.RowKit Go.Deep
theorem below_al {w w':World} (h:Below w.heap.size w w') (o:Obj):Below w.heap.size w (w'.alloc o):=h.alloc h.size o
theorem below_st {w w':World} (h:Below w.heap.size w w') {p:Addr} (hp:w.heap.size≤p.block) (v:Value):Below w.heap.size w (w'.setCell p v):=h.setCell hp v
noncomputable def pcS1:Code:=pathC [1,0] (Tryz.f253.body.getD .skip)
noncomputable def pcS2:Code:=pathC [1,1,0] (Tryz.f253.body.getD .skip)
noncomputable def pcS4:Code:=pathC [1,1,1,1,0,0,0] (Tryz.f253.body.getD .skip)
noncomputable def pcS8:Code:=pathC [1,1,1,1,1,1,0] (Tryz.f253.body.getD .skip)
noncomputable def pcS9:Code:=pathC [1,1,1,1,1,1,1,0,0] (Tryz.f253.body.getD .skip)
set_option maxRecDepth 1000000 in
set_option maxHeartbeats 8000000 in
theorem stp_r1 (vb sb ib iof i:Nat) (p:Pd) (h:Ph) (op na nb nc nd:Int) (s:St) (ao ago:Option Addr) (ac agc:Nat) (w:World) (c2 c3 c4 c5 c6 c7 c8 c9 c10 c11 c12 c13 c14 c15 c16 c17 c18 c19 c20 c21 c22 c23 c24 c25 c26 c27 c28 c29 c30 c31 c32 c33 c34 c35 c36 c37 c38 c39 c40 c41 c42 c43 c44 c45 c46 c47 c48 c49 c50 c51 c52 c53 c54 c55 c56 c57 c58 c59 c60 c61 c62 c63 c64 c65 c66 c67 c68 c69 c70 c71 c72 c73 c74 c75 c76 c77 c78 c79 c80 c81 c82 c83 c84 c85 c86 c87 c88 c89 c90 c91 c92 c93 c94 c95 c96 c97 c98 c99 c100:Value) (Q:Exit→Act→World→Prop)
  (hq:∀(u10 u11 u12 u13 u14 u15 u16 u17 u18 u19 u20 u21 u22 u23 u24:Value) (x5 x6:Nat) (wx:World),x5≠x6→w.heap.size≤x5→w.heap.size≤x6→Blk wx x5 #[.int .i64 op,.int .i64 na,.int .i64 nb,.int .i64 nc,.int .i64 nd] 48→Blk wx x6 #[.bool true,.slice ao s.types.length ac,.slice ago s.guards.length agc] 318→Below w.heap.size w wx→Q .normal ⟨List.toArray (.pointer (some ⟨vb,0,none⟩)::.int .i64 i::c2::c3::c4::.pointer (some ⟨x5,0,none⟩)::.pointer (some ⟨x6,0,none⟩)::c7::c8::c9::u10::u11::u12::u13::u14::u15::u16::u17::u18::u19::u20::u21::u22::u23::u24::c25::c26::c27::c28::c29::c30::c31::c32::c33::c34::c35::c36::c37::c38::c39::c40::c41::c42::c43::c44::c45::c46::c47::c48::c49::c50::c51::c52::c53::c54::c55::c56::c57::c58::c59::c60::c61::c62::c63::c64::c65::c66::c67::c68::c69::c70::c71::c72::c73::c74::c75::c76::c77::c78::c79::c80::c81::c82::c83::c84::c85::c86::c87::c88::c89::c90::c91::c92::c93::c94::c95::c96::c97::c98::c99::c100::[]),[]⟩ wx)
  (_k1:(i:Int)<p.ins.length) (_hv:vb<w.heap.size) (_hs:sb<w.heap.size) (_hi:ib<w.heap.size) (e0:w.cell? ⟨vb,8,none⟩=some (.slice (some ⟨ib,iof,none⟩) p.ins.length h.ic)) (e1:w.cell? ⟨vb,10,none⟩=some (.slice (some ⟨sb,0,none⟩) p.ins.length p.ins.length)) (e2:w.cell? ⟨ib,iof+i*5,none⟩=some (.int .i64 op)) (e3:w.cell? ⟨ib,iof+i*5+1,none⟩=some (.int .i64 na)) (e4:w.cell? ⟨ib,iof+i*5+2,none⟩=some (.int .i64 nb)) (e5:w.cell? ⟨ib,iof+i*5+3,none⟩=some (.int .i64 nc)) (e6:w.cell? ⟨ib,iof+i*5+4,none⟩=some (.int .i64 nd)) (e7:w.cell? ⟨sb,i*3,none⟩=some (.bool true)) (e8:w.cell? ⟨sb,i*3+1,none⟩=some (.slice ao s.types.length ac)) (e9:w.cell? ⟨sb,i*3+2,none⟩=some (.slice ago s.guards.length agc)) :
  Code.wp Tryz.prog pcS1 Q ⟨List.toArray (.pointer (some ⟨vb,0,none⟩)::.int .i64 i::c2::c3::c4::c5::c6::c7::c8::c9::c10::c11::c12::c13::c14::c15::c16::c17::c18::c19::c20::c21::c22::c23::c24::c25::c26::c27::c28::c29::c30::c31::c32::c33::c34::c35::c36::c37::c38::c39::c40::c41::c42::c43::c44::c45::c46::c47::c48::c49::c50::c51::c52::c53::c54::c55::c56::c57::c58::c59::c60::c61::c62::c63::c64::c65::c66::c67::c68::c69::c70::c71::c72::c73::c74::c75::c76::c77::c78::c79::c80::c81::c82::c83::c84::c85::c86::c87::c88::c89::c90::c91::c92::c93::c94::c95::c96::c97::c98::c99::c100::[]),[]⟩ w:=by
 conv=>arg 2;whnf
 have HQ:Hid _:=hq
 clear hq
 go_region_held3 (fun w'=>w'.cell? ⟨vb,8,none⟩=some (.slice (some ⟨ib,iof,none⟩) p.ins.length h.ic)∧w'.cell? ⟨vb,10,none⟩=some (.slice (some ⟨sb,0,none⟩) p.ins.length p.ins.length)∧w'.cell? ⟨ib,iof+i*5,none⟩=some (.int .i64 op)∧w'.cell? ⟨ib,iof+i*5+1,none⟩=some (.int .i64 na)∧w'.cell? ⟨ib,iof+i*5+2,none⟩=some (.int .i64 nb)∧w'.cell? ⟨ib,iof+i*5+3,none⟩=some (.int .i64 nc)∧w'.cell? ⟨ib,iof+i*5+4,none⟩=some (.int .i64 nd)∧w'.cell? ⟨sb,i*3,none⟩=some (.bool true)∧w'.cell? ⟨sb,i*3+1,none⟩=some (.slice ao s.types.length ac)∧w'.cell? ⟨sb,i*3+2,none⟩=some (.slice ago s.guards.length agc)) (first | exact ⟨e0,e1,e2,e3,e4,e5,e6,e7,e8,e9⟩ | (go_keep;done)) (fail)
 ·refine HQ.out _ _ _ _ _ _ _ _ _ _ _ _ _ _ _ w.heap.size (w.heap.size+1) _ (by omega) (Nat.le_refl _) (by omega) ?_ ?_ ?_
  ·exact (Blk.new w #[.int .i64 op,.int .i64 na,.int .i64 nb,.int .i64 nc,.int .i64 nd] 48).alloc (.cells #[.bool true,.slice ao s.types.length ac,.slice ago s.guards.length agc] 318)
  ·have:=Blk.new (w.alloc (.cells #[.int .i64 op,.int .i64 na,.int .i64 nb,.int .i64 nc,.int .i64 nd] 48)) #[.bool true,.slice ao s.types.length ac,.slice ago s.guards.length agc] 318
   simp only [nblk_alloc] at this
   exact this
  ·exact (below_al (below_al (Below.refl _ _) _) _).drew
 ·refine HQ.out _ _ _ _ _ _ _ _ _ _ _ _ _ _ _ (w.heap.size+1) w.heap.size _ (by omega) (by omega) (Nat.le_refl _) ?_ ?_ ?_
  ·have:=Blk.new (w.alloc (.cells #[.bool true,.slice ao s.types.length ac,.slice ago s.guards.length agc] 318)) #[.int .i64 op,.int .i64 na,.int .i64 nb,.int .i64 nc,.int .i64 nd] 48
   simp only [nblk_alloc] at this
   exact this
  ·exact (Blk.new w #[.bool true,.slice ao s.types.length ac,.slice ago s.guards.length agc] 318).alloc (.cells #[.int .i64 op,.int .i64 na,.int .i64 nb,.int .i64 nc,.int .i64 nd] 48)
  ·exact (below_al (below_al (Below.refl _ _) _) _).drew
end Go.Proofs.YtgopdffmnikhdaaGreatDoor
