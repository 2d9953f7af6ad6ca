import Derived.Test.YtaakadmnhpboiaaGreatDoorM31
import Derived.Test.YtaakadmnhpboiaaGreatDoorM17
import Derived.Test.YtaakadmnhpboiaaGreatDoorM20
namespace Go.Proofs.YtaakadmnhpboiaaGreatDoor
open Go.RowKit Go.Deep
set_option maxRecDepth 1000000 in
set_option maxHeartbeats 8000000 in
theorem stp_r2 (vb x5:Nat) (cao:Option Addr) (ccap:Nat) (ps:List Pd) (p:Pd) (h:Ph) (op na nb nc nd:Int) (t0 t1 t2 t3:TypeId) (v0 v1 v2 v3:Value) (w:World) (c1 c2 c3 c4 c6 c7 c8 c9 c10 c11 c12 c13 c14 c15 c16 c17 c18 c19 c20 c21 c22 c23 c24 c25 c26 c27 c28 c29 c30 c31 c32 c33 c34 c35 c36 c37 c38 c39 c40 c41 c42 c43 c44 c45 c46 c47 c48 c49 c50 c51 c52 c53 c54 c55 c56 c57 c58 c59 c60 c61 c62 c63 c64 c65 c66 c67 c68 c69 c70 c71 c72 c73 c74 c75 c76 c77 c78 c79 c80 c81 c82 c83 c84 c85 c86 c87 c88 c89 c90 c91 c92 c93 c94 c95 c96 c97 c98 c99 c100:Value) (Q:Exit→Act→World→Prop)
  (hq:∀(u25 u26 u27 u28 u29 u30 u31 u32 u33 u34:Value) (x7:Nat) (wx:World),w.heap.size≤x7→Blk wx x7 #[.iface t0 v0,.iface t1 v1,.iface t2 v2,.iface t3 v3] 179→Below w.heap.size w wx→Q .normal ⟨List.toArray (.pointer (some ⟨vb,0,none⟩)::c1::c2::c3::c4::.pointer (some ⟨x5,0,none⟩)::c6::.pointer (some ⟨x7,0,none⟩)::c8::c9::c10::c11::c12::c13::c14::c15::c16::c17::c18::c19::c20::c21::c22::c23::c24::u25::u26::u27::u28::u29::u30::u31::u32::u33::u34::c35::c36::c37::c38::c39::c40::c41::c42::c43::c44::c45::c46::c47::c48::c49::c50::c51::c52::c53::c54::c55::c56::c57::c58::c59::c60::c61::c62::c63::c64::c65::c66::c67::c68::c69::c70::c71::c72::c73::c74::c75::c76::c77::c78::c79::c80::c81::c82::c83::c84::c85::c86::c87::c88::c89::c90::c91::c92::c93::c94::c95::c96::c97::c98::c99::c100::[]),[]⟩ wx)
  (hfl:∀W,Below w.heap.size w W→Calls Tryz.prog 112 #[.agg #[.slice cao ps.length ccap],.agg #[.string p.name,.int .i64 p.line,.int .i64 p.params,.bool p.rest,.int .i64 p.regs,.slice h.uo p.ups.length h.uc,.slice h.co p.consts.length h.cc,.slice h.io p.ins.length h.ic,.slice h.no p.named.length h.nc],.agg #[.int .i64 op,.int .i64 na,.int .i64 nb,.int .i64 nc,.int .i64 nd]] W fun e w'=>e=.returned (.agg #[.iface t0 v0,.iface t1 v1,.iface t2 v2,.iface t3 v3])∧Below w.heap.size w w'∧Below W.heap.size W w')
  (hS:∀w',Below w.heap.size w w'→w'.cell? ⟨vb,0,none⟩=some (.slice cao ps.length ccap)∧w'.cell? ⟨vb,1,none⟩=some (.string p.name)∧w'.cell? ⟨vb,2,none⟩=some (.int .i64 p.line)∧w'.cell? ⟨vb,3,none⟩=some (.int .i64 p.params)∧w'.cell? ⟨vb,4,none⟩=some (.bool p.rest)∧w'.cell? ⟨vb,5,none⟩=some (.int .i64 p.regs)∧w'.cell? ⟨vb,6,none⟩=some (.slice h.uo p.ups.length h.uc)∧w'.cell? ⟨vb,7,none⟩=some (.slice h.co p.consts.length h.cc)∧w'.cell? ⟨vb,8,none⟩=some (.slice h.io p.ins.length h.ic)∧w'.cell? ⟨vb,9,none⟩=some (.slice h.no p.named.length h.nc)∧w'.cell? ⟨x5,0,none⟩=some (.int .i64 op)∧w'.cell? ⟨x5,1,none⟩=some (.int .i64 na)∧w'.cell? ⟨x5,2,none⟩=some (.int .i64 nb)∧w'.cell? ⟨x5,3,none⟩=some (.int .i64 nc)∧w'.cell? ⟨x5,4,none⟩=some (.int .i64 nd)) :
  Code.wp Tryz.prog pcS2 Q ⟨List.toArray (.pointer (some ⟨vb,0,none⟩)::c1::c2::c3::c4::.pointer (some ⟨x5,0,none⟩)::c6::c7::c8::c9::c10::c11::c12::c13::c14::c15::c16::c17::c18::c19::c20::c21::c22::c23::c24::c25::c26::c27::c28::c29::c30::c31::c32::c33::c34::c35::c36::c37::c38::c39::c40::c41::c42::c43::c44::c45::c46::c47::c48::c49::c50::c51::c52::c53::c54::c55::c56::c57::c58::c59::c60::c61::c62::c63::c64::c65::c66::c67::c68::c69::c70::c71::c72::c73::c74::c75::c76::c77::c78::c79::c80::c81::c82::c83::c84::c85::c86::c87::c88::c89::c90::c91::c92::c93::c94::c95::c96::c97::c98::c99::c100::[]),[]⟩ w:=by
 conv=>arg 2;whnf
 have HQ:Hid _:=hq
 have HFL:Hid _:=hfl
 have HS:Hid _:=hS
 obtain⟨e0,e1,e2,e3,e4,e5,e6,e7,e8,e9,e10,e11,e12,e13,e14⟩:=hS w (Below.refl _ _)
 clear hq hfl hS
 go_region_held3 (fun w'=>w'.cell? ⟨vb,0,none⟩=some (.slice cao ps.length ccap)∧w'.cell? ⟨vb,1,none⟩=some (.string p.name)∧w'.cell? ⟨vb,2,none⟩=some (.int .i64 p.line)∧w'.cell? ⟨vb,3,none⟩=some (.int .i64 p.params)∧w'.cell? ⟨vb,4,none⟩=some (.bool p.rest)∧w'.cell? ⟨vb,5,none⟩=some (.int .i64 p.regs)∧w'.cell? ⟨vb,6,none⟩=some (.slice h.uo p.ups.length h.uc)∧w'.cell? ⟨vb,7,none⟩=some (.slice h.co p.consts.length h.cc)∧w'.cell? ⟨vb,8,none⟩=some (.slice h.io p.ins.length h.ic)∧w'.cell? ⟨vb,9,none⟩=some (.slice h.no p.named.length h.nc)∧w'.cell? ⟨x5,0,none⟩=some (.int .i64 op)∧w'.cell? ⟨x5,1,none⟩=some (.int .i64 na)∧w'.cell? ⟨x5,2,none⟩=some (.int .i64 nb)∧w'.cell? ⟨x5,3,none⟩=some (.int .i64 nc)∧w'.cell? ⟨x5,4,none⟩=some (.int .i64 nd)) (first | (refine HS.out _ ?_;(repeat (first | assumption | exact HB2.out | exact HB3.out | exact Below.refl _ _ | refine Below.drew ?_ | refine below_al ?_ _ | refine below_st ?_ (by dsimp only;omega) _))))
  (first
   | (go_at_call 112;refine (HFL.out _ (by (repeat (first | assumption | exact HB2.out | exact HB3.out | exact Below.refl _ _ | refine Below.drew ?_ | refine below_al ?_ _ | refine below_st ?_ (by dsimp only;omega) _)))).mono ?_;rintro e w2 ⟨rfl,hw2,hw2b⟩;have HB2:Hid (Below w.heap.size w w2):=hw2;have zz:Blk w2 w.heap.size #[.nilIface,.nilIface,.nilIface,.nilIface] 179:=Blk.later (w:=(w.alloc (.cells #[.nilIface,.nilIface,.nilIface,.nilIface] 179)).drew) (Blk.new w #[.nilIface,.nilIface,.nilIface,.nilIface] 179) hw2b;have z0:=zz.cell;have zf:=zz.frozen)
   | (go_at_call 112;refine (HFL.out _ (by (repeat (first | assumption | exact HB2.out | exact HB3.out | exact Below.refl _ _ | refine Below.drew ?_ | refine below_al ?_ _ | refine below_st ?_ (by dsimp only;omega) _)))).mono ?_;rintro e w2 ⟨rfl,hw2,hw2b⟩;have HB2:Hid (Below w.heap.size w w2):=hw2))
 ·exact HQ.out _ _ _ _ _ _ _ _ _ _ w2.heap.size _ HB2.out.size (Blk.new w2 #[.iface t0 v0,.iface t1 v1,.iface t2 v2,.iface t3 v3] 179) (below_al HB2.out _)
 ·exact HQ.out _ _ _ _ _ _ _ _ _ _ w.heap.size _ (Nat.le_refl _) ((((zz.set 0 (.iface t0 v0)).set 1 (.iface t1 v1)).set 2 (.iface t2 v2)).set 3 (.iface t3 v3)) (below_st (below_st (below_st (below_st HB2.out (Nat.le_refl _) _) (Nat.le_refl _) _) (Nat.le_refl _) _) (Nat.le_refl _) _)
set_option maxRecDepth 1000000 in
set_option maxHeartbeats 16000000 in
theorem walk_final (ps:List Pd) (pi:Nat) (p:Pd) (h:Ph) (cao:Option Addr) (ccap:Nat) (c:Cf) (w wr:World) (c0 c2 c3 c4 c8 c9 c10 c11 c12 c13 c14 c15 c16 c17 c18 c19 c20 c21 c22 c23 c24 c25 c26 c27 c28 c29 c30 c31 c32 c33 c34 c35 c36 c37 c38 c39 c40 c41 c42 c43 c44 c45 c46 c47 c48 c49 c50 c51 c52 c53 c54 c55 c56 c57 c58 c59 c60 c61 c62 c63 c64 c65 c66 c67 c68 c69 c70 c71 c72 c73 c74 c77 c78 c79 c80 c81 c82 c83 c84 c85 c86 c87 c88 c89 c90 c91 c92 c93 c94 c95 c96 c97 c98 c99 c100 c101 c102 c103 c104 c105 c106 c107 c108 c109 c110 c111 c112 c113 c114 c115 c116 c117 c118 c119 c120 c121 c122 c123 c124 c125 c126 c127 c128 c129 c130 c131 c132 c133 c134 c135 c136 c137 c138 c139 c140 c141 c142 c143 c144 c145 c146 c147 c148 c149 c150 c151 c152 c153 c154 c155 c156 c157 c158 c159 c160 c161 c162 c163 c164 c165 c166 c167 c168 c169 c170 c171 c172 c173 c174 c175 c176 c177 c178 c179 c180 c181 c182 c183 c184 c185 c186 c187 c188 c189 c190 c191 c192 c193 c194 c195 c196 c197 c198 c199 c200 c201 c202 c203 c204 c205 c206 c207 c208 c209:Value) (Q:Exit→Act→World→Prop) (hq:∀a' w',bodyPost Tryz.prog Tryz.f22 (WkPost w ps p pi) .ret a' w'→Q .ret a' w') (hx:∀(u4 u12 u76 u77 u78 u79 u80 u81 u82 u83 u84 u85 u86 u87 u88 u89 u90 u91 u92:Value) (w':World),verF ps p pi=(0,0,0)→WkAt w cao ccap ps p h w' c→Q (.exit 6) ⟨List.toArray (c0::.int .i64 pi::c2::c3::u4::.pointer (some ⟨w.heap.size+1,0,none⟩)::.pointer (some ⟨w.heap.size+1+1,0,none⟩)::.slice (some ⟨w.heap.size+1+1+1,0,none⟩) p.ins.length p.ins.length::c8::c9::c10::c11::u12::c13::c14::c15::c16::c17::c18::c19::c20::c21::c22::c23::c24::c25::c26::c27::c28::c29::c30::c31::c32::c33::c34::c35::c36::c37::c38::c39::c40::c41::c42::c43::c44::c45::c46::c47::c48::c49::c50::c51::c52::c53::c54::c55::c56::c57::c58::c59::c60::c61::c62::c63::c64::c65::c66::c67::c68::c69::c70::c71::c72::c73::c74::.int .i64 p.ins.length::u76::u77::u78::u79::u80::u81::u82::u83::u84::u85::u86::u87::u88::u89::u90::u91::u92::c93::c94::c95::c96::c97::c98::c99::c100::c101::c102::c103::c104::c105::c106::c107::c108::c109::c110::c111::c112::c113::c114::c115::c116::c117::c118::c119::c120::c121::c122::c123::c124::c125::c126::c127::c128::c129::c130::c131::c132::c133::c134::c135::c136::c137::c138::c139::c140::c141::c142::c143::c144::c145::c146::c147::c148::c149::c150::c151::c152::c153::c154::c155::c156::c157::c158::c159::c160::c161::c162::c163::c164::c165::c166::c167::c168::c169::c170::c171::c172::c173::c174::c175::c176::c177::c178::c179::c180::c181::c182::c183::c184::c185::c186::c187::c188::c189::c190::c191::c192::c193::c194::c195::c196::c197::c198::c199::c200::c201::c202::c203::c204::c205::c206::c207::c208::c209::[]),[]⟩ w')
  (hp:PFit ps.length p) (hz:p.ins.length≤6000) (hpi:InssAt 0 w h.io p.ins) (hwo:walkF ps p (2 * p.ins.length+2) (startC p)=.ok c) (hci:∀i,OnC (c.E p) i ↔ ((c.st i).isSome=true∧OnC (Sil p.ins) i)) (hsl:c.sts.length=p.ins.length) (W1:WkAt w cao ccap ps p h wr c) :
  Code.wp Tryz.prog pcFinal Q ⟨List.toArray (c0::.int .i64 pi::c2::c3::c4::.pointer (some ⟨w.heap.size+1,0,none⟩)::.pointer (some ⟨w.heap.size+1+1,0,none⟩)::.slice (some ⟨w.heap.size+1+1+1,0,none⟩) p.ins.length p.ins.length::c8::c9::c10::c11::c12::c13::c14::c15::c16::c17::c18::c19::c20::c21::c22::c23::c24::c25::c26::c27::c28::c29::c30::c31::c32::c33::c34::c35::c36::c37::c38::c39::c40::c41::c42::c43::c44::c45::c46::c47::c48::c49::c50::c51::c52::c53::c54::c55::c56::c57::c58::c59::c60::c61::c62::c63::c64::c65::c66::c67::c68::c69::c70::c71::c72::c73::c74::.int .i64 p.ins.length::.int .i64 0::c77::c78::c79::c80::c81::c82::c83::c84::c85::c86::c87::c88::c89::c90::c91::c92::c93::c94::c95::c96::c97::c98::c99::c100::c101::c102::c103::c104::c105::c106::c107::c108::c109::c110::c111::c112::c113::c114::c115::c116::c117::c118::c119::c120::c121::c122::c123::c124::c125::c126::c127::c128::c129::c130::c131::c132::c133::c134::c135::c136::c137::c138::c139::c140::c141::c142::c143::c144::c145::c146::c147::c148::c149::c150::c151::c152::c153::c154::c155::c156::c157::c158::c159::c160::c161::c162::c163::c164::c165::c166::c167::c168::c169::c170::c171::c172::c173::c174::c175::c176::c177::c178::c179::c180::c181::c182::c183::c184::c185::c186::c187::c188::c189::c190::c191::c192::c193::c194::c195::c196::c197::c198::c199::c200::c201::c202::c203::c204::c205::c206::c207::c208::c209::[]),[]⟩ wr:=by
 conv=>arg 2;whnf
 have HP:Hid _:=hp
 have HPI:Hid (InssAt 0 w h.io p.ins):=hpi
 have HWO:Hid _:=hwo
 have HCI:Hid _:=hci
 have HSL:Hid _:=hsl
 have HQ:Hid _:=hq
 have HX:Hid _:=hx
 clear hp hpi hwo hci hsl hq hx
 go_loopg [76] (p.ins.length+1) (fun g y wi=>∃i:Nat,i≤p.ins.length∧y=.int .i64 i∧Hid (∀j,j<i→¬OnC (c.E p) j)∧Hid (p.ins.length+1 - i≤g)∧WkAt w cao ccap ps p h wi c)
 case atStart=>exact ⟨0,Nat.zero_le _,rfl,fun j hj=>absurd hj (Nat.not_lt_zero _),Nat.le_refl _,W1⟩
 case round=>
  obtain⟨i,hi,rfl,HI,HG3,W2⟩:=hrel
  clear W1
  by_cases hil:i<p.ins.length
  ·obtain⟨o,ho⟩:=some_of_lt (show i<c.sts.length by rw [HSL.out];exact hil)
   obtain⟨to,tc,go,gc,s0,_,_,_,_⟩:=W2.sts.at_ i o ho
   have HO:Hid (c.st i=o):=st_get ho
   have k9:(i:Int)<p.ins.length:=by omega
   clear ho
   cases o with
   | none=>
    have HI2:Hid (∀j,j<i+1→¬OnC (c.E p) j):=by
     intro j hj
     by_cases hji:j=i
     ·subst hji;rw [HCI.out,HO.out];simp
     ·exact HI.out j (by omega)
    clear HI HO
    have HG4:Hid (p.ins.length+1 - (i+1)≤gk - 1∧gk - 1<gk):=by have:=HG3.out;show _∧_;omega
    go_wp2_with fail
    go_roundg (gk - 1)
    case measure=>exact HG4.out.2
    case rel=>exact ⟨i+1,by omega,by go_num,HI2.out,HG4.out.1,W2⟩
   | some s=>
    have HRD:Hid _:=fun (W:World) (hb:Below w.heap.size w W)=>l3round_any p h i ps.length W HP.out hil hz (HPI.out.later (Keeps.of_below hb))
    have p2:=W2.proto.cell
    unfold Pd.cells at p2 HRD
    have HW2:Hid _:=W2
    clear W2
    go_wp2_with fail
    refine (HRD.out wr HW2.out.below).mono ?_
    rintro e w3 ⟨⟨rr,rfl,hrr⟩,hw3⟩
    have W3:=HW2.out.later hw3
    have HRR:Hid (rr=true ↔ OnC (c.E p) i):=by show _ ↔ _;rw [HCI.out,HO.out];simpa using hrr
    clear hrr hw3 HW2 s0 HRD HO p2
    cases rr
    ·have HI2:Hid (∀j,j<i+1→¬OnC (c.E p) j):=by
      intro j hj
      by_cases hji:j=i
      ·subst hji;intro hc;have:=HRR.out.2 hc;cases this
      ·exact HI.out j (by omega)
     clear HI HRR
     have HG4:Hid (p.ins.length+1 - (i+1)≤gk - 1∧gk - 1<gk):=by have:=HG3.out;show _∧_;omega
     go_wp2_with fail
     go_roundg (gk - 1)
     case measure=>exact HG4.out.2
     case rel=>exact ⟨i+1,by omega,by go_num,HI2.out,HG4.out.1,W3⟩
    ·have HVF:Hid (verF ps p pi=(14,(pi:Int),(i:Int))):=verF_circ HWO.out ⟨.inr ⟨hil,HRR.out.1 rfl⟩,fun j _ hc=>Nat.le_of_not_lt fun hlt=>HI.out j hlt hc⟩ hil
     clear HI HRR HWO HCI
     go_wp2_with fail
     refine (l3fault_any _ _ _ _).mono ?_
     rintro e w4 ⟨rfl,hw4⟩
     have W4:=W3.later hw4
     have c4:=W4.flt.cell
     have f4:=W4.flt.frozen
     clear W3 hw4
     go_wp2_with fail
     refine HQ.out _ _ (bodyPost_ret (v:=.tuple #[.slice none 0 0,.agg #[.int .i64 14,.int .i64 pi,.int .i64 i]]) ?_ rfl ⟨⟨.slice none 0 0,?_⟩,?_⟩)
     ·simp [results,Tryz.results22,go_sem,c4]
     ·rw [HVF.out];rfl
     ·iterate 3 (refine Below.setCell ?_ (by simp) _)
      exact W4.below
  ·obtain rfl:i=p.ins.length:=by omega
   have HVF:Hid (verF ps p pi=(0,0,0)):=verF_none HWO.out ⟨.inl rfl,fun j hj hc=>absurd hc (HI.out j (by omega))⟩
   have k9:¬(p.ins.length:Int)<p.ins.length:=by omega
   clear HI HWO HCI
   go_wp2_with fail
   exact HX.out _ _ _ _ _ _ _ _ _ _ _ _ _ _ _ _ _ _ _ _ HVF.out W2
end Go.Proofs.YtaakadmnhpboiaaGreatDoor
