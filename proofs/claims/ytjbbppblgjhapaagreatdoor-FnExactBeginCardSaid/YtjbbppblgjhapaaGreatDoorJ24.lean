import Derived.Test.YtjbbppblgjhapaaGreatDoorJ16
import Derived.Test.YtjbbppblgjhapaaGreatDoorJ19
import Derived.Test.YtjbbppblgjhapaaGreatDoorJ21
import Derived.Test.YtjbbppblgjhapaaGreatDoorJ23
set_option maxRecDepth 1000000
set_option maxHeartbeats 16000000
namespace Go.Proofs.YtjbbppblgjhapaaGreatDoor
open Go.Deep Go.Proofs.Tryz Go.RowKit
theorem A6s (ps:List Pd) (pi gO:Nat) (p:Pd) (h:Ph) (cao:Option Addr) (ccap:Nat) (c:Cf) (w wr:World) (c0 c3 c4 c9 c10 c11 c12 c13 c14 c15 c16 c17 c18 c19 c20 c21 c22 c23 c24 c25 c26 c27 c28 c29 c30 c31 c32 c33 c34 c35 c36 c37 c38 c39 c40 c41 c42 c43 c44 c45 c46 c47 c48 c49 c50 c51 c52 c53 c54 c55 c56 c57 c58 c59 c60 c61 c62 c63 c64 c65 c66 c67 c68 c69 c70 c71 c72 c73 c74 c75 c76 c77 c78 c79 c80 c81 c82 c83 c84 c85 c86 c87 c88 c89 c90 c91 c92 c93 c94 c95 c96 c97 c98 c99 c100 c101 c102 c103 c104 c105 c106 c107 c108 c109 c110 c111 c112 c113 c114 c115 c116 c117 c118 c119 c120 c121 c122 c123 c124 c125 c126 c127 c128 c129 c130 c131 c132 c133 c134 c135 c136 c137 c138 c139 c140 c141 c142 c143 c144 c145 c146 c147 c148 c149 c150 c151 c152 c153 c154 c155 c156 c157 c158 c159 c160 c161 c162 c163 c164 c165 c166 c167 c168 c169 c170 c171 c172 c173 c174 c175 c176 c177 c178 c179 c180 c181 c182 c183 c184 c185 c186 c187 c188 c189 c190 c191 c192 c193 c194 c195 c196 c197 c198 c199 c200 c201 c202 c203 c204 c205 c206 c207 c208 c209:Value) (Q:Exit->Act->World->Prop) (hq:∀a' w',bodyPost prog Tryz.f34 (Jo w ps p pi) .ret a' w'->Q .ret a' w')
  (hn:∀(u4 u11 u12 u13 u14 u15 u16 u17 u19 u57 u58 u59 u60 u61 u62 u63 u64 u65 u66 u67 u68 u69 u70 u71 u72 u73 u74 u75 u76 u77 u78 u79 u80 u81 u82 u83 u84 u85 u86 u87 u88 u89 u90 u91 u92 u93 u94 u95 u96 u97 u98 u99 u100 u101 u102 u103 u104 u105 u106 u107 u108 u109 u110 u111 u112 u113 u114 u115 u116 u117 u118 u119 u120 u121 u122 u123 u124 u125 u126 u127 u128 u129 u130 u131 u132 u133 u134 u135 u136 u137 u138 u139 u140 u141 u142 u143 u144 u145 u146 u147 u148 u149 u150 u151 u152 u153 u154 u155 u156 u157 u158 u159 u160 u161 u162 u163 u164 u165 u166 u167 u168 u169 u170 u171 u172 u173 u174 u175 u176 u177 u178 u179 u180 u181 u182 u183 u184 u185 u186 u187 u188 u189 u190 u191 u192 u193 u194 u195 u196 u197 u198 u199 u200 u201 u202 u203 u204 u205 u206 u207 u208 u209:Value) (w':World) (a:Nat) (c':Cf),Dh c.due=some a->He ps p c a=.ok c'->Iw w cao ccap ps p h w' c'->Q .normal ⟨List.toArray (c0::pi::.pointer (w:Nat)::c3::u4::.pointer (some ⟨(w:Nat)+1,0,none⟩)::.pointer (some ⟨(w:Nat)+1+1,0,none⟩)::.slice (some ⟨(w:Nat)+1+1+1,0,none⟩) p.ins.length p.ins.length::.slice (some ⟨(w:Nat)+1+1+1+1,0,none⟩) p.ins.length p.ins.length::c9::c10::u11::u12::u13::u14::u15::u16::u17::c18::u19::c20::c21::c22::c23::c24::c25::c26::c27::c28::c29::c30::c31::c32::c33::c34::c35::c36::c37::c38::c39::c40::c41::c42::c43::c44::c45::c46::c47::c48::c49::c50::c51::c52::c53::c54::c55::c56::u57::u58::u59::u60::u61::u62::u63::u64::u65::u66::u67::u68::u69::u70::u71::u72::u73::u74::u75::u76::u77::u78::u79::u80::u81::u82::u83::u84::u85::u86::u87::u88::u89::u90::u91::u92::u93::u94::u95::u96::u97::u98::u99::u100::u101::u102::u103::u104::u105::u106::u107::u108::u109::u110::u111::u112::u113::u114::u115::u116::u117::u118::u119::u120::u121::u122::u123::u124::u125::u126::u127::u128::u129::u130::u131::u132::u133::u134::u135::u136::u137::u138::u139::u140::u141::u142::u143::u144::u145::u146::u147::u148::u149::u150::u151::u152::u153::u154::u155::u156::u157::u158::u159::u160::u161::u162::u163::u164::u165::u166::u167::u168::u169::u170::u171::u172::u173::u174::u175::u176::u177::u178::u179::u180::u181::u182::u183::u184::u185::u186::u187::u188::u189::u190::u191::u192::u193::u194::u195::u196::u197::u198::u199::u200::u201::u202::u203::u204::u205::u206::u207::u208::u209::[]),[]⟩ w')
  (hp:Oz ps.length p) (hz:p.ins.length<=6000) (hpi:PIn 0 w h p) (hu:∀n∈p.ins,∀u∈Cy ps n,u.loc=true->0<=u.idx/\u.idx<p.regs) (hul:∀n,(Cy ps n).length<=1048576) (hv:Ad 0 w cao ps)
  (hok:L6 p c) (hcl:Hl p c none) (hwk:Gu ps p gO c=Gu ps p (2*p.ins.length+2) (Dc p)) (hme:c.meas<gO) (W1:Iw w cao ccap ps p h wr c) :
  Code.wp prog Adg Q ⟨List.toArray (c0::pi::.pointer (w:Nat)::c3::c4::.pointer (some ⟨(w:Nat)+1,0,none⟩)::.pointer (some ⟨(w:Nat)+1+1,0,none⟩)::.slice (some ⟨(w:Nat)+1+1+1,0,none⟩) p.ins.length p.ins.length::.slice (some ⟨(w:Nat)+1+1+1+1,0,none⟩) p.ins.length p.ins.length::c9::c10::c11::c12::c13::c14::c15::c16::c17::c18::c19::c20::c21::c22::c23::c24::c25::c26::c27::c28::c29::c30::c31::c32::c33::c34::c35::c36::c37::c38::c39::c40::c41::c42::c43::c44::c45::c46::c47::c48::c49::c50::c51::c52::c53::c54::c55::c56::c57::c58::c59::c60::c61::c62::c63::c64::c65::c66::c67::c68::c69::c70::c71::c72::c73::c74::c75::c76::c77::c78::c79::c80::c81::c82::c83::c84::c85::c86::c87::c88::c89::c90::c91::c92::c93::c94::c95::c96::c97::c98::c99::c100::c101::c102::c103::c104::c105::c106::c107::c108::c109::c110::c111::c112::c113::c114::c115::c116::c117::c118::c119::c120::c121::c122::c123::c124::c125::c126::c127::c128::c129::c130::c131::c132::c133::c134::c135::c136::c137::c138::c139::c140::c141::c142::c143::c144::c145::c146::c147::c148::c149::c150::c151::c152::c153::c154::c155::c156::c157::c158::c159::c160::c161::c162::c163::c164::c165::c166::c167::c168::c169::c170::c171::c172::c173::c174::c175::c176::c177::c178::c179::c180::c181::c182::c183::c184::c185::c186::c187::c188::c189::c190::c191::c192::c193::c194::c195::c196::c197::c198::c199::c200::c201::c202::c203::c204::c205::c206::c207::c208::c209::[]),[]⟩ wr:=by
 conv=>arg 2;whnf
 have HP:Hid _:=hp;have HPI:Hid _:=hpi;have HU:Hid _:=hu;have HUL:Hid _:=hul;have HV:Hid _:=hv;have HOK:Hid _:=hok;have HCL:Hid _:=hcl;have HWK:Hid _:=hwk;have HME:Hid _:=hme;have HQ:Hid _:=hq;have HN:Hid _:=hn;have hdl:Hid _:=hok.lenD;have hsl:Hid _:=hok.lenS;clear hp hpi hu hul hv hok hcl hwk hme hq hn;refine wp_block ?_;refine wk fun K1 HK1=>?_;go_wp2;refine HK1.out _ _ ?_;clear HK1;refine wk fun K2 HK2=>?_;go_wp2;go_loopg [11] (p.ins.length+1) (fun g y wi=>∃a:Nat,a<=p.ins.length/\y=a/\Hid (∀j,j<a->c.due.getD j false=false)/\Hid (p.ins.length+1-a<=g)/\wi=wr);case atStart=>exact⟨0,yE _,rfl,fun j hj=>absurd hj (Nat.not_lt_zero _),yB _,rfl⟩
 case round=>
  rename_i wi;obtain⟨a,ha,rfl,HA,HG,hwO⟩:=hrel;subst hwO;by_cases hal:a<p.ins.length
  ·have da:=(W1.due.cell a).trans (Bo (by rw[hdl.out];exact hal));have k7:(a:Int)<p.ins.length:=by omega
   cases hda:c.due.getD a false
   ·have HA2:Hid (∀j,j<a+1->c.due.getD j false=false):=by
     intro j hj;by_cases hja:j=a
     ·rw[hja];exact hda
     ·exact HA.out j (by omega)
    rw[hda]at da;have HG2:Hid (p.ins.length+1-(a+1)<=gk-1/\gk-1<gk):=by have:=HG.out;show _/\_;omega
    clear hda HA;go_wp2;go_roundg (gk-1);case measure=>exact HG2.out.2
    case rel=>exact⟨a+1,by omega,by go_num,HA2.out,HG2.out.1,rfl⟩
   ·rw[hda]at da;have HLD:Hid _:=Td HA.out hda;have HDA:Hid _:=hda;have HERR:Hid (∀e:Nat×Nat,He ps p c a=.error e->Hw ps p pi=((e.1:Int),(pi:Int),(e.2:Int))):=fun e he=>Wt (HWK.out.symm.trans (A4t (Nat.lt_of_le_of_lt (yE _) HME.out) HLD.out he));have k8:¬(a:Int)=p.ins.length:=by omega
    clear hda HA HG;go_wp2;refine HK2.out _ _ ?_;clear HK2 da;refine wk fun K3 HK3=>?_;go_wp2;refine HK3.out _ _ ?_;refine A9v ps pi a p h cao ccap c w wr _ _ _ _ _ _ _ _ _ _ _ _ _ _ _ _ _ _ _ _ _ _ _ _ _ _ _ _ _ _ _ _ _ _ _ _ _ _ _ _ _ _ _ _ _ _ _ _ _ _ _ _ _ _ _ _ _ _ _ _ _ _ _ _ _ _ _ _ _ _ _ _ _ _ _ _ _ _ _ _ _ _ _ _ _ _ _ _ _ _ _ _ _ _ _ _ _ _ _ _ _ _ _ _ _ _ _ _ _ _ _ _ _ _ _ _ _ _ _ _ _ _ _ _ _ _ _ _ _ _ _ _ _ _ _ _ _ _ _ _ _ _ _ _ _ _ _ _ _ _ _ _ _ _ _ _ _ _ _ _ _ _ _ _ _ _ _ _ _ _ _ _ _ _ _ _ _ _ _ _ _ _ _ _ _ _ _ _ _ _ _ _ _ _ _ _ _ _ _ _ _ _ _ _ HQ.out ?_ HP.out hz HPI.out HU.out HUL.out HV.out HOK.out HCL.out hal HDA.out HERR.out W1;intro v4 v13 v14 v15 v16 v17 v19 v95 v96 v97 v98 v99 v100 v101 v102 v103 v104 v105 v106 v107 v108 v109 v110 v111 v112 v113 v114 v115 v116 v117 v118 v119 v120 v121 v122 v123 v124 v125 v126 v127 v128 v129 v130 v131 v132 v133 v134 v135 v136 v137 v138 v139 v140 v141 v142 v143 v144 v145 v146 v147 v148 v149 v150 v151 v152 v153 v154 v155 v156 v157 v158 v159 v160 v161 v162 v163 v164 v165 v166 v167 v168 v169 v170 v171 v172 v173 v174 v175 v176 v177 v178 v179 v180 v181 v182 v183 v184 v185 v186 v187 v188 v189 v190 v191 v192 v193 v194 v195 v196 v197 v198 v199 v200 v201 v202 v203 v204 v205 v206 v207 v208 v209 w' c' hf hw';exact HN.out _ _ _ _ _ _ _ _ _ _ _ _ _ _ _ _ _ _ _ _ _ _ _ _ _ _ _ _ _ _ _ _ _ _ _ _ _ _ _ _ _ _ _ _ _ _ _ _ _ _ _ _ _ _ _ _ _ _ _ _ _ _ _ _ _ _ _ _ _ _ _ _ _ _ _ _ _ _ _ _ _ _ _ _ _ _ _ _ _ _ _ _ _ _ _ _ _ _ _ _ _ _ _ _ _ _ _ _ _ _ _ _ _ _ _ _ _ _ _ _ _ _ _ _ _ _ _ _ _ _ _ _ _ _ _ _ _ _ _ _ _ _ _ _ _ _ _ _ _ _ _ _ _ _ _ _ _ _ _ _ _ _ w' a c' HLD.out hf hw'
  ·obtain rfl:a=p.ins.length:=by omega
   have HWO:Hid (Gu ps p (2*p.ins.length+2) (Dc p)=.ok c):=HWK.out.symm.trans (A4u (Nat.lt_of_le_of_lt (yE _) HME.out) (M7 (by rw[hdl.out];exact HA.out)));have HCI:Hid (∀i,OnC (c.E p) i ↔ ((c.st i).isSome=true/\OnC (Sil p.ins) i)):=fun i=>Aaf HCL.out (Xx (M7 (by rw[hdl.out];exact HA.out))) i;clear HA HWK HME HCL HG;have k8:¬(p.ins.length:Int)<p.ins.length:=by omega
   go_wp2;refine HK2.out _ _ ?_;clear HK2 k8;refine wp_seq_k ?_;intro K3 hK3;clear hK3;go_wp2_with fail;refine A6r ps pi p h cao ccap c w wr _ _ _ _ _ _ _ _ _ _ _ _ _ _ _ _ _ _ _ _ _ _ _ _ _ _ _ _ _ _ _ _ _ _ _ _ _ _ _ _ _ _ _ _ _ _ _ _ _ _ _ _ _ _ _ _ _ _ _ _ _ _ _ _ _ _ _ _ _ _ _ _ _ _ _ _ _ _ _ _ _ _ _ _ _ _ _ _ _ _ _ _ _ _ _ _ _ _ _ _ _ _ _ _ _ _ _ _ _ _ _ _ _ _ _ _ _ _ _ _ _ _ _ _ _ _ _ _ _ _ _ _ _ _ _ _ _ _ _ _ _ _ _ _ _ _ _ _ _ _ _ _ _ _ _ _ _ _ _ _ _ _ _ _ _ _ _ _ _ _ _ _ _ _ _ _ _ _ _ _ _ _ _ _ _ _ _ _ _ _ _ _ _ _ _ _ _ _ _ _ _ _ _ _ _ HQ.out ?_ HP.out hz HPI.out.ins HWO.out HCI.out hsl.out W1;intro v4 v12 v76 v77 v78 v79 v80 v81 v82 v83 v84 v85 v86 v87 v88 v89 v90 v91 v92 w' hvf hw';have HVF:Hid _:=hvf;have c4:=hw'.flt.cell;have f4:=hw'.flt.frozen;have HW':Hid _:=hw';clear hvf hw' W1;go_wp2_with fail;refine HQ.out _ _ (bodyPost_ret (v:=.tuple #[.slice (some ⟨(w:Nat)+1+1+1,0,none⟩) p.ins.length p.ins.length,.agg #[(),(),()]]) ?_ rfl ⟨⟨.slice (some ⟨(w:Nat)+1+1+1,0,none⟩) p.ins.length p.ins.length,?_⟩,?_⟩)
   ·simp[results,results34,go_sem,c4]
   ·rw[HVF.out];rfl
   ·iterate 3 (refine yP ?_ (by simp) _)
    exact HW'.out.below
theorem A5w (cao:Option Addr) (ccap:Nat) (ps:List Pd) (pi:Nat) (p:Pd) (w:World) (hpk:ps[pi]?=some p) (hp:Oz ps.length p) (hz:p.ins.length<=6000) (_hpl:ps.length<=1048576)
  (hu:∀n∈p.ins,∀u∈Cy ps n,u.loc=true->0<=u.idx/\u.idx<p.regs) (hul:∀n,(Cy ps n).length<=1048576) (hv:Ad 0 w cao ps) :
  Calls prog 34 #[.agg #[.slice cao ps.length ccap],pi] w (Jo w ps p pi):=by
 have hlt:=(yD.1 hpk).1;obtain⟨cb,co,rfl,_,hcl,h,NN,PI⟩:=hv pi p hpk;obtain⟨N1,N2,N3,N4,N5,N6,N7,N8,N9⟩:=NN;have hrg:=hp.regs;have hpa:=hp.params;obtain⟨rg,hrgN⟩:=yN hrg.1;obtain⟨pa,hpaN⟩:=yN hpa.1;have hmk:=Bj 84 146 _ 3 56 underlying84 Tryz.info_State .i64 .i64 p.ins.length (by omega) (by omega);have hmb:=Bj 141 4 _ 1 1 underlying141 Tryz.info_bool .i64 .i64 p.ins.length (by omega) (by omega);have hmi:=Bj 99 3 _ 1 8 underlying99 Tryz.info_int .i64 .i64 rg (by omega) (by omega);simp only[Nat.mul_one]at hmb hmi;have HP:Hid _:=hp;have HPI:Hid _:=PI;have HU:Hid _:=hu;have HUL:Hid _:=hul;have HV:Hid _:=hv;have HR:Hid _:=hrgN;have HPA:Hid _:=hpaN;have HPK:Hid _:=hpk;have k1:(pi:Int)<ps.length:=by omega
 have hmi2:=hmi;rw[←hrgN]at hmi2;have hrgI:=hrgN.symm;clear hmi hp PI hu hul hv hpk hrgN hpaN;have C1:=(((((Blk.new w #[.slice (some ⟨cb,co,none⟩) ps.length ccap] 31).alloc (.cells #[(),(),()] 27)).alloc (.cells #[p.name,p.line,p.params,.bool p.rest,p.regs,.slice h.uo p.ups.length h.uc,.slice h.co p.consts.length h.cc,.slice h.io p.ins.length h.ic,.slice h.no p.named.length h.nc] 77)).alloc (.cells (madeCells #[false,nS,nS] (p.ins.length*3)) 146)).alloc (.cells (madeCells #[false] p.ins.length) 4)).alloc (.cells (madeCells #[()] rg) 3);have F1:=((((Blk.new (w.alloc (.cells #[.slice (some ⟨cb,co,none⟩) ps.length ccap] 31)) #[(),(),()] 27).alloc (.cells #[p.name,p.line,p.params,.bool p.rest,p.regs,.slice h.uo p.ups.length h.uc,.slice h.co p.consts.length h.cc,.slice h.io p.ins.length h.ic,.slice h.no p.named.length h.nc] 77)).alloc (.cells (madeCells #[false,nS,nS] (p.ins.length*3)) 146)).alloc (.cells (madeCells #[false] p.ins.length) 4)).alloc (.cells (madeCells #[()] rg) 3);have P1:=(((Blk.new ((w.alloc (.cells #[.slice (some ⟨cb,co,none⟩) ps.length ccap] 31)).alloc (.cells #[(),(),()] 27)) #[p.name,p.line,p.params,.bool p.rest,p.regs,.slice h.uo p.ups.length h.uc,.slice h.co p.consts.length h.cc,.slice h.io p.ins.length h.ic,.slice h.no p.named.length h.nc] 77).alloc (.cells (madeCells #[false,nS,nS] (p.ins.length*3)) 146)).alloc (.cells (madeCells #[false] p.ins.length) 4)).alloc (.cells (madeCells #[()] rg) 3);have S1:=fun lo=>Ac4 lo (((w.alloc (.cells #[.slice (some ⟨cb,co,none⟩) ps.length ccap] 31)).alloc (.cells #[(),(),()] 27)).alloc (.cells #[p.name,p.line,p.params,.bool p.rest,p.regs,.slice h.uo p.ups.length h.uc,.slice h.co p.consts.length h.cc,.slice h.io p.ins.length h.ic,.slice h.no p.named.length h.nc] 77)) p.ins.length;have S2:=Kg S1 (w':=(((((w.alloc (.cells #[.slice (some ⟨cb,co,none⟩) ps.length ccap] 31)).alloc (.cells #[(),(),()] 27)).alloc (.cells #[p.name,p.line,p.params,.bool p.rest,p.regs,.slice h.uo p.ups.length h.uc,.slice h.co p.consts.length h.cc,.slice h.io p.ins.length h.ic,.slice h.no p.named.length h.nc] 77)).alloc (.cells (madeCells #[false,nS,nS] (p.ins.length*3)) 146)).alloc (.cells (madeCells #[false] p.ins.length) 4)).alloc (.cells (madeCells #[()] rg) 3)) (by
  rw[blk_alloc_lt _ _ _ (by simp<;>omega),blk_alloc_lt _ _ _ (by simp<;>omega)])
 have D1:=(J3 ((((w.alloc (.cells #[.slice (some ⟨cb,co,none⟩) ps.length ccap] 31)).alloc (.cells #[(),(),()] 27)).alloc (.cells #[p.name,p.line,p.params,.bool p.rest,p.regs,.slice h.uo p.ups.length h.uc,.slice h.co p.consts.length h.cc,.slice h.io p.ins.length h.ic,.slice h.no p.named.length h.nc] 77)).alloc (.cells (madeCells #[false,nS,nS] (p.ins.length*3)) 146)) p.ins.length).alloc (.cells (madeCells #[()] rg) 3);have T1:=Yv (((((w.alloc (.cells #[.slice (some ⟨cb,co,none⟩) ps.length ccap] 31)).alloc (.cells #[(),(),()] 27)).alloc (.cells #[p.name,p.line,p.params,.bool p.rest,p.regs,.slice h.uo p.ups.length h.uc,.slice h.co p.consts.length h.cc,.slice h.io p.ins.length h.ic,.slice h.no p.named.length h.nc] 77)).alloc (.cells (madeCells #[false,nS,nS] (p.ins.length*3)) 146)).alloc (.cells (madeCells #[false] p.ins.length) 4)) rg (by unfold maxLen;omega);have B1:Below w w ((((((w.alloc (.cells #[.slice (some ⟨cb,co,none⟩) ps.length ccap] 31)).alloc (.cells #[(),(),()] 27)).alloc (.cells #[p.name,p.line,p.params,.bool p.rest,p.regs,.slice h.uo p.ups.length h.uc,.slice h.co p.consts.length h.cc,.slice h.io p.ins.length h.ic,.slice h.no p.named.length h.nc] 77)).alloc (.cells (madeCells #[false,nS,nS] (p.ins.length*3)) 146)).alloc (.cells (madeCells #[false] p.ins.length) 4)).alloc (.cells (madeCells #[()] rg) 3)):=
  ((((((yA _ _).alloc (yB _) _).alloc (by simp) _).alloc (by simp;omega) _).alloc (by simp;omega) _).alloc (by simp;omega) _).alloc (by simp;omega) _
 clear S1;simp only[nblk_alloc]at F1 P1 S2 D1 T1;go_in;go_wp2_with fail;generalize (((((w.alloc _).alloc _).alloc _).alloc _).alloc _).alloc _=w1 at *;clear hmk hmb hmi2 N1 N2 N3 N4 N5 N6 N7 N8 N9;have hT0:Az (List.replicate rg 0)=Az (Ff p 0):=by unfold Ff;rw[←hrgI];simp
 rw[hT0]at T1;clear hT0;go_loopw [10] (fun y wr=>∃r:Nat,y=r/\r<=pa/\wr.ownsRow ((w:Nat)+1+1+1+1+1) 3 1 (.slice (some ⟨(w:Nat)+1+1+1+1+1,0,none⟩) rg rg) rg (Az (Ff p r))/\Blk wr (w:Nat) #[.slice (some ⟨cb,co,none⟩) ps.length ccap] 31/\Blk wr ((w:Nat)+1) #[(),(),()] 27/\Blk wr ((w:Nat)+1+1) #[p.name,p.line,p.params,.bool p.rest,p.regs,.slice h.uo p.ups.length h.uc,.slice h.co p.consts.length h.cc,.slice h.io p.ins.length h.ic,.slice h.no p.named.length h.nc] 77/\(∀lo,Jn lo wr ((w:Nat)+1+1+1) (List.replicate p.ins.length none))/\Blk wr ((w:Nat)+1+1+1+1) (Cc (List.replicate p.ins.length false)) 4/\Below w w wr) (fun y _=>pa-(intOf y).toNat);case atStart=>exact⟨0,rfl,yE _,T1,C1,F1,P1,S2,D1,B1⟩
 case round=>
  obtain⟨r,rfl,hr,T2,C2,F2,P2,S3,D2,B2⟩:=hrel;clear T1 C1 F1 P1 S2 D1 B1;have p2:=P2.cell;have hpar:=HPA.out;have hrr:pa<=rg:=by omega
  by_cases hrp:r<pa
  ·have t2:=(T2.cellAt r (by omega)).trans (Co (by rw[Lu (by omega)];omega));have f2:=T2.frozenAt r;have T3:=(T2.stored r (1:Int)).1;rw[Dx,Ux (by omega)]at T3;have k2:(r:Int)<p.params:=by omega
   have k3:(r:Int)<rg:=by omega
   have hsb:∀k,k<(w:Nat)+1+1+1+1+1->(wr.setCell ((w:Nat)+1+1+1+1+1,r) (1:Int)).heap[k]?=wr.heap[k]?:=fun k hk=>yL _ _ _ _ (by dsimp only;omega);clear hpar hrgI;go_wp2;go_roundw;case rel=>exact⟨r+1,by go_num,by omega,T3,(hsb _ (by omega)).trans C2,(hsb _ (by omega)).trans F2,(hsb _ (by omega)).trans P2,Kg S3 (hsb _ (by omega)),(hsb _ (by omega)).trans D2,B2.setCell (by dsimp only;omega) _⟩
   case measure=>simp[intOf];omega
  ·obtain rfl:r=pa:=by omega
   have k2:¬(r:Int)<p.params:=by omega
   have hN0:=HP.out.some;cases hre:p.rest
   focus
    have T5:wr.ownsRow ((w:Nat)+1+1+1+1+1) 3 1 (.slice (some ⟨(w:Nat)+1+1+1+1+1,0,none⟩) rg rg) rg (Az (Dz p)):=by
     have:Dz p=Ff p r:=by unfold Dz Ff;rw[hre,hpar];simp
     rw[this];exact T2
    have C5:=C2;have F5:=F2;have P5:=P2;have S5:=S3;have D5:=D2;have B5:=B2;rw[hre]at P2;have p3:=P2.cell;clear p2 T2 C2 F2 P2 S3 D2 B2
   rotate_left
   focus
    have hrl:r<rg:=by have:=hpa.2.2 hre;omega
    have k6:(r:Int)<rg:=by omega
    have t2:=(T2.cellAt r (by omega)).trans (Co (by rw[Lu (by omega)];omega));have f2:=T2.frozenAt r;have T5:=(T2.stored r (3:Int)).1;rw[Dx]at T5;have hft:(Ff p r).set r 3=Dz p:=by unfold Dz Ff;rw[hre,hpar];simp
    rw[hft]at T5;have hsb:∀k,k<(w:Nat)+1+1+1+1+1->(wr.setCell ((w:Nat)+1+1+1+1+1,r) (3:Int)).heap[k]?=wr.heap[k]?:=fun k hk=>yL _ _ _ _ (by dsimp only;omega);have C5:Blk (wr.setCell ((w:Nat)+1+1+1+1+1,r) (3:Int)) _ _ _:=(hsb _ (by omega)).trans C2;have F5:Blk (wr.setCell ((w:Nat)+1+1+1+1+1,r) (3:Int)) _ _ _:=(hsb _ (by omega)).trans F2;have P5:Blk (wr.setCell ((w:Nat)+1+1+1+1+1,r) (3:Int)) _ _ _:=(hsb _ (by omega)).trans P2;have S5:=Kg S3 (hsb _ (by omega));have D5:Blk (wr.setCell ((w:Nat)+1+1+1+1+1,r) (3:Int)) _ _ _:=(hsb _ (by omega)).trans D2;have B5:Below w w (wr.setCell ((w:Nat)+1+1+1+1+1,r) (3:Int)):=B2.setCell (by dsimp only;omega) _;rw[hre]at P2;have p3:=P2.cell;have hcomm:∀b o v,b≠(w:Nat)+1+1+1+1+1->(wr.setCell ((w:Nat)+1+1+1+1+1,r) (3:Int)).cell? ⟨b,o,none⟩=v->True:=fun _ _ _ _ _=>trivial;clear p2 hft hsb hcomm T2 C2 F2 P2 S3 D2 B2
   all_goals
    have hlen:(Dz p).length=rg:=by have:=Pi HP.out;omega
    obtain⟨to0,tc0,go0,gc0,s0,s1,s2,_,_⟩:=(S5 0).at_ 0 none (by simp[hN0]);have fz:=(S5 0).own.frozen;have S6:=(S5 ((w:Nat)+1+1+1+1+1)).put (x:=0) (by simp[hN0]) (by omega) (s:=⟨Dz p,[]⟩) (to:=some ⟨(w:Nat)+1+1+1+1+1,0,none⟩) (tc:=rg) (go:=none) (gc:=0) (Dp T5).1 (fun i x hx=>by simp at hx);rw[show ({types:=Dz p,guards:=[]} : St).types.length=rg from hlen]at S6;simp only[Nat.zero_mul,yM]at S6 s0 s1 s2;have d0:=(D5.cell 0).trans (Bo (by simp[hN0]));have fd:=D5.frozen 0;have k5:(0:Int)<p.ins.length:=by omega
    have W6:=Ach hN0 C5 F5 P5 D5 B5 S6 (fun k hk=>by rw[yL _ _ _ _ hk,yL _ _ _ _ hk,yL _ _ _ _ hk]) (((B5.setCell (by dsimp only;omega) _).setCell (by dsimp only;omega) _).setCell (by dsimp only;omega) _);go_wp2_with fail;generalize World.setCell _ ⟨(w:Nat)+1+1+1+1,0,none⟩ (Value.bool true)=w6 at *;clear s0 s1 s2 fz S6 d0 fd C5 F5 P5 D5 B5 S5 T5 p3;have HST:=A4c HP.out;have hrgI2:=hrgI;clear hrgI hrgI2;try clear hpar
    have hrgL:rg<=250:=by have:=HR.out;omega
    try clear t2 f2
    try clear k2 k5 k6
    go_loopg [11] (2*p.ins.length+2) (fun gk y wr=>∃c:Cf,Hid (L6 p c)/\Hid (Hl p c none)/\Hid (Gu ps p gk c=Gu ps p (2*p.ins.length+2) (Dc p))/\Hid (c.meas<gk)/\Iw w (some ⟨cb,co,none⟩) ccap ps p h wr c);case atStart=>exact⟨Dc p,HST.1,HST.2.1,rfl,HST.2.2,W6⟩
    case round=>
     obtain⟨c,HOK,HCL,HWK,HME,W1⟩:=hrel;clear W6 HST;refine A6s ps pi gk p h (some ⟨cb,co,none⟩) ccap c w wr _ _ _ _ _ _ _ _ _ _ _ _ _ _ _ _ _ _ _ _ _ _ _ _ _ _ _ _ _ _ _ _ _ _ _ _ _ _ _ _ _ _ _ _ _ _ _ _ _ _ _ _ _ _ _ _ _ _ _ _ _ _ _ _ _ _ _ _ _ _ _ _ _ _ _ _ _ _ _ _ _ _ _ _ _ _ _ _ _ _ _ _ _ _ _ _ _ _ _ _ _ _ _ _ _ _ _ _ _ _ _ _ _ _ _ _ _ _ _ _ _ _ _ _ _ _ _ _ _ _ _ _ _ _ _ _ _ _ _ _ _ _ _ _ _ _ _ _ _ _ _ _ _ _ _ _ _ _ _ _ _ _ _ _ _ _ _ _ _ _ _ _ _ _ _ _ _ _ _ _ _ _ _ _ _ _ _ _ _ _ _ _ _ _ _ _ _ _ _ _ _ _ _ _ _ (fun a' w' hb=>hb) ?_ HP.out hz HPI.out HU.out HUL.out HV.out HOK.out HCL.out HWK.out HME.out W1;intro v4 v11 v12 v13 v14 v15 v16 v17 v19 v57 v58 v59 v60 v61 v62 v63 v64 v65 v66 v67 v68 v69 v70 v71 v72 v73 v74 v75 v76 v77 v78 v79 v80 v81 v82 v83 v84 v85 v86 v87 v88 v89 v90 v91 v92 v93 v94 v95 v96 v97 v98 v99 v100 v101 v102 v103 v104 v105 v106 v107 v108 v109 v110 v111 v112 v113 v114 v115 v116 v117 v118 v119 v120 v121 v122 v123 v124 v125 v126 v127 v128 v129 v130 v131 v132 v133 v134 v135 v136 v137 v138 v139 v140 v141 v142 v143 v144 v145 v146 v147 v148 v149 v150 v151 v152 v153 v154 v155 v156 v157 v158 v159 v160 v161 v162 v163 v164 v165 v166 v167 v168 v169 v170 v171 v172 v173 v174 v175 v176 v177 v178 v179 v180 v181 v182 v183 v184 v185 v186 v187 v188 v189 v190 v191 v192 v193 v194 v195 v196 v197 v198 v199 v200 v201 v202 v203 v204 v205 v206 v207 v208 v209 w' a c' hld hrf hw';have HRO:Hid _:=A48 HP.out HOK.out HCL.out hld hrf;have HWN:Hid _:=(A7y (Nat.lt_of_le_of_lt (yE _) HME.out) hld hrf).symm.trans HWK.out;have HMN:Hid (c'.meas<gk-1/\gk-1<gk):=by have h1:=HRO.out.2.2;have h2:=HME.out;show _/\_;omega
     clear hld hrf HOK HCL HWK HME W1;go_wp2;go_roundg (gk-1);case measure=>exact HMN.out.2
     case rel=>exact⟨c',HRO.out.1,HRO.out.2.1,HWN.out,HMN.out.1,hw'⟩
theorem A3i (w:World) (n:Nat):Blk (w.alloc (.cells (madeCells #[()] n) 3)) (w:Nat) (Ip (List.replicate n 0)) 3:=by
 have h:madeCells #[()] n=Ip (List.replicate n 0):=by apply Array.toList_inj.1;rw[toList_madeCells_one];simp[Ip,zs,Az]
 rw[h];exact Blk.new _ _ _
theorem A3y (N:Nat):Mc N (fun v=>decide (v∈([]:List Nat)))=List.replicate N false:=by
 apply List.ext_getElem?;intro j;unfold Mc;by_cases hj:j<N
 ·simp[hj]
 ·simp[hj]
theorem Qt (N gb lo:Nat) (F:Nat->List Nat) (w:World) (hN:N<=6000) (S:Tm lo w gb N fun j=>zs (F j)) (hF:∀j,j<N->(F j).length<=2/\∀z∈F j,z<N) :
  Calls prog 105 #[.slice gb N N] w fun e w'=>(∃m:Nat,Lp (fun x y=>y∈F x) N m/\e=.returned (if m=N then -1 else (m:Int):Int))/\Below w w w':=by
 have hmb:=Bj 141 4 _ 1 1 underlying141 Tryz.info_bool .i64 .i64 N (by omega) (by omega);have hmi:=Bj 99 3 _ 1 8 underlying99 Tryz.info_int .i64 .i64 N (by omega) (by omega);simp only[Nat.mul_one]at hmb hmi;have HS:Hid _:=S;have HF:Hid _:=hF;clear S hF;go_in;go_wp2_with fail;go_cut [3] from 5 (fun v3 wx=>∃cb ob qb:Nat,v3=.pointer cb/\Hid (A80 (w:Nat) cb ob qb)/\Hid (Mo (w:Nat) cb gb ob qb N wx ⟨0,List.replicate N 0,[],N⟩ nS)/\Hid (Below w w wx)/\Hid ((w:Nat)+3<=wx.heap.size));case first=>
  go_region_held3 (fun _=>True) (trivial) (fail)
  ·go_wp2;go_meet;case rel=>
    refine⟨(w:Nat)+1+1,(w:Nat),(w:Nat)+1,rfl,⟨by omega,by omega,by omega,by omega,by omega,by omega,by omega,by omega,by omega⟩,⟨?_,?_,?_,Ni _ _ _⟩,?_,?_⟩
    ·have:=Blk.new ((w.alloc (.cells (madeCells #[()] N) 3)).alloc (.cells (madeCells #[false] N) 4)) #[.slice gb N N,(),.slice (w:Nat) N N,nS,.slice (some ⟨(w:Nat)+1,0,none⟩) N N,N] 310;simp only[nblk_alloc]at this;exact this
    ·exact((A3i w N).alloc _).alloc _
    ·rw[A3y];have:=(J3 (w.alloc (.cells (madeCells #[()] N) 3)) N).alloc (.cells #[.slice gb N N,(),.slice (w:Nat) N N,nS,.slice (some ⟨(w:Nat)+1,0,none⟩) N N,N] 310);simp only[nblk_alloc]at this;exact this
    ·exact(Af (Af (Af (yA _ _) _) _) _).drew
    ·show _<=_;simp
  ·go_wp2;go_meet;case rel=>
    refine⟨(w:Nat)+1+1,(w:Nat)+1,(w:Nat),rfl,⟨by omega,by omega,by omega,by omega,by omega,by omega,by omega,by omega,by omega⟩,⟨?_,?_,?_,Ni _ _ _⟩,?_,?_⟩
    ·have:=Blk.new ((w.alloc (.cells (madeCells #[false] N) 4)).alloc (.cells (madeCells #[()] N) 3)) #[.slice gb N N,(),.slice (some ⟨(w:Nat)+1,0,none⟩) N N,nS,.slice (w:Nat) N N,N] 310;simp only[nblk_alloc]at this;exact this
    ·have:=(A3i (w.alloc (.cells (madeCells #[false] N) 4)) N).alloc (.cells #[.slice gb N N,(),.slice (some ⟨(w:Nat)+1,0,none⟩) N N,nS,.slice (w:Nat) N N,N] 310);simp only[nblk_alloc]at this;exact this
    ·rw[A3y];exact((J3 w N).alloc _).alloc _
    ·exact(Af (Af (Af (yA _ _) _) _) _).drew
    ·show _<=_;simp
 case rest=>
  obtain⟨cb,ob,qb,rfl,HI,HC,HB,HS3⟩:=hcut;clear hmb hmi;go_wp2_with fail;have HJ0:Hid (Jt (fun x y=>y∈F x) N ⟨0,List.replicate N 0,[],N⟩ fun _=>False):=Aay _ _;have HU0:Hid ((0:Nat)+unv (List.replicate N 0)<=N):=by show _<=_;unfold unv;exact yI (by rw[yM];exact List.length_filter_le _ _) (by simp)
  go_loopg [18] (N+1) (fun g y wr=>∃(k:Nat) (T:Tj) (vp:Value),k<=N/\y=k/\Hid (Jt (fun x y=>y∈F x) N T fun _=>False)/\Hid (Mo (w:Nat) cb gb ob qb N wr T vp)/\Hid (T.count+unv T.order<=N)/\Hid (∀j,j<k->T.ord j≠0)/\Hid (Below w w wr)/\Hid ((w:Nat)+3<=wr.heap.size)/\Hid (N+1-k<=g));case atStart=>exact⟨0,⟨0,List.replicate N 0,[],N⟩,_,yE _,rfl,HJ0.out,HC.out,HU0.out,fun j hj=>absurd hj (Nat.not_lt_zero _),HB.out,HS3.out,yB _⟩
  case round=>
   obtain⟨k,T,vp,hk,rfl,HJ,HCk,HU,HSN,HBk,HSk,HG⟩:=hrel;clear HC HB HS3 HJ0 HU0;have hck:=HCk.out.blk.cell;by_cases hkl:k<N
   ·have ock:=(HCk.out.order.cell k).trans (M9 (by rw[HJ.out.lenO];exact hkl));have HG2:Hid (N+1-(k+1)<=gk-1/\gk-1<gk):=by have:=HG.out;show _/\_;omega
    have kk:(k:Int)<N:=by omega
    clear HG;by_cases hok:T.order.getD k 0=0
    ·rw[hok]at ock;have HOK:Hid (T.ord k=0):=hok;have HVI:Hid (∀_:Unit,_):=fun _=>A9t (w:Nat) cb gb ob qb N lo F w HI.out hN rfl HS.out HF.out (unv T.order) T (fun _=>False) k vp wr (yB _) HU.out HCk.out HBk.out HSk.out HJ.out (fun x hx=>by rw[A40 HJ.out]at hx;simp at hx) hkl HOK.out;clear hok;go_wp2_with fail;refine(HVI.out ()).mono ?_;rintro e w6 ⟨T6,v6,l6,rfl,C6,V6,hcu6,hb6⟩;have HJ6:Hid _:=V6.j;have HC6:Hid _:=C6;have HU6:Hid _:=hcu6;have HSN6:Hid (∀j,j<k+1->T6.ord j≠0):=by
      intro j hj;by_cases hjk:j=k
      ·rw[hjk];exact V6.seen
      ·have h1:=HSN.out j (by omega);rw[V6.same j h1];exact h1
     have HB6:Hid _:=HBk.out.trans hb6;have HS6:Hid _:=yI HSk.out hb6.size;clear C6 V6 hcu6 hb6 HVI HJ HCk HU HSN HBk HSk hck ock;go_wp2;go_roundg (gk-1);case measure=>exact HG2.out.2
     case rel=>exact⟨k+1,T6,v6,by omega,by go_num,HJ6.out,HC6.out,HU6.out,HSN6.out,HB6.out,HS6.out,HG2.out.1⟩
    ·obtain⟨o2,ho2⟩:∃x,x=T.order.getD k 0:=⟨_,rfl⟩;have e0:((o2:Int)==0)=false:=by rw[ho2];simpa using hok
     rw[←ho2]at ock;have HSN6:Hid (∀j,j<k+1->T.ord j≠0):=by
      intro j hj;by_cases hjk:j=k
      ·rw[hjk];exact hok
      ·exact HSN.out j (by omega)
     clear hok ho2 HSN;go_wp2;go_roundg (gk-1);case measure=>exact HG2.out.2
     case rel=>exact⟨k+1,T,vp,by omega,by go_num,HJ.out,HCk.out,HU.out,HSN6.out,HBk.out,HSk.out,HG2.out.1⟩
   ·obtain rfl:k=N:=by omega
    have kk:¬(k:Int)<k:=by omega
    have HLC:Hid (Lp (fun x y=>y∈F x) k T.least):=Ab4 HJ.out HSN.out;clear HG HSN HJ;by_cases hl:T.least=k
    ·have e0:((T.least:Int)==(k:Int))=true:=by simp[hl]
     have HLL:Hid _:=hl;clear hl;go_wp2;go_ret;exact⟨⟨T.least,HLC.out,by rw[if_pos HLL.out];rfl⟩,HBk.out⟩
    ·have e0:((T.least:Int)==(k:Int))=false:=by simp;omega
     have HLL:Hid _:=hl;clear hl;go_wp2;go_ret;exact⟨⟨T.least,HLC.out,by rw[if_neg HLL.out];rfl⟩,HBk.out⟩
theorem Ri (ao:Option Addr) (cap:Nat) (ps:List Pd) (w:World) (hfi:Kh ps) (hv:Ad 0 w ao ps) :
  Kw 9 #[.agg #[.slice ao ps.length cap]] w (Jr (Cj ps)):=by
 have hl:ps.length<=1048576:=by have:=hfi.bulk;unfold Dj at this;omega
 have C0:=(Blk.new w #[.slice ao ps.length cap] 31).alloc (.cells #[(),(),()] 27);have R0:=Blk.new (w.alloc (.cells #[.slice ao ps.length cap] 31)) #[(),(),()] 27;have B0:Below w w ((w.alloc (.cells #[.slice ao ps.length cap] 31)).alloc (.cells #[(),(),()] 27)):=((yA _ _).alloc (yB _) _).alloc (by simp) _;simp only[nblk_alloc]at R0;have HFI:Hid _:=hfi;have HV:Hid (Ad 0 w ao ps):=hv;have HCK:Hid (Cj ps=if (Bu ps).1=0 then Oc ps 0 ps else Bu ps):=rfl;have HSH:Hid (∀W,Below w w W->Kw 33 #[.agg #[.slice ao ps.length cap]] W (.agg #[.int .i64 (Bu ps).1,.int .i64 (Bu ps).2.1,.int .i64 (Bu ps).2.2])):=fun W hb=>Ui ao cap ps W HFI.out (HV.out.l (A7.o hb));obtain⟨⟨s0,s1,s2⟩,hs⟩:∃s,s=Bu ps:=⟨_,rfl⟩;have HS:Hid _:=hs;rw[←hs]at HSH HCK;dsimp only at HSH HCK;clear hs hfi hv;unfold Kw;go_in;have c0:=C0.cell 0;go_wp2_with fail;clear c0;generalize (w.alloc (.cells #[.slice ao ps.length cap] 31)).alloc (.cells #[(),(),()] 27)=w0 at *;refine(HSH.out w0 B0).mono ?_;rintro e w1 ⟨rfl,hw1⟩;have C1:=C0.l hw1;have R1:=R0.l hw1;have B1:=B0.trans (hw1.mono B0.size);clear C0 R0 B0 hw1 HSH;have A1:=fun o=>(yA (w1:Nat) w1).alloc (yB _) o;have X1:=Blk.new w1 #[s0,s1,s2] 27;by_cases h0:s0=0
 ·subst h0;have HCK2:Hid (Cj ps=Oc ps 0 ps):=by have:=HCK.out;rw[if_pos rfl]at this;exact this
  have HFT:Hid (∀p∈ps,Fits ps p):=Mi (by have:=HS.out;rw[←this]);have C2:=C1.l (A1 (.cells #[(),s1,s2] 27));have R2:=R1.l (A1 (.cells #[(),s1,s2] 27));have B2:=B1.trans ((A1 (.cells #[(),s1,s2] 27)).mono B1.size);have c2:=C2.cell 0;clear HCK HS C1 R1 B1 A1;go_wp2_with fail;generalize w1.alloc (.cells #[(),s1,s2] 27)=w2 at *;clear c2 X1;go_loopg [16] (ps.length+1) (fun g y wr=>∃k:Nat,k<=ps.length/\y=k/\Hid (Oc ps k (ps.drop k)=Oc ps 0 ps)/\Hid (ps.length+1-k<=g)/\Below w w wr/\Blk wr (w:Nat) #[.slice ao ps.length cap] 31/\Blk wr ((w:Nat)+1) #[(),(),()] 27);case atStart=>exact⟨0,yE _,rfl,rfl,yB _,B2,C2,R2⟩
  case round=>
   obtain⟨k,hk,rfl,HQ,HG,B3,C3,R3⟩:=hrel;clear B2 C2 R2;by_cases hkl:k<ps.length
   ·obtain⟨p,hp⟩:=A8 hkl;have HF:Hid _:=HFT.out p (yH hp);have HQ2:Hid _:=HQ.out.symm.trans (Zh hp);have HG2:Hid (ps.length+1-(k+1)<=gk-1/\gk-1<gk):=by have:=HG.out;show _/\_;omega
    have HWK:Hid (∀_:Unit,_):=fun _=>A5w ao cap ps k p wr hp HF.out.fit HF.out.few hl HF.out.ups (Ry HFI.out.few) (HV.out.l (A7.o B3));have c3:=C3.cell 0;have k1:(k:Int)<ps.length:=by omega
    clear hp HQ HG;go_wp2_with fail;refine(HWK.out ()).mono ?_;unfold Jo Jr;rintro e w4 ⟨⟨v,rfl⟩,hw4⟩;have C4:=C3.l hw4;have R4:=R3.l hw4;have B4:=B3.trans (hw4.mono B3.size);obtain⟨⟨f0,f1,f2⟩,hf⟩:∃f,f=Hw ps p k:=⟨_,rfl⟩;rw[←hf]at HQ2 ⊢;dsimp only at HQ2 ⊢;clear hf HWK C3 R3 B3 hw4 c3;have X4:=Blk.new w4 #[f0,f1,f2] 27;have A4:=(yA (w4:Nat) w4).alloc (yB _) (.cells #[f0,f1,f2] 27);have C5:=C4.l A4;have R5:=R4.l A4;have B5:=B4.trans (A4.mono B4.size);by_cases hf0:f0=0
    ·subst hf0;have HQ3:Hid (Oc ps (k+1) (ps.drop (k+1))=Oc ps 0 ps):=by have:=HQ2.out;rw[if_pos rfl]at this;exact this.symm
     clear HQ2;go_wp2;go_roundg (gk-1);case measure=>exact HG2.out.2
     case rel=>exact⟨k+1,by omega,by go_num,HQ3.out,HG2.out.1,B5,C5,R5⟩
    ·have HQ3:Hid (Cj ps=(f0,f1,f2)):=by have:=HQ2.out;rw[if_neg hf0]at this;exact HCK2.out.trans this
     have kf:(f0 !=0)=true:=by simpa using hf0
     have r5:=R5.cell;have z5:=R5.frozen;have hne:¬(w4:Nat)=(w:Nat)+1:=by have:=R4.lt;omega
     clear HQ2 hf0;go_wp2_with fail;refine bodyPost_ret (v:=.agg #[f0,f1,f2]) ?_ rfl ⟨?_,?_⟩
     ·simp[results,results9,go_sem,r5]
     ·rw[HQ3.out];rfl
     ·iterate 3 (refine yP ?_ (by simp) _)
      exact B5
   ·obtain rfl:k=ps.length:=by omega
    have HQ3:Hid (Cj ps=(0,0,0)):=by show _=_;rw[HCK2.out,←HQ.out,List.drop_length];rfl
    have r3:=R3.cell;have z3:=R3.frozen;have k1:¬(ps.length:Int)<ps.length:=by omega
    clear HQ HG;go_wp2_with fail;refine bodyPost_ret (v:=.agg #[(),(),()]) ?_ rfl ⟨?_,?_⟩
    ·simp[results,results9,go_sem,r3]
    ·rw[HQ3.out];rfl
    ·iterate 3 (refine yP ?_ (by simp) _)
     exact B3
 ·have HCK2:Hid (Cj ps=(s0,s1,s2)):=by have:=HCK.out;rw[if_neg h0]at this;exact this
  have kf:(s0 !=0)=true:=by simpa using h0
  have R2:=R1.l (A1 (.cells #[s0,s1,s2] 27));have B2:=B1.trans ((A1 (.cells #[s0,s1,s2] 27)).mono B1.size);have r2:=R2.cell;have z2:=R2.frozen;have hne:¬(w1:Nat)=(w:Nat)+1:=by have:=R1.lt;omega
  clear HCK HS h0 A1;go_wp2_with fail;refine bodyPost_ret (v:=.agg #[s0,s1,s2]) ?_ rfl ⟨?_,?_⟩
  ·simp[results,results9,go_sem,r2]
  ·rw[HCK2.out];rfl
  ·iterate 3 (refine yP ?_ (by simp) _)
   exact B2
end Go.Proofs.YtjbbppblgjhapaaGreatDoor
