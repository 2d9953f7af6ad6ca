import Derived.Test.YtaakadmnhpboiaaGreatDoorM34
import Derived.Test.YtaakadmnhpboiaaGreatDoorM33
import Derived.Test.YtaakadmnhpboiaaGreatDoorM19
namespace Go.Proofs.YtaakadmnhpboiaaGreatDoor
open Go.RowKit Go.Deep
set_option maxRecDepth 1000000 in
set_option maxHeartbeats 16000000 in
theorem walk_round (ps:List Pd) (pi gO:Nat) (p:Pd) (h:Ph) (cao:Option Addr) (ccap:Nat) (c:Cf) (w wr:World) (c0 c3 c4 c9 c10 c11 c12 c13 c14 c15 c16 c17 c18 c19 c20 c21 c22 c23 c24 c25 c26 c27 c28 c29 c30 c31 c32 c33 c34 c35 c36 c37 c38 c39 c40 c41 c42 c43 c44 c45 c46 c47 c48 c49 c50 c51 c52 c53 c54 c55 c56 c57 c58 c59 c60 c61 c62 c63 c64 c65 c66 c67 c68 c69 c70 c71 c72 c73 c74 c75 c76 c77 c78 c79 c80 c81 c82 c83 c84 c85 c86 c87 c88 c89 c90 c91 c92 c93 c94 c95 c96 c97 c98 c99 c100 c101 c102 c103 c104 c105 c106 c107 c108 c109 c110 c111 c112 c113 c114 c115 c116 c117 c118 c119 c120 c121 c122 c123 c124 c125 c126 c127 c128 c129 c130 c131 c132 c133 c134 c135 c136 c137 c138 c139 c140 c141 c142 c143 c144 c145 c146 c147 c148 c149 c150 c151 c152 c153 c154 c155 c156 c157 c158 c159 c160 c161 c162 c163 c164 c165 c166 c167 c168 c169 c170 c171 c172 c173 c174 c175 c176 c177 c178 c179 c180 c181 c182 c183 c184 c185 c186 c187 c188 c189 c190 c191 c192 c193 c194 c195 c196 c197 c198 c199 c200 c201 c202 c203 c204 c205 c206 c207 c208 c209:Value) (Q:Exit→Act→World→Prop) (hq:∀a' w',bodyPost Tryz.prog Tryz.f22 (WkPost w ps p pi) .ret a' w'→Q .ret a' w')
  (hn:∀(u4 u11 u12 u13 u14 u15 u16 u17 u19 u57 u58 u59 u60 u61 u62 u63 u64 u65 u66 u67 u68 u69 u70 u71 u72 u73 u74 u75 u76 u77 u78 u79 u80 u81 u82 u83 u84 u85 u86 u87 u88 u89 u90 u91 u92 u93 u94 u95 u96 u97 u98 u99 u100 u101 u102 u103 u104 u105 u106 u107 u108 u109 u110 u111 u112 u113 u114 u115 u116 u117 u118 u119 u120 u121 u122 u123 u124 u125 u126 u127 u128 u129 u130 u131 u132 u133 u134 u135 u136 u137 u138 u139 u140 u141 u142 u143 u144 u145 u146 u147 u148 u149 u150 u151 u152 u153 u154 u155 u156 u157 u158 u159 u160 u161 u162 u163 u164 u165 u166 u167 u168 u169 u170 u171 u172 u173 u174 u175 u176 u177 u178 u179 u180 u181 u182 u183 u184 u185 u186 u187 u188 u189 u190 u191 u192 u193 u194 u195 u196 u197 u198 u199 u200 u201 u202 u203 u204 u205 u206 u207 u208 u209:Value) (w':World) (a:Nat) (c':Cf),leastDue c.due=some a→roundF ps p c a=.ok c'→WkAt w cao ccap ps p h w' c'→Q .normal ⟨List.toArray (c0::.int .i64 pi::.pointer (some ⟨w.heap.size,0,none⟩)::c3::u4::.pointer (some ⟨w.heap.size+1,0,none⟩)::.pointer (some ⟨w.heap.size+1+1,0,none⟩)::.slice (some ⟨w.heap.size+1+1+1,0,none⟩) p.ins.length p.ins.length::.slice (some ⟨w.heap.size+1+1+1+1,0,none⟩) p.ins.length p.ins.length::c9::c10::u11::u12::u13::u14::u15::u16::u17::c18::u19::c20::c21::c22::c23::c24::c25::c26::c27::c28::c29::c30::c31::c32::c33::c34::c35::c36::c37::c38::c39::c40::c41::c42::c43::c44::c45::c46::c47::c48::c49::c50::c51::c52::c53::c54::c55::c56::u57::u58::u59::u60::u61::u62::u63::u64::u65::u66::u67::u68::u69::u70::u71::u72::u73::u74::u75::u76::u77::u78::u79::u80::u81::u82::u83::u84::u85::u86::u87::u88::u89::u90::u91::u92::u93::u94::u95::u96::u97::u98::u99::u100::u101::u102::u103::u104::u105::u106::u107::u108::u109::u110::u111::u112::u113::u114::u115::u116::u117::u118::u119::u120::u121::u122::u123::u124::u125::u126::u127::u128::u129::u130::u131::u132::u133::u134::u135::u136::u137::u138::u139::u140::u141::u142::u143::u144::u145::u146::u147::u148::u149::u150::u151::u152::u153::u154::u155::u156::u157::u158::u159::u160::u161::u162::u163::u164::u165::u166::u167::u168::u169::u170::u171::u172::u173::u174::u175::u176::u177::u178::u179::u180::u181::u182::u183::u184::u185::u186::u187::u188::u189::u190::u191::u192::u193::u194::u195::u196::u197::u198::u199::u200::u201::u202::u203::u204::u205::u206::u207::u208::u209::[]),[]⟩ w')
  (hp:PFit ps.length p) (hz:p.ins.length≤6000) (hpi:PIn 0 w h p) (hu:∀n ∈ p.ins,∀u ∈ fnUps ps n,u.loc=true→0≤u.idx∧u.idx<p.regs) (hul:∀n,(fnUps ps n).length≤1048576) (hv:ProtosAt 0 w cao ps)
  (hok:CfOk p c) (hcl:Closed p c none) (hwk:walkF ps p gO c=walkF ps p (2 * p.ins.length+2) (startC p)) (hme:c.meas<gO) (W1:WkAt w cao ccap ps p h wr c) :
  Code.wp Tryz.prog pcRound Q ⟨List.toArray (c0::.int .i64 pi::.pointer (some ⟨w.heap.size,0,none⟩)::c3::c4::.pointer (some ⟨w.heap.size+1,0,none⟩)::.pointer (some ⟨w.heap.size+1+1,0,none⟩)::.slice (some ⟨w.heap.size+1+1+1,0,none⟩) p.ins.length p.ins.length::.slice (some ⟨w.heap.size+1+1+1+1,0,none⟩) p.ins.length p.ins.length::c9::c10::c11::c12::c13::c14::c15::c16::c17::c18::c19::c20::c21::c22::c23::c24::c25::c26::c27::c28::c29::c30::c31::c32::c33::c34::c35::c36::c37::c38::c39::c40::c41::c42::c43::c44::c45::c46::c47::c48::c49::c50::c51::c52::c53::c54::c55::c56::c57::c58::c59::c60::c61::c62::c63::c64::c65::c66::c67::c68::c69::c70::c71::c72::c73::c74::c75::c76::c77::c78::c79::c80::c81::c82::c83::c84::c85::c86::c87::c88::c89::c90::c91::c92::c93::c94::c95::c96::c97::c98::c99::c100::c101::c102::c103::c104::c105::c106::c107::c108::c109::c110::c111::c112::c113::c114::c115::c116::c117::c118::c119::c120::c121::c122::c123::c124::c125::c126::c127::c128::c129::c130::c131::c132::c133::c134::c135::c136::c137::c138::c139::c140::c141::c142::c143::c144::c145::c146::c147::c148::c149::c150::c151::c152::c153::c154::c155::c156::c157::c158::c159::c160::c161::c162::c163::c164::c165::c166::c167::c168::c169::c170::c171::c172::c173::c174::c175::c176::c177::c178::c179::c180::c181::c182::c183::c184::c185::c186::c187::c188::c189::c190::c191::c192::c193::c194::c195::c196::c197::c198::c199::c200::c201::c202::c203::c204::c205::c206::c207::c208::c209::[]),[]⟩ wr:=by
 conv=>arg 2;whnf
 have HP:Hid _:=hp
 have HPI:Hid (PIn 0 w h p):=hpi
 have HU:Hid _:=hu
 have HUL:Hid _:=hul
 have HV:Hid _:=hv
 have HOK:Hid _:=hok
 have HCL:Hid _:=hcl
 have HWK:Hid _:=hwk
 have HME:Hid _:=hme
 have HQ:Hid _:=hq
 have HN:Hid _:=hn
 have hdl:Hid (c.due.length=p.ins.length):=hok.lenD
 have hsl:Hid (c.sts.length=p.ins.length):=hok.lenS
 clear hp hpi hu hul hv hok hcl hwk hme hq hn
 refine wp_block ?_
 refine wp_seq_k ?_
 intro K1 hK1
 have HK1:Hid _:=hK1
 clear hK1
 go_wp2_with fail
 refine HK1.out _ _ ?_
 clear HK1
 refine wp_seq_k ?_
 intro K2 hK2
 have HK2:Hid _:=hK2
 clear hK2
 go_wp2_with fail
 go_loopg [11] (p.ins.length+1) (fun g y wi=>∃a:Nat,a≤p.ins.length∧y=.int .i64 a∧Hid (∀j,j<a→c.due.getD j false=false)∧Hid (p.ins.length+1 - a≤g)∧wi=wr)
 case atStart=>exact ⟨0,Nat.zero_le _,rfl,fun j hj=>absurd hj (Nat.not_lt_zero _),Nat.le_refl _,rfl⟩
 case round=>
  rename_i wi
  obtain⟨a,ha,rfl,HA,HG,hwO⟩:=hrel
  subst hwO
  by_cases hal:a<p.ins.length
  ·have da:=(W1.due.cell a).trans (boolArr_get (by rw [hdl.out];exact hal))
   have k7:(a:Int)<p.ins.length:=by omega
   cases hda:c.due.getD a false
   ·have HA2:Hid (∀j,j<a+1→c.due.getD j false=false):=by
     intro j hj
     by_cases hja:j=a
     ·rw [hja];exact hda
     ·exact HA.out j (by omega)
    rw [hda] at da
    have HG2:Hid (p.ins.length+1 - (a+1)≤gk - 1∧gk - 1<gk):=by have:=HG.out;show _∧_;omega
    clear hda HA
    go_wp2_with fail
    go_roundg (gk - 1)
    case measure=>exact HG2.out.2
    case rel=>exact ⟨a+1,by omega,by go_num,HA2.out,HG2.out.1,rfl⟩
   ·rw [hda] at da
    have HLD:Hid (leastDue c.due=some a):=leastDue_at HA.out hda
    have HDA:Hid _:=hda
    have HERR:Hid (∀e:Nat × Nat,roundF ps p c a=.error e→verF ps p pi=((e.1:Int),(pi:Int),(e.2:Int))):=fun e he=>verF_error (HWK.out.symm.trans (walk_bad (Nat.lt_of_le_of_lt (Nat.zero_le _) HME.out) HLD.out he))
    have k8:¬(a:Int)=p.ins.length:=by omega
    clear hda HA HG
    go_wp2_with fail
    refine HK2.out _ _ ?_
    clear HK2 da
    refine wp_seq_k ?_
    intro K3 hK3
    have HK3:Hid _:=hK3
    clear hK3
    go_wp2_with fail
    refine HK3.out _ _ ?_
    refine walk_tail ps pi a p h cao ccap c w wr _ _ _ _ _ _ _ _ _ _ _ _ _ _ _ _ _ _ _ _ _ _ _ _ _ _ _ _ _ _ _ _ _ _ _ _ _ _ _ _ _ _ _ _ _ _ _ _ _ _ _ _ _ _ _ _ _ _ _ _ _ _ _ _ _ _ _ _ _ _ _ _ _ _ _ _ _ _ _ _ _ _ _ _ _ _ _ _ _ _ _ _ _ _ _ _ _ _ _ _ _ _ _ _ _ _ _ _ _ _ _ _ _ _ _ _ _ _ _ _ _ _ _ _ _ _ _ _ _ _ _ _ _ _ _ _ _ _ _ _ _ _ _ _ _ _ _ _ _ _ _ _ _ _ _ _ _ _ _ _ _ _ _ _ _ _ _ _ _ _ _ _ _ _ _ _ _ _ _ _ _ _ _ _ _ _ _ _ _ _ _ _ _ _ _ _ _ _ _ _ _ _ _ _ HQ.out ?_ HP.out hz HPI.out HU.out HUL.out HV.out HOK.out HCL.out hal HDA.out HERR.out W1
    intro v4 v13 v14 v15 v16 v17 v19 v95 v96 v97 v98 v99 v100 v101 v102 v103 v104 v105 v106 v107 v108 v109 v110 v111 v112 v113 v114 v115 v116 v117 v118 v119 v120 v121 v122 v123 v124 v125 v126 v127 v128 v129 v130 v131 v132 v133 v134 v135 v136 v137 v138 v139 v140 v141 v142 v143 v144 v145 v146 v147 v148 v149 v150 v151 v152 v153 v154 v155 v156 v157 v158 v159 v160 v161 v162 v163 v164 v165 v166 v167 v168 v169 v170 v171 v172 v173 v174 v175 v176 v177 v178 v179 v180 v181 v182 v183 v184 v185 v186 v187 v188 v189 v190 v191 v192 v193 v194 v195 v196 v197 v198 v199 v200 v201 v202 v203 v204 v205 v206 v207 v208 v209 w' c' hf hw'
    exact HN.out _ _ _ _ _ _ _ _ _ _ _ _ _ _ _ _ _ _ _ _ _ _ _ _ _ _ _ _ _ _ _ _ _ _ _ _ _ _ _ _ _ _ _ _ _ _ _ _ _ _ _ _ _ _ _ _ _ _ _ _ _ _ _ _ _ _ _ _ _ _ _ _ _ _ _ _ _ _ _ _ _ _ _ _ _ _ _ _ _ _ _ _ _ _ _ _ _ _ _ _ _ _ _ _ _ _ _ _ _ _ _ _ _ _ _ _ _ _ _ _ _ _ _ _ _ _ _ _ _ _ _ _ _ _ _ _ _ _ _ _ _ _ _ _ _ _ _ _ _ _ _ _ _ _ _ _ _ _ _ _ _ _ w' a c' HLD.out hf hw'
  ·obtain rfl:a=p.ins.length:=by omega
   have HWO:Hid (walkF ps p (2 * p.ins.length+2) (startC p)=.ok c):=HWK.out.symm.trans (walk_end (Nat.lt_of_le_of_lt (Nat.zero_le _) HME.out) (leastDue_all (by rw [hdl.out];exact HA.out)))
   have HCI:Hid (∀i,OnC (c.E p) i ↔ ((c.st i).isSome=true∧OnC (Sil p.ins) i)):=fun i=>circ_iff HCL.out (leastDue_none (leastDue_all (by rw [hdl.out];exact HA.out))) i
   clear HA HWK HME HCL HG
   have k8:¬(p.ins.length:Int)<p.ins.length:=by omega
   go_wp2_with fail
   refine HK2.out _ _ ?_
   clear HK2 k8
   refine wp_seq_k ?_
   intro K3 hK3
   clear hK3
   go_wp2_with fail
   refine walk_final ps pi p h cao ccap c w wr _ _ _ _ _ _ _ _ _ _ _ _ _ _ _ _ _ _ _ _ _ _ _ _ _ _ _ _ _ _ _ _ _ _ _ _ _ _ _ _ _ _ _ _ _ _ _ _ _ _ _ _ _ _ _ _ _ _ _ _ _ _ _ _ _ _ _ _ _ _ _ _ _ _ _ _ _ _ _ _ _ _ _ _ _ _ _ _ _ _ _ _ _ _ _ _ _ _ _ _ _ _ _ _ _ _ _ _ _ _ _ _ _ _ _ _ _ _ _ _ _ _ _ _ _ _ _ _ _ _ _ _ _ _ _ _ _ _ _ _ _ _ _ _ _ _ _ _ _ _ _ _ _ _ _ _ _ _ _ _ _ _ _ _ _ _ _ _ _ _ _ _ _ _ _ _ _ _ _ _ _ _ _ _ _ _ _ _ _ _ _ _ _ _ _ _ _ _ _ _ _ _ _ _ _ HQ.out ?_ HP.out hz HPI.out.ins HWO.out HCI.out hsl.out W1
   intro v4 v12 v76 v77 v78 v79 v80 v81 v82 v83 v84 v85 v86 v87 v88 v89 v90 v91 v92 w' hvf hw'
   have HVF:Hid _:=hvf
   have c4:=hw'.flt.cell
   have f4:=hw'.flt.frozen
   have HW':Hid _:=hw'
   clear hvf hw' W1
   go_wp2_with fail
   refine HQ.out _ _ (bodyPost_ret (v:=.tuple #[.slice (some ⟨w.heap.size+1+1+1,0,none⟩) p.ins.length p.ins.length,.agg #[.int .i64 0,.int .i64 0,.int .i64 0]]) ?_ rfl ⟨⟨.slice (some ⟨w.heap.size+1+1+1,0,none⟩) p.ins.length p.ins.length,?_⟩,?_⟩)
   ·simp [results,Tryz.results22,go_sem,c4]
   ·rw [HVF.out];rfl
   ·iterate 3 (refine Below.setCell ?_ (by simp) _)
    exact HW'.out.below
set_option maxRecDepth 100000 in
set_option maxHeartbeats 16000000 in
theorem l3walk_any (cao:Option Addr) (ccap:Nat) (ps:List Pd) (pi:Nat) (p:Pd) (w:World) (hpk:ps[pi]?=some p) (hp:PFit ps.length p) (hz:p.ins.length≤6000) (_hpl:ps.length≤1048576)
  (hu:∀n ∈ p.ins,∀u ∈ fnUps ps n,u.loc=true→0≤u.idx∧u.idx<p.regs) (hul:∀n,(fnUps ps n).length≤1048576) (hv:ProtosAt 0 w cao ps) :
  Calls Tryz.prog 22 #[.agg #[.slice cao ps.length ccap],.int .i64 pi] w (WkPost w ps p pi):=by
 have hlt:pi<ps.length:=(List.getElem?_eq_some_iff.1 hpk).1
 obtain⟨cb,co,rfl,_,hcl,h,NN,PI⟩:=hv pi p hpk
 obtain⟨N1,N2,N3,N4,N5,N6,N7,N8,N9⟩:=NN
 have hrg:=hp.regs
 have hpa:=hp.params
 obtain⟨rg,hrgN⟩:=Int.eq_ofNat_of_zero_le hrg.1
 obtain⟨pa,hpaN⟩:=Int.eq_ofNat_of_zero_le hpa.1
 have hmk:=run_make_k (P:=Tryz.prog) 45 98 _ 3 56 Tryz.underlying45 Tryz.info_State .i64 .i64 p.ins.length (by omega) (by omega)
 have hmb:=run_make_k (P:=Tryz.prog) 91 4 _ 1 1 Tryz.underlying91 Tryz.info_bool .i64 .i64 p.ins.length (by omega) (by omega)
 have hmi:=run_make_k (P:=Tryz.prog) 72 3 _ 1 8 Tryz.underlying72 Tryz.info_int .i64 .i64 rg (by omega) (by omega)
 simp only [Nat.mul_one] at hmb hmi
 have HP:Hid _:=hp
 have HPI:Hid (PIn 0 w h p):=PI
 have HU:Hid _:=hu
 have HUL:Hid _:=hul
 have HV:Hid _:=hv
 have HR:Hid _:=hrgN
 have HPA:Hid _:=hpaN
 have HPK:Hid _:=hpk
 have k1:(pi:Int)<ps.length:=by omega
 have hmi2:=hmi
 rw [←hrgN] at hmi2
 have hrgI:(rg:Int)=p.regs:=hrgN.symm
 clear hmi hp PI hu hul hv hpk hrgN hpaN
 have C1:=(((((Blk.new w #[.slice (some ⟨cb,co,none⟩) ps.length ccap] 31).alloc (.cells #[.int .i64 0,.int .i64 0,.int .i64 0] 27)).alloc (.cells #[.string p.name,.int .i64 p.line,.int .i64 p.params,.bool p.rest,.int .i64 p.regs,.slice h.uo p.ups.length h.uc,.slice h.co p.consts.length h.cc,.slice h.io p.ins.length h.ic,.slice h.no p.named.length h.nc] 57)).alloc (.cells (madeCells #[.bool false,.slice none 0 0,.slice none 0 0] (p.ins.length*3)) 98)).alloc (.cells (madeCells #[.bool false] p.ins.length) 4)).alloc (.cells (madeCells #[.int .i64 0] rg) 3)
 have F1:=((((Blk.new (w.alloc (.cells #[.slice (some ⟨cb,co,none⟩) ps.length ccap] 31)) #[.int .i64 0,.int .i64 0,.int .i64 0] 27).alloc (.cells #[.string p.name,.int .i64 p.line,.int .i64 p.params,.bool p.rest,.int .i64 p.regs,.slice h.uo p.ups.length h.uc,.slice h.co p.consts.length h.cc,.slice h.io p.ins.length h.ic,.slice h.no p.named.length h.nc] 57)).alloc (.cells (madeCells #[.bool false,.slice none 0 0,.slice none 0 0] (p.ins.length*3)) 98)).alloc (.cells (madeCells #[.bool false] p.ins.length) 4)).alloc (.cells (madeCells #[.int .i64 0] rg) 3)
 have P1:=(((Blk.new ((w.alloc (.cells #[.slice (some ⟨cb,co,none⟩) ps.length ccap] 31)).alloc (.cells #[.int .i64 0,.int .i64 0,.int .i64 0] 27)) #[.string p.name,.int .i64 p.line,.int .i64 p.params,.bool p.rest,.int .i64 p.regs,.slice h.uo p.ups.length h.uc,.slice h.co p.consts.length h.cc,.slice h.io p.ins.length h.ic,.slice h.no p.named.length h.nc] 57).alloc (.cells (madeCells #[.bool false,.slice none 0 0,.slice none 0 0] (p.ins.length*3)) 98)).alloc (.cells (madeCells #[.bool false] p.ins.length) 4)).alloc (.cells (madeCells #[.int .i64 0] rg) 3)
 have S1:=fun lo=>sts_made lo (((w.alloc (.cells #[.slice (some ⟨cb,co,none⟩) ps.length ccap] 31)).alloc (.cells #[.int .i64 0,.int .i64 0,.int .i64 0] 27)).alloc (.cells #[.string p.name,.int .i64 p.line,.int .i64 p.params,.bool p.rest,.int .i64 p.regs,.slice h.uo p.ups.length h.uc,.slice h.co p.consts.length h.cc,.slice h.io p.ins.length h.ic,.slice h.no p.named.length h.nc] 57)) p.ins.length
 have S2:=sts_none_later S1 (w':=(((((w.alloc (.cells #[.slice (some ⟨cb,co,none⟩) ps.length ccap] 31)).alloc (.cells #[.int .i64 0,.int .i64 0,.int .i64 0] 27)).alloc (.cells #[.string p.name,.int .i64 p.line,.int .i64 p.params,.bool p.rest,.int .i64 p.regs,.slice h.uo p.ups.length h.uc,.slice h.co p.consts.length h.cc,.slice h.io p.ins.length h.ic,.slice h.no p.named.length h.nc] 57)).alloc (.cells (madeCells #[.bool false,.slice none 0 0,.slice none 0 0] (p.ins.length*3)) 98)).alloc (.cells (madeCells #[.bool false] p.ins.length) 4)).alloc (.cells (madeCells #[.int .i64 0] rg) 3)) (by
  rw [blk_alloc_lt _ _ _ (by simp <;> omega),blk_alloc_lt _ _ _ (by simp <;> omega)])
 have D1:=(made_blk ((((w.alloc (.cells #[.slice (some ⟨cb,co,none⟩) ps.length ccap] 31)).alloc (.cells #[.int .i64 0,.int .i64 0,.int .i64 0] 27)).alloc (.cells #[.string p.name,.int .i64 p.line,.int .i64 p.params,.bool p.rest,.int .i64 p.regs,.slice h.uo p.ups.length h.uc,.slice h.co p.consts.length h.cc,.slice h.io p.ins.length h.ic,.slice h.no p.named.length h.nc] 57)).alloc (.cells (madeCells #[.bool false,.slice none 0 0,.slice none 0 0] (p.ins.length*3)) 98)) p.ins.length).alloc (.cells (madeCells #[.int .i64 0] rg) 3)
 have T1:=ints_made (((((w.alloc (.cells #[.slice (some ⟨cb,co,none⟩) ps.length ccap] 31)).alloc (.cells #[.int .i64 0,.int .i64 0,.int .i64 0] 27)).alloc (.cells #[.string p.name,.int .i64 p.line,.int .i64 p.params,.bool p.rest,.int .i64 p.regs,.slice h.uo p.ups.length h.uc,.slice h.co p.consts.length h.cc,.slice h.io p.ins.length h.ic,.slice h.no p.named.length h.nc] 57)).alloc (.cells (madeCells #[.bool false,.slice none 0 0,.slice none 0 0] (p.ins.length*3)) 98)).alloc (.cells (madeCells #[.bool false] p.ins.length) 4)) rg (by unfold maxLen;omega)
 have B1:Below w.heap.size w ((((((w.alloc (.cells #[.slice (some ⟨cb,co,none⟩) ps.length ccap] 31)).alloc (.cells #[.int .i64 0,.int .i64 0,.int .i64 0] 27)).alloc (.cells #[.string p.name,.int .i64 p.line,.int .i64 p.params,.bool p.rest,.int .i64 p.regs,.slice h.uo p.ups.length h.uc,.slice h.co p.consts.length h.cc,.slice h.io p.ins.length h.ic,.slice h.no p.named.length h.nc] 57)).alloc (.cells (madeCells #[.bool false,.slice none 0 0,.slice none 0 0] (p.ins.length*3)) 98)).alloc (.cells (madeCells #[.bool false] p.ins.length) 4)).alloc (.cells (madeCells #[.int .i64 0] rg) 3)):=
  ((((((Below.refl _ _).alloc (Nat.le_refl _) _).alloc (by simp) _).alloc (by simp;omega) _).alloc (by simp;omega) _).alloc (by simp;omega) _).alloc (by simp;omega) _
 clear S1
 simp only [nblk_alloc] at F1 P1 S2 D1 T1
 go_enter Tryz.func22,Tryz.ntmps22
 go_wp2_with fail
 generalize (((((w.alloc _).alloc _).alloc _).alloc _).alloc _).alloc _=w1 at *
 clear hmk hmb hmi2 N1 N2 N3 N4 N5 N6 N7 N8 N9
 have hT0:ints (List.replicate rg 0)=ints (firstR p 0):=by unfold firstR;rw [←hrgI];simp
 rw [hT0] at T1
 clear hT0
 go_loopw [10] (fun y wr=>∃r:Nat,y=.int .i64 r∧r≤pa∧wr.ownsRow (w.heap.size+1+1+1+1+1) 3 1 (.slice (some ⟨w.heap.size+1+1+1+1+1,0,none⟩) rg rg) rg (ints (firstR p r))∧Blk wr w.heap.size #[.slice (some ⟨cb,co,none⟩) ps.length ccap] 31∧Blk wr (w.heap.size+1) #[.int .i64 0,.int .i64 0,.int .i64 0] 27∧Blk wr (w.heap.size+1+1) #[.string p.name,.int .i64 p.line,.int .i64 p.params,.bool p.rest,.int .i64 p.regs,.slice h.uo p.ups.length h.uc,.slice h.co p.consts.length h.cc,.slice h.io p.ins.length h.ic,.slice h.no p.named.length h.nc] 57∧(∀lo,StsAt lo wr (w.heap.size+1+1+1) (List.replicate p.ins.length none))∧Blk wr (w.heap.size+1+1+1+1) (boolArr (List.replicate p.ins.length false)) 4∧Below w.heap.size w wr) (fun y _=>pa - (intOf y).toNat)
 case atStart=>exact ⟨0,rfl,Nat.zero_le _,T1,C1,F1,P1,S2,D1,B1⟩
 case round=>
  obtain⟨r,rfl,hr,T2,C2,F2,P2,S3,D2,B2⟩:=hrel
  clear T1 C1 F1 P1 S2 D1 B1
  have p2:=P2.cell
  have hpar:=HPA.out
  have hrr:pa≤rg:=by omega
  by_cases hrp:r<pa
  ·have t2:=(T2.cellAt r (by omega)).trans (ints_get (by rw [firstR_len (by omega)];omega))
   have f2:=T2.frozenAt r
   have T3:=(T2.stored r (.int .i64 1)).1
   rw [ints_set,firstR_set (by omega)] at T3
   have k2:(r:Int)<p.params:=by omega
   have k3:(r:Int)<rg:=by omega
   have hsb:∀k,k<w.heap.size+1+1+1+1+1→(wr.setCell ⟨w.heap.size+1+1+1+1+1,r,none⟩ (.int .i64 1)).heap[k]?=wr.heap[k]?:=fun k hk=>Below.heap_setCell _ _ _ _ (by dsimp only;omega)
   clear hpar hrgI
   go_wp2_with fail
   go_roundw
   case rel=>exact ⟨r+1,by go_num,by omega,T3,(hsb _ (by omega)).trans C2,(hsb _ (by omega)).trans F2,(hsb _ (by omega)).trans P2,sts_none_later S3 (hsb _ (by omega)),(hsb _ (by omega)).trans D2,B2.setCell (by dsimp only;omega) _⟩
   case measure=>simp [intOf];omega
  ·obtain rfl:r=pa:=by omega
   have k2:¬(r:Int)<p.params:=by omega
   have hN0:=HP.out.some
   cases hre:p.rest
   focus
    have T5:wr.ownsRow (w.heap.size+1+1+1+1+1) 3 1 (.slice (some ⟨w.heap.size+1+1+1+1+1,0,none⟩) rg rg) rg (ints (firstT p)):=by
     have:firstT p=firstR p r:=by unfold firstT firstR;rw [hre,hpar];simp
     rw [this]
     exact T2
    have C5:=C2
    have F5:=F2
    have P5:=P2
    have S5:=S3
    have D5:=D2
    have B5:=B2
    rw [hre] at P2
    have p3:=P2.cell
    clear p2 T2 C2 F2 P2 S3 D2 B2
   rotate_left
   focus
    have hrl:r<rg:=by have:=hpa.2.2 hre;omega
    have k6:(r:Int)<rg:=by omega
    have t2:=(T2.cellAt r (by omega)).trans (ints_get (by rw [firstR_len (by omega)];omega))
    have f2:=T2.frozenAt r
    have T5:=(T2.stored r (.int .i64 3)).1
    rw [ints_set] at T5
    have hft:(firstR p r).set r 3=firstT p:=by unfold firstT firstR;rw [hre,hpar];simp
    rw [hft] at T5
    have hsb:∀k,k<w.heap.size+1+1+1+1+1→(wr.setCell ⟨w.heap.size+1+1+1+1+1,r,none⟩ (.int .i64 3)).heap[k]?=wr.heap[k]?:=fun k hk=>Below.heap_setCell _ _ _ _ (by dsimp only;omega)
    have C5:Blk (wr.setCell ⟨w.heap.size+1+1+1+1+1,r,none⟩ (.int .i64 3)) _ _ _:=(hsb _ (by omega)).trans C2
    have F5:Blk (wr.setCell ⟨w.heap.size+1+1+1+1+1,r,none⟩ (.int .i64 3)) _ _ _:=(hsb _ (by omega)).trans F2
    have P5:Blk (wr.setCell ⟨w.heap.size+1+1+1+1+1,r,none⟩ (.int .i64 3)) _ _ _:=(hsb _ (by omega)).trans P2
    have S5:=sts_none_later S3 (hsb _ (by omega))
    have D5:Blk (wr.setCell ⟨w.heap.size+1+1+1+1+1,r,none⟩ (.int .i64 3)) _ _ _:=(hsb _ (by omega)).trans D2
    have B5:Below w.heap.size w (wr.setCell ⟨w.heap.size+1+1+1+1+1,r,none⟩ (.int .i64 3)):=B2.setCell (by dsimp only;omega) _
    rw [hre] at P2
    have p3:=P2.cell
    have hcomm:∀b o v,b≠w.heap.size+1+1+1+1+1→(wr.setCell ⟨w.heap.size+1+1+1+1+1,r,none⟩ (.int .i64 3)).cell? ⟨b,o,none⟩=v→True:=fun _ _ _ _ _=>trivial
    clear p2 hft hsb hcomm T2 C2 F2 P2 S3 D2 B2
   all_goals
    have hlen:(firstT p).length=rg:=by have:=firstT_len HP.out;omega
    obtain⟨to0,tc0,go0,gc0,s0,s1,s2,_,_⟩:=(S5 0).at_ 0 none (by simp [hN0])
    have fz:=(S5 0).own.frozen
    have S6:=(S5 (w.heap.size+1+1+1+1+1)).put (x:=0) (by simp [hN0]) (by omega) (s:=⟨firstT p,[]⟩) (to:=some ⟨w.heap.size+1+1+1+1+1,0,none⟩) (tc:=rg) (go:=none) (gc:=0) (owns_ints T5).1 (fun i x hx=>by simp at hx)
    rw [show ({types:=firstT p,guards:=[]} : St).types.length=rg from hlen] at S6
    simp only [Nat.zero_mul,Nat.zero_add] at S6 s0 s1 s2
    have d0:=(D5.cell 0).trans (boolArr_get (by simp [hN0]))
    have fd:=D5.frozen 0
    have k5:(0:Int)<p.ins.length:=by omega
    have W6:=wk_start (p:=p) (h:=h) hN0 C5 F5 P5 D5 B5 S6 (fun k hk=>by rw [Below.heap_setCell _ _ _ _ hk,Below.heap_setCell _ _ _ _ hk,Below.heap_setCell _ _ _ _ hk]) (((B5.setCell (by dsimp only;omega) _).setCell (by dsimp only;omega) _).setCell (by dsimp only;omega) _)
    go_wp2_with fail
    generalize World.setCell _ ⟨w.heap.size+1+1+1+1,0,none⟩ (Value.bool true)=w6 at *
    clear s0 s1 s2 fz S6 d0 fd C5 F5 P5 D5 B5 S5 T5 p3
    have HST:=start_ok HP.out
    have hrgI2:=hrgI
    clear hrgI hrgI2
    try clear hpar
    have hrgL:rg≤250:=by have:=HR.out;omega
    try clear t2 f2
    try clear k2 k5 k6
    go_loopg [11] (2 * p.ins.length+2) (fun gk y wr=>∃c:Cf,Hid (CfOk p c)∧Hid (Closed p c none)∧Hid (walkF ps p gk c=walkF ps p (2 * p.ins.length+2) (startC p))∧Hid (c.meas<gk)∧WkAt w (some ⟨cb,co,none⟩) ccap ps p h wr c)
    case atStart=>exact ⟨startC p,HST.1,HST.2.1,rfl,HST.2.2,W6⟩
    case round=>
     obtain⟨c,HOK,HCL,HWK,HME,W1⟩:=hrel
     clear W6 HST
     refine walk_round ps pi gk p h (some ⟨cb,co,none⟩) ccap c w wr _ _ _ _ _ _ _ _ _ _ _ _ _ _ _ _ _ _ _ _ _ _ _ _ _ _ _ _ _ _ _ _ _ _ _ _ _ _ _ _ _ _ _ _ _ _ _ _ _ _ _ _ _ _ _ _ _ _ _ _ _ _ _ _ _ _ _ _ _ _ _ _ _ _ _ _ _ _ _ _ _ _ _ _ _ _ _ _ _ _ _ _ _ _ _ _ _ _ _ _ _ _ _ _ _ _ _ _ _ _ _ _ _ _ _ _ _ _ _ _ _ _ _ _ _ _ _ _ _ _ _ _ _ _ _ _ _ _ _ _ _ _ _ _ _ _ _ _ _ _ _ _ _ _ _ _ _ _ _ _ _ _ _ _ _ _ _ _ _ _ _ _ _ _ _ _ _ _ _ _ _ _ _ _ _ _ _ _ _ _ _ _ _ _ _ _ _ _ _ _ _ _ _ _ _ (fun a' w' hb=>hb) ?_ HP.out hz HPI.out HU.out HUL.out HV.out HOK.out HCL.out HWK.out HME.out W1
     intro v4 v11 v12 v13 v14 v15 v16 v17 v19 v57 v58 v59 v60 v61 v62 v63 v64 v65 v66 v67 v68 v69 v70 v71 v72 v73 v74 v75 v76 v77 v78 v79 v80 v81 v82 v83 v84 v85 v86 v87 v88 v89 v90 v91 v92 v93 v94 v95 v96 v97 v98 v99 v100 v101 v102 v103 v104 v105 v106 v107 v108 v109 v110 v111 v112 v113 v114 v115 v116 v117 v118 v119 v120 v121 v122 v123 v124 v125 v126 v127 v128 v129 v130 v131 v132 v133 v134 v135 v136 v137 v138 v139 v140 v141 v142 v143 v144 v145 v146 v147 v148 v149 v150 v151 v152 v153 v154 v155 v156 v157 v158 v159 v160 v161 v162 v163 v164 v165 v166 v167 v168 v169 v170 v171 v172 v173 v174 v175 v176 v177 v178 v179 v180 v181 v182 v183 v184 v185 v186 v187 v188 v189 v190 v191 v192 v193 v194 v195 v196 v197 v198 v199 v200 v201 v202 v203 v204 v205 v206 v207 v208 v209 w' a c' hld hrf hw'
     have HRO:Hid _:=round_ok HP.out HOK.out HCL.out hld hrf
     have HWN:Hid (walkF ps p (gk - 1) c'=walkF ps p (2 * p.ins.length+2) (startC p)):=(walk_on (Nat.lt_of_le_of_lt (Nat.zero_le _) HME.out) hld hrf).symm.trans HWK.out
     have HMN:Hid (c'.meas<gk - 1∧gk - 1<gk):=by have h1:=HRO.out.2.2;have h2:=HME.out;show _∧_;omega
     clear hld hrf HOK HCL HWK HME W1
     go_wp2_with fail
     go_roundg (gk - 1)
     case measure=>exact HMN.out.2
     case rel=>exact ⟨c',HRO.out.1,HRO.out.2.1,HWN.out,HMN.out.1,hw'⟩
end Go.Proofs.YtaakadmnhpboiaaGreatDoor
