import Derived.Test.YtgopdffmnikhdaaGreatDoorT48
import Derived.Test.YtgopdffmnikhdaaGreatDoorT42
import Derived.Test.YtgopdffmnikhdaaGreatDoorT43
import Derived.Deep.RegionHeld3
import Derived.Test.YtgopdffmnikhdaaGreatDoorT17
namespace Go.Proofs.YtgopdffmnikhdaaGreatDoor
open Go.RowKit Go.Deep
theorem Tryz.info_QInsP:(Tryz.prog.info? 149).map (fun i=>(i.zero,i.size,i.bytes))=some (some (.agg #[.int .i64 0,.int .i64 0,.int .i64 0,.int .i64 0,.int .i64 0,.int .i64 0,.int .i64 0]),7,56):=by kernel_rfl
theorem Tryz.info_QProtoP:(Tryz.prog.info? 154).map (fun i=>(i.zero,i.size,i.bytes))=some (some (.agg #[.slice none 0 0]),1,24):=by kernel_rfl
theorem field_fault (a b c:Int) (W:World):(Instr.field 143 (.agg #[.int .i64 a,.int .i64 b,.int .i64 c]) 0).run Tryz.prog W=.ok (.int .i64 a) W:=by kernel_rfl
theorem CellsAre.sets7 {W:World} {b g:Nat} {A:Array Value} (h:∀o,W.cell? ⟨b,o,none⟩=A[o]?) (hn:b≠g) (o0 o1 o2 o3 o4 o5 o6:Nat) (v0 v1 v2 v3 v4 v5 v6:Value):∀o,(((((((W.setCell ⟨g,o0,none⟩ v0).setCell ⟨g,o1,none⟩ v1).setCell ⟨g,o2,none⟩ v2).setCell ⟨g,o3,none⟩ v3).setCell ⟨g,o4,none⟩ v4).setCell ⟨g,o5,none⟩ v5).setCell ⟨g,o6,none⟩ v6).cell? ⟨b,o,none⟩=A[o]?:=
 CellsAre.set (CellsAre.set (CellsAre.set (CellsAre.set (CellsAre.set (CellsAre.set (CellsAre.set h hn _ _) hn _ _) hn _ _) hn _ _) hn _ _) hn _ _) hn _ _
theorem cIns_few {ps:List Pd} (hf:Fine ps) {cs:List Vd} {is:List Nd} {k i:Nat} (hl:ps.length≤1048576) (hk:k<ps.length) (hi:i<is.length) (hz:is.length≤1048576):cIns cs is (cAll ps k) i≤1099513724928:=by
 have h1:=cIns_le cs is (cAll ps k) i
 have h2:=cAll_le (fun p hp=>(hf.few p hp).ins) k
 omega
theorem qgood_of {ps:List Pd} (hf:Fine ps) (hc:(checkF ps).1=0) {p:Pd} (hp:p ∈ ps) {i:Nat} {n:Nd} (hi:p.ins[i]?=some n):QGood n (p.ins.drop (i+1)) p.consts:=by
 have hd:p.ins.drop i=n::p.ins.drop (i+1):=drop_some hi
 have hm:∀z ∈ n::p.ins.drop (i+1),z ∈ p.ins:=fun z hz=>List.mem_of_mem_drop (hd▸hz)
 have hq:=shape_q hc p hp
 refine⟨?_,fun z hz=>(hq z (hm z hz)).drop,(hq n (List.mem_of_getElem? hi)).cst,(hq n (List.mem_of_getElem? hi)).bin,fun z hz=>hf.nds p hp z (hm z hz)⟩
 rw [←hd]
 have:=(hf.few p hp).ins
 simp
 omega
theorem cIns_step {cs:List Vd} {ins:List Nd} {c0 i:Nat} {n:Nd} (hi:ins[i]?=some n):cIns cs ins c0 (i+1)=if (quickOne cs (cIns cs ins c0 i) (n::ins.drop (i+1))).op=45 then cIns cs ins c0 i+1 else cIns cs ins c0 i:=by
 rw [cIns,drop_some hi]
set_option maxRecDepth 100000 in
set_option maxHeartbeats 8000000 in
theorem implPrepare_any (cg cap:Nat) (ps:List Pd) (w:World) (hfi:Fine ps) (hF:Forms w) (hv:ProtosAt 0 w (some ⟨cg,0,none⟩) ps) (hcap:CapP w cg ps ps.length) (hc:(checkF ps).1=0) :
  Calls Tryz.prog 31 #[.agg #[.slice (some ⟨cg,0,none⟩) ps.length cap]] w fun e w'=>∃g gs,e=.returned (.agg #[.slice (some ⟨g,0,none⟩) ps.length ps.length,.int .i64 (cAll ps ps.length:Int)])∧QOwn w' g gs (qAll ps)∧w.heap.size≤g∧Below w.heap.size w w':=by
 have hl:ps.length≤1048576:=by have:=hfi.bulk;unfold bulkPs at this;omega
 have C0:=(Blk.new w #[.slice (some ⟨cg,0,none⟩) ps.length cap] 26).alloc (.cells #[.slice none 0 0,.int .i64 0] 102)
 have R0:=Blk.newIn (W:=w.alloc (.cells #[.slice (some ⟨cg,0,none⟩) ps.length cap] 26)) (n:=w.heap.size+1) #[.slice none 0 0,.int .i64 0] 102 (by simp)
 have B0:Below w.heap.size w ((w.alloc (.cells #[.slice (some ⟨cg,0,none⟩) ps.length cap] 26)).alloc (.cells #[.slice none 0 0,.int .i64 0] 102)):=((Below.refl _ _).alloc (Nat.le_refl _) _).alloc (by simp) _
 obtain⟨⟨f0,f1,f2⟩,hf⟩:∃f,f=checkF ps:=⟨_,rfl⟩
 obtain rfl:f0=0:=by rw [←hf] at hc;exact hc
 have HCK:Hid (∀W,Below w.heap.size w W→Calls Tryz.prog 113 #[.agg #[.slice (some ⟨cg,0,none⟩) ps.length cap]] W fun e w'=>e=.returned (.agg #[.int .i64 0,.int .i64 f1,.int .i64 f2])∧Below W.heap.size W w'):=fun W hb=>by
  have:=implCheckCode_any (some ⟨cg,0,none⟩) cap ps W hfi (hF.later hb) (hv.later (Keeps.of_below hb));rw [←hf] at this;exact this
 have HFI:Hid (Fine ps):=hfi
 have HCC:Hid ((checkF ps).1=0):=hc
 have HV:Hid (ProtosAt 0 w (some ⟨cg,0,none⟩) ps):=hv
 have HCA:Hid (CapP w cg ps ps.length):=hcap
 have hmk:=run_make_k (P:=Tryz.prog) 62 154 _ 1 24 Tryz.underlying62 Tryz.info_QProtoP .i64 .i64 ps.length (by omega) (by omega)
 clear hf hc hF hv hfi hcap
 have hfd:=field_fault 0 f1 f2
 go_enter Tryz.func31,Tryz.ntmps31
 have c0:=C0.cell
 go_wp2_with fail
 refine (HCK.out _ B0).mono ?_
 rintro e w1 ⟨rfl,hw1⟩
 have B1:=B0.trans (hw1.mono B0.size)
 have C1:=C0.later hw1
 have R1:=R0.later hw1
 clear hw1 B0 C0 R0 c0 HCK
 have c1:=C1.cell
 go_wp2_with fail
 refine (patterns_any w1).mono ?_
 rintro e w2 ⟨g0,rfl,P2,hg0,hw2⟩
 have B2:=B1.trans (hw2.mono B1.size)
 have C2:=C1.later hw2
 have R2:=R1.later hw2
 clear hw2 B1 C1 R1 c1
 have c2:=C2.cell
 have c2a:=fun o=>(C2.alloc o).cell
 have c2b:=fun o o'=>((C2.alloc o).alloc o').cell
 go_wp2_with fail
 have O0:=OutAt.start w2 ps #[.slice none 0 0]
 clear hmk
 go_loopw [23] (fun y wr=>∃(k:Nat) (gs:Nat→Nat),k≤ps.length∧y=.int .i64 k∧Hid (OutAt w2 ps wr gs k)) (fun y _=>ps.length - (intOf y).toNat)
 case atStart=>exact ⟨0,fun _=>0,Nat.zero_le _,rfl,O0⟩
 case round=>
  obtain⟨k,gs,hk,rfl,HO⟩:=hrel
  obtain⟨wo,hwo⟩:∃wo,wo=wr:=⟨_,rfl⟩
  subst hwo
  clear O0 c2 c2a c2b
  have c3:=(C2.later HO.out.b2).cell
  by_cases hlt:k<ps.length
  ·obtain⟨p,hp⟩:=some_of_lt hlt
   have HP:Hid (ps[k]?=some p):=hp
   have BR:=B2.trans (HO.out.b2.mono B2.size)
   obtain⟨b,off,e,_,hbl0,h,hnine,hpin⟩:=HV.out k p hp
   simp only [Option.some.injEq,Addr.mk.injEq,and_true] at e
   obtain⟨rfl,rfl⟩:=e
   obtain⟨n0,n1,n2,n3,n4,n5,n6,n7,n8⟩:=NineAt.later hnine BR hbl0
   simp only [Nat.zero_add] at n0 n1 n2 n3 n4 n5 n6 n7 n8
   have hic:h.ic=p.ins.length:=by
    obtain⟨ao',h1⟩:=HCA.out k p hlt hp
    have h2:=(BR.cell (p:=⟨cg,k*9+7,none⟩) hbl0).trans h1
    have h3:=Option.some.inj (n7.symm.trans h2)
    simp only [Value.slice.injEq] at h3
    exact h3.2.2
   have hil:p.ins.length≤1048576:=(HFI.out.few p (List.mem_of_getElem? hp)).ins
   have HPI:Hid (PIn 0 w h p):=hpin
   have hmk2:=run_make_k (P:=Tryz.prog) 147 149 _ 7 56 Tryz.underlying147 Tryz.info_QInsP .i64 .i64 p.ins.length (by omega) (by omega)
   have I0:=InAt.start (p:=p) HO.out (p.cells h) #[.int .i64 0,.int .i64 0,.int .i64 0,.int .i64 0,.int .i64 0,.int .i64 0,.int .i64 0]
   have HQG:Hid (∀(i:Nat) n,p.ins[i]?=some n→QGood n (p.ins.drop (i+1)) p.consts):=fun i n hi=>qgood_of HFI.out HCC.out (List.mem_of_getElem? hp) hi
   have HCS:Hid (cAll ps (k+1)=cIns p.consts p.ins (cAll ps k) p.ins.length):=cAll_step hp
   clear hp hpin hnine
   obtain⟨nm,ln,pa,re,rg,us,cs,is,ms⟩:=p
   obtain⟨uo,uc,co,cc,io,ic,no,nc⟩:=h
   dsimp only [Pd.cells] at *
   subst hic
   have hkl:(k:Int)<ps.length:=by omega
   go_wp2_with fail
   clear hmk2 n0 n1 n2 n3 n4 n5 n6 n7 n8 c3
   go_loopw [34] (fun y wi=>∃i:Nat,i≤is.length∧y=.int .i64 i∧Hid (InAt w2 wo ps #[.string nm,.int .i64 ln,.int .i64 pa,.bool re,.int .i64 rg,.slice uo us.length uc,.slice co cs.length cc,.slice io is.length is.length,.slice no ms.length nc] k ⟨nm,ln,pa,re,rg,us,cs,is,ms⟩ wi (cIns cs is (cAll ps k) i) i)) (fun y _=>is.length - (intOf y).toNat)
   case atStart=>exact ⟨0,Nat.zero_le _,rfl,I0⟩
   case round=>
    obtain⟨i,hi,rfl,HI⟩:=hrel
    clear I0
    obtain⟨wi,hwi⟩:∃wi,wi=wr:=⟨_,rfl⟩
    subst hwi
    have HL:Hid (wo.heap.size+1<wi.heap.size):=HI.out.own.lt
    by_cases hil2:i<is.length
    ·obtain⟨n,hn⟩:=some_of_lt hil2
     have BI:=InAt.b2 HO.out HI.out
     have BWI:=B2.trans (BI.mono B2.size)
     have hqg:=HQG.out i n hn
     have hpd:=drop_some hn
     have hpin:=HPI.out
     obtain⟨ib,iof,e,_,hibl,_⟩:=hpin.ins i n hn
     dsimp only at e
     subst e
     have hfew:=hqg.few
     obtain⟨q,hq⟩:∃q,q=quickOne cs (cIns cs is (cAll ps k) i) (n::is.drop (i+1)):=⟨_,rfl⟩
     have hqi:(qIns cs is (cAll ps k))[i]?=some q:=by rw [qIns_at hil2,hpd,hq]
     have HCI:Hid (cIns cs is (cAll ps k) (i+1)=if q.op=45 then cIns cs is (cAll ps k) i+1 else cIns cs is (cAll ps k) i):=by
      rw [cIns_step hn,hq];rfl
     have HQC:Hid (∀W,Below w2.heap.size w2 W→Calls Tryz.prog 115 #[.agg #[.slice (some ⟨ib,iof+i*5,none⟩) (is.length - i) (is.length - i),.slice co cs.length cc,.int .i64 ((cIns cs is (cAll ps k) i:Nat):Int)],.slice (some ⟨g0,0,none⟩) 5 5] W fun e w'=>e=.returned q.val∧Below W.heap.size W w'):=by
      intro W hb
      have:=quicken_any (some ⟨ib,iof+i*5,none⟩) co (is.length - i) cc (cIns cs is (cAll ps k) i) g0 n (is.drop (i+1)) cs W hqg (by rw [←hpd];exact AllAt.dropAt (hpin.ins.later (Keeps.of_below (B2.trans (hb.mono B2.size)))) i) (hpin.consts.later (Keeps.of_below (B2.trans (hb.mono B2.size)))) (P2.later hb)
      rw [←hq,←hpd,List.length_drop] at this
      exact this
     obtain⟨q0,q1,q2,q3,q4,q5,q6⟩:=q
     dsimp only [Qd.val] at HQC HCI
     have HPT:Hid (∀W c,InAt w2 wo ps #[.string nm,.int .i64 ln,.int .i64 pa,.bool re,.int .i64 rg,.slice uo us.length uc,.slice co cs.length cc,.slice (some ⟨ib,iof,none⟩) is.length is.length,.slice no ms.length nc] k ⟨nm,ln,pa,re,rg,us,cs,is,ms⟩ W c i→InAt w2 wo ps #[.string nm,.int .i64 ln,.int .i64 pa,.bool re,.int .i64 rg,.slice uo us.length uc,.slice co cs.length cc,.slice (some ⟨ib,iof,none⟩) is.length is.length,.slice no ms.length nc] k ⟨nm,ln,pa,re,rg,us,cs,is,ms⟩ (W.setCells (wo.heap.size+1) (i*7) (Qd.vals ⟨q0,q1,q2,q3,q4,q5,q6⟩)) c (i+1)):=fun W c h=>InAt.put (q:=⟨q0,q1,q2,q3,q4,q5,q6⟩) HO.out h hqi
     have HCT:Hid (∀W c c',InAt w2 wo ps #[.string nm,.int .i64 ln,.int .i64 pa,.bool re,.int .i64 rg,.slice uo us.length uc,.slice co cs.length cc,.slice (some ⟨ib,iof,none⟩) is.length is.length,.slice no ms.length nc] k ⟨nm,ln,pa,re,rg,us,cs,is,ms⟩ W c (i+1)→InAt w2 wo ps #[.string nm,.int .i64 ln,.int .i64 pa,.bool re,.int .i64 rg,.slice uo us.length uc,.slice co cs.length cc,.slice (some ⟨ib,iof,none⟩) is.length is.length,.slice no ms.length nc] k ⟨nm,ln,pa,re,rg,us,cs,is,ms⟩ (W.setCell ⟨w2.heap.size+1,1,none⟩ (.int .i64 ((c':Nat):Int))) c' (i+1)):=fun W c c' h=>InAt.count HO.out h c'
     have HI1:Hid (InAt w2 wo ps #[.string nm,.int .i64 ln,.int .i64 pa,.bool re,.int .i64 rg,.slice uo us.length uc,.slice co cs.length cc,.slice (some ⟨ib,iof,none⟩) is.length is.length,.slice no ms.length nc] k ⟨nm,ln,pa,re,rg,us,cs,is,ms⟩ wi.drew (cIns cs is (cAll ps k) i) i):=InAt.later HI.out (Below.refl _ _).drew
     have hcl:=cIns_few HFI.out (cs:=cs) (is:=is) hl hlt hil2 hil
     have e1:=HI1.out.pr.cell
     have e2:=HI1.out.hq.cell
     have hL:=InAt.lt HO.out
     have hn1:wo.heap.size≠wo.heap.size+1:=Nat.ne_of_lt (Nat.lt_succ_self _)
     have hn2:w2.heap.size+1≠wo.heap.size+1:=Nat.ne_of_lt (Nat.lt_succ_of_lt hL)
     have k1:(i:Int)<is.length:=Int.ofNat_lt.2 hil2
     have k2:¬is.length=i:=Nat.ne_of_gt hil2
     have k3:(i:Int)≤is.length:=Int.ofNat_le.2 hi
     have BI1:Below w2.heap.size w2 wi.drew:=BI.drew
     have HQI:Hid ((qIns cs is (cAll ps k))[i]?=some ⟨q0,q1,q2,q3,q4,q5,q6⟩):=hqi
     have hi1:i+1≤is.length:=hil2
     clear hqi hq hpd hn hqg hfew hpin hil2 HI BI
     generalize cIns cs is (cAll ps k) i=C at *
     obtain⟨C',hC'⟩:∃C',cIns cs is (cAll ps k) (i+1)=C':=⟨_,rfl⟩
     rw [hC'] at HCI
     have HCE:Hid (cIns cs is (cAll ps k) (i+1)=C'):=hC'
     clear hC'
     go_wp2_with fail
     go_region_held3 (fun W=>(∀o,W.cell? ⟨wo.heap.size,o,none⟩=(#[.string nm,.int .i64 ln,.int .i64 pa,.bool re,.int .i64 rg,.slice uo us.length uc,.slice co cs.length cc,.slice (some ⟨ib,iof,none⟩) is.length is.length,.slice no ms.length nc]:Array Value)[o]?)∧(∀o,W.cell? ⟨w2.heap.size+1,o,none⟩=(#[.slice (some ⟨w2.heap.size,0,none⟩) ps.length ps.length,.int .i64 (C:Int)]:Array Value)[o]?)) (first | with_reducible exact ⟨e1,e2⟩ | with_reducible exact ⟨d1,d2⟩ | with_reducible exact ⟨CellsAre.sets7 d1 hn1 _ _ _ _ _ _ _ _ _ _ _ _ _ _,CellsAre.sets7 d2 hn2 _ _ _ _ _ _ _ _ _ _ _ _ _ _⟩)
      (first | (go_at_call 115;refine (HQC.out _ BI1).mono ?_;rintro e w1 ⟨rfl,hw1⟩;have I1:=InAt.later HI1.out hw1;have d1:=I1.pr.cell;have d2:=I1.hq.cell;obtain ⟨v0,c0⟩:=I1.own.cell (i:=i*7) (by show i*7<is.length*7;omega);obtain ⟨v1,c1⟩:=I1.own.cell (i:=i*7+1) (by show i*7+1<is.length*7;omega);obtain ⟨v2,c2⟩:=I1.own.cell (i:=i*7+2) (by show i*7+2<is.length*7;omega);obtain ⟨v3,c3⟩:=I1.own.cell (i:=i*7+3) (by show i*7+3<is.length*7;omega);obtain ⟨v4,c4⟩:=I1.own.cell (i:=i*7+4) (by show i*7+4<is.length*7;omega);obtain ⟨v5,c5⟩:=I1.own.cell (i:=i*7+5) (by show i*7+5<is.length*7;omega);obtain ⟨v6,c6⟩:=I1.own.cell (i:=i*7+6) (by show i*7+6<is.length*7;omega);have fz:=I1.own.frozen))
     have I2:InAt w2 wo ps #[.string nm,.int .i64 ln,.int .i64 pa,.bool re,.int .i64 rg,.slice uo us.length uc,.slice co cs.length cc,.slice (some ⟨ib,iof,none⟩) is.length is.length,.slice no ms.length nc] k ⟨nm,ln,pa,re,rg,us,cs,is,ms⟩ (((((((w1.setCell ⟨wo.heap.size+1,i*7,none⟩ (.int .i64 q0)).setCell ⟨wo.heap.size+1,i*7+1,none⟩ (.int .i64 q1)).setCell ⟨wo.heap.size+1,i*7+2,none⟩ (.int .i64 q2)).setCell ⟨wo.heap.size+1,i*7+3,none⟩ (.int .i64 q3)).setCell ⟨wo.heap.size+1,i*7+4,none⟩ (.int .i64 q4)).setCell ⟨wo.heap.size+1,i*7+5,none⟩ (.int .i64 q5)).setCell ⟨wo.heap.size+1,i*7+6,none⟩ (.int .i64 q6)) C (i+1):=HPT.out w1 C I1
     have hq1:InAt w2 wo ps #[.string nm,.int .i64 ln,.int .i64 pa,.bool re,.int .i64 rg,.slice uo us.length uc,.slice co cs.length cc,.slice (some ⟨ib,iof,none⟩) is.length is.length,.slice no ms.length nc] k ⟨nm,ln,pa,re,rg,us,cs,is,ms⟩ (((((((w1.setCell ⟨wo.heap.size+1,i*7,none⟩ (.int .i64 q0)).setCell ⟨wo.heap.size+1,i*7+1,none⟩ (.int .i64 q1)).setCell ⟨wo.heap.size+1,i*7+2,none⟩ (.int .i64 q2)).setCell ⟨wo.heap.size+1,i*7+3,none⟩ (.int .i64 q3)).setCell ⟨wo.heap.size+1,i*7+4,none⟩ (.int .i64 q4)).setCell ⟨wo.heap.size+1,i*7+5,none⟩ (.int .i64 q5)).setCell ⟨wo.heap.size+1,i*7+6,none⟩ (.int .i64 q6)) C (i+1)→(((((((w1.setCell ⟨wo.heap.size+1,i*7,none⟩ (.int .i64 q0)).setCell ⟨wo.heap.size+1,i*7+1,none⟩ (.int .i64 q1)).setCell ⟨wo.heap.size+1,i*7+2,none⟩ (.int .i64 q2)).setCell ⟨wo.heap.size+1,i*7+3,none⟩ (.int .i64 q3)).setCell ⟨wo.heap.size+1,i*7+4,none⟩ (.int .i64 q4)).setCell ⟨wo.heap.size+1,i*7+5,none⟩ (.int .i64 q5)).setCell ⟨wo.heap.size+1,i*7+6,none⟩ (.int .i64 q6)).cell? ⟨wo.heap.size+1,i*7,none⟩=some (.int .i64 q0):=fun h=>h.laid i ⟨q0,q1,q2,q3,q4,q5,q6⟩ (Nat.lt_succ_self _) HQI.out 0 _ rfl
     have z0:=hq1 I2
     have z1:=I2.hq.cell
     have z2:=I2.hq.frozen
     have HI2:Hid (InAt w2 wo ps #[.string nm,.int .i64 ln,.int .i64 pa,.bool re,.int .i64 rg,.slice uo us.length uc,.slice co cs.length cc,.slice (some ⟨ib,iof,none⟩) is.length is.length,.slice no ms.length nc] k ⟨nm,ln,pa,re,rg,us,cs,is,ms⟩ (((((((w1.setCell ⟨wo.heap.size+1,i*7,none⟩ (.int .i64 q0)).setCell ⟨wo.heap.size+1,i*7+1,none⟩ (.int .i64 q1)).setCell ⟨wo.heap.size+1,i*7+2,none⟩ (.int .i64 q2)).setCell ⟨wo.heap.size+1,i*7+3,none⟩ (.int .i64 q3)).setCell ⟨wo.heap.size+1,i*7+4,none⟩ (.int .i64 q4)).setCell ⟨wo.heap.size+1,i*7+5,none⟩ (.int .i64 q5)).setCell ⟨wo.heap.size+1,i*7+6,none⟩ (.int .i64 q6)) C (i+1)):=I2
     clear hq1 I2 I1 d1 d2 c0 c1 c2 c3 c4 c5 c6 fz e1 e2 hw1
     by_cases h45:q0=45
     ·have g45:(q0 == 45)=true:=by simpa using h45
      have hcc:C'=C+1:=HCI.out.trans (if_pos h45)
      have HI3:Hid (InAt w2 wo ps #[.string nm,.int .i64 ln,.int .i64 pa,.bool re,.int .i64 rg,.slice uo us.length uc,.slice co cs.length cc,.slice (some ⟨ib,iof,none⟩) is.length is.length,.slice no ms.length nc] k ⟨nm,ln,pa,re,rg,us,cs,is,ms⟩ ((((((((w1.setCell ⟨wo.heap.size+1,i*7,none⟩ (.int .i64 q0)).setCell ⟨wo.heap.size+1,i*7+1,none⟩ (.int .i64 q1)).setCell ⟨wo.heap.size+1,i*7+2,none⟩ (.int .i64 q2)).setCell ⟨wo.heap.size+1,i*7+3,none⟩ (.int .i64 q3)).setCell ⟨wo.heap.size+1,i*7+4,none⟩ (.int .i64 q4)).setCell ⟨wo.heap.size+1,i*7+5,none⟩ (.int .i64 q5)).setCell ⟨wo.heap.size+1,i*7+6,none⟩ (.int .i64 q6)).setCell ⟨w2.heap.size+1,1,none⟩ (.int .i64 ((C:Int)+1))) C' (i+1)):=by
       have:=HCT.out (((((((w1.setCell ⟨wo.heap.size+1,i*7,none⟩ (.int .i64 q0)).setCell ⟨wo.heap.size+1,i*7+1,none⟩ (.int .i64 q1)).setCell ⟨wo.heap.size+1,i*7+2,none⟩ (.int .i64 q2)).setCell ⟨wo.heap.size+1,i*7+3,none⟩ (.int .i64 q3)).setCell ⟨wo.heap.size+1,i*7+4,none⟩ (.int .i64 q4)).setCell ⟨wo.heap.size+1,i*7+5,none⟩ (.int .i64 q5)).setCell ⟨wo.heap.size+1,i*7+6,none⟩ (.int .i64 q6)) C C' HI2.out
       rw [show ((C':Nat):Int)=(C:Int)+1 by rw [hcc];rfl] at this
       exact this
      clear hcc h45
      go_wp2_with fail
      go_roundw
      case rel=>exact ⟨i+1,hi1,by go_num,by rw [HCE.out];exact HI3.out⟩
      case measure=>simp [intOf];omega
     ·have g45:(q0 == 45)=false:=by simpa using h45
      have hcc:C'=C:=HCI.out.trans (if_neg h45)
      have HI3:Hid (InAt w2 wo ps #[.string nm,.int .i64 ln,.int .i64 pa,.bool re,.int .i64 rg,.slice uo us.length uc,.slice co cs.length cc,.slice (some ⟨ib,iof,none⟩) is.length is.length,.slice no ms.length nc] k ⟨nm,ln,pa,re,rg,us,cs,is,ms⟩ (((((((w1.setCell ⟨wo.heap.size+1,i*7,none⟩ (.int .i64 q0)).setCell ⟨wo.heap.size+1,i*7+1,none⟩ (.int .i64 q1)).setCell ⟨wo.heap.size+1,i*7+2,none⟩ (.int .i64 q2)).setCell ⟨wo.heap.size+1,i*7+3,none⟩ (.int .i64 q3)).setCell ⟨wo.heap.size+1,i*7+4,none⟩ (.int .i64 q4)).setCell ⟨wo.heap.size+1,i*7+5,none⟩ (.int .i64 q5)).setCell ⟨wo.heap.size+1,i*7+6,none⟩ (.int .i64 q6)) C' (i+1)):=hcc▸HI2.out
      clear hcc h45
      go_wp2_with fail
      go_roundw
      case rel=>exact ⟨i+1,hi1,by go_num,by rw [HCE.out];exact HI3.out⟩
      case measure=>simp [intOf];omega
    ·obtain rfl:i=is.length:=Nat.le_antisymm hi (Nat.le_of_not_lt hil2)
     have HI1:Hid (InAt w2 wo ps #[.string nm,.int .i64 ln,.int .i64 pa,.bool re,.int .i64 rg,.slice uo us.length uc,.slice co cs.length cc,.slice io is.length is.length,.slice no ms.length nc] k ⟨nm,ln,pa,re,rg,us,cs,is,ms⟩ wi (cAll ps (k+1)) is.length):=HCS.out▸HI.out
     have hG:Own wi w2.heap.size 154 ps.length:=HO.out.own.of_block (HI1.out.only.block _ (Nat.ne_of_lt (Nat.lt_succ_self _)) HO.out.own.lt)
     obtain⟨v0,c0⟩:=hG.cell (i:=k) hlt
     have f0:=hG.frozen k
     have z1:=HI1.out.hq.cell
     have HO2:Hid (OutAt w2 ps (wi.setCell ⟨w2.heap.size,k,none⟩ (.slice (some ⟨wo.heap.size+1,0,none⟩) is.length is.length)) (fun j=>if j=k then wo.heap.size+1 else gs j) (k+1)):=OutAt.more (p:=⟨nm,ln,pa,re,rg,us,cs,is,ms⟩) HO.out HP.out HI1.out
     have hk1:k+1≤ps.length:=hlt
     clear hG HI1 HI hil2 HL
     go_wp2_with fail
     go_roundw
     case rel=>exact ⟨k+1,_,hk1,by go_num,HO2.out⟩
     case measure=>simp [intOf];omega
  ·obtain rfl:k=ps.length:=Nat.le_antisymm hk (Nat.le_of_not_lt hlt)
   have z1:=HO.out.hq.cell
   have r1:=(R2.later HO.out.b2).cell
   have rf1:=(R2.later HO.out.b2).frozen
   have BR:=B2.trans (HO.out.b2.mono B2.size)
   have HD:=HO.out.done
   have hgl:w.heap.size+1<w2.heap.size:=R2.lt
   go_wp2_with fail
   refine bodyPost_ret (v:=.agg #[.slice (some ⟨w2.heap.size,0,none⟩) ps.length ps.length,.int .i64 (cAll ps ps.length:Int)]) ?_ rfl ⟨w2.heap.size,gs,rfl,?_,by omega,?_⟩
   ·simp [results,Tryz.results31,go_sem,r1]
   ·refine HD.later ?_
    iterate 2 (refine Keeps.setCell ?_ (by show w.heap.size+1<w2.heap.size;exact hgl) _)
    exact Keeps.refl _ _
   ·iterate 2 (refine Below.setCell ?_ (by show w.heap.size≤w.heap.size+1;omega) _)
    exact BR

/-- What the instructions' slices hold is no more than what they have room for. -/
def CapQ (w : World) (g : Nat) (ps : List Pd) (k : Nat) : Prop := ∀ j p, j < k → ps[j]? = some p → ∃ ao ic, w.cell? ⟨g, j * 9 + 7, none⟩ = some (.slice ao p.ins.length ic) ∧ p.ins.length ≤ ic
set_option maxRecDepth 100000 in
set_option maxHeartbeats 8000000 in
theorem implPrepareC_any (cg cap : Nat) (ps : List Pd) (w : World) (hfi : Fine ps) (hF : Forms w) (hv : ProtosAt 0 w (some ⟨cg, 0, none⟩) ps) (hcap : CapQ w cg ps ps.length) (hc : (checkF ps).1 = 0) :
    Calls Tryz.prog 31 #[.agg #[.slice (some ⟨cg, 0, none⟩) ps.length cap]] w fun e w' => ∃ g gs, e = .returned (.agg #[.slice (some ⟨g, 0, none⟩) ps.length ps.length, .int .i64 (cAll ps ps.length : Int)]) ∧ QOwn w' g gs (qAll ps) ∧ w.heap.size ≤ g ∧ Below w.heap.size w w' := by
  have hl : ps.length ≤ 1048576 := by have := hfi.bulk; unfold bulkPs at this; omega
  have C0 := (Blk.new w #[.slice (some ⟨cg, 0, none⟩) ps.length cap] 26).alloc (.cells #[.slice none 0 0, .int .i64 0] 102)
  have R0 := Blk.newIn (W := w.alloc (.cells #[.slice (some ⟨cg, 0, none⟩) ps.length cap] 26)) (n := w.heap.size + 1) #[.slice none 0 0, .int .i64 0] 102 (by simp)
  have B0 : Below w.heap.size w ((w.alloc (.cells #[.slice (some ⟨cg, 0, none⟩) ps.length cap] 26)).alloc (.cells #[.slice none 0 0, .int .i64 0] 102)) := ((Below.refl _ _).alloc (Nat.le_refl _) _).alloc (by simp) _
  obtain ⟨⟨f0, f1, f2⟩, hf⟩ : ∃ f, f = checkF ps := ⟨_, rfl⟩
  obtain rfl : f0 = 0 := by rw [← hf] at hc; exact hc
  have HCK : Hid (∀ W, Below w.heap.size w W → Calls Tryz.prog 113 #[.agg #[.slice (some ⟨cg, 0, none⟩) ps.length cap]] W fun e w' => e = .returned (.agg #[.int .i64 0, .int .i64 f1, .int .i64 f2]) ∧ Below W.heap.size W w') := fun W hb => by
    have := implCheckCode_any (some ⟨cg, 0, none⟩) cap ps W hfi (hF.later hb) (hv.later (Keeps.of_below hb)); rw [← hf] at this; exact this
  have HFI : Hid (Fine ps) := hfi
  have HCC : Hid ((checkF ps).1 = 0) := hc
  have HV : Hid (ProtosAt 0 w (some ⟨cg, 0, none⟩) ps) := hv
  have HCA : Hid (CapQ w cg ps ps.length) := hcap
  have hmk := run_make_k (P := Tryz.prog) 62 154 _ 1 24 Tryz.underlying62 Tryz.info_QProtoP .i64 .i64 ps.length (by omega) (by omega)
  clear hf hc hF hv hfi hcap
  have hfd := field_fault 0 f1 f2
  go_enter Tryz.func31, Tryz.ntmps31
  have c0 := C0.cell
  go_wp2_with fail
  refine (HCK.out _ B0).mono ?_
  rintro e w1 ⟨rfl, hw1⟩
  have B1 := B0.trans (hw1.mono B0.size)
  have C1 := C0.later hw1
  have R1 := R0.later hw1
  clear hw1 B0 C0 R0 c0 HCK
  have c1 := C1.cell
  go_wp2_with fail
  refine (patterns_any w1).mono ?_
  rintro e w2 ⟨g0, rfl, P2, hg0, hw2⟩
  have B2 := B1.trans (hw2.mono B1.size)
  have C2 := C1.later hw2
  have R2 := R1.later hw2
  clear hw2 B1 C1 R1 c1
  have c2 := C2.cell
  have c2a := fun o => (C2.alloc o).cell
  have c2b := fun o o' => ((C2.alloc o).alloc o').cell
  go_wp2_with fail
  have O0 := OutAt.start w2 ps #[.slice none 0 0]
  clear hmk
  go_loopw [23] (fun y wr => ∃ (k : Nat) (gs : Nat → Nat), k ≤ ps.length ∧ y = .int .i64 k ∧ Hid (OutAt w2 ps wr gs k)) (fun y _ => ps.length - (intOf y).toNat)
  case atStart => exact ⟨0, fun _ => 0, Nat.zero_le _, rfl, O0⟩
  case round =>
    obtain ⟨k, gs, hk, rfl, HO⟩ := hrel
    obtain ⟨wo, hwo⟩ : ∃ wo, wo = wr := ⟨_, rfl⟩
    subst hwo
    clear O0 c2 c2a c2b
    have c3 := (C2.later HO.out.b2).cell
    by_cases hlt : k < ps.length
    · obtain ⟨p, hp⟩ := some_of_lt hlt
      have HP : Hid (ps[k]? = some p) := hp
      have BR := B2.trans (HO.out.b2.mono B2.size)
      obtain ⟨b, off, e, _, hbl0, h, hnine, hpin⟩ := HV.out k p hp
      simp only [Option.some.injEq, Addr.mk.injEq, and_true] at e
      obtain ⟨rfl, rfl⟩ := e
      obtain ⟨n0, n1, n2, n3, n4, n5, n6, n7, n8⟩ := NineAt.later hnine BR hbl0
      simp only [Nat.zero_add] at n0 n1 n2 n3 n4 n5 n6 n7 n8
      have hic : p.ins.length ≤ h.ic := by
        obtain ⟨ao', ic', h1, h0⟩ := HCA.out k p hlt hp
        have h2 := (BR.cell (p := ⟨cg, k * 9 + 7, none⟩) hbl0).trans h1
        have h3 := Option.some.inj (n7.symm.trans h2)
        simp only [Value.slice.injEq] at h3
        rw [h3.2.2]; exact h0
      have hil : p.ins.length ≤ 1048576 := (HFI.out.few p (List.mem_of_getElem? hp)).ins
      have HPI : Hid (PIn 0 w h p) := hpin
      have hmk2 := run_make_k (P := Tryz.prog) 147 149 _ 7 56 Tryz.underlying147 Tryz.info_QInsP .i64 .i64 p.ins.length (by omega) (by omega)
      have I0 := InAt.start (p := p) HO.out (p.cells h) #[.int .i64 0, .int .i64 0, .int .i64 0, .int .i64 0, .int .i64 0, .int .i64 0, .int .i64 0]
      have HQG : Hid (∀ (i : Nat) n, p.ins[i]? = some n → QGood n (p.ins.drop (i + 1)) p.consts) := fun i n hi => qgood_of HFI.out HCC.out (List.mem_of_getElem? hp) hi
      have HCS : Hid (cAll ps (k + 1) = cIns p.consts p.ins (cAll ps k) p.ins.length) := cAll_step hp
      clear hp hpin hnine
      obtain ⟨nm, ln, pa, re, rg, us, cs, is, ms⟩ := p
      obtain ⟨uo, uc, co, cc, io, ic, no, nc⟩ := h
      dsimp only [Pd.cells] at *
      have hkl : (k : Int) < ps.length := by omega
      go_wp2_with fail
      clear hmk2 n0 n1 n2 n3 n4 n5 n6 n7 n8 c3
      go_loopw [34] (fun y wi => ∃ i : Nat, i ≤ is.length ∧ y = .int .i64 i ∧ Hid (InAt w2 wo ps #[.string nm, .int .i64 ln, .int .i64 pa, .bool re, .int .i64 rg, .slice uo us.length uc, .slice co cs.length cc, .slice io is.length ic, .slice no ms.length nc] k ⟨nm, ln, pa, re, rg, us, cs, is, ms⟩ wi (cIns cs is (cAll ps k) i) i)) (fun y _ => is.length - (intOf y).toNat)
      case atStart => exact ⟨0, Nat.zero_le _, rfl, I0⟩
      case round =>
        obtain ⟨i, hi, rfl, HI⟩ := hrel
        clear I0
        obtain ⟨wi, hwi⟩ : ∃ wi, wi = wr := ⟨_, rfl⟩
        subst hwi
        have HL : Hid (wo.heap.size + 1 < wi.heap.size) := HI.out.own.lt
        by_cases hil2 : i < is.length
        · obtain ⟨n, hn⟩ := some_of_lt hil2
          have BI := InAt.b2 HO.out HI.out
          have BWI := B2.trans (BI.mono B2.size)
          have hqg := HQG.out i n hn
          have hpd := drop_some hn
          have hpin := HPI.out
          obtain ⟨ib, iof, e, _, hibl, _⟩ := hpin.ins i n hn
          dsimp only at e
          subst e
          have hfew := hqg.few
          obtain ⟨q, hq⟩ : ∃ q, q = quickOne cs (cIns cs is (cAll ps k) i) (n :: is.drop (i + 1)) := ⟨_, rfl⟩
          have hqi : (qIns cs is (cAll ps k))[i]? = some q := by rw [qIns_at hil2, hpd, hq]
          have HCI : Hid (cIns cs is (cAll ps k) (i + 1) = if q.op = 45 then cIns cs is (cAll ps k) i + 1 else cIns cs is (cAll ps k) i) := by
            rw [cIns_step hn, hq]; rfl
          have HQC : Hid (∀ W, Below w2.heap.size w2 W → Calls Tryz.prog 115 #[.agg #[.slice (some ⟨ib, iof + i * 5, none⟩) (is.length - i) (ic - i), .slice co cs.length cc, .int .i64 ((cIns cs is (cAll ps k) i : Nat) : Int)], .slice (some ⟨g0, 0, none⟩) 5 5] W fun e w' => e = .returned q.val ∧ Below W.heap.size W w') := by
            intro W hb
            have := quicken_any (some ⟨ib, iof + i * 5, none⟩) co (ic - i) cc (cIns cs is (cAll ps k) i) g0 n (is.drop (i + 1)) cs W hqg (by rw [← hpd]; exact AllAt.dropAt (hpin.ins.later (Keeps.of_below (B2.trans (hb.mono B2.size)))) i) (hpin.consts.later (Keeps.of_below (B2.trans (hb.mono B2.size)))) (P2.later hb)
            rw [← hq, ← hpd, List.length_drop] at this
            exact this
          obtain ⟨q0, q1, q2, q3, q4, q5, q6⟩ := q
          dsimp only [Qd.val] at HQC HCI
          have HPT : Hid (∀ W c, InAt w2 wo ps #[.string nm, .int .i64 ln, .int .i64 pa, .bool re, .int .i64 rg, .slice uo us.length uc, .slice co cs.length cc, .slice (some ⟨ib, iof, none⟩) is.length ic, .slice no ms.length nc] k ⟨nm, ln, pa, re, rg, us, cs, is, ms⟩ W c i → InAt w2 wo ps #[.string nm, .int .i64 ln, .int .i64 pa, .bool re, .int .i64 rg, .slice uo us.length uc, .slice co cs.length cc, .slice (some ⟨ib, iof, none⟩) is.length ic, .slice no ms.length nc] k ⟨nm, ln, pa, re, rg, us, cs, is, ms⟩ (W.setCells (wo.heap.size + 1) (i * 7) (Qd.vals ⟨q0, q1, q2, q3, q4, q5, q6⟩)) c (i + 1)) := fun W c h => InAt.put (q := ⟨q0, q1, q2, q3, q4, q5, q6⟩) HO.out h hqi
          have HCT : Hid (∀ W c c', InAt w2 wo ps #[.string nm, .int .i64 ln, .int .i64 pa, .bool re, .int .i64 rg, .slice uo us.length uc, .slice co cs.length cc, .slice (some ⟨ib, iof, none⟩) is.length ic, .slice no ms.length nc] k ⟨nm, ln, pa, re, rg, us, cs, is, ms⟩ W c (i + 1) → InAt w2 wo ps #[.string nm, .int .i64 ln, .int .i64 pa, .bool re, .int .i64 rg, .slice uo us.length uc, .slice co cs.length cc, .slice (some ⟨ib, iof, none⟩) is.length ic, .slice no ms.length nc] k ⟨nm, ln, pa, re, rg, us, cs, is, ms⟩ (W.setCell ⟨w2.heap.size + 1, 1, none⟩ (.int .i64 ((c' : Nat) : Int))) c' (i + 1)) := fun W c c' h => InAt.count HO.out h c'
          have HI1 : Hid (InAt w2 wo ps #[.string nm, .int .i64 ln, .int .i64 pa, .bool re, .int .i64 rg, .slice uo us.length uc, .slice co cs.length cc, .slice (some ⟨ib, iof, none⟩) is.length ic, .slice no ms.length nc] k ⟨nm, ln, pa, re, rg, us, cs, is, ms⟩ wi.drew (cIns cs is (cAll ps k) i) i) := InAt.later HI.out (Below.refl _ _).drew
          have hcl := cIns_few HFI.out (cs := cs) (is := is) hl hlt hil2 hil
          have e1 := HI1.out.pr.cell
          have e2 := HI1.out.hq.cell
          have hL := InAt.lt HO.out
          have hn1 : wo.heap.size ≠ wo.heap.size + 1 := Nat.ne_of_lt (Nat.lt_succ_self _)
          have hn2 : w2.heap.size + 1 ≠ wo.heap.size + 1 := Nat.ne_of_lt (Nat.lt_succ_of_lt hL)
          have k1 : (i : Int) < is.length := Int.ofNat_lt.2 hil2
          have k2 : ¬ is.length = i := Nat.ne_of_gt hil2
          have k3 : (i : Int) ≤ is.length := Int.ofNat_le.2 hi
          have k4 : (is.length : Int) ≤ ic := Int.ofNat_le.2 hic
          have k6 : ¬ ic = i := by omega
          have k5 : (i : Int) ≤ ic := Int.le_trans k3 k4
          have BI1 : Below w2.heap.size w2 wi.drew := BI.drew
          have HQI : Hid ((qIns cs is (cAll ps k))[i]? = some ⟨q0, q1, q2, q3, q4, q5, q6⟩) := hqi
          have hi1 : i + 1 ≤ is.length := hil2
          clear hqi hq hpd hn hqg hfew hpin hil2 HI BI
          generalize cIns cs is (cAll ps k) i = C at *
          obtain ⟨C', hC'⟩ : ∃ C', cIns cs is (cAll ps k) (i + 1) = C' := ⟨_, rfl⟩
          rw [hC'] at HCI
          have HCE : Hid (cIns cs is (cAll ps k) (i + 1) = C') := hC'
          clear hC'
          go_wp2_with fail
          go_region_held3 (fun W => (∀ o, W.cell? ⟨wo.heap.size, o, none⟩ = (#[.string nm, .int .i64 ln, .int .i64 pa, .bool re, .int .i64 rg, .slice uo us.length uc, .slice co cs.length cc, .slice (some ⟨ib, iof, none⟩) is.length ic, .slice no ms.length nc] : Array Value)[o]?) ∧ (∀ o, W.cell? ⟨w2.heap.size + 1, o, none⟩ = (#[.slice (some ⟨w2.heap.size, 0, none⟩) ps.length ps.length, .int .i64 (C : Int)] : Array Value)[o]?)) (first | with_reducible exact ⟨e1, e2⟩ | with_reducible exact ⟨d1, d2⟩ | with_reducible exact ⟨CellsAre.sets7 d1 hn1 _ _ _ _ _ _ _ _ _ _ _ _ _ _, CellsAre.sets7 d2 hn2 _ _ _ _ _ _ _ _ _ _ _ _ _ _⟩)
            (first | (go_at_call 115; refine (HQC.out _ BI1).mono ?_; rintro e w1 ⟨rfl, hw1⟩; have I1 := InAt.later HI1.out hw1; have d1 := I1.pr.cell; have d2 := I1.hq.cell; obtain ⟨v0, c0⟩ := I1.own.cell (i := i * 7) (by show i * 7 < is.length * 7; omega); obtain ⟨v1, c1⟩ := I1.own.cell (i := i * 7 + 1) (by show i * 7 + 1 < is.length * 7; omega); obtain ⟨v2, c2⟩ := I1.own.cell (i := i * 7 + 2) (by show i * 7 + 2 < is.length * 7; omega); obtain ⟨v3, c3⟩ := I1.own.cell (i := i * 7 + 3) (by show i * 7 + 3 < is.length * 7; omega); obtain ⟨v4, c4⟩ := I1.own.cell (i := i * 7 + 4) (by show i * 7 + 4 < is.length * 7; omega); obtain ⟨v5, c5⟩ := I1.own.cell (i := i * 7 + 5) (by show i * 7 + 5 < is.length * 7; omega); obtain ⟨v6, c6⟩ := I1.own.cell (i := i * 7 + 6) (by show i * 7 + 6 < is.length * 7; omega); have fz := I1.own.frozen))
          have I2 : InAt w2 wo ps #[.string nm, .int .i64 ln, .int .i64 pa, .bool re, .int .i64 rg, .slice uo us.length uc, .slice co cs.length cc, .slice (some ⟨ib, iof, none⟩) is.length ic, .slice no ms.length nc] k ⟨nm, ln, pa, re, rg, us, cs, is, ms⟩ (((((((w1.setCell ⟨wo.heap.size + 1, i * 7, none⟩ (.int .i64 q0)).setCell ⟨wo.heap.size + 1, i * 7 + 1, none⟩ (.int .i64 q1)).setCell ⟨wo.heap.size + 1, i * 7 + 2, none⟩ (.int .i64 q2)).setCell ⟨wo.heap.size + 1, i * 7 + 3, none⟩ (.int .i64 q3)).setCell ⟨wo.heap.size + 1, i * 7 + 4, none⟩ (.int .i64 q4)).setCell ⟨wo.heap.size + 1, i * 7 + 5, none⟩ (.int .i64 q5)).setCell ⟨wo.heap.size + 1, i * 7 + 6, none⟩ (.int .i64 q6)) C (i + 1) := HPT.out w1 C I1
          have hq1 : InAt w2 wo ps #[.string nm, .int .i64 ln, .int .i64 pa, .bool re, .int .i64 rg, .slice uo us.length uc, .slice co cs.length cc, .slice (some ⟨ib, iof, none⟩) is.length ic, .slice no ms.length nc] k ⟨nm, ln, pa, re, rg, us, cs, is, ms⟩ (((((((w1.setCell ⟨wo.heap.size + 1, i * 7, none⟩ (.int .i64 q0)).setCell ⟨wo.heap.size + 1, i * 7 + 1, none⟩ (.int .i64 q1)).setCell ⟨wo.heap.size + 1, i * 7 + 2, none⟩ (.int .i64 q2)).setCell ⟨wo.heap.size + 1, i * 7 + 3, none⟩ (.int .i64 q3)).setCell ⟨wo.heap.size + 1, i * 7 + 4, none⟩ (.int .i64 q4)).setCell ⟨wo.heap.size + 1, i * 7 + 5, none⟩ (.int .i64 q5)).setCell ⟨wo.heap.size + 1, i * 7 + 6, none⟩ (.int .i64 q6)) C (i + 1) → (((((((w1.setCell ⟨wo.heap.size + 1, i * 7, none⟩ (.int .i64 q0)).setCell ⟨wo.heap.size + 1, i * 7 + 1, none⟩ (.int .i64 q1)).setCell ⟨wo.heap.size + 1, i * 7 + 2, none⟩ (.int .i64 q2)).setCell ⟨wo.heap.size + 1, i * 7 + 3, none⟩ (.int .i64 q3)).setCell ⟨wo.heap.size + 1, i * 7 + 4, none⟩ (.int .i64 q4)).setCell ⟨wo.heap.size + 1, i * 7 + 5, none⟩ (.int .i64 q5)).setCell ⟨wo.heap.size + 1, i * 7 + 6, none⟩ (.int .i64 q6)).cell? ⟨wo.heap.size + 1, i * 7, none⟩ = some (.int .i64 q0) := fun h => h.laid i ⟨q0, q1, q2, q3, q4, q5, q6⟩ (Nat.lt_succ_self _) HQI.out 0 _ rfl
          have z0 := hq1 I2
          have z1 := I2.hq.cell
          have z2 := I2.hq.frozen
          have HI2 : Hid (InAt w2 wo ps #[.string nm, .int .i64 ln, .int .i64 pa, .bool re, .int .i64 rg, .slice uo us.length uc, .slice co cs.length cc, .slice (some ⟨ib, iof, none⟩) is.length ic, .slice no ms.length nc] k ⟨nm, ln, pa, re, rg, us, cs, is, ms⟩ (((((((w1.setCell ⟨wo.heap.size + 1, i * 7, none⟩ (.int .i64 q0)).setCell ⟨wo.heap.size + 1, i * 7 + 1, none⟩ (.int .i64 q1)).setCell ⟨wo.heap.size + 1, i * 7 + 2, none⟩ (.int .i64 q2)).setCell ⟨wo.heap.size + 1, i * 7 + 3, none⟩ (.int .i64 q3)).setCell ⟨wo.heap.size + 1, i * 7 + 4, none⟩ (.int .i64 q4)).setCell ⟨wo.heap.size + 1, i * 7 + 5, none⟩ (.int .i64 q5)).setCell ⟨wo.heap.size + 1, i * 7 + 6, none⟩ (.int .i64 q6)) C (i + 1)) := I2
          clear hq1 I2 I1 d1 d2 c0 c1 c2 c3 c4 c5 c6 fz e1 e2 hw1
          by_cases h45 : q0 = 45
          · have g45 : (q0 == 45) = true := by simpa using h45
            have hcc : C' = C + 1 := HCI.out.trans (if_pos h45)
            have HI3 : Hid (InAt w2 wo ps #[.string nm, .int .i64 ln, .int .i64 pa, .bool re, .int .i64 rg, .slice uo us.length uc, .slice co cs.length cc, .slice (some ⟨ib, iof, none⟩) is.length ic, .slice no ms.length nc] k ⟨nm, ln, pa, re, rg, us, cs, is, ms⟩ ((((((((w1.setCell ⟨wo.heap.size + 1, i * 7, none⟩ (.int .i64 q0)).setCell ⟨wo.heap.size + 1, i * 7 + 1, none⟩ (.int .i64 q1)).setCell ⟨wo.heap.size + 1, i * 7 + 2, none⟩ (.int .i64 q2)).setCell ⟨wo.heap.size + 1, i * 7 + 3, none⟩ (.int .i64 q3)).setCell ⟨wo.heap.size + 1, i * 7 + 4, none⟩ (.int .i64 q4)).setCell ⟨wo.heap.size + 1, i * 7 + 5, none⟩ (.int .i64 q5)).setCell ⟨wo.heap.size + 1, i * 7 + 6, none⟩ (.int .i64 q6)).setCell ⟨w2.heap.size + 1, 1, none⟩ (.int .i64 ((C : Int) + 1))) C' (i + 1)) := by
              have := HCT.out (((((((w1.setCell ⟨wo.heap.size + 1, i * 7, none⟩ (.int .i64 q0)).setCell ⟨wo.heap.size + 1, i * 7 + 1, none⟩ (.int .i64 q1)).setCell ⟨wo.heap.size + 1, i * 7 + 2, none⟩ (.int .i64 q2)).setCell ⟨wo.heap.size + 1, i * 7 + 3, none⟩ (.int .i64 q3)).setCell ⟨wo.heap.size + 1, i * 7 + 4, none⟩ (.int .i64 q4)).setCell ⟨wo.heap.size + 1, i * 7 + 5, none⟩ (.int .i64 q5)).setCell ⟨wo.heap.size + 1, i * 7 + 6, none⟩ (.int .i64 q6)) C C' HI2.out
              rw [show ((C' : Nat) : Int) = (C : Int) + 1 by rw [hcc]; rfl] at this
              exact this
            clear hcc h45
            go_wp2_with fail
            go_roundw
            case rel => exact ⟨i + 1, hi1, by go_num, by rw [HCE.out]; exact HI3.out⟩
            case measure => simp [intOf]; omega
          · have g45 : (q0 == 45) = false := by simpa using h45
            have hcc : C' = C := HCI.out.trans (if_neg h45)
            have HI3 : Hid (InAt w2 wo ps #[.string nm, .int .i64 ln, .int .i64 pa, .bool re, .int .i64 rg, .slice uo us.length uc, .slice co cs.length cc, .slice (some ⟨ib, iof, none⟩) is.length ic, .slice no ms.length nc] k ⟨nm, ln, pa, re, rg, us, cs, is, ms⟩ (((((((w1.setCell ⟨wo.heap.size + 1, i * 7, none⟩ (.int .i64 q0)).setCell ⟨wo.heap.size + 1, i * 7 + 1, none⟩ (.int .i64 q1)).setCell ⟨wo.heap.size + 1, i * 7 + 2, none⟩ (.int .i64 q2)).setCell ⟨wo.heap.size + 1, i * 7 + 3, none⟩ (.int .i64 q3)).setCell ⟨wo.heap.size + 1, i * 7 + 4, none⟩ (.int .i64 q4)).setCell ⟨wo.heap.size + 1, i * 7 + 5, none⟩ (.int .i64 q5)).setCell ⟨wo.heap.size + 1, i * 7 + 6, none⟩ (.int .i64 q6)) C' (i + 1)) := hcc ▸ HI2.out
            clear hcc h45
            go_wp2_with fail
            go_roundw
            case rel => exact ⟨i + 1, hi1, by go_num, by rw [HCE.out]; exact HI3.out⟩
            case measure => simp [intOf]; omega
        · obtain rfl : i = is.length := Nat.le_antisymm hi (Nat.le_of_not_lt hil2)
          have HI1 : Hid (InAt w2 wo ps #[.string nm, .int .i64 ln, .int .i64 pa, .bool re, .int .i64 rg, .slice uo us.length uc, .slice co cs.length cc, .slice io is.length ic, .slice no ms.length nc] k ⟨nm, ln, pa, re, rg, us, cs, is, ms⟩ wi (cAll ps (k + 1)) is.length) := HCS.out ▸ HI.out
          have hG : Own wi w2.heap.size 154 ps.length := HO.out.own.of_block (HI1.out.only.block _ (Nat.ne_of_lt (Nat.lt_succ_self _)) HO.out.own.lt)
          obtain ⟨v0, c0⟩ := hG.cell (i := k) hlt
          have f0 := hG.frozen k
          have z1 := HI1.out.hq.cell
          have HO2 : Hid (OutAt w2 ps (wi.setCell ⟨w2.heap.size, k, none⟩ (.slice (some ⟨wo.heap.size + 1, 0, none⟩) is.length is.length)) (fun j => if j = k then wo.heap.size + 1 else gs j) (k + 1)) := OutAt.more (p := ⟨nm, ln, pa, re, rg, us, cs, is, ms⟩) HO.out HP.out HI1.out
          have hk1 : k + 1 ≤ ps.length := hlt
          clear hG HI1 HI hil2 HL
          go_wp2_with fail
          go_roundw
          case rel => exact ⟨k + 1, _, hk1, by go_num, HO2.out⟩
          case measure => simp [intOf]; omega
    · obtain rfl : k = ps.length := Nat.le_antisymm hk (Nat.le_of_not_lt hlt)
      have z1 := HO.out.hq.cell
      have r1 := (R2.later HO.out.b2).cell
      have rf1 := (R2.later HO.out.b2).frozen
      have BR := B2.trans (HO.out.b2.mono B2.size)
      have HD := HO.out.done
      have hgl : w.heap.size + 1 < w2.heap.size := R2.lt
      go_wp2_with fail
      refine bodyPost_ret (v := .agg #[.slice (some ⟨w2.heap.size, 0, none⟩) ps.length ps.length, .int .i64 (cAll ps ps.length : Int)]) ?_ rfl ⟨w2.heap.size, gs, rfl, ?_, by omega, ?_⟩
      · simp [results, Tryz.results31, go_sem, r1]
      · refine HD.later ?_
        iterate 2 (refine Keeps.setCell ?_ (by show w.heap.size + 1 < w2.heap.size; exact hgl) _)
        exact Keeps.refl _ _
      · iterate 2 (refine Below.setCell ?_ (by show w.heap.size ≤ w.heap.size + 1; omega) _)
        exact BR
abbrev vdI (x : Int) : Vd := ⟨2, x, 0, ByteArray.empty, 0⟩
abbrev I5.nd (x : I5) : Nd := ⟨x.o, x.a, x.b, x.c, x.d⟩
/-- The code that MadeTables makes, as a proto. -/
abbrev pdK (ks : List Int) (kx : Nat) : Pd := ⟨⟨#[109, 97, 105, 110]⟩, 0, 0, false, 6, [], ks.map vdI, (mIns kx).map I5.nd, []⟩
theorem shape1 : (shapeF [pdK [1] 0]).1 = 0 := by kernel_rfl
theorem shape2 (n : Int) : (shapeF [pdK [1, n] 1]).1 = 0 := by kernel_rfl
def isOkE {α β : Type} : Except α β → Bool
  | .ok _ => true
  | .error _ => false
theorem walk1 : isOkE (walkF [pdK [1] 0] (pdK [1] 0) 24 (startC (pdK [1] 0))) = true := by kernel_rfl
theorem walk2 (n : Int) : isOkE (walkF [pdK [1, n] 1] (pdK [1, n] 1) 24 (startC (pdK [1, n] 1))) = true := by kernel_rfl
def rkT : List Nat := [6, 5, 4, 3, 2, 0, 5, 4, 3, 1, 0]
theorem sil_rk {ks : List Int} {kx a b : Nat} (h : Sil (pdK ks kx).ins a b) : rkT.getD b 0 < rkT.getD a 0 := by
  obtain ⟨n, h1, h2⟩ := h
  have hl : a < 11 := (List.getElem?_eq_some_iff.1 h1).1
  rcases (by omega : a = 0 ∨ a = 1 ∨ a = 2 ∨ a = 3 ∨ a = 4 ∨ a = 5 ∨ a = 6 ∨ a = 7 ∨ a = 8 ∨ a = 9 ∨ a = 10) with rfl | rfl | rfl | rfl | rfl | rfl | rfl | rfl | rfl | rfl | rfl <;> (obtain rfl := (Option.some.inj h1).symm; simp [silL] at h2 <;> first | (rcases h2 with rfl | rfl <;> decide) | (subst h2; decide))
theorem qall1 : qAll [pdK [1] 0] = [(mIns 0).map fun x => ⟨x.o, x.a, x.b, x.c, x.d, 0, 0⟩] := by kernel_rfl
theorem qall2 (n : Int) : qAll [pdK [1, n] 1] = [(mIns 1).map fun x => ⟨x.o, x.a, x.b, x.c, x.d, 0, 0⟩] := by kernel_rfl
theorem call1 : cAll [pdK [1] 0] 1 = 0 := by kernel_rfl
theorem call2 (n : Int) : cAll [pdK [1, n] 1] 1 = 0 := by kernel_rfl
theorem check_of {ks : List Int} {kx : Nat} (hs : (shapeF [pdK ks kx]).1 = 0) (hw : isOkE (walkF [pdK ks kx] (pdK ks kx) 24 (startC (pdK ks kx))) = true) : (checkF [pdK ks kx]).1 = 0 := by
  have hv : verF [pdK ks kx] (pdK ks kx) 0 = (0, 0, 0) := by
    cases hc : walkF [pdK ks kx] (pdK ks kx) 24 (startC (pdK ks kx)) with
    | error e => rw [hc] at hw; cases hw
    | ok c =>
      have hp : ∀ {a b : Nat}, Pth (c.E (pdK ks kx)) a b → rkT.getD b 0 ≤ rkT.getD a 0 := fun {a b} h => by
        induction h with
        | refl => exact Nat.le_refl _
        | step h _ ih => exact Nat.le_trans ih (Nat.le_of_lt (sil_rk h.2))
      exact verF_none hc ⟨.inl rfl, fun i _ ⟨b, h1, h2⟩ => absurd (sil_rk h1.2) (by have := hp h2; omega)⟩
  unfold checkF
  rw [if_pos hs]
  show (if (verF [pdK ks kx] (pdK ks kx) 0).1 = 0 then verL [pdK ks kx] 1 [] else _).1 = 0
  rw [hv]
  rfl
/-- What is asked of a code of this kind. -/
structure KOk (n : Int) : Prop where
  c : (checkF [pdK (kAdd n) (kIx n)]).1 = 0
  q : qAll [pdK (kAdd n) (kIx n)] = [(mIns (kIx n)).map fun x => ⟨x.o, x.a, x.b, x.c, x.d, 0, 0⟩]
  a : cAll [pdK (kAdd n) (kIx n)] 1 = 0
theorem kOk (n : Int) : KOk n := by
  by_cases h : n = 1
  · have e1 : kAdd n = [1] := if_pos h
    have e2 : kIx n = 0 := if_pos h
    exact ⟨by rw [e1, e2]; exact check_of shape1 walk1, by rw [e1, e2]; exact qall1, by rw [e1, e2]; exact call1⟩
  · have e1 : kAdd n = [1, n] := if_neg h
    have e2 : kIx n = 1 := if_neg h
    exact ⟨by rw [e1, e2]; exact check_of (shape2 n) (walk2 n), by rw [e1, e2]; exact qall2 n, by rw [e1, e2]; exact call2 n⟩
theorem kFine (n : Int) : Fine [pdK (kAdd n) (kIx n)] := by
  have hk : kIx n ≤ 1 := by unfold kIx; split <;> omega
  have hl := kLen n
  refine ⟨?_, ?_, ?_, ?_⟩
  · by_cases h : n = 1
    · rw [show kAdd n = [1] from if_pos h, show kIx n = 0 from if_pos h]; decide
    · rw [show kAdd n = [1, n] from if_neg h, show kIx n = 1 from if_neg h]; exact Nat.le_of_ble_eq_true (by kernel_rfl)
  · intro p hp; simp at hp; subst hp; exact ⟨by simp, by simp; omega, by simp, by simp⟩
  · intro p hp u hu; simp at hp; subst hp; simp at hu; obtain ⟨x, _, rfl⟩ := hu; exact (by decide : (0 : Nat) < 18446744073709551616)
  · intro p hp u hu; simp at hp; subst hp; simp at hu; rcases hu with rfl | rfl | rfl | rfl | rfl | rfl | rfl | rfl | rfl | rfl | rfl <;> constructor <;> simp [I64] <;> omega
/-- The code that MadeTables made, where it lies. -/
def MdAt (w : World) (n : Int) (g : Nat) : Prop := ∃ b kv qv, Blk w g (pr6 ⟨#[109, 97, 105, 110]⟩ 0 6 (.slice none 0 0) kv qv (.slice none 0 0)) 54 ∧ w.ownsRow b 44 5 kv (kAdd n).length (kvs (kAdd n)) ∧ w.ownsRow b 48 5 qv 11 (ivs (mIns (kIx n)))
theorem MdAt.later {w w' : World} {n : Int} {g : Nat} (h : MdAt w n g) (hb : Below w.heap.size w w') : MdAt w' n g :=
  let ⟨b, kv, qv, h1, h2, h3⟩ := h
  ⟨b, kv, qv, h1.later hb, owns_below h2 hb, owns_below h3 hb⟩
theorem iv_at {ns : List I5} {k : Nat} {y : I5} (h : ns[k]? = some y) : ∀ j, j < 5 → (ivs ns)[k * 5 + j]? = y.vals[j]? := by
  induction ns generalizing k with
  | nil => simp at h
  | cons a t ih =>
    intro j hj
    cases k with
    | zero => simp at h; subst h; rw [Nat.zero_mul, Nat.zero_add]; match j, hj with | 0, _ => rfl | 1, _ => rfl | 2, _ => rfl | 3, _ => rfl | 4, _ => rfl
    | succ k =>
      rw [show (k + 1) * 5 + j = k * 5 + j + 1 + 1 + 1 + 1 + 1 by omega]
      exact ih (k := k) (by simpa using h) j hj
theorem md_protos {w : World} {n : Int} {g : Nat} (h : MdAt w n g) : ProtosAt 0 w (some ⟨g, 0, none⟩) [pdK (kAdd n) (kIx n)] ∧ CapQ w g [pdK (kAdd n) (kIx n)] 1 := by
  obtain ⟨b, kv, qv, hB, hK, hR⟩ := h
  have x := hB.cell
  rcases owns_form hK with ⟨_, h⟩ | ⟨gk, sk, rfl, hk⟩
  · have := congrArg List.length (rfl : kAdd n = kAdd n); unfold kAdd at h; split at h <;> simp at h
  rcases owns_form hR with ⟨_, h⟩ | ⟨gr, sr, rfl, hr⟩
  · omega
  have hs : 11 ≤ sr := by rcases hR.2 with ⟨h', _⟩ | ⟨g', cap', cur, h', _, _, hnc, _⟩ <;> simp at h'; omega
  refine ⟨fun i p hp => ?_, fun j p hj hp => ?_⟩
  · cases i with
    | succ i => simp at hp
    | zero =>
      obtain rfl := Option.some.inj hp
      refine ⟨g, 0, rfl, Nat.zero_le _, hB.lt, ⟨none, 0, some ⟨gk, 0, none⟩, sk, some ⟨gr, 0, none⟩, sr, none, 0⟩, ⟨x 0, x 1, x 2, x 3, x 4, x 5, ?_, x 7, x 8⟩, ⟨fun i u hu => by simp at hu, fun i u hu => ?_, fun i u hu => ?_, fun i u hu => by simp at hu⟩⟩
      · have := x 6; simpa using this
      · rw [List.getElem?_map] at hu
        obtain ⟨y, hy, rfl⟩ := Option.map_eq_some_iff.1 hu
        obtain ⟨h0, h1, h2, h3, h4⟩ := kv_at hy
        exact ⟨gk, 0, rfl, Nat.zero_le _, (hK.lt gk rfl).2, by rw [Nat.zero_add]; exact owns_cell hK h0, by rw [Nat.zero_add]; exact owns_cell hK h1, by rw [Nat.zero_add]; exact owns_cell hK h2, by rw [Nat.zero_add]; exact owns_cell hK h3, by rw [Nat.zero_add]; exact owns_cell hK h4⟩
      · rw [List.getElem?_map] at hu
        obtain ⟨y, hy, rfl⟩ := Option.map_eq_some_iff.1 hu
        have z := iv_at hy
        exact ⟨gr, 0, rfl, Nat.zero_le _, (hR.lt gr rfl).2, by rw [Nat.zero_add]; exact owns_cell hR (z 0 (by decide)), by rw [Nat.zero_add]; exact owns_cell hR (z 1 (by decide)), by rw [Nat.zero_add]; exact owns_cell hR (z 2 (by decide)), by rw [Nat.zero_add]; exact owns_cell hR (z 3 (by decide)), by rw [Nat.zero_add]; exact owns_cell hR (z 4 (by decide))⟩
  · obtain rfl : j = 0 := by omega
    obtain rfl := Option.some.inj hp
    exact ⟨some ⟨gr, 0, none⟩, sr, x 7, by simpa using hs⟩
theorem prepMade (n : Int) (g : Nat) (w : World) (h : MdAt w n g) (hF : Forms w) : Calls Tryz.prog 31 #[.agg #[.slice (some ⟨g, 0, none⟩) 1 1]] w fun e w' => ∃ g q : Nat, e = .returned (.agg #[.slice (some ⟨g, 0, none⟩) 1 1, .int .i64 q]) ∧ q = 0 ∧ QkAt (kIx n) w' g ∧ Below w.heap.size w w' := by
  have K := kOk n
  refine (implPrepareC_any g 1 [pdK (kAdd n) (kIx n)] w (kFine n) hF (md_protos h).1 (md_protos h).2 K.c).mono ?_
  rintro e w' ⟨g', gs, rfl, hq, hg, hb⟩
  rw [K.q] at hq
  obtain ⟨A, hA, hA1⟩ := hq.own
  obtain ⟨⟨A2, hA2, _⟩, hL⟩ := hq.row 0 _ rfl
  have h0 := hq.hdr 0 _ rfl
  refine ⟨g', cAll [pdK (kAdd n) (kIx n)] 1, rfl, K.a, ⟨gs 0, 11, A, A2, hA, ?_, hA2, fun a ha j hj => ?_⟩, hb⟩
  · have : w'.cell? ⟨g', 0, none⟩ = A[0]? := Blk.cell (t := 154) hA 0
    rw [← this]; exact h0
  · have e : w'.cell? ⟨gs 0, a * 7 + j, none⟩ = A2[a * 7 + j]? := Blk.cell (t := 149) hA2 (a * 7 + j)
    rw [← e]
    have hh : ∀ y i, ((mIns (kIx n)).map fun x => (⟨x.o, x.a, x.b, x.c, x.d, 0, 0⟩ : Qd))[a]? = some y → i < 7 → w'.cell? ⟨gs 0, a * 7 + i, none⟩ = (Qd.vals y)[i]? := fun y i hy hi => by
      rw [List.getElem?_eq_getElem (by simpa [Qd.vals] using hi)]
      exact hL a y (by simpa using ha) hy i _ (List.getElem?_eq_getElem (by simpa [Qd.vals] using hi))
    rcases (by omega : a = 0 ∨ a = 1 ∨ a = 2 ∨ a = 3 ∨ a = 4 ∨ a = 5 ∨ a = 6 ∨ a = 7 ∨ a = 8 ∨ a = 9 ∨ a = 10) with rfl | rfl | rfl | rfl | rfl | rfl | rfl | rfl | rfl | rfl | rfl <;> exact (hh _ j rfl hj).trans (List.getElem?_toArray (xs := [_, _, _, _, _, _, _])).symm
attribute [local go_sem] run_store_float vi
theorem textsFit0 (w : World) : Calls Tryz.prog 112 #[.slice none 0 0] w fun e w' => e = .returned (.bool true) ∧ Below w.heap.size w w' := by
  go_enter Tryz.func112, Tryz.ntmps112
  go_wp2_with fail
  refine wp_loop_rounds 1 ?_
  rw [rounds_succ]
  go_wp2_with fail
  go_ret
  exact ⟨rfl, Below.refl _ _⟩
theorem withinK (x a b : Int) (w : World) (h1 : a ≤ x) (h2 : x ≤ b) : Calls Tryz.prog 29 #[.int .i64 x, .int .i64 a, .int .i64 b] w fun e w' => e = .returned (.bool true) ∧ Below w.heap.size w w' := by
  go_enter Tryz.func29, Tryz.ntmps29
  go_wp2_with fail
  go_ret
  exact ⟨rfl, Below.refl _ _⟩
set_option maxHeartbeats 4000000 in
theorem inputOk0 (w : World) : Calls Tryz.prog 30 #[.agg in0] w fun e w' => e = .returned (.bool true) ∧ Below w.heap.size w w' := by
  have X := Blk.new w in0 30
  have B0 : Below w.heap.size w (w.alloc (.cells in0 30)) := (Below.refl _ _).alloc (Nat.le_refl _) _
  have x := X.cell
  go_enter Tryz.func30, Tryz.ntmps30
  go_wp2_with fail
  refine (textsFit0 _).mono ?_
  rintro e w1 ⟨rfl, B1⟩
  have X1 := X.later B1
  have x1 := X1.cell
  clear x X
  go_wp2_with fail
  refine (textsFit0 _).mono ?_
  rintro e w2 ⟨rfl, B2⟩
  have X2 := X1.later B2
  have x2 := X2.cell
  clear x1 X1
  go_wp2_with fail
  refine (withinK 1000 0 5000 _ (by decide) (by decide)).mono ?_
  rintro e w3 ⟨rfl, B3⟩
  have X3 := X2.later B3
  have x3 := X3.cell
  clear x2 X2
  go_wp2_with fail
  refine (withinK 1 1 60 _ (by decide) (by decide)).mono ?_
  rintro e w4 ⟨rfl, B4⟩
  have X4 := X3.later B4
  have x4 := X4.cell
  clear x3 X3
  go_wp2_with fail
  refine (withinK 1000 0 20000 _ (by decide) (by decide)).mono ?_
  rintro e w5 ⟨rfl, B5⟩
  clear x4 X4
  go_wp2_with fail
  go_ret
  exact ⟨rfl, bl2 (bl2 (bl2 (bl2 (bl2 B0 B1) B2) B3) B4) B5⟩
/-- A loom that is made of the code stands ahead of its first instruction. -/
theorem newMade (n pc : Int) (g : Nat) (w : World) (hn1 : 1 ≤ n) (hn : n ≤ 300) (hp0 : 0 ≤ pc) (hp1 : pc ≤ 1000) (h : MdAt w n g) (hF : Forms w) : NewOk (kIx n) n pc #[.slice (some ⟨g, 0, none⟩) 1 1] in0 w := by
  obtain ⟨b, kv, qv, hB, hK, hR⟩ := h
  obtain ⟨i0, i2, rfl⟩ := owns_slice hR
  have hk1 : kIx n ≤ 1 := by unfold kIx; split <;> omega
  have hk2 : kIx n < (kAdd n).length := by unfold kIx kAdd; split <;> simp
  rcases hK.2 with ⟨_, h'⟩ | ⟨ck, kc, cur, rfl, _, hc, _, _, _, htake⟩
  · omega
  have hcur : ∀ j, j < (kAdd n).length * 5 → cur[j]? = (kvs (kAdd n))[j]? := fun j hj => by
    rw [← htake, List.getElem?_take_of_lt hj, Array.getElem?_toList]
  refine newOk (kIx n) g ck 1 (kAdd n).length kc n pc ⟨#[109, 97, 105, 110]⟩ 0 none i0 none 0 0 11 i2 0 0 cur w hk1 hk2 hn1 hn hp0 hp1 hB hc ⟨fun j hj => ?_, fun j hj => ?_⟩ (fun W _ => inputOk0 W) (fun W hW => prepMade n g W (MdAt.later ⟨b, _, _, hB, hK, hR⟩ hW) (hF.later hW))
  · rw [hcur j (by omega)]
    by_cases h : n = 1
    · rw [show kAdd n = [1] from if_pos h]; match j, hj with | 0, _ => rfl | 1, _ => rfl | 2, _ => rfl | 3, _ => rfl | 4, _ => rfl
    · rw [show kAdd n = [1, n] from if_neg h]; match j, hj with | 0, _ => rfl | 1, _ => rfl | 2, _ => rfl | 3, _ => rfl | 4, _ => rfl
  · rw [hcur (kIx n * 5 + j) (by omega)]
    by_cases h : n = 1
    · rw [show kAdd n = [1] from if_pos h, show kIx n = 0 from if_pos h, h]; match j, hj with | 0, _ => rfl | 1, _ => rfl | 2, _ => rfl | 3, _ => rfl | 4, _ => rfl
    · rw [show kAdd n = [1, n] from if_neg h, show kIx n = 1 from if_neg h]; match j, hj with | 0, _ => rfl | 1, _ => rfl | 2, _ => rfl | 3, _ => rfl | 4, _ => rfl
end Go.Proofs.YtgopdffmnikhdaaGreatDoor
namespace Go.Proofs.YtgopdffmnikhdaaGreatDoor
open Go.RowKit Go.Deep
attribute [local go_sem] run_store_float vi
theorem inI : ∃ (a1 : Option Addr) (n1 c1 : Nat) (a2 : Option Addr) (n2 c2 : Nat) (t1 d1 e1 : Int), in0 = #[.slice a1 n1 c1, .slice a2 n2 c2, .int .i64 t1, .int .i64 d1, .int .i64 e1] := ⟨none, 0, 0, none, 0, 0, 1000, 1, 1000, rfl⟩
set_option maxHeartbeats 8000000 in
set_option maxRecDepth 8000 in
/-- The law. -/
theorem tablesLaw_any (ao : Option Addr) (m cap : Nat) (w : World) (hF : Forms w) (H : BysAt w ao m) : Calls Tryz.prog 3 #[.slice ao m cap] w fun e w' => e = .returned (.bool true) ∧ Below w.heap.size w w' := by
  by_cases hm : (1048576 : Int) < m
  · go_enter Tryz.func3, Tryz.ntmps3
    go_wp2_with fail
    go_ret
    exact ⟨rfl, Below.refl _ _⟩
  have hm' : m ≤ 1048576 := by omega
  have HF : Hid (Forms w) := hF
  have HH : Hid (BysAt w ao m) := H
  clear hF H
  go_enter Tryz.func3, Tryz.ntmps3
  go_wp2_with fail
  refine (wByte_any ao m cap 0 w hm' (by omega) HH.out).mono ?_
  rintro e w' ⟨x, rfl, x0, x1, rfl⟩
  go_wp2_with fail
  refine (wByte_any ao m cap 1 w' hm' (by omega) HH.out).mono ?_
  rintro e w'' ⟨y, rfl, y0, y1, rfl⟩
  have e1 : IntKind.i64.wrap (256 * y) = 256 * y := wq (by omega) (by omega)
  have e2 : IntKind.i64.wrap (x + 256 * y) = x + 256 * y := wq (by omega) (by omega)
  obtain ⟨r, hr⟩ : ∃ r, (x + 256 * y).tmod 300 = r := ⟨_, rfl⟩
  have hr' := hr
  rw [Int.tmod_eq_emod_of_nonneg (by omega)] at hr'
  have r0 : 0 ≤ r := by omega
  have r1 : r < 300 := by omega
  have e3 : IntKind.i64.wrap r = r := wq (by omega) (by omega)
  have e4 : IntKind.i64.wrap (1 + r) = 1 + r := wq (by omega) (by omega)
  clear hr'
  go_wp2_with fail
  refine (wByte_any ao m cap 2 w'' hm' (by omega) HH.out).mono ?_
  rintro e w3 ⟨z, rfl, z0, z1, rfl⟩
  obtain ⟨s, hs⟩ : ∃ s, z.tmod 40 = s := ⟨_, rfl⟩
  have hs' := hs
  rw [Int.tmod_eq_emod_of_nonneg (by omega)] at hs'
  have s0 : 0 ≤ s := by omega
  have s1 : s < 40 := by omega
  have e5 : IntKind.i64.wrap s = s := wq (by omega) (by omega)
  have e6 : IntKind.i64.wrap (1 + s) = 1 + s := wq (by omega) (by omega)
  clear hs'
  go_wp2_with fail
  obtain ⟨n, hn⟩ : ∃ n, 1 + r = n := ⟨_, rfl⟩
  obtain ⟨p, hp⟩ : ∃ p, 1 + s = p := ⟨_, rfl⟩
  have n1 : 1 ≤ n := by omega
  have n2 : n ≤ 300 := by omega
  have p1 : 1 ≤ p := by omega
  have p2 : p ≤ 40 := by omega
  rw [hn, hp]
  clear e1 e2 e3 e4 e5 e6 hn hp r0 r1 s0 s1 hr hs
  refine (made_any n w3).mono ?_
  rintro e w4 ⟨g, b, kv, qv, rfl, hB, _, hK, hR, _, B4⟩
  have HM : Hid (MdAt w4 n g) := (show MdAt w4 n g from ⟨b, kv, qv, hB, hK, hR⟩)
  replace HF : Hid (Forms w4) := HF.out.later B4
  clear hB hK hR
  have A5 : Below w4.heap.size w4 ((w4.alloc (.cells #[.slice (some ⟨g, 0, none⟩) 1 1] 26)).alloc (.cells in0 30)) := bl2 ((Below.refl _ _).alloc (Nat.le_refl _) _) ((Below.refl _ _).alloc (Nat.le_refl _) _)
  have XC : Blk ((w4.alloc (.cells #[.slice (some ⟨g, 0, none⟩) 1 1] 26)).alloc (.cells in0 30)) w4.heap.size #[.slice (some ⟨g, 0, none⟩) 1 1] 26 := (Blk.new w4 _ _).alloc _
  have XI : Blk ((w4.alloc (.cells #[.slice (some ⟨g, 0, none⟩) 1 1] 26)).alloc (.cells in0 30)) (w4.heap.size + 1) in0 30 := Blk.newHere _ _ (by simp)
  obtain ⟨W5, hW5⟩ : ∃ W5, W5 = (w4.alloc (.cells #[.slice (some ⟨g, 0, none⟩) 1 1] 26)).alloc (.cells in0 30) := ⟨_, rfl⟩
  rw [← hW5] at A5 XC XI
  have xc := XC.cell
  have xi := XI.cell
  have M5 := HM.out.later A5
  have F5 := HF.out.later A5
  have HN5 : Hid (NewOk (kIx n) n p #[.slice (some ⟨g, 0, none⟩) 1 1] in0 W5) := newMade n p g W5 n1 n2 (by omega) (by omega) M5 F5
  go_wp2_with fail
  rw [← hW5]
  refine (runLoom_any (kIx n) n p (some ⟨g, 0, none⟩) 1 1 in0 W5 HN5 inI).mono ?_
  rintro e w6 ⟨rfl, B6⟩
  clear xc xi hW5
  obtain ⟨W7, hW7⟩ : ∃ W7, W7 = w6.alloc (.cells #[.int .i64 0, .slice none 0 0, .slice none 0 0, .string ByteArray.empty, .string ByteArray.empty, .int .i64 n, .int .i64 n] 33) := ⟨_, rfl⟩
  have A7 : Below W5.heap.size W5 W7 := hW7 ▸ bl2 B6 ((Below.refl _ _).alloc (Nat.le_refl _) _)
  have XC7 := XC.later A7
  have XI7 := XI.later A7
  have XR7 : Blk W7 w6.heap.size #[.int .i64 0, .slice none 0 0, .slice none 0 0, .string ByteArray.empty, .string ByteArray.empty, .int .i64 n, .int .i64 n] 33 := hW7 ▸ Blk.new w6 _ _
  have M7 := M5.later A7
  have F7 := F5.later A7
  have xc := fun o => ((XC.later B6).alloc o).cell
  have xi := fun o => ((XI.later B6).alloc o).cell
  have HN7 : Hid (NewOk (kIx n) n p #[.slice (some ⟨g, 0, none⟩) 1 1] in0 W7) := newMade n p g W7 n1 n2 (by omega) (by omega) M7 F7
  clear XC XI M5 F5
  go_wp2_with fail
  rw [← hW7]
  refine (peak_any (kIx n) n p (some ⟨g, 0, none⟩) 1 1 in0 W7 n1 HN7 inI).mono ?_
  rintro e w8 ⟨pk, rfl, _, hpk, B8⟩
  obtain ⟨pk1, pk2⟩ := hpk (by omega)
  clear xc xi hW7 hpk
  have XC8 := XC7.later B8
  have XI8 := XI7.later B8
  have XR8 := XR7.later B8
  have M8 := M7.later B8
  have F8 := F7.later B8
  have xc := XC8.cell
  have xi := XI8.cell
  have xr := XR8.cell
  have HN8 : Hid (NewOk (kIx n) n 0 #[.slice (some ⟨g, 0, none⟩) 1 1] in0 w8) := newMade n 0 g w8 n1 n2 (by omega) (by omega) M8 F8
  have q1 : (1 : Int) ≤ pk := by omega
  have ew : IntKind.i64.wrap (p + 1) = p + 1 := wq (by omega) (by omega)
  clear XC7 XI7 XR7 M7 F7
  go_wp2_with fail
  refine (peak_any (kIx n) n 0 (some ⟨g, 0, none⟩) 1 1 in0 w8 n1 HN8 inI).mono ?_
  rintro e w9 ⟨pq, rfl, hpq, _, B9⟩
  have hq : (pq : Int) = n := hpq rfl
  clear xc xi xr hpq
  have XC9 := XC8.later B9
  have XI9 := XI8.later B9
  have M9 := M8.later B9
  have F9 := F8.later B9
  have xc := XC9.cell
  have xi := XI9.cell
  have HN9 : Hid (NewOk (kIx n) n 0 #[.slice (some ⟨g, 0, none⟩) 1 1] in0 w9) := newMade n 0 g w9 n1 n2 (by omega) (by omega) M9 F9
  clear XC8 XI8 XR8 M8 F8
  go_wp2_with fail
  refine (most_any (kIx n) n (some ⟨g, 0, none⟩) 1 1 in0 w9 n1 HN9 inI).mono ?_
  rintro e w10 ⟨rfl, B10⟩
  clear xc xi XC9 XI9 M9 F9
  go_wp2_with fail
  go_ret
  exact ⟨rfl, bl2 (bl2 (bl2 (bl2 (bl2 B4 A5) A7) B8) B9) B10⟩
end Go.Proofs.YtgopdffmnikhdaaGreatDoor
