import Derived.Test.YtaakadmnhpboiaaGreatDoorK01
import Derived.Deep.RegionHeld3
import Derived.Test.YtaakadmnhpboiaaGreatDoorK02
import Derived.Maps.AppendAt
namespace Go.Proofs.YtaakadmnhpboiaaGreatDoor
open Go.RowKit Go.Deep
set_option maxRecDepth 100000 in
set_option maxHeartbeats 1000000 in
theorem l6drops_any (p:Pd) (h:Ph) (i:Nat) (n0:Nd) (w:World) (hz:p.ins.length≤1048576) (hp:InssAt 0 w h.io p.ins) (hi:p.ins[i]?=some n0) (hd:n0.op=42→0≤n0.a∧n0.a≤250) :
  Calls Tryz.prog 68 #[.agg (p.cells h),.int .i64 i] w fun e w'=>e=.returned (.int .i64 (dropsF n0.a 0 (p.ins.drop i):Int))∧Below w.heap.size w w':=by
 have HS:Hid (∀(k:Nat) n,p.ins[i+k]?=some n→dropsF n0.a k (p.ins.drop (i+k))=if n.op=42∧n.a=n0.a+k then dropsF n0.a (k+1) (p.ins.drop (i+(k+1)))+1 else 0):=fun k n hn=>dropsF_drop hn
 have hil:=(List.getElem?_eq_some_iff.1 hi).1
 have hb1:∀o,Below w.heap.size w (w.alloc o):=fun o=>(Below.refl _ _).alloc (Nat.le_refl _) o
 have X0:=Blk.new w (p.cells h) 57
 obtain⟨nm,ln,pa,re,rg,us,cs,is,ms⟩:=p
 obtain⟨uo,uc,co,cc,io,ic,no,nc⟩:=h
 dsimp only [Pd.cells] at *
 have HD:Hid (n0.op=42→0≤n0.a∧n0.a≤250):=hd
 clear hd
 go_enter Tryz.func68,Tryz.ntmps68
 go_wp2_with fail
 go_loopw [5] (fun y wr=>∃k:Nat,i+k≤is.length∧y=.int .i64 k∧Hid (dropsF n0.a k (is.drop (i+k))+k=dropsF n0.a 0 (is.drop i))∧(1≤k→n0.op=42)∧Below w.heap.size w wr∧Blk wr w.heap.size #[.string nm,.int .i64 ln,.int .i64 pa,.bool re,.int .i64 rg,.slice uo us.length uc,.slice co cs.length cc,.slice io is.length ic,.slice no ms.length nc] 57) (fun y _=>is.length - (intOf y).toNat)
 case atStart=>exact ⟨0,by omega,rfl,rfl,by omega,hb1 _,X0⟩
 case round=>
  obtain⟨k,hk,rfl,HQ,h42,hb,X1⟩:=hrel
  clear X0
  have x1:=X1.cell
  obtain⟨b,off,rfl,_,hbl,q0,q1,q2,q3,q4⟩:=hp.later (Keeps.of_below hb) i n0 hi
  by_cases hlt:i+k<is.length
  ·obtain⟨n,hn⟩:=some_of_lt hlt
   obtain⟨b',off',e',_,hbl',r0,r1,r2,r3,r4⟩:=hp.later (Keeps.of_below hb) (i+k) n hn
   simp only [Option.some.injEq,Addr.mk.injEq,and_true] at e'
   obtain⟨rfl,rfl⟩:=e'
   have HE:=HS.out k n hn
   have k0:(i:Int)+k<is.length:=by omega
   have k9:¬((i:Int)+k<0):=by omega
   have HN:Hid (n.op=42→0≤n0.a∧n0.a≤250):=by
    intro h
    by_cases hk0:k=0
    ·subst hk0
     have:=Option.some.inj (hi.symm.trans hn)
     subst this
     exact HD.out h
    ·exact HD.out (h42 (by omega))
   have H42:Hid (n.op=42→n0.op=42):=by
    intro h
    by_cases hk0:k=0
    ·subst hk0
     have:=Option.some.inj (hi.symm.trans hn)
     subst this
     exact h
    ·exact h42 (by omega)
   by_cases hop:n.op=42
   ·have h4:=H42.out hop
    obtain⟨hd1,hd2⟩:=HN.out hop
    have ho:(n.op == 42)=true:=by simp [hop]
    have HT:Hid (n.op=42):=hop
    clear hop h42 HN H42
    by_cases ha:n.a=n0.a+k
    ·have hae:(n.a == n0.a+(k:Int))=true:=by simp [ha]
     have HQ1:Hid (dropsF n0.a (k+1) (is.drop (i+(k+1)))+(k+1)=dropsF n0.a 0 (is.drop i)):=by
      have h1:=HQ.out
      rw [HE,if_pos ⟨HT.out,ha⟩] at h1
      show _=_
      omega
     clear ha HQ HE HS r2 r3 r4 q0 q2 q3 q4
     go_wp2_with fail
     go_quiet (fail)
     go_wp2_with fail
     go_roundw
     case rel=>exact ⟨k+1,by omega,by go_num,HQ1.out,fun _=>h4,below_drewN hb _,X1⟩
     case measure=>simp [intOf];omega
    ·have hae:(n.a == n0.a+(k:Int))=false:=by simpa using ha
     have HQ1:Hid ((k:Int)=dropsF n0.a 0 (is.drop i)):=by
      have h1:=HQ.out
      rw [HE,if_neg (fun h=>ha h.2)] at h1
      show _=_
      omega
     clear ha HQ HE HS r2 r3 r4 q0 q2 q3 q4
     go_wp2_with fail
     go_quiet (fail)
     go_wp2_with fail
     go_ret
     exact⟨ret_int HQ1.out,below_drewN hb _⟩
   ·have ho:(n.op == 42)=false:=by simpa using hop
    have HQ1:Hid ((k:Int)=dropsF n0.a 0 (is.drop i)):=by
     have h1:=HQ.out
     rw [HE,if_neg (fun h=>hop h.1)] at h1
     show _=_
     omega
    clear hop HQ HE HS HN H42 h42 r1 r2 r3 r4 q0 q1 q2 q3 q4
    go_wp2_with fail
    go_quiet (fail)
    go_wp2_with fail
    go_ret
    exact⟨ret_int HQ1.out,below_drewN hb _⟩
  ·have k0:decide ((i:Int)+k<is.length)=false:=by simp;omega
   have hki:i+k=is.length:=by omega
   have HQ1:Hid ((k:Int)=dropsF n0.a 0 (is.drop i)):=by
    have h1:=HQ.out
    rw [List.drop_of_length_le (by omega)] at h1
    simp only [dropsF] at h1
    show _=_
    omega
   clear HQ HS h42 q0 q1 q2 q3 q4 hlt hki
   go_wp2_with fail
   go_quiet (fail)
   go_wp2_with fail
   go_ret
   exact⟨ret_int HQ1.out,below_drewN hb _⟩
set_option maxRecDepth 100000 in
set_option maxHeartbeats 4000000 in
theorem l6prepare_any (ao:Option Addr) (cap:Nat) (ps:List Pd) (w:World) (hm:ps.length≤1048576) (hz:∀p ∈ ps,p.ins.length≤1048576) (hq:∀p ∈ ps,∀n ∈ p.ins,QFit p n) (hv:ProtosAt 0 w ao ps) :
  Calls Tryz.prog 27 #[.agg #[.slice ao ps.length cap]] w fun e w'=>∃ao' cap',e=.returned (.agg #[.slice ao' ps.length cap',.int .i64 (cAll ps ps.length:Int)])∧QpsAt w.heap.size w' ao' (qAll ps)∧Below w.heap.size w w':=by
 have P0:PrepAt w ps (((w.alloc (.cells #[.slice ao ps.length cap] 31)).alloc (.cells #[.slice none 0 0,.int .i64 0] 38)).alloc (.cells #[.slice none 0 0,.int .i64 0] 38)) 0 (.slice none 0 0) []:=by
  refine⟨(((Below.refl _ _).alloc (Nat.le_refl _) _).alloc (by simp) _).alloc (by simp;omega) _,by simp,?_,?_,World.ownsRow_nil _ _ _ _,fun i _ h=>absurd h (Nat.not_lt_zero _)⟩
  ·have:=(Blk.new (w.alloc (.cells #[.slice ao ps.length cap] 31)) #[.slice none 0 0,.int .i64 0] 38).alloc (.cells #[.slice none 0 0,.int .i64 0] 38)
   rwa [nblk_alloc] at this
  ·have:=Blk.new ((w.alloc (.cells #[.slice ao ps.length cap] 31)).alloc (.cells #[.slice none 0 0,.int .i64 0] 38)) #[.slice none 0 0,.int .i64 0] 38
   rw [nblk_alloc,nblk_alloc] at this
   exact this
 have HCL:Hid (∀k,k≤ps.length→cAll ps k≤1099511627776):=fun k hk=>Nat.le_trans (cAll_le hz k) (by omega)
 have HV:Hid (ProtosAt 0 w ao ps):=hv
 have HZ:Hid (∀p ∈ ps,p.ins.length≤1048576):=hz
 have HQF:Hid (∀p ∈ ps,∀n ∈ p.ins,QFit p n):=hq
 clear hv hz hq
 go_enter Tryz.func27,Tryz.ntmps27
 go_wp2_with fail
 go_loopw [16] (fun y wr=>∃(k:Nat) (v:Value) (hs:List Value),k≤ps.length∧y=.int .i64 k∧PrepAt w ps wr k v hs) (fun y _=>ps.length - (intOf y).toNat)
 case atStart=>exact ⟨0,_,_,Nat.zero_le _,rfl,P0⟩
 case round=>
  obtain⟨k,v,hs,hk,rfl,P1⟩:=hrel
  clear P0
  obtain⟨vo,vc,rfl⟩:=owns_slice P1.row
  by_cases hlt:k<ps.length
  ·obtain⟨p,hp⟩:=some_of_lt hlt
   obtain⟨wo,hwo⟩:∃wo,wo=wr:=⟨_,rfl⟩
   subst hwo
   obtain⟨b,off,rfl,_,hbl,h,N0,I0⟩:=HV.out k p hp
   have N1:=N0.later P1.below hbl
   have hzp:=HZ.out p (List.mem_of_getElem? hp)
   have HQP:Hid (∀n ∈ p.ins,QFit p n):=HQF.out p (List.mem_of_getElem? hp)
   have HI:Hid (∀W,Below w.heap.size w W→InssAt 0 W h.io p.ins∧ValsAt 0 W h.co p.consts):=fun W hb=>⟨I0.ins.later (Keeps.of_below hb),I0.consts.later (Keeps.of_below hb)⟩
   have HST:Hid (cAll ps (k+1)=cIns p.consts p.ins (cAll ps k) p.ins.length):=cAll_step hp
   have hC:=HCL.out k hk
   have P1o:=P1.out
   have P1s:=P1.size
   have HP:Hid _:=P1
   have HPP:Hid _:=hp
   obtain⟨C,hCC⟩:∃C,C=cAll ps k:=⟨_,rfl⟩
   rw [←hCC] at HST hC P1o
   have HCC:Hid (C=cAll ps k):=hCC
   have HPW:Hid (p.ins.length≤1048576):=hzp
   clear I0 N0 P1 hp hCC HV
   have HDR:Hid (∀(i:Nat) n W,p.ins[i]?=some n→Below w.heap.size w W→Calls Tryz.prog 68 #[.agg (p.cells h),.int .i64 i] W fun e w'=>e=.returned (.int .i64 (dropsF n.a 0 (p.ins.drop i):Int))∧Below W.heap.size W w'):=
    fun i n W hi hb=>l6drops_any p h i n W HPW.out (HI.out W hb).1 hi (fun e=>((HQP.out n (List.mem_of_getElem? hi)).drop e).1)
   have HTW:Hid (∀(i c:Nat) n W,p.ins[i]?=some n→Below w.heap.size w W→Calls Tryz.prog 69 #[.agg (p.cells h),.int .i64 i,.int .i64 c] W fun e w'=>e=.returned (twoT (twoL p.consts c (p.ins.drop i)))∧Below W.heap.size W w'):=
    fun i c n W hi hb=>l6two_any p h i c n W HPW.out (HI.out W hb).1 (HI.out W hb).2 hi (HQP.out n (List.mem_of_getElem? hi))
   obtain⟨nm,ln,pa,re,rg,us,cs,is,ms⟩:=p
   obtain⟨uo,uc,co,cc,io,ic,no,nc⟩:=h
   obtain⟨p0,p1,p2,p3,p4,p5,p6,p7,p8⟩:=N1
   dsimp only [Pd.cells] at *
   have I0:=InnAt.start #[.string nm,.int .i64 ln,.int .i64 pa,.bool re,.int .i64 rg,.slice uo us.length uc,.slice co cs.length cc,.slice io is.length ic,.slice no ms.length nc] P1s P1o
   have po:=P1o.cell
   go_wp2_with fail
   clear p0 p1 p2 p3 p4 p5 p6 p7 p8 po P1o
   have hCB:=cIns_le cs is C
   have HCB:Hid (∀i,cIns cs is C i≤C+i):=hCB
   clear hCB
   go_loopw [23] (fun y wi=>∃(i:Nat) (u:Value),i≤is.length∧y=.int .i64 i∧InnAt w.heap.size wo.heap.size wo wi #[.string nm,.int .i64 ln,.int .i64 pa,.bool re,.int .i64 rg,.slice uo us.length uc,.slice co cs.length cc,.slice io is.length ic,.slice no ms.length nc] (.slice vo k vc) u (cIns cs is C i:Int) i ((qIns cs is C).take i)) (fun y _=>is.length - (intOf y).toNat)
   case atStart=>exact ⟨0,_,Nat.zero_le _,rfl,I0⟩
   case round=>
    obtain⟨i,u,hi,rfl,I1⟩:=hrel
    clear I0
    by_cases hil:i<is.length
    ·obtain⟨n,hn⟩:=some_of_lt hil
     obtain⟨wi,hwi⟩:∃wi,wi=wr:=⟨_,rfl⟩
     subst hwi
     have hbw:=I1.belowW HP.out.below
     obtain⟨b',off',rfl,_,hbl',q0,q1,q2,q3,q4⟩:=(HI.out wi hbw).1 i n hn
     have HIN:Hid (is[i]?=some n):=hn
     have HTK:Hid ((qIns cs is C).take (i+1)=(qIns cs is C).take i ++ [quickOne cs (cIns cs is C i) (is.drop i)]):=by
      show _=_
      rw [List.take_add_one,qIns_at hil];rfl
     have HCN:Hid (cIns cs is C (i+1)=if (quickOne cs (cIns cs is C i) (is.drop i)).op=45 then cIns cs is C i+1 else cIns cs is C i):=rfl
     have hci:cIns cs is C i≤1099512676352:=by have:=HCB.out i;omega
     have hqD:Hid (1<dropsF n.a 0 (is.drop i)→∀c,quickOne cs c (is.drop i)=⟨46,n.a,dropsF n.a 0 (is.drop i),0,0,0,0⟩):=fun h c=>quickOne_drops hn h
     have hqT:Hid (¬1<dropsF n.a 0 (is.drop i)→∀c q,twoL cs c (is.drop i)=some q→quickOne cs c (is.drop i)=q):=fun h c q hq=>quickOne_two hn h hq
     have hqN:Hid (¬1<dropsF n.a 0 (is.drop i)→∀c,twoL cs c (is.drop i)=none→quickOne cs c (is.drop i)=plainQ n):=fun h c hq=>quickOne_plain hn h hq
     have hdl:dropsF n.a 0 (is.drop i)≤is.length:=Nat.le_trans (dropsF_le _ _ _) (by simp)
     obtain⟨d,hd⟩:∃d,d=dropsF n.a 0 (is.drop i):=⟨_,rfl⟩
     have HDR1:Hid (∀W,Below w.heap.size w W→Calls Tryz.prog 68 #[.agg #[.string nm,.int .i64 ln,.int .i64 pa,.bool re,.int .i64 rg,.slice uo us.length uc,.slice co cs.length cc,.slice (some ⟨b',off',none⟩) is.length ic,.slice no ms.length nc],.int .i64 i] W fun e w'=>e=.returned (.int .i64 (d:Int))∧Below W.heap.size W w'):=fun W hb=>by have:=HDR.out i n W hn hb;rw [←hd] at this;exact this
     rw [←hd] at hqD hqT hqN hdl
     obtain⟨n0,n1,n2,n3,n4⟩:=n
     dsimp only at *
     clear hn hd
     have io1:=I1.out.cell
     have if1:=I1.f.cell
     have A1:=below_al (below_al (Below.refl wi.heap.size wi) (.cells #[.int .i64 n0,.int .i64 n1,.int .i64 n2,.int .i64 n3,.int .i64 n4] 93)) (.cells #[.int .i64 n0,.int .i64 n1,.int .i64 n2,.int .i64 n3,.int .i64 n4,.int .i64 0,.int .i64 0] 60)
     have Nb0:=(Blk.new wi #[.int .i64 n0,.int .i64 n1,.int .i64 n2,.int .i64 n3,.int .i64 n4] 93).alloc (.cells #[.int .i64 n0,.int .i64 n1,.int .i64 n2,.int .i64 n3,.int .i64 n4,.int .i64 0,.int .i64 0] 60)
     have Qb0:=Blk.new (wi.alloc (.cells #[.int .i64 n0,.int .i64 n1,.int .i64 n2,.int .i64 n3,.int .i64 n4] 93)) #[.int .i64 n0,.int .i64 n1,.int .i64 n2,.int .i64 n3,.int .i64 n4,.int .i64 0,.int .i64 0] 60
     rw [nblk_alloc] at Qb0
     have I2:=I1.below A1
     have if2:=I2.f.cell
     have iw:wo.heap.size<wi.heap.size:=by have:=I1.size;omega
     go_wp2_with fail
     refine (HDR1.out _ (I2.belowW HP.out.below)).mono ?_
     rintro e w1 ⟨rfl,hw1⟩
     have IR:Hid (∀k,u.ownBlock=some k→wo.heap.size+2≤k∧k<wi.heap.size):=fun k hk=>I1.row.lt k hk
     have I3:=I2.below hw1
     have Nb1:=Nb0.later hw1
     have Qb1:=Qb0.later hw1
     clear hw1 A1 Nb0 Qb0 I1 I2 io1 if1 if2 q0 q1 q2 q3 q4
     have io3:=I3.out.cell
     have if3:=I3.f.cell
     have nb1:=Nb1.cell
     have qb1:=Qb1.cell
     have hn45:¬n0=45:=by have:=(HQP.out _ (List.mem_of_getElem? HIN.out)).hi;dsimp only at this;omega
     by_cases hbig:1<d
     ·have hbg:(d:Int) > 1:=by omega
      obtain⟨o,HO⟩:∃o,Hid (twoL cs (cIns cs is C i) (is.drop i)=o):=⟨_,rfl⟩
      cases o with
      | none=>
       have HF:Hid ((qIns cs is C).take (i+1)=(qIns cs is C).take i ++ [(⟨46,n1,d,0,0,0,0⟩:Qd)]∧((cIns cs is C (i+1):Nat):Int)=(cIns cs is C i:Int)):=by
        have hqe:=hqD.out hbig (cIns cs is C i)
        refine⟨by rw [HTK.out,hqe],?_⟩
        rw [HCN.out,hqe]
        simp
       go_wp2_with fail
       refine (HTW.out i _ _ w1 HIN.out (I3.belowW HP.out.below)).mono ?_
       rw [HO.out]
       rintro e w2 ⟨rfl,hw2⟩
       have I4:=I3.below hw2
       have Nb3:=Nb1.later hw2
       have Qb3:=Qb1.later hw2
       have hwl:wi.heap.size+1<w2.heap.size:=Qb3.lt
       have hul:∀k,u.ownBlock=some k→k≠wi.heap.size+1:=fun k hk=>by have:=(IR.out k hk).2;omega
       clear hw2 Nb1 Qb1 I3 io3 if3 nb1 qb1
       unfold twoT
       dsimp only [zeroQ,Qd.val]
       have io4:=I4.out.cell
       have io4f:=I4.out.frozen
       have iq4:=I4.q.cell
       have nb3:=Nb3.cell
       have qb3:=Qb3.cell
       have qb3f:=Qb3.frozen
       have g1:wi.heap.size<w2.heap.size:=Nb3.lt
       have g2:w.heap.size+1+1<w2.heap.size:=I4.out.lt
       have g3:wo.heap.size+1<w2.heap.size:=I4.q.lt
       have g4:w.heap.size+1+1≠wi.heap.size+1:=by have:=I4.lt;omega
       have g5:wo.heap.size+1≠wi.heap.size+1:=by omega
       have g6:wo.heap.size+1≠w.heap.size+1+1:=by have:=I4.lt;omega
       have g7:wi.heap.size+1≠w.heap.size+1+1:=by have:=I4.lt;omega
       have nb3a:=(Nb3.alloc (.cells #[.int .i64 0,.int .i64 0,.int .i64 0,.int .i64 0,.int .i64 0,.int .i64 0,.int .i64 0] 60)).cell
       have qb3a:=(Qb3.alloc (.cells #[.int .i64 0,.int .i64 0,.int .i64 0,.int .i64 0,.int .i64 0,.int .i64 0,.int .i64 0] 60)).cell
       have io4a:=(I4.out.alloc (.cells #[.int .i64 0,.int .i64 0,.int .i64 0,.int .i64 0,.int .i64 0,.int .i64 0,.int .i64 0] 60)).cell
       have iq4a:=(I4.q.alloc (.cells #[.int .i64 0,.int .i64 0,.int .i64 0,.int .i64 0,.int .i64 0,.int .i64 0,.int .i64 0] 60)).cell
       have I5:=(((((((I4.other (wi.heap.size+1) (by omega) hul 0 (.int .i64 46)).other (wi.heap.size+1) (by omega) hul 1 (.int .i64 n1)).other (wi.heap.size+1) (by omega) hul 2 (.int .i64 d)).other (wi.heap.size+1) (by omega) hul 3 (.int .i64 0)).other (wi.heap.size+1) (by omega) hul 4 (.int .i64 0)).other (wi.heap.size+1) (by omega) hul 5 (.int .i64 0)).other (wi.heap.size+1) (by omega) hul 6 (.int .i64 0))
       have I6:=I5
       replace I6:=I6.below (below_al (Below.refl _ _) (.cells #[.int .i64 0,.int .i64 0,.int .i64 0,.int .i64 0,.int .i64 0,.int .i64 0,.int .i64 0] 60))
       clear I4 I5
       go_wp2_with (at_builtin;refine app_q rfl _ _ rfl (wo.heap.size+2) _ i ((qIns cs is C).take i) (⟨46,n1,d,0,0,0,0⟩:Qd) _ rfl (I6.row.alloc _) rfl ?c1 (by omega) ?c3 ?_)
       case c1=>exact Blk.newAt _ _ (by simp)
       case c3=>simp;have:=I6.size;simp at this;omega
       intro v' w4 h1 h2 h3
       have I8:=(I6.below (below_al (Below.refl _ _) _)).more h1 h2
       have Pb:=(I6.below (below_al (Below.refl _ _) _)).qAfter h2
       obtain⟨ao2,cap2,rfl⟩:=owns_slice h1
       clear h1 h2 h3 I6 io4 io4f iq4 nb3 qb3 qb3f nb3a qb3a io4a iq4a Nb3 Qb3
       have pb:=Pb.cell
       have pbf:=Pb.frozen
       go_wp2_with fail
       go_roundw
       case rel=>exact ⟨i+1,_,by omega,by go_num,by rw [HF.out.1,HF.out.2];exact I8⟩
       case measure=>simp [intOf];omega
      | some t=>
       obtain⟨t0,t1,t2,t3,t4,t5,t6⟩:=t
       have HF:Hid ((qIns cs is C).take (i+1)=(qIns cs is C).take i ++ [(⟨46,n1,d,0,0,0,0⟩:Qd)]∧((cIns cs is C (i+1):Nat):Int)=(cIns cs is C i:Int)):=by
        have hqe:=hqD.out hbig (cIns cs is C i)
        refine⟨by rw [HTK.out,hqe],?_⟩
        rw [HCN.out,hqe]
        simp
       go_wp2_with fail
       refine (HTW.out i _ _ w1 HIN.out (I3.belowW HP.out.below)).mono ?_
       rw [HO.out]
       rintro e w2 ⟨rfl,hw2⟩
       have I4:=I3.below hw2
       have Nb3:=Nb1.later hw2
       have Qb3:=Qb1.later hw2
       have hwl:wi.heap.size+1<w2.heap.size:=Qb3.lt
       have hul:∀k,u.ownBlock=some k→k≠wi.heap.size+1:=fun k hk=>by have:=(IR.out k hk).2;omega
       clear hw2 Nb1 Qb1 I3 io3 if3 nb1 qb1
       unfold twoT
       dsimp only [Qd.val]
       have io4:=I4.out.cell
       have io4f:=I4.out.frozen
       have iq4:=I4.q.cell
       have nb3:=Nb3.cell
       have qb3:=Qb3.cell
       have qb3f:=Qb3.frozen
       have g1:wi.heap.size<w2.heap.size:=Nb3.lt
       have g2:w.heap.size+1+1<w2.heap.size:=I4.out.lt
       have g3:wo.heap.size+1<w2.heap.size:=I4.q.lt
       have g4:w.heap.size+1+1≠wi.heap.size+1:=by have:=I4.lt;omega
       have g5:wo.heap.size+1≠wi.heap.size+1:=by omega
       have g6:wo.heap.size+1≠w.heap.size+1+1:=by have:=I4.lt;omega
       have g7:wi.heap.size+1≠w.heap.size+1+1:=by have:=I4.lt;omega
       have nb3a:=(Nb3.alloc (.cells #[.int .i64 t0,.int .i64 t1,.int .i64 t2,.int .i64 t3,.int .i64 t4,.int .i64 t5,.int .i64 t6] 60)).cell
       have qb3a:=(Qb3.alloc (.cells #[.int .i64 t0,.int .i64 t1,.int .i64 t2,.int .i64 t3,.int .i64 t4,.int .i64 t5,.int .i64 t6] 60)).cell
       have io4a:=(I4.out.alloc (.cells #[.int .i64 t0,.int .i64 t1,.int .i64 t2,.int .i64 t3,.int .i64 t4,.int .i64 t5,.int .i64 t6] 60)).cell
       have iq4a:=(I4.q.alloc (.cells #[.int .i64 t0,.int .i64 t1,.int .i64 t2,.int .i64 t3,.int .i64 t4,.int .i64 t5,.int .i64 t6] 60)).cell
       have I5:=(((((((I4.other (wi.heap.size+1) (by omega) hul 0 (.int .i64 46)).other (wi.heap.size+1) (by omega) hul 1 (.int .i64 n1)).other (wi.heap.size+1) (by omega) hul 2 (.int .i64 d)).other (wi.heap.size+1) (by omega) hul 3 (.int .i64 0)).other (wi.heap.size+1) (by omega) hul 4 (.int .i64 0)).other (wi.heap.size+1) (by omega) hul 5 (.int .i64 0)).other (wi.heap.size+1) (by omega) hul 6 (.int .i64 0))
       have I6:=I5
       replace I6:=I6.below (below_al (Below.refl _ _) (.cells #[.int .i64 t0,.int .i64 t1,.int .i64 t2,.int .i64 t3,.int .i64 t4,.int .i64 t5,.int .i64 t6] 60))
       clear I4 I5
       go_wp2_with (at_builtin;refine app_q rfl _ _ rfl (wo.heap.size+2) _ i ((qIns cs is C).take i) (⟨46,n1,d,0,0,0,0⟩:Qd) _ rfl (I6.row.alloc _) rfl ?c1 (by omega) ?c3 ?_)
       case c1=>exact Blk.newAt _ _ (by simp)
       case c3=>simp;have:=I6.size;simp at this;omega
       intro v' w4 h1 h2 h3
       have I8:=(I6.below (below_al (Below.refl _ _) _)).more h1 h2
       have Pb:=(I6.below (below_al (Below.refl _ _) _)).qAfter h2
       obtain⟨ao2,cap2,rfl⟩:=owns_slice h1
       clear h1 h2 h3 I6 io4 io4f iq4 nb3 qb3 qb3f nb3a qb3a io4a iq4a Nb3 Qb3
       have pb:=Pb.cell
       have pbf:=Pb.frozen
       go_wp2_with fail
       go_roundw
       case rel=>exact ⟨i+1,_,by omega,by go_num,by rw [HF.out.1,HF.out.2];exact I8⟩
       case measure=>simp [intOf];omega
     ·have hbg:¬(d:Int) > 1:=by omega
      obtain⟨o,HO⟩:∃o,Hid (twoL cs (cIns cs is C i) (is.drop i)=o):=⟨_,rfl⟩
      cases o with
      | none=>
       have HF:Hid ((qIns cs is C).take (i+1)=(qIns cs is C).take i ++ [(⟨n0,n1,n2,n3,n4,0,0⟩:Qd)]∧((cIns cs is C (i+1):Nat):Int)=(cIns cs is C i:Int)):=by
        have hqe:=hqN.out hbig (cIns cs is C i) HO.out
        simp only [plainQ] at hqe
        refine⟨by rw [HTK.out,hqe],?_⟩
        rw [HCN.out,hqe]
        rw [if_neg hn45]
       go_wp2_with fail
       refine (HTW.out i _ _ w1 HIN.out (I3.belowW HP.out.below)).mono ?_
       rw [HO.out]
       rintro e w2 ⟨rfl,hw2⟩
       have I4:=I3.below hw2
       have Nb3:=Nb1.later hw2
       have Qb3:=Qb1.later hw2
       have hwl:wi.heap.size+1<w2.heap.size:=Qb3.lt
       have hul:∀k,u.ownBlock=some k→k≠wi.heap.size+1:=fun k hk=>by have:=(IR.out k hk).2;omega
       clear hw2 Nb1 Qb1 I3 io3 if3 nb1 qb1
       unfold twoT
       dsimp only [zeroQ,Qd.val]
       have io4:=I4.out.cell
       have io4f:=I4.out.frozen
       have iq4:=I4.q.cell
       have nb3:=Nb3.cell
       have qb3:=Qb3.cell
       have qb3f:=Qb3.frozen
       have g1:wi.heap.size<w2.heap.size:=Nb3.lt
       have g2:w.heap.size+1+1<w2.heap.size:=I4.out.lt
       have g3:wo.heap.size+1<w2.heap.size:=I4.q.lt
       have g4:w.heap.size+1+1≠wi.heap.size+1:=by have:=I4.lt;omega
       have g5:wo.heap.size+1≠wi.heap.size+1:=by omega
       have g6:wo.heap.size+1≠w.heap.size+1+1:=by have:=I4.lt;omega
       have g7:wi.heap.size+1≠w.heap.size+1+1:=by have:=I4.lt;omega
       have nb3a:=(Nb3.alloc (.cells #[.int .i64 0,.int .i64 0,.int .i64 0,.int .i64 0,.int .i64 0,.int .i64 0,.int .i64 0] 60)).cell
       have qb3a:=(Qb3.alloc (.cells #[.int .i64 0,.int .i64 0,.int .i64 0,.int .i64 0,.int .i64 0,.int .i64 0,.int .i64 0] 60)).cell
       have io4a:=(I4.out.alloc (.cells #[.int .i64 0,.int .i64 0,.int .i64 0,.int .i64 0,.int .i64 0,.int .i64 0,.int .i64 0] 60)).cell
       have iq4a:=(I4.q.alloc (.cells #[.int .i64 0,.int .i64 0,.int .i64 0,.int .i64 0,.int .i64 0,.int .i64 0,.int .i64 0] 60)).cell
       have I5:=I4
       have I6:=I5
       replace I6:=I6.below (below_al (Below.refl _ _) (.cells #[.int .i64 0,.int .i64 0,.int .i64 0,.int .i64 0,.int .i64 0,.int .i64 0,.int .i64 0] 60))
       clear I4 I5
       go_wp2_with (at_builtin;refine app_q rfl _ _ rfl (wo.heap.size+2) _ i ((qIns cs is C).take i) (⟨n0,n1,n2,n3,n4,0,0⟩:Qd) _ rfl (I6.row.alloc _) rfl ?c1 (by omega) ?c3 ?_)
       case c1=>exact Blk.newAt _ _ (by simp)
       case c3=>simp;have:=I6.size;simp at this;omega
       intro v' w4 h1 h2 h3
       have I8:=(I6.below (below_al (Below.refl _ _) _)).more h1 h2
       have Pb:=(I6.below (below_al (Below.refl _ _) _)).qAfter h2
       obtain⟨ao2,cap2,rfl⟩:=owns_slice h1
       clear h1 h2 h3 I6 io4 io4f iq4 nb3 qb3 qb3f nb3a qb3a io4a iq4a Nb3 Qb3
       have pb:=Pb.cell
       have pbf:=Pb.frozen
       go_wp2_with fail
       go_roundw
       case rel=>exact ⟨i+1,_,by omega,by go_num,by rw [HF.out.1,HF.out.2];exact I8⟩
       case measure=>simp [intOf];omega
      | some t=>
       obtain⟨t0,t1,t2,t3,t4,t5,t6⟩:=t
       by_cases h45:t0=45
       ·subst h45
        have HF:Hid ((qIns cs is C).take (i+1)=(qIns cs is C).take i ++ [(⟨45,t1,t2,t3,t4,t5,t6⟩:Qd)]∧((cIns cs is C (i+1):Nat):Int)=(cIns cs is C i:Int)+1):=by
         have hqe:=hqT.out hbig (cIns cs is C i) _ HO.out
         refine⟨by rw [HTK.out,hqe],?_⟩
         rw [HCN.out,hqe]
         simp
        go_wp2_with fail
        refine (HTW.out i _ _ w1 HIN.out (I3.belowW HP.out.below)).mono ?_
        rw [HO.out]
        rintro e w2 ⟨rfl,hw2⟩
        have I4:=I3.below hw2
        have Nb3:=Nb1.later hw2
        have Qb3:=Qb1.later hw2
        have hwl:wi.heap.size+1<w2.heap.size:=Qb3.lt
        have hul:∀k,u.ownBlock=some k→k≠wi.heap.size+1:=fun k hk=>by have:=(IR.out k hk).2;omega
        clear hw2 Nb1 Qb1 I3 io3 if3 nb1 qb1
        unfold twoT
        dsimp only [Qd.val]
        have io4:=I4.out.cell
        have io4f:=I4.out.frozen
        have iq4:=I4.q.cell
        have nb3:=Nb3.cell
        have qb3:=Qb3.cell
        have qb3f:=Qb3.frozen
        have g1:wi.heap.size<w2.heap.size:=Nb3.lt
        have g2:w.heap.size+1+1<w2.heap.size:=I4.out.lt
        have g3:wo.heap.size+1<w2.heap.size:=I4.q.lt
        have g4:w.heap.size+1+1≠wi.heap.size+1:=by have:=I4.lt;omega
        have g5:wo.heap.size+1≠wi.heap.size+1:=by omega
        have g6:wo.heap.size+1≠w.heap.size+1+1:=by have:=I4.lt;omega
        have g7:wi.heap.size+1≠w.heap.size+1+1:=by have:=I4.lt;omega
        have nb3a:=(Nb3.alloc (.cells #[.int .i64 45,.int .i64 t1,.int .i64 t2,.int .i64 t3,.int .i64 t4,.int .i64 t5,.int .i64 t6] 60)).cell
        have qb3a:=(Qb3.alloc (.cells #[.int .i64 45,.int .i64 t1,.int .i64 t2,.int .i64 t3,.int .i64 t4,.int .i64 t5,.int .i64 t6] 60)).cell
        have io4a:=(I4.out.alloc (.cells #[.int .i64 45,.int .i64 t1,.int .i64 t2,.int .i64 t3,.int .i64 t4,.int .i64 t5,.int .i64 t6] 60)).cell
        have iq4a:=(I4.q.alloc (.cells #[.int .i64 45,.int .i64 t1,.int .i64 t2,.int .i64 t3,.int .i64 t4,.int .i64 t5,.int .i64 t6] 60)).cell
        have I5:=(((((((I4.other (wi.heap.size+1) (by omega) hul 0 (.int .i64 45)).other (wi.heap.size+1) (by omega) hul 1 (.int .i64 t1)).other (wi.heap.size+1) (by omega) hul 2 (.int .i64 t2)).other (wi.heap.size+1) (by omega) hul 3 (.int .i64 t3)).other (wi.heap.size+1) (by omega) hul 4 (.int .i64 t4)).other (wi.heap.size+1) (by omega) hul 5 (.int .i64 t5)).other (wi.heap.size+1) (by omega) hul 6 (.int .i64 t6))
        have I6:=I5.count ((cIns cs is C i:Int)+1)
        replace I6:=I6.below (below_al (Below.refl _ _) (.cells #[.int .i64 45,.int .i64 t1,.int .i64 t2,.int .i64 t3,.int .i64 t4,.int .i64 t5,.int .i64 t6] 60))
        clear I4 I5
        go_wp2_with (at_builtin;refine app_q rfl _ _ rfl (wo.heap.size+2) _ i ((qIns cs is C).take i) (⟨45,t1,t2,t3,t4,t5,t6⟩:Qd) _ rfl (I6.row.alloc _) rfl ?c1 (by omega) ?c3 ?_)
        case c1=>exact Blk.newAt _ _ (by simp)
        case c3=>simp;have:=I6.size;simp at this;omega
        intro v' w4 h1 h2 h3
        have I8:=(I6.below (below_al (Below.refl _ _) _)).more h1 h2
        have Pb:=(I6.below (below_al (Below.refl _ _) _)).qAfter h2
        obtain⟨ao2,cap2,rfl⟩:=owns_slice h1
        clear h1 h2 h3 I6 io4 io4f iq4 nb3 qb3 qb3f nb3a qb3a io4a iq4a Nb3 Qb3
        have pb:=Pb.cell
        have pbf:=Pb.frozen
        go_wp2_with fail
        go_roundw
        case rel=>exact ⟨i+1,_,by omega,by go_num,by rw [HF.out.1,HF.out.2];exact I8⟩
        case measure=>simp [intOf];omega
       ·have k45:(t0 == 45)=false:=by simpa using h45
        have HF:Hid ((qIns cs is C).take (i+1)=(qIns cs is C).take i ++ [(⟨t0,t1,t2,t3,t4,t5,t6⟩:Qd)]∧((cIns cs is C (i+1):Nat):Int)=(cIns cs is C i:Int)):=by
         have hqe:=hqT.out hbig (cIns cs is C i) _ HO.out
         refine⟨by rw [HTK.out,hqe],?_⟩
         rw [HCN.out,hqe]
         simp [h45]
        go_wp2_with fail
        refine (HTW.out i _ _ w1 HIN.out (I3.belowW HP.out.below)).mono ?_
        rw [HO.out]
        rintro e w2 ⟨rfl,hw2⟩
        have I4:=I3.below hw2
        have Nb3:=Nb1.later hw2
        have Qb3:=Qb1.later hw2
        have hwl:wi.heap.size+1<w2.heap.size:=Qb3.lt
        have hul:∀k,u.ownBlock=some k→k≠wi.heap.size+1:=fun k hk=>by have:=(IR.out k hk).2;omega
        clear hw2 Nb1 Qb1 I3 io3 if3 nb1 qb1
        unfold twoT
        dsimp only [Qd.val]
        have io4:=I4.out.cell
        have io4f:=I4.out.frozen
        have iq4:=I4.q.cell
        have nb3:=Nb3.cell
        have qb3:=Qb3.cell
        have qb3f:=Qb3.frozen
        have g1:wi.heap.size<w2.heap.size:=Nb3.lt
        have g2:w.heap.size+1+1<w2.heap.size:=I4.out.lt
        have g3:wo.heap.size+1<w2.heap.size:=I4.q.lt
        have g4:w.heap.size+1+1≠wi.heap.size+1:=by have:=I4.lt;omega
        have g5:wo.heap.size+1≠wi.heap.size+1:=by omega
        have g6:wo.heap.size+1≠w.heap.size+1+1:=by have:=I4.lt;omega
        have g7:wi.heap.size+1≠w.heap.size+1+1:=by have:=I4.lt;omega
        have nb3a:=(Nb3.alloc (.cells #[.int .i64 t0,.int .i64 t1,.int .i64 t2,.int .i64 t3,.int .i64 t4,.int .i64 t5,.int .i64 t6] 60)).cell
        have qb3a:=(Qb3.alloc (.cells #[.int .i64 t0,.int .i64 t1,.int .i64 t2,.int .i64 t3,.int .i64 t4,.int .i64 t5,.int .i64 t6] 60)).cell
        have io4a:=(I4.out.alloc (.cells #[.int .i64 t0,.int .i64 t1,.int .i64 t2,.int .i64 t3,.int .i64 t4,.int .i64 t5,.int .i64 t6] 60)).cell
        have iq4a:=(I4.q.alloc (.cells #[.int .i64 t0,.int .i64 t1,.int .i64 t2,.int .i64 t3,.int .i64 t4,.int .i64 t5,.int .i64 t6] 60)).cell
        have I5:=(((((((I4.other (wi.heap.size+1) (by omega) hul 0 (.int .i64 t0)).other (wi.heap.size+1) (by omega) hul 1 (.int .i64 t1)).other (wi.heap.size+1) (by omega) hul 2 (.int .i64 t2)).other (wi.heap.size+1) (by omega) hul 3 (.int .i64 t3)).other (wi.heap.size+1) (by omega) hul 4 (.int .i64 t4)).other (wi.heap.size+1) (by omega) hul 5 (.int .i64 t5)).other (wi.heap.size+1) (by omega) hul 6 (.int .i64 t6))
        have I6:=I5
        replace I6:=I6.below (below_al (Below.refl _ _) (.cells #[.int .i64 t0,.int .i64 t1,.int .i64 t2,.int .i64 t3,.int .i64 t4,.int .i64 t5,.int .i64 t6] 60))
        clear I4 I5
        go_wp2_with (at_builtin;refine app_q rfl _ _ rfl (wo.heap.size+2) _ i ((qIns cs is C).take i) (⟨t0,t1,t2,t3,t4,t5,t6⟩:Qd) _ rfl (I6.row.alloc _) rfl ?c1 (by omega) ?c3 ?_)
        case c1=>exact Blk.newAt _ _ (by simp)
        case c3=>simp;have:=I6.size;simp at this;omega
        intro v' w4 h1 h2 h3
        have I8:=(I6.below (below_al (Below.refl _ _) _)).more h1 h2
        have Pb:=(I6.below (below_al (Below.refl _ _) _)).qAfter h2
        obtain⟨ao2,cap2,rfl⟩:=owns_slice h1
        clear h1 h2 h3 I6 io4 io4f iq4 nb3 qb3 qb3f nb3a qb3a io4a iq4a Nb3 Qb3
        have pb:=Pb.cell
        have pbf:=Pb.frozen
        go_wp2_with fail
        go_roundw
        case rel=>exact ⟨i+1,_,by omega,by go_num,by rw [HF.out.1,HF.out.2];exact I8⟩
        case measure=>simp [intOf];omega
    ·obtain⟨wi,hwi⟩:∃wi,wi=wr:=⟨_,rfl⟩
     subst hwi
     obtain rfl:i=is.length:=by omega
     have I2:InnAt w.heap.size wo.heap.size wo wi #[.string nm,.int .i64 ln,.int .i64 pa,.bool re,.int .i64 rg,.slice uo us.length uc,.slice co cs.length cc,.slice io is.length ic,.slice no ms.length nc] (.slice vo k vc) u ((cAll ps (k+1):Nat):Int) is.length (qIns cs is C):=by
      have h1:(qIns cs is C).take is.length=qIns cs is C:=List.take_of_length_le (by rw [qIns_len];exact Nat.le_refl _)
      rw [h1] at I1
      rw [HST.out]
      exact I1
     clear I1
     obtain⟨uo2,uc2,rfl⟩:=owns_slice I2.row
     have hrow:=owns_later HP.out.row I2.keeps
     have io4:=I2.out.cell
     have iq4:=I2.q.cell
     have g2:w.heap.size+1+1<wi.heap.size:=I2.out.lt
     have g3:wo.heap.size+1<wi.heap.size:=I2.q.lt
     go_wp2_with (at_builtin;refine app_p rfl _ _ rfl (w.heap.size+1+1+1) _ k hs uo2 is.length uc2 _ rfl (hrow.alloc _) rfl ?c1 (by omega) ?c3 ?_)
     case c1=>exact Blk.newAt _ _ (by simp)
     case c3=>simp;omega
     intro v' w4 h1 h2 h3
     have P2:=PrepAt.more HP.out HPP.out (HCC.out▸I2) h1 h2 (by simpa using h3)
     have Ob:=PrepAt.outAfter HP.out I2 h2
     obtain⟨ao2,cap2,rfl⟩:=owns_slice h1
     clear h1 h2 h3 I2 hrow io4 iq4
     have ob:=Ob.cell
     have obf:=Ob.frozen
     go_wp2_with fail
     go_roundw
     case rel=>exact ⟨k+1,_,_,by omega,by go_num,P2⟩
     case measure=>simp [intOf];omega
  ·obtain rfl:k=ps.length:=by omega
   have rb:=P1.res.cell
   have rbf:=P1.res.frozen
   have ob:=P1.out.cell
   have hd:=P1.done rfl
   have hb:=P1.below
   go_wp2_with fail
   refine bodyPost_ret (v:=.agg #[.slice vo ps.length vc,.int .i64 (cAll ps ps.length:Int)]) ?_ rfl ⟨vo,vc,rfl,?_,?_⟩
   ·simp [results,Tryz.results27,go_sem,rb]
   ·refine QpsAt.lower (lo:=w.heap.size+1+1+1) (QpsAt.later hd ?_) (by omega)
    iterate 2 (refine Keeps.setCell ?_ (by simp;try omega) _)
    exact Keeps.refl _ _
   ·iterate 2 (refine Below.setCell ?_ (by simp;try omega) _)
    exact hb
end Go.Proofs.YtaakadmnhpboiaaGreatDoor
