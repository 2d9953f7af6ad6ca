import Derived.Test.YtjbbppblgjhapaaGreatDoorJ27
set_option maxRecDepth 100000
set_option maxHeartbeats 4000000
namespace Go.Proofs.YtjbbppblgjhapaaGreatDoor
open Go.Deep Go.Proofs.Tryz Go.RowKit
theorem Xw (ao:Option Addr) (cap:Nat) (ps:List Pd) (w:World) (hm:ps.length<=1048576) (hz:∀p∈ps,p.ins.length<=1048576) (hq:∀p∈ps,∀n∈p.ins,QFit p n) (hv:Ad 0 w ao ps) :
  Calls prog 39 #[.agg #[.slice ao ps.length cap]] w fun e w'=>∃ao' cap',e=.returned (.agg #[.slice ao' ps.length cap',(Dn ps ps.length:Int)])/\I7 (w:Nat) w' ao' (Yb ps)/\Below w w w':=by
 have P0:Jl w ps (((w.alloc (.cells #[.slice ao ps.length cap] 31)).alloc (.cells #[nS,()] 38)).alloc (.cells #[nS,()] 38)) 0 nS []:=by
  refine⟨(((yA _ _).alloc (yB _) _).alloc (by simp) _).alloc (by simp;omega) _,by simp,?_,?_,yU _ _ _ _,fun i _ h=>absurd h (Nat.not_lt_zero _)⟩
  ·have:=(Blk.new (w.alloc (.cells #[.slice ao ps.length cap] 31)) #[nS,()] 38).alloc (.cells #[nS,()] 38)
   rwa [nblk_alloc]at this
  ·have:=Blk.new ((w.alloc (.cells #[.slice ao ps.length cap] 31)).alloc (.cells #[nS,()] 38)) #[nS,()] 38;rw[nblk_alloc,nblk_alloc]at this;exact this
 have HCL:Hid (∀k,k<=ps.length->Dn ps k<=1099511627776):=fun k hk=>yI (A74 hz k) (by omega);have HV:Hid (Ad 0 w ao ps):=hv;have HZ:Hid _:=hz;have HQF:Hid _:=hq;clear hv hz hq;go_in;go_wp2;go_loopw [16] (fun y wr=>∃(k:Nat) (v:Value) (hs:List Value),k<=ps.length/\y=k/\Jl w ps wr k v hs) (fun y _=>ps.length-(intOf y).toNat);case atStart=>exact⟨0,_,_,yE _,rfl,P0⟩
 case round=>
  obtain⟨k,v,hs,hk,rfl,P1⟩:=hrel;clear P0;obtain⟨vo,vc,rfl⟩:=Aa P1.row;by_cases hlt:k<ps.length
  ·obtain⟨p,hp⟩:=A8 hlt;obtain⟨wo,hwo⟩:∃wo,wo=wr:=⟨_,rfl⟩;subst hwo;obtain⟨b,off,rfl,_,hbl,h,N0,I0⟩:=HV.out k p hp;have N1:=N0.l P1.below hbl;have hzp:=HZ.out p (yH hp);have HQP:Hid _:=HQF.out p (yH hp);have HI:Hid (∀W,Below w w W->Ck 0 W h.io p.ins/\Ba 0 W h.co p.consts):=fun W hb=>⟨I0.ins.l (A7.o hb),I0.consts.l (A7.o hb)⟩;have HST:Hid _:=Rx hp;have hC:=HCL.out k hk;have P1o:=P1.out;have P1s:=P1.size;have HP:Hid _:=P1;have HPP:Hid _:=hp;obtain⟨C,hCC⟩:∃C,C=Dn ps k:=⟨_,rfl⟩;rw[←hCC]at HST hC P1o;have HCC:Hid _:=hCC;have HPW:Hid _:=hzp;clear I0 N0 P1 hp hCC HV;have HDR:Hid (∀(i:Nat) n W,p.ins[i]?=some n->Below w w W->Kw 108 #[.agg (p.cells h),i] W (Bi n.a 0 (p.ins.drop i):Int)):=
    fun i n W hi hb=>A3d p h i n W HPW.out (HI.out W hb).1 hi (fun e=>((HQP.out n (yH hi)).drop e).1)
   have HTW:Hid (∀(i c:Nat) n W,p.ins[i]?=some n->Below w w W->Kw 109 #[.agg (p.cells h),i,c] W (A1r (Oa p.consts c (p.ins.drop i)))):=
    fun i c n W hi hb=>A8z p h i c n W HPW.out (HI.out W hb).1 (HI.out W hb).2 hi (HQP.out n (yH hi))
   obtain⟨nm,ln,pa,re,rg,us,cs,is,ms⟩:=p;obtain⟨uo,uc,co,cc,io,ic,no,nc⟩:=h;obtain⟨p0,p1,p2,p3,p4,p5,p6,p7,p8⟩:=N1;dsimp only[Pd.cells]at *;have I0:=Fs.start #[nm,ln,pa,.bool re,rg,.slice uo us.length uc,.slice co cs.length cc,.slice io is.length ic,.slice no ms.length nc] P1s P1o;have po:=P1o.cell;go_wp2_with fail;clear p0 p1 p2 p3 p4 p5 p6 p7 p8 po P1o;have hCB:=Qe cs is C;have HCB:Hid _:=hCB;clear hCB;go_loopw [23] (fun y wi=>∃(i:Nat) (u:Value),i<=is.length/\y=i/\Fs (w:Nat) (wo:Nat) wo wi #[nm,ln,pa,.bool re,rg,.slice uo us.length uc,.slice co cs.length cc,.slice io is.length ic,.slice no ms.length nc] (.slice vo k vc) u (Dy cs is C i:Int) i ((Gl cs is C).take i)) (fun y _=>is.length-(intOf y).toNat);case atStart=>exact⟨0,_,yE _,rfl,I0⟩
   case round=>
    obtain⟨i,u,hi,rfl,I1⟩:=hrel;clear I0;by_cases hil:i<is.length
    ·obtain⟨n,hn⟩:=A8 hil;obtain⟨wi,hwi⟩:∃wi,wi=wr:=⟨_,rfl⟩;subst hwi;have hbw:=I1.belowW HP.out.below;obtain⟨b',off',rfl,_,hbl',q0,q1,q2,q3,q4⟩:=(HI.out wi hbw).1 i n hn;have HIN:Hid _:=hn;have HTK:Hid ((Gl cs is C).take (i+1)=(Gl cs is C).take i++[Bt cs (Dy cs is C i) (is.drop i)]):=by show _=_;rw[List.take_add_one,A7j hil];rfl
     have HCN:Hid (Dy cs is C (i+1)=if (Bt cs (Dy cs is C i) (is.drop i)).op=45 then Dy cs is C i+1 else Dy cs is C i):=rfl;have hci:Dy cs is C i<=1099512676352:=by have:=HCB.out i;omega
     have hqD:Hid (1<Bi n.a 0 (is.drop i)->∀c,Bt cs c (is.drop i)=⟨46,n.a,Bi n.a 0 (is.drop i),0,0,0,0⟩):=fun h c=>Wd hn h;have hqT:Hid (¬1<Bi n.a 0 (is.drop i)->∀c q,Oa cs c (is.drop i)=some q->Bt cs c (is.drop i)=q):=fun h c q hq=>A19 hn h hq;have hqN:Hid (¬1<Bi n.a 0 (is.drop i)->∀c,Oa cs c (is.drop i)=none->Bt cs c (is.drop i)=Pq n):=fun h c hq=>We hn h hq;have hdl:Bi n.a 0 (is.drop i)<=is.length:=yI (Nr _ _ _) (by simp);obtain⟨d,hd⟩:∃d,d=Bi n.a 0 (is.drop i):=⟨_,rfl⟩;have HDR1:Hid (∀W,Below w w W->Kw 108 #[.agg #[nm,ln,pa,.bool re,rg,.slice uo us.length uc,.slice co cs.length cc,.slice (some ⟨b',off',none⟩) is.length ic,.slice no ms.length nc],i] W (d:Int)):=fun W hb=>by have:=HDR.out i n W hn hb;rw[←hd]at this;exact this
     rw[←hd]at hqD hqT hqN hdl;obtain⟨n0,n1,n2,n3,n4⟩:=n;dsimp only at *;clear hn hd;have io1:=I1.out.cell;have if1:=I1.f.cell;have A1:=Af (Af (yA (wi:Nat) wi) (.cells #[n0,n1,n2,n3,n4] 81)) (.cells #[n0,n1,n2,n3,n4,(),()] 79);have Nb0:=(Blk.new wi #[n0,n1,n2,n3,n4] 81).alloc (.cells #[n0,n1,n2,n3,n4,(),()] 79);have Qb0:=Blk.new (wi.alloc (.cells #[n0,n1,n2,n3,n4] 81)) #[n0,n1,n2,n3,n4,(),()] 79;rw[nblk_alloc]at Qb0;have I2:=I1.below A1;have if2:=I2.f.cell;have iw:(wo:Nat)<(wi:Nat):=by have:=I1.size;omega
     go_wp2_with fail;refine(HDR1.out _ (I2.belowW HP.out.below)).mono ?_;rintro e w1 ⟨rfl,hw1⟩;have IR:Hid _:=fun k hk=>I1.row.lt k hk;have I3:=I2.below hw1;have Nb1:=Nb0.l hw1;have Qb1:=Qb0.l hw1;clear hw1 A1 Nb0 Qb0 I1 I2 io1 if1 if2 q0 q1 q2 q3 q4;have io3:=I3.out.cell;have if3:=I3.f.cell;have nb1:=Nb1.cell;have qb1:=Qb1.cell;have hn45:¬n0=45:=by have:=(HQP.out _ (yH HIN.out)).hi;dsimp only at this;omega
     by_cases hbig:1<d
     ·have hbg:(d:Int)>1:=by omega
      obtain⟨o,HO⟩:∃o,Hid (Oa cs (Dy cs is C i) (is.drop i)=o):=⟨_,rfl⟩;cases o with
      | none=>
       have HF:Hid ((Gl cs is C).take (i+1)=(Gl cs is C).take i++[(⟨46,n1,d,0,0,0,0⟩:Qd)]/\((Dy cs is C (i+1):Nat):Int)=(Dy cs is C i:Int)):=by have hqe:=hqD.out hbig (Dy cs is C i);refine⟨by rw[HTK.out,hqe],?_⟩;rw[HCN.out,hqe];simp
       go_wp2_with fail;refine(HTW.out i _ _ w1 HIN.out (I3.belowW HP.out.below)).mono ?_;rw[HO.out];rintro e w2 ⟨rfl,hw2⟩;have I4:=I3.below hw2;have Nb3:=Nb1.l hw2;have Qb3:=Qb1.l hw2;have hwl:=Qb3.lt;have hul:∀k,u.ownBlock=some k->k≠(wi:Nat)+1:=fun k hk=>by have:=(IR.out k hk).2;omega
       clear hw2 Nb1 Qb1 I3 io3 if3 nb1 qb1;unfold A1r;dsimp only[Ack,Qd.val];have io4:=I4.out.cell;have io4f:=I4.out.frozen;have iq4:=I4.q.cell;have nb3:=Nb3.cell;have qb3:=Qb3.cell;have qb3f:=Qb3.frozen;have g1:=Nb3.lt;have g2:=I4.out.lt;have g3:=I4.q.lt;have g4:(w:Nat)+1+1≠(wi:Nat)+1:=by have:=I4.lt;omega
       have g5:(wo:Nat)+1≠(wi:Nat)+1:=by omega
       have g6:(wo:Nat)+1≠(w:Nat)+1+1:=by have:=I4.lt;omega
       have g7:(wi:Nat)+1≠(w:Nat)+1+1:=by have:=I4.lt;omega
       have nb3a:=(Nb3.alloc (.cells #[(),(),(),(),(),(),()] 79)).cell;have qb3a:=(Qb3.alloc (.cells #[(),(),(),(),(),(),()] 79)).cell;have io4a:=(I4.out.alloc (.cells #[(),(),(),(),(),(),()] 79)).cell;have iq4a:=(I4.q.alloc (.cells #[(),(),(),(),(),(),()] 79)).cell;have I5:=(((((((I4.other ((wi:Nat)+1) (by omega) hul 0 (46:Int)).other ((wi:Nat)+1) (by omega) hul 1 n1).other ((wi:Nat)+1) (by omega) hul 2 d).other ((wi:Nat)+1) (by omega) hul 3 ()).other ((wi:Nat)+1) (by omega) hul 4 ()).other ((wi:Nat)+1) (by omega) hul 5 ()).other ((wi:Nat)+1) (by omega) hul 6 ());have I6:=I5;replace I6:=I6.below (Af (yA _ _) (.cells #[(),(),(),(),(),(),()] 79));clear I4 I5;go_wp2_with (at_builtin;refine A23 rfl _ _ rfl ((wo:Nat)+2) _ i ((Gl cs is C).take i) (⟨46,n1,d,0,0,0,0⟩:Qd) _ rfl (I6.row.alloc _) rfl ?c1 (by omega) ?c3 ?_);case c1=>exact Blk.newAt _ _ (by simp)
       case c3=>simp;have:=I6.size;simp at this;omega
       intro v' w4 h1 h2 h3;have I8:=(I6.below (Af (yA _ _) _)).more h1 h2;have Pb:=(I6.below (Af (yA _ _) _)).qAfter h2;obtain⟨ao2,cap2,rfl⟩:=Aa h1;clear h1 h2 h3 I6 io4 io4f iq4 nb3 qb3 qb3f nb3a qb3a io4a iq4a Nb3 Qb3;have pb:=Pb.cell;have pbf:=Pb.frozen;go_wp2;go_roundw;case rel=>exact⟨i+1,_,by omega,by go_num,by rw[HF.out.1,HF.out.2];exact I8⟩
       case measure=>simp[intOf];omega
      | some t=>
       obtain⟨t0,t1,t2,t3,t4,t5,t6⟩:=t;have HF:Hid ((Gl cs is C).take (i+1)=(Gl cs is C).take i++[(⟨46,n1,d,0,0,0,0⟩:Qd)]/\((Dy cs is C (i+1):Nat):Int)=(Dy cs is C i:Int)):=by have hqe:=hqD.out hbig (Dy cs is C i);refine⟨by rw[HTK.out,hqe],?_⟩;rw[HCN.out,hqe];simp
       go_wp2_with fail;refine(HTW.out i _ _ w1 HIN.out (I3.belowW HP.out.below)).mono ?_;rw[HO.out];rintro e w2 ⟨rfl,hw2⟩;have I4:=I3.below hw2;have Nb3:=Nb1.l hw2;have Qb3:=Qb1.l hw2;have hwl:=Qb3.lt;have hul:∀k,u.ownBlock=some k->k≠(wi:Nat)+1:=fun k hk=>by have:=(IR.out k hk).2;omega
       clear hw2 Nb1 Qb1 I3 io3 if3 nb1 qb1;unfold A1r;dsimp only[Qd.val];have io4:=I4.out.cell;have io4f:=I4.out.frozen;have iq4:=I4.q.cell;have nb3:=Nb3.cell;have qb3:=Qb3.cell;have qb3f:=Qb3.frozen;have g1:=Nb3.lt;have g2:=I4.out.lt;have g3:=I4.q.lt;have g4:(w:Nat)+1+1≠(wi:Nat)+1:=by have:=I4.lt;omega
       have g5:(wo:Nat)+1≠(wi:Nat)+1:=by omega
       have g6:(wo:Nat)+1≠(w:Nat)+1+1:=by have:=I4.lt;omega
       have g7:(wi:Nat)+1≠(w:Nat)+1+1:=by have:=I4.lt;omega
       have nb3a:=(Nb3.alloc (.cells #[t0,t1,t2,t3,t4,t5,t6] 79)).cell;have qb3a:=(Qb3.alloc (.cells #[t0,t1,t2,t3,t4,t5,t6] 79)).cell;have io4a:=(I4.out.alloc (.cells #[t0,t1,t2,t3,t4,t5,t6] 79)).cell;have iq4a:=(I4.q.alloc (.cells #[t0,t1,t2,t3,t4,t5,t6] 79)).cell;have I5:=(((((((I4.other ((wi:Nat)+1) (by omega) hul 0 (46:Int)).other ((wi:Nat)+1) (by omega) hul 1 n1).other ((wi:Nat)+1) (by omega) hul 2 d).other ((wi:Nat)+1) (by omega) hul 3 ()).other ((wi:Nat)+1) (by omega) hul 4 ()).other ((wi:Nat)+1) (by omega) hul 5 ()).other ((wi:Nat)+1) (by omega) hul 6 ());have I6:=I5;replace I6:=I6.below (Af (yA _ _) (.cells #[t0,t1,t2,t3,t4,t5,t6] 79));clear I4 I5;go_wp2_with (at_builtin;refine A23 rfl _ _ rfl ((wo:Nat)+2) _ i ((Gl cs is C).take i) (⟨46,n1,d,0,0,0,0⟩:Qd) _ rfl (I6.row.alloc _) rfl ?c1 (by omega) ?c3 ?_);case c1=>exact Blk.newAt _ _ (by simp)
       case c3=>simp;have:=I6.size;simp at this;omega
       intro v' w4 h1 h2 h3;have I8:=(I6.below (Af (yA _ _) _)).more h1 h2;have Pb:=(I6.below (Af (yA _ _) _)).qAfter h2;obtain⟨ao2,cap2,rfl⟩:=Aa h1;clear h1 h2 h3 I6 io4 io4f iq4 nb3 qb3 qb3f nb3a qb3a io4a iq4a Nb3 Qb3;have pb:=Pb.cell;have pbf:=Pb.frozen;go_wp2;go_roundw;case rel=>exact⟨i+1,_,by omega,by go_num,by rw[HF.out.1,HF.out.2];exact I8⟩
       case measure=>simp[intOf];omega
     ·have hbg:¬(d:Int)>1:=by omega
      obtain⟨o,HO⟩:∃o,Hid (Oa cs (Dy cs is C i) (is.drop i)=o):=⟨_,rfl⟩;cases o with
      | none=>
       have HF:Hid ((Gl cs is C).take (i+1)=(Gl cs is C).take i++[(⟨n0,n1,n2,n3,n4,0,0⟩:Qd)]/\((Dy cs is C (i+1):Nat):Int)=(Dy cs is C i:Int)):=by have hqe:=hqN.out hbig (Dy cs is C i) HO.out;simp only[Pq]at hqe;refine⟨by rw[HTK.out,hqe],?_⟩;rw[HCN.out,hqe];rw[if_neg hn45]
       go_wp2_with fail;refine(HTW.out i _ _ w1 HIN.out (I3.belowW HP.out.below)).mono ?_;rw[HO.out];rintro e w2 ⟨rfl,hw2⟩;have I4:=I3.below hw2;have Nb3:=Nb1.l hw2;have Qb3:=Qb1.l hw2;have hwl:=Qb3.lt;have hul:∀k,u.ownBlock=some k->k≠(wi:Nat)+1:=fun k hk=>by have:=(IR.out k hk).2;omega
       clear hw2 Nb1 Qb1 I3 io3 if3 nb1 qb1;unfold A1r;dsimp only[Ack,Qd.val];have io4:=I4.out.cell;have io4f:=I4.out.frozen;have iq4:=I4.q.cell;have nb3:=Nb3.cell;have qb3:=Qb3.cell;have qb3f:=Qb3.frozen;have g1:=Nb3.lt;have g2:=I4.out.lt;have g3:=I4.q.lt;have g4:(w:Nat)+1+1≠(wi:Nat)+1:=by have:=I4.lt;omega
       have g5:(wo:Nat)+1≠(wi:Nat)+1:=by omega
       have g6:(wo:Nat)+1≠(w:Nat)+1+1:=by have:=I4.lt;omega
       have g7:(wi:Nat)+1≠(w:Nat)+1+1:=by have:=I4.lt;omega
       have nb3a:=(Nb3.alloc (.cells #[(),(),(),(),(),(),()] 79)).cell;have qb3a:=(Qb3.alloc (.cells #[(),(),(),(),(),(),()] 79)).cell;have io4a:=(I4.out.alloc (.cells #[(),(),(),(),(),(),()] 79)).cell;have iq4a:=(I4.q.alloc (.cells #[(),(),(),(),(),(),()] 79)).cell;have I5:=I4;have I6:=I5;replace I6:=I6.below (Af (yA _ _) (.cells #[(),(),(),(),(),(),()] 79));clear I4 I5;go_wp2_with (at_builtin;refine A23 rfl _ _ rfl ((wo:Nat)+2) _ i ((Gl cs is C).take i) (⟨n0,n1,n2,n3,n4,0,0⟩:Qd) _ rfl (I6.row.alloc _) rfl ?c1 (by omega) ?c3 ?_);case c1=>exact Blk.newAt _ _ (by simp)
       case c3=>simp;have:=I6.size;simp at this;omega
       intro v' w4 h1 h2 h3;have I8:=(I6.below (Af (yA _ _) _)).more h1 h2;have Pb:=(I6.below (Af (yA _ _) _)).qAfter h2;obtain⟨ao2,cap2,rfl⟩:=Aa h1;clear h1 h2 h3 I6 io4 io4f iq4 nb3 qb3 qb3f nb3a qb3a io4a iq4a Nb3 Qb3;have pb:=Pb.cell;have pbf:=Pb.frozen;go_wp2;go_roundw;case rel=>exact⟨i+1,_,by omega,by go_num,by rw[HF.out.1,HF.out.2];exact I8⟩
       case measure=>simp[intOf];omega
      | some t=>
       obtain⟨t0,t1,t2,t3,t4,t5,t6⟩:=t;by_cases h45:t0=45
       ·subst h45;have HF:Hid ((Gl cs is C).take (i+1)=(Gl cs is C).take i++[(⟨45,t1,t2,t3,t4,t5,t6⟩:Qd)]/\((Dy cs is C (i+1):Nat):Int)=(Dy cs is C i:Int)+1):=by have hqe:=hqT.out hbig (Dy cs is C i) _ HO.out;refine⟨by rw[HTK.out,hqe],?_⟩;rw[HCN.out,hqe];simp
        go_wp2_with fail;refine(HTW.out i _ _ w1 HIN.out (I3.belowW HP.out.below)).mono ?_;rw[HO.out];rintro e w2 ⟨rfl,hw2⟩;have I4:=I3.below hw2;have Nb3:=Nb1.l hw2;have Qb3:=Qb1.l hw2;have hwl:=Qb3.lt;have hul:∀k,u.ownBlock=some k->k≠(wi:Nat)+1:=fun k hk=>by have:=(IR.out k hk).2;omega
        clear hw2 Nb1 Qb1 I3 io3 if3 nb1 qb1;unfold A1r;dsimp only[Qd.val];have io4:=I4.out.cell;have io4f:=I4.out.frozen;have iq4:=I4.q.cell;have nb3:=Nb3.cell;have qb3:=Qb3.cell;have qb3f:=Qb3.frozen;have g1:=Nb3.lt;have g2:=I4.out.lt;have g3:=I4.q.lt;have g4:(w:Nat)+1+1≠(wi:Nat)+1:=by have:=I4.lt;omega
        have g5:(wo:Nat)+1≠(wi:Nat)+1:=by omega
        have g6:(wo:Nat)+1≠(w:Nat)+1+1:=by have:=I4.lt;omega
        have g7:(wi:Nat)+1≠(w:Nat)+1+1:=by have:=I4.lt;omega
        have nb3a:=(Nb3.alloc (.cells #[(45:Int),t1,t2,t3,t4,t5,t6] 79)).cell;have qb3a:=(Qb3.alloc (.cells #[(45:Int),t1,t2,t3,t4,t5,t6] 79)).cell;have io4a:=(I4.out.alloc (.cells #[(45:Int),t1,t2,t3,t4,t5,t6] 79)).cell;have iq4a:=(I4.q.alloc (.cells #[(45:Int),t1,t2,t3,t4,t5,t6] 79)).cell;have I5:=(((((((I4.other ((wi:Nat)+1) (by omega) hul 0 (45:Int)).other ((wi:Nat)+1) (by omega) hul 1 t1).other ((wi:Nat)+1) (by omega) hul 2 t2).other ((wi:Nat)+1) (by omega) hul 3 t3).other ((wi:Nat)+1) (by omega) hul 4 t4).other ((wi:Nat)+1) (by omega) hul 5 t5).other ((wi:Nat)+1) (by omega) hul 6 t6);have I6:=I5.count ((Dy cs is C i:Int)+1);replace I6:=I6.below (Af (yA _ _) (.cells #[(45:Int),t1,t2,t3,t4,t5,t6] 79));clear I4 I5;go_wp2_with (at_builtin;refine A23 rfl _ _ rfl ((wo:Nat)+2) _ i ((Gl cs is C).take i) (⟨45,t1,t2,t3,t4,t5,t6⟩:Qd) _ rfl (I6.row.alloc _) rfl ?c1 (by omega) ?c3 ?_);case c1=>exact Blk.newAt _ _ (by simp)
        case c3=>simp;have:=I6.size;simp at this;omega
        intro v' w4 h1 h2 h3;have I8:=(I6.below (Af (yA _ _) _)).more h1 h2;have Pb:=(I6.below (Af (yA _ _) _)).qAfter h2;obtain⟨ao2,cap2,rfl⟩:=Aa h1;clear h1 h2 h3 I6 io4 io4f iq4 nb3 qb3 qb3f nb3a qb3a io4a iq4a Nb3 Qb3;have pb:=Pb.cell;have pbf:=Pb.frozen;go_wp2;go_roundw;case rel=>exact⟨i+1,_,by omega,by go_num,by rw[HF.out.1,HF.out.2];exact I8⟩
        case measure=>simp[intOf];omega
       ·have k45:(t0==45)=false:=by simpa using h45
        have HF:Hid ((Gl cs is C).take (i+1)=(Gl cs is C).take i++[(⟨t0,t1,t2,t3,t4,t5,t6⟩:Qd)]/\((Dy cs is C (i+1):Nat):Int)=(Dy cs is C i:Int)):=by have hqe:=hqT.out hbig (Dy cs is C i) _ HO.out;refine⟨by rw[HTK.out,hqe],?_⟩;rw[HCN.out,hqe];simp[h45]
        go_wp2_with fail;refine(HTW.out i _ _ w1 HIN.out (I3.belowW HP.out.below)).mono ?_;rw[HO.out];rintro e w2 ⟨rfl,hw2⟩;have I4:=I3.below hw2;have Nb3:=Nb1.l hw2;have Qb3:=Qb1.l hw2;have hwl:=Qb3.lt;have hul:∀k,u.ownBlock=some k->k≠(wi:Nat)+1:=fun k hk=>by have:=(IR.out k hk).2;omega
        clear hw2 Nb1 Qb1 I3 io3 if3 nb1 qb1;unfold A1r;dsimp only[Qd.val];have io4:=I4.out.cell;have io4f:=I4.out.frozen;have iq4:=I4.q.cell;have nb3:=Nb3.cell;have qb3:=Qb3.cell;have qb3f:=Qb3.frozen;have g1:=Nb3.lt;have g2:=I4.out.lt;have g3:=I4.q.lt;have g4:(w:Nat)+1+1≠(wi:Nat)+1:=by have:=I4.lt;omega
        have g5:(wo:Nat)+1≠(wi:Nat)+1:=by omega
        have g6:(wo:Nat)+1≠(w:Nat)+1+1:=by have:=I4.lt;omega
        have g7:(wi:Nat)+1≠(w:Nat)+1+1:=by have:=I4.lt;omega
        have nb3a:=(Nb3.alloc (.cells #[t0,t1,t2,t3,t4,t5,t6] 79)).cell;have qb3a:=(Qb3.alloc (.cells #[t0,t1,t2,t3,t4,t5,t6] 79)).cell;have io4a:=(I4.out.alloc (.cells #[t0,t1,t2,t3,t4,t5,t6] 79)).cell;have iq4a:=(I4.q.alloc (.cells #[t0,t1,t2,t3,t4,t5,t6] 79)).cell;have I5:=(((((((I4.other ((wi:Nat)+1) (by omega) hul 0 t0).other ((wi:Nat)+1) (by omega) hul 1 t1).other ((wi:Nat)+1) (by omega) hul 2 t2).other ((wi:Nat)+1) (by omega) hul 3 t3).other ((wi:Nat)+1) (by omega) hul 4 t4).other ((wi:Nat)+1) (by omega) hul 5 t5).other ((wi:Nat)+1) (by omega) hul 6 t6);have I6:=I5;replace I6:=I6.below (Af (yA _ _) (.cells #[t0,t1,t2,t3,t4,t5,t6] 79));clear I4 I5;go_wp2_with (at_builtin;refine A23 rfl _ _ rfl ((wo:Nat)+2) _ i ((Gl cs is C).take i) (⟨t0,t1,t2,t3,t4,t5,t6⟩:Qd) _ rfl (I6.row.alloc _) rfl ?c1 (by omega) ?c3 ?_);case c1=>exact Blk.newAt _ _ (by simp)
        case c3=>simp;have:=I6.size;simp at this;omega
        intro v' w4 h1 h2 h3;have I8:=(I6.below (Af (yA _ _) _)).more h1 h2;have Pb:=(I6.below (Af (yA _ _) _)).qAfter h2;obtain⟨ao2,cap2,rfl⟩:=Aa h1;clear h1 h2 h3 I6 io4 io4f iq4 nb3 qb3 qb3f nb3a qb3a io4a iq4a Nb3 Qb3;have pb:=Pb.cell;have pbf:=Pb.frozen;go_wp2;go_roundw;case rel=>exact⟨i+1,_,by omega,by go_num,by rw[HF.out.1,HF.out.2];exact I8⟩
        case measure=>simp[intOf];omega
    ·obtain⟨wi,hwi⟩:∃wi,wi=wr:=⟨_,rfl⟩;subst hwi;obtain rfl:i=is.length:=by omega
     have I2:Fs (w:Nat) (wo:Nat) wo wi #[nm,ln,pa,.bool re,rg,.slice uo us.length uc,.slice co cs.length cc,.slice io is.length ic,.slice no ms.length nc] (.slice vo k vc) u ((Dn ps (k+1):Nat):Int) is.length (Gl cs is C):=by have h1:(Gl cs is C).take is.length=Gl cs is C:=List.take_of_length_le (by rw[Qz];exact yB _);rw[h1]at I1;rw[HST.out];exact I1
     clear I1;obtain⟨uo2,uc2,rfl⟩:=Aa I2.row;have hrow:=Ct HP.out.row I2.keeps;have io4:=I2.out.cell;have iq4:=I2.q.cell;have g2:=I2.out.lt;have g3:=I2.q.lt;go_wp2_with (at_builtin;refine app_p rfl _ _ rfl ((w:Nat)+1+1+1) _ k hs uo2 is.length uc2 _ rfl (hrow.alloc _) rfl ?c1 (by omega) ?c3 ?_);case c1=>exact Blk.newAt _ _ (by simp)
     case c3=>simp;omega
     intro v' w4 h1 h2 h3;have P2:=Jl.more HP.out HPP.out (HCC.out▸I2) h1 h2 (by simpa using h3);have Ob:=Jl.outAfter HP.out I2 h2;obtain⟨ao2,cap2,rfl⟩:=Aa h1;clear h1 h2 h3 I2 hrow io4 iq4;have ob:=Ob.cell;have obf:=Ob.frozen;go_wp2;go_roundw;case rel=>exact⟨k+1,_,_,by omega,by go_num,P2⟩
     case measure=>simp[intOf];omega
  ·obtain rfl:k=ps.length:=by omega
   have rb:=P1.res.cell;have rbf:=P1.res.frozen;have ob:=P1.out.cell;have hd:=P1.done rfl;have hb:=P1.below;go_wp2_with fail;refine bodyPost_ret ?_ rfl ⟨vo,vc,rfl,?_,?_⟩
   ·simp[results,results39,go_sem,rb]
   ·refine I7.w (I7.l hd ?_) (by omega);iterate 2 (refine A7.setCell ?_ (by simp;try omega) _)
    exact A7.refl _ _
   ·iterate 2 (refine yP ?_ (by simp;try omega) _)
    exact hb
end Go.Proofs.YtjbbppblgjhapaaGreatDoor
