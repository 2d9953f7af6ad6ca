import Derived.Test.YtjbbppblgjhapaaGreatDoorJ11
set_option maxRecDepth 1000000
set_option maxHeartbeats 8000000
namespace Go.Proofs.YtjbbppblgjhapaaGreatDoor
open Go.Deep Go.Proofs.Tryz Go.RowKit
variable{c:Cf}{d m:List Bool}{gs:List Gd}{ps:List Pd}{xs:List Value}{N a b cap ccap g gb i k lo n r v x:Nat}{ao cao:Option Addr}{row:Option Nat}{o:Option St}{p:Pd}{h:Ph}{s t:St}{T:Tj}{vp:Value}{w w' wr wr':World}
theorem Tryz.info_bool:(prog.info? 4).map (fun i=>(i.zero,i.size,i.bytes))=some (some (.bool false),1,1):=by kernel_rfl
theorem J3 (w:World) (n:Nat):Blk (w.alloc (.cells (madeCells #[false] n) 4)) (w:Nat) (Cc (List.replicate n false)) 4:=by
 have h:madeCells #[false] n=Cc (List.replicate n false):=by apply Array.toList_inj.1;rw[toList_madeCells_one];simp[Cc]
 rw[h];exact Blk.new _ _ _
def A9y (ps:List Pd):Prop:=∀p∈ps,∀n∈p.ins,n.op=11->0<=n.b/\n.b<ps.length
def Gq (ps:List Pd):Int×Int×Int:=
 match J4 ps 0 ps (List.replicate ps.length false) with
 | (some (p,k),_)=>(6,p,k)
 | (none,m)=>if 0<=Cn false (m.set 0 true) 0 then (7,Cn false (m.set 0 true) 0,0) else (0,0,0)
def Jr (f:Int×Int×Int):Value:=.agg #[.int .i64 f.1,.int .i64 f.2.1,.int .i64 f.2.2]
theorem Tf{p:Nat} (h:J4 ps 0 ps (List.replicate ps.length false)=(some (p,k),m)):Gq ps=(6,(p:Int),(k:Int)):=by unfold Gq;rw[h]
theorem Tq (ao:Option Addr) (cap:Nat) (ps:List Pd) (w:World) (h1:1<=ps.length) (hm:ps.length<=1048576) (hz:∀p∈ps,Ie p) (hr:∀p∈ps,0<=p.regs/\p.regs<=250) (hfn:A9y ps) (hv:Ad 0 w ao ps) :
  Kw 100 #[.agg #[.slice ao ps.length cap]] w (Jr (Gq ps)):=by
 have hmk:=Bj 141 4 _ 1 1 underlying141 Tryz.info_bool .i64 .i64 ps.length (by omega) (by omega);simp only[Nat.mul_one]at hmk;have C0:=((Blk.new w #[.slice ao ps.length cap] 31).alloc (.cells #[(),(),()] 27)).alloc (.cells (madeCells #[false] ps.length) 4);have R0:=(Blk.new (w.alloc (.cells #[.slice ao ps.length cap] 31)) #[(),(),()] 27).alloc (.cells (madeCells #[false] ps.length) 4);have M0:=J3 ((w.alloc (.cells #[.slice ao ps.length cap] 31)).alloc (.cells #[(),(),()] 27)) ps.length;simp only[nblk_alloc]at R0 M0;have hb3:∀o1 o2 o3,Below w w (((w.alloc o1).alloc o2).alloc o3):=fun o1 o2 o3=>(((yA _ _).alloc (yB _) o1).alloc (by simp) o2).alloc (by simp;omega) o3;unfold Kw;go_in;go_wp2_with fail;clear hmk;go_loopw [16] (fun y wr=>∃(k:Nat) (m:List Bool),k<=ps.length/\y=k/\m.length=ps.length/\Hid (J4 ps k (ps.drop k) m=J4 ps 0 ps (List.replicate ps.length false))/\Below w w wr/\Blk wr (w:Nat) #[.slice ao ps.length cap] 31/\Blk wr ((w:Nat)+1) #[(),(),()] 27/\Blk wr ((w:Nat)+1+1) (Cc m) 4) (fun y _=>ps.length-(intOf y).toNat);case atStart=>exact⟨0,_,yE _,rfl,by simp,rfl,hb3 _ _ _,C0,R0,M0⟩
 case round=>
  obtain⟨k,m,hk,rfl,hml,HQ,hb,C1,R1,M1⟩:=hrel;clear C0 R0 M0;by_cases hkl:k<ps.length
  ·obtain⟨p,hpk⟩:=A8 hkl;have HD:Hid (J4 ps 0 ps (List.replicate ps.length false)=_):=HQ.out.symm.trans (Vr hpk m);obtain⟨b,off,e0,_,hbl,h,n0,pin⟩:=hv k p hpk;obtain⟨p0,p1,p2,p3,p4,p5,p6,p7,p8⟩:=n0.l hb hbl;subst e0;have hba:=fun o=>hb.alloc hb.size o;have C2:=C1.alloc (.cells #[p.name,p.line,p.params,.bool p.rest,p.regs,.slice h.uo p.ups.length h.uc,.slice h.co p.consts.length h.cc,.slice h.io p.ins.length h.ic,.slice h.no p.named.length h.nc] 77);have R2:=R1.alloc (.cells #[p.name,p.line,p.params,.bool p.rest,p.regs,.slice h.uo p.ups.length h.uc,.slice h.co p.consts.length h.cc,.slice h.io p.ins.length h.ic,.slice h.no p.named.length h.nc] 77);have M2:=M1.alloc (.cells #[p.name,p.line,p.params,.bool p.rest,p.regs,.slice h.uo p.ups.length h.uc,.slice h.co p.consts.length h.cc,.slice h.io p.ins.length h.ic,.slice h.no p.named.length h.nc] 77);have P2:=Blk.new wr #[p.name,p.line,p.params,.bool p.rest,p.regs,.slice h.uo p.ups.length h.uc,.slice h.co p.consts.length h.cc,.slice h.io p.ins.length h.ic,.slice h.no p.named.length h.nc] 77;have hins:=(hz p (yH hpk)).ins;have hPB1:=M1.lt;have Bw:=hba (.cells #[p.name,p.line,p.params,.bool p.rest,p.regs,.slice h.uo p.ups.length h.uc,.slice h.co p.consts.length h.cc,.slice h.io p.ins.length h.ic,.slice h.no p.named.length h.nc] 77);clear C1 R1 M1 HQ hba;have HM:Hid _:=hml;clear hml;go_wp2_with fail;clear p0 p1 p2 p3 p4 p5 p6 p7 p8 hb;generalize hPB:(wr:Nat)=PB at *;clear hPB;go_loopw [24] (fun y wi=>∃(j:Nat) (m':List Bool),j<=p.ins.length/\y=j/\Hid (m'.length=ps.length)/\Hid (Eg ps k p j (p.ins.drop j) m'=Eg ps k p 0 p.ins m)/\Below w w wi/\Blk wi (w:Nat) #[.slice (some ⟨b,off,none⟩) ps.length cap] 31/\Blk wi ((w:Nat)+1) #[(),(),()] 27/\Blk wi ((w:Nat)+1+1) (Cc m') 4/\Blk wi PB #[p.name,p.line,p.params,.bool p.rest,p.regs,.slice h.uo p.ups.length h.uc,.slice h.co p.consts.length h.cc,.slice h.io p.ins.length h.ic,.slice h.no p.named.length h.nc] 77) (fun y _=>p.ins.length-(intOf y).toNat);case atStart=>exact⟨0,m,yE _,rfl,HM,rfl,Bw,C2,R2,M2,P2⟩
   case round=>
    obtain⟨j,m',hj,rfl,HM',HQ',hb',C3,R3,M3,P3⟩:=hrel;clear C2 R2 M2 P2 Bw;by_cases hjl:j<p.ins.length
    ·obtain⟨n,hnj⟩:=A8 hjl;obtain⟨b',off',e',_,hbl',q0,q1,q2,q3,q4⟩:=pin.ins.l (A7.o hb') j n hnj;have HE:Hid (Eg ps k p 0 p.ins m=_):=HQ'.out.symm.trans (Vs hnj m');have hba:=fun o=>hb'.alloc hb'.size o;have CA:Hid (∀o,Blk (wr.alloc o) (w:Nat) _ _):=fun o=>C3.alloc o;have RA:Hid (∀o,Blk (wr.alloc o) ((w:Nat)+1) _ _):=fun o=>R3.alloc o;have MA:Hid (∀o,Blk (wr.alloc o) ((w:Nat)+1+1) _ _):=fun o=>M3.alloc o;have PA:Hid (∀o,Blk (wr.alloc o) PB _ _):=fun o=>P3.alloc o;have hio:=e';by_cases hop:n.op=11
     ·obtain⟨hn1,hn2⟩:=hfn p (yH hpk) n (yH hnj) hop;obtain⟨op,a1,b1,c1,d1⟩:=n;dsimp only at *;subst hop;obtain⟨bN,rfl⟩:=yN hn1;obtain⟨q,hq⟩:=A8 (l:=ps) (k:=bN) (by omega);obtain⟨b2,off2,e2,_,_,h2,m0,pin2⟩:=hv bN q hq;obtain⟨rfl,rfl⟩:b=b2/\off=off2:=by simpa using e2
      obtain⟨_,_,_,_,_,s5,_⟩:=m0.l hb' hbl;have hs5:=fun o=>by
       have h9:=m0.l (hba o) hbl;exact h9.2.2.2.2.2.1
      have hmb:bN<m'.length:=by rw[HM'.out];omega
      have HFn:Hid (Kr ps k p m' ⟨11,a1,bN,c1,d1⟩=(decide ((bN:Int)<=k)||(m'.getD bN false||!Mm p q.ups))):=by show _=_;unfold Kr;simp[hq]
      have HE2:Hid (Eg ps k p 0 p.ins m=if Kr ps k p m' ⟨11,a1,bN,c1,d1⟩ then (some j,m') else Eg ps k p (j+1) (p.ins.drop (j+1)) (m'.set bN true)):=by show _=_;rw[HE.out];rfl
      have hz1:=hz p (yH hpk);have hzq:=hz q (yH hq);have hr1:=hr p (yH hpk);have cM:=fun o=>((MA.out o).cell bN).trans (Bo hmb);have cC:=fun o=>(CA.out o).cell 0;have cP:=fun o=>(PA.out o).cell;have hups:=fun o=>pin2.ups.l (A7.o (hba o));clear HE HQ' C3 R3 M3 P3 pin pin2 n0 m0 e' e2 s5 hv hfn hz hr hnj hpk;generalize hmbv:m'.getD bN false=mb at *;obtain⟨uo,uc,co,cc,io,ic,no,nc⟩:=h;dsimp only at *;subst hio;have HU:Hid _:=hups;clear hups hmbv;have hfault:Kr ps k p m' ⟨11,a1,bN,c1,d1⟩=true->Gq ps=(6,(k:Int),(j:Int)):=by intro hbad;refine Tf (m:=m') ?_;rw[HD.out,HE2.out,if_pos hbad]
      have HFa:Hid _:=hfault;clear hfault;have cR:=fun o=>(RA.out o).cell;have fR:=fun o=>(RA.out o).frozen;have hno:(11:Int)=11:=rfl;clear hno;by_cases g1:(bN:Int)<=k
      ·have HV:Hid _:=HFa.out (by rw[HFn.out,decide_eq_true g1];rfl);clear HFa HFn;go_wp2_with fail;go_quiet (fail);go_wp2_with fail;refine bodyPost_ret (v:=.agg #[(6:Int),k,j]) ?_ rfl ⟨?_,?_⟩
       ·simp[results,results100,go_sem,cR]
       ·rw[HV.out];rfl
       ·iterate 3 (refine yP ?_ (by simp;try omega) _)
        exact below_drewN (hba _) _
      ·have g1':=decide_eq_false g1;have gn:decide (bN<=k)=false:=decide_eq_false (by omega);have gl:k<bN:=by omega
       have gi:(k:Int)<bN:=by omega
       clear g1;cases mb
       rotate_left
       ·have HV:Hid _:=HFa.out (by rw[HFn.out,g1'];rfl);clear HFa HFn;go_wp2_with fail;go_quiet (fail);go_wp2_with fail;refine bodyPost_ret (v:=.agg #[(6:Int),k,j]) ?_ rfl ⟨?_,?_⟩
        ·simp[results,results100,go_sem,cR]
        ·rw[HV.out];rfl
        ·iterate 3 (refine yP ?_ (by simp;try omega) _)
         exact below_drewN (hba _) _
       ·have HFn2:Hid (Kr ps k p m' ⟨11,a1,bN,c1,d1⟩ = !Mm p q.ups):=by show _=_;rw[HFn.out,g1'];rfl
        clear HFn;have N4:=Blk.new wr #[(11:Int),a1,bN,c1,d1] 81;have M4:=MA.out (.cells #[(11:Int),a1,bN,c1,d1] 81);have C4:=CA.out (.cells #[(11:Int),a1,bN,c1,d1] 81);have P4:=PA.out (.cells #[(11:Int),a1,bN,c1,d1] 81);have R4:=RA.out (.cells #[(11:Int),a1,bN,c1,d1] 81);have B4:=hba (.cells #[(11:Int),a1,bN,c1,d1] 81);have s4:=hs5 (.cells #[(11:Int),a1,bN,c1,d1] 81);have cm4:=cM (.cells #[(11:Int),a1,bN,c1,d1] 81);have U4:Hid (Je 0 (wr.alloc (.cells #[(11:Int),a1,bN,c1,d1] 81)).drew h2.uo q.ups):=(HU.out (.cells #[(11:Int),a1,bN,c1,d1] 81)).l (A7.o (yA _ _).drew);have D4:Below (wr.alloc (.cells #[(11:Int),a1,bN,c1,d1] 81)).heap.size (wr.alloc (.cells #[(11:Int),a1,bN,c1,d1] 81)) (wr.alloc (.cells #[(11:Int),a1,bN,c1,d1] 81)).drew:=(yA _ _).drew;have hb4:b<(wr.alloc (.cells #[(11:Int),a1,bN,c1,d1] 81)).drew.heap.size:=yF hbl B4.size;go_wp2_with fail;go_region_held3 (fun w'=>w'.cell? ((wr:Nat),2)=some (bN:Value)/\w'.cell? ((w:Nat)+1+1,bN)=some (.bool false)/\w'.cell? ((w:Nat),0)=some (.slice (some ⟨b,off,none⟩) ps.length cap)/\w'.cell? (b,off+bN*9+5)=some (.slice h2.uo q.ups.length h2.uc)/\w'.cell? (PB,0)=some (.string p.name)/\w'.cell? (PB,1)=some (p.line:Value)/\w'.cell? (PB,2)=some (p.params:Value)/\w'.cell? (PB,3)=some (.bool p.rest)/\w'.cell? (PB,4)=some (p.regs:Value)/\w'.cell? (PB,5)=some (.slice uo p.ups.length uc)/\w'.cell? (PB,6)=some (.slice co p.consts.length cc)/\w'.cell? (PB,7)=some (.slice (some ⟨b',off',none⟩) p.ins.length ic)/\w'.cell? (PB,8)=some (.slice no p.named.length nc)) (first|(go_keep;done)|(simp +arith [*,yG];done))
         (first|(go_at_call 179;refine(A6p p ⟨uo,uc,co,cc,some ⟨b',off',none⟩,ic,no,nc⟩ h2.uo h2.uc q.ups (wr.alloc (.cells #[(11:Int),a1,bN,c1,d1] 81)).drew hzq.ups hz1 hr1 U4.out).mono ?_;rintro e w1 ⟨rfl,hw1⟩;have u0:=((N4.l D4).l hw1).cell 2;have u1:=(hw1.cell (p:=((w:Nat)+1+1,bN)) (M4.l D4).lt).trans cm4;have u2:=((C4.l D4).l hw1).cell 0;have u3:=(hw1.cell (p:=(b,off+bN*9+5)) hb4).trans s4;have up:=((P4.l D4).l hw1).cell))
        have B5:=B4.drew.trans (hw1.mono B4.size);have M5:=(M4.l D4).l hw1;have C5:=(C4.l D4).l hw1;have P5:=(P4.l D4).l hw1;have R5:=(R4.l D4).l hw1;have N5:=(N4.l D4).l hw1;clear u0 u1 u2 u3 up N4 M4 C4 P4 R4 B4 s4 cm4 U4 hb4 D4 hw1 cM cC cP cR fR hs5 hba;generalize Mm p q.ups=ub at *;cases ub
        ·have HV:Hid _:=HFa.out (by rw[HFn2.out];rfl);clear HFa HFn2;have cR:=R5.cell;have fR:=R5.frozen;go_wp2_with fail;refine bodyPost_ret (v:=.agg #[(6:Int),k,j]) ?_ rfl ⟨?_,?_⟩
         ·simp[results,results100,go_sem,cR]
         ·rw[HV.out];rfl
         ·iterate 3 (refine yP ?_ (by simp;try omega) _)
          exact B5
        ·have HE3:Hid (Eg ps k p 0 p.ins m=Eg ps k p (j+1) (p.ins.drop (j+1)) (m'.set bN true)):=by show _=_;rw[HE2.out,HFn2.out];rfl
         clear HFa HFn2 HE2;have n5:=N5.cell;have m5:=(M5.cell bN).trans (Bo hmb);have f5:=M5.frozen;have Q1:=B5.setCell (p:=((w:Nat)+1+1,bN)) (by show (w:Nat)<=(w:Nat)+1+1;omega) (true);have Q2:=C5.setOther (p:=((w:Nat)+1+1,bN)) (by show (w:Nat)≠(w:Nat)+1+1;omega) (true);have Q3:=R5.setOther (p:=((w:Nat)+1+1,bN)) (by show (w:Nat)+1≠(w:Nat)+1+1;omega) (true);have Q4:=M5.set bN (true);rw[E8]at Q4;have Q5:=P5.setOther (p:=((w:Nat)+1+1,bN)) (by show PB≠(w:Nat)+1+1;omega) (true);have HL:Hid ((m'.set bN true).length=ps.length):=by show _=_;rw[List.length_set];exact HM'.out
         clear N5 M5 C5 R5 P5 B5;go_wp2;go_roundw;case rel=>exact⟨j+1,m'.set bN true,by omega,by go_num,HL,HE3.out.symm,Q1,Q2,Q3,Q4,Q5⟩
         case measure=>simp[intOf];omega
     ·have ho:(n.op !=11)=true:=by simpa using hop
      have HE2:Hid (Eg ps k p 0 p.ins m=Eg ps k p (j+1) (p.ins.drop (j+1)) m'):=by show _=_;rw[HE.out,if_neg (by simpa using hop)]
      clear HE hop;clear C3 R3 M3 P3 pin n0 e';obtain⟨uo,uc,co,cc,io,ic,no,nc⟩:=h;dsimp only at *;subst hio;go_wp2;go_roundw;case rel=>exact⟨j+1,m',by omega,by go_num,HM',HE2.out.symm,hba _,CA.out _,RA.out _,MA.out _,PA.out _⟩
      case measure=>simp[intOf];omega
    ·have HI:Hid (Eg ps k p 0 p.ins m=(none,m')):=by have h1:=HQ'.out;rw[yQ (by omega)]at h1;exact h1.symm
     go_wp2;go_roundw;case rel=>exact⟨k+1,m',by omega,by go_num,HM'.out,by show _=_;rw[HD.out,HI.out],hb',C3,R3,M3⟩
     case measure=>simp[intOf];omega
  ·have HN:Hid (J4 ps 0 ps (List.replicate ps.length false)=(none,m)):=by have h2:=HQ.out;rw[yQ (by omega)]at h2;exact h2.symm
   have HV:Hid (Gq ps=if 0<=Cn false (m.set 0 true) 0 then (7,Cn false (m.set 0 true) 0,0) else (0,0,0)):=by show _=_;unfold Gq;rw[HN.out]
   have m1:=(M1.cell 0).trans (Bo (by omega));have f1:=M1.frozen;have c1:=R1.cell;have g1:=R1.frozen;have i0:(0:Int)<ps.length:=by omega
   have M2:=M1.set 0 (true);rw[E8]at M2;have R2:=R1.setOther (p:=((w:Nat)+1+1,0)) (by show (w:Nat)+1≠(w:Nat)+1+1;omega) (true);have B2:=hb.setCell (p:=((w:Nat)+1+1,0)) (by show (w:Nat)<=(w:Nat)+1+1;omega) (true);clear HQ HN hv hz hr hfn C1 hb;have hml2:(m.set 0 true).length=ps.length:=by rw[List.length_set];exact hml
   have HX:Hid (∀(c:Nat) (w:World),Blk w ((w:Nat)+1+1) (Cc (m.set 0 true)) 4->True):=fun _ _ _=>trivial;clear HX;have hidx:=fun (W:World) (hB:Blk W ((w:Nat)+1+1) (Cc (m.set 0 true)) 4)=>Xp ((w:Nat)+1+1) ps.length (m.set 0 true) false W (by omega) hB;rw[hml2]at hidx;have HI:Hid _:=hidx;clear hidx hml2 hml;go_wp2_with fail;refine(HI.out _ M2).mono ?_;rintro e w1 ⟨rfl,hw1⟩;have B3:=B2.trans (hw1.mono B2.size);have R3:=R2.l hw1;have c3:=R3.cell;have g3:=R3.frozen;clear m1 f1 c1 g1 M1 M2 R1 R2 B2 hw1;generalize Cn false (m.set 0 true) 0=ix at *;by_cases hx:0<=ix
   ·go_wp2_with fail;refine bodyPost_ret (v:=.agg #[(7:Int),ix,()]) ?_ rfl ⟨?_,?_⟩
    ·simp[results,results100,go_sem,c3]
    ·rw[HV.out,if_pos hx];rfl
    ·iterate 3 (refine yP ?_ (by simp;try omega) _)
     exact B3
   ·go_wp2_with fail;refine bodyPost_ret (v:=.agg #[(),(),()]) ?_ rfl ⟨?_,?_⟩
    ·simp[results,results100,go_sem,c3]
    ·rw[HV.out,if_neg (by omega)];rfl
    ·iterate 3 (refine yP ?_ (by simp;try omega) _)
     exact B3
structure Iw (w:World) (cao:Option Addr) (ccap:Nat) (ps:List Pd) (p:Pd) (h:Ph) (wr:World) (c:Cf):Prop where
 code:Blk wr w #[.slice cao ps.length ccap] 31
 flt:Blk wr ((w:Nat)+1) #[(),(),()] 27
 proto:Blk wr ((w:Nat)+1+1) (p.cells h) 77
 sts:Jn ((w:Nat)+1+1+1+1+1) wr ((w:Nat)+1+1+1) c.sts
 due:Blk wr ((w:Nat)+1+1+1+1) (Cc c.due) 4
 below:Below w w wr
theorem Iw.l (x:Iw w cao ccap ps p h wr c) (hb:Below wr wr wr'):Iw w cao ccap ps p h wr' c:=
 ⟨x.code.l hb,x.flt.l hb,x.proto.l hb,x.sts.below hb,x.due.l hb,x.below.trans (hb.mono x.below.size)⟩
theorem Iw.lt (x:Iw w cao ccap ps p h wr c):(w:Nat)+1+1+1+1<(wr:Nat):=x.due.lt
theorem Iw.grown{w1:World} (x:Iw w cao ccap ps p h wr c) (hb:Below wr wr w1) (hg:w1.grownBy wr' row) (hr:∀k,row=some k->(wr:Nat)<=k):Iw w cao ccap ps p h wr' c:=
 x.l (hb.grown hg hb.size hr)
theorem Kg{sb:Nat} (h:∀lo,Jn lo w sb (List.replicate n none)) (hb:w'.heap[sb]?=w.heap[sb]?):∀lo,Jn lo w' sb (List.replicate n none):=by
 intro lo;refine⟨(h lo).own.of_block hb,?_⟩;intro j o hj;obtain⟨to,tc,go,gc,h1,h2,h3,_,_⟩:=(h lo).at_ j o hj;have hc:∀i,w'.cell? ⟨sb,i,none⟩=w.cell? ⟨sb,i,none⟩:=fun i=>yX (w:=w) (a:=⟨sb,i,none⟩) hb;have ho:o=none:=by rw[List.getElem?_replicate]at hj;split at hj<;>simp at hj;exact hj.symm
 subst ho;exact⟨to,tc,go,gc,(hc _).trans h1,(hc _).trans h2,(hc _).trans h3,fun i x hx=>by simp[stT]at hx,fun i x hx=>by simp[stG]at hx⟩
theorem Ach{X X3:World} (hN:0<p.ins.length) (C5:Blk X w #[.slice cao ps.length ccap] 31) (F5:Blk X ((w:Nat)+1) #[(),(),()] 27) (P5:Blk X ((w:Nat)+1+1) (p.cells h) 77)
  (D5:Blk X ((w:Nat)+1+1+1+1) (Cc (List.replicate p.ins.length false)) 4) (B5:Below w w X) (S6:Jn ((w:Nat)+1+1+1+1+1) X3 ((w:Nat)+1+1+1) ((List.replicate p.ins.length none).set 0 (some ⟨Dz p,[]⟩)))
  (hX:∀k,k≠(w:Nat)+1+1+1->X3.heap[k]?=X.heap[k]?) (hB:Below w w X3):Iw w cao ccap ps p h (X3.setCell ((w:Nat)+1+1+1+1,0) (true)) (Dc p):=by
 have hb:∀k,k≠(w:Nat)+1+1+1+1->(X3.setCell ((w:Nat)+1+1+1+1,0) (true)).heap[k]?=X3.heap[k]?:=fun k hk=>yL _ _ _ _ hk;have _:=B5;have _:=hN;refine⟨(hb _ (by omega)).trans ((hX _ (by omega)).trans C5),(hb _ (by omega)).trans ((hX _ (by omega)).trans F5),(hb _ (by omega)).trans ((hX _ (by omega)).trans P5),?_,?_,hB.setCell (by dsimp only;omega) _⟩
 ·exact S6.l ((A7.refl _ _).setCell (by dsimp only;omega) _) (hb _ (by omega))
 ·have h1:Blk X3 ((w:Nat)+1+1+1+1) (Cc (List.replicate p.ins.length false)) 4:=(hX _ (by omega)).trans D5;have h2:=h1.set 0 (true);rw[E8]at h2;exact h2
theorem M7 (h:∀j,j<d.length->d.getD j false=false):Dh d=none:=by unfold Dh;rw[List.findIdx?_eq_none_iff];intro b hb;obtain⟨j,hj⟩:=List.getElem?_of_mem hb;have hl:=(yD.1 hj).1;have:=h j hl;rw[yR,hj]at this;simpa using this
theorem Td (h:∀j,j<a->d.getD j false=false) (ha:d.getD a false=true):Dh d=some a:=by
 have hl:a<d.length:=by refine Classical.byContradiction fun hn=>?_;rw[yR,List.getElem?_eq_none (by omega)]at ha;cases ha
 unfold Dh;rw[List.findIdx?_eq_some_iff_getElem];refine⟨hl,by simpa[List.getD_eq_getElem?_getD,hl]using ha,?_⟩;intro j hj;have:=h j hj;simpa[List.getD_eq_getElem?_getD,show j<d.length by omega]using this
theorem A4u (hg:0<g) (h:Dh c.due=none):Gu ps p g c=.ok c:=by obtain⟨f,rfl⟩:∃f,g=f+1:=⟨g-1,by omega⟩;unfold Gu;rw[h]
theorem A4t {e:Nat×Nat} (hg:0<g) (h:Dh c.due=some a) (hr:He ps p c a=.error e):Gu ps p g c=.error e:=by obtain⟨f,rfl⟩:∃f,g=f+1:=⟨g-1,by omega⟩;unfold Gu;rw[h];dsimp only;rw[hr]
theorem A7y{c':Cf} (hg:0<g) (h:Dh c.due=some a) (hr:He ps p c a=.ok c'):Gu ps p g c=Gu ps p (g-1) c':=by
 obtain⟨f,rfl⟩:∃f,g=f+1:=⟨g-1,by omega⟩;rw[Nat.add_sub_cancel]
 conv=>lhs;unfold Gu
 rw[h];dsimp only;rw[hr]
theorem Ac2 (h:c.sts[i]?=some o):c.st i=o:=by unfold Cf.st;rw[yR,h];rfl
theorem Abm {t:TypeId} (x:Blk w b (p.cells h) t):w.cell? (b,0)=some (.string p.name)/\w.cell? (b,1)=some (p.line:Value)/\w.cell? (b,2)=some (p.params:Value)/\w.cell? (b,3)=some (.bool p.rest)/\w.cell? (b,4)=some (p.regs:Value)/\
  w.cell? (b,5)=some (.slice h.uo p.ups.length h.uc)/\w.cell? (b,6)=some (.slice h.co p.consts.length h.cc)/\w.cell? (b,7)=some (.slice h.io p.ins.length h.ic)/\w.cell? (b,8)=some (.slice h.no p.named.length h.nc):=
 ⟨x.cell 0,x.cell 1,x.cell 2,x.cell 3,x.cell 4,x.cell 5,x.cell 6,x.cell 7,x.cell 8⟩
theorem Iw.setDue (x:Iw w cao ccap ps p h wr c) (b:Bool):Iw w cao ccap ps p h (wr.setCell ((w:Nat)+1+1+1+1,a) (.bool b)) ⟨c.sts,c.due.set a b⟩:=by have hb:∀k,k≠(w:Nat)+1+1+1+1->(wr.setCell ((w:Nat)+1+1+1+1,a) (.bool b)).heap[k]?=wr.heap[k]?:=fun k hk=>yL _ _ _ _ hk;have h2:=x.due.set a (.bool b);rw[E8]at h2;exact⟨(hb _ (by omega)).trans x.code,(hb _ (by omega)).trans x.flt,(hb _ (by omega)).trans x.proto,x.sts.l ((A7.refl _ _).setCell (by dsimp only;omega) _) (hb _ (by omega)),h2,x.below.setCell (by dsimp only;omega) _⟩
theorem A2y {a b:World} (h:a.grownBy b row) (hr:∀k,row=some k->k<lo):A7 lo a b:=
 ⟨h.size,fun k hk hs=>h.block k hs (fun e=>by have:=hr k e.symm;omega)⟩
theorem Aap (n:Nd) (a:Nat) (s:St) (ts:List Int) (gs:List Gd):(Fg n a s ts gs).length<=2:=by
 unfold Fg goF;rw[List.length_append];have h1:(if Ex n then [(a+1,(⟨ts,gs⟩:St))] else []).length<=1:=by split<;>simp
 have h2:(if n.op=19 then [(n.a.toNat,(⟨ts,gs⟩:St))] else if n.op=20∨n.op=21∨n.op=38∨n.op=39 then [(n.b.toNat,⟨ts,gs⟩)] else if n.op=41 then [(n.b.toNat,⟨ts.set n.c.toNat (Ca s.types n.c),gs⟩)] else if n.op=31 then [(n.a.toNat,⟨Px n.b s.types,s.guards⟩)] else []).length<=1:=by repeat (first|split|simp)
 omega
def Gt:List Nat->Code->Code
 | [],c=>c
 | 0::p,.seq a _=>Gt p a
 | 1::p,.seq _ b=>Gt p b
 | 0::p,.cond _ a _=>Gt p a
 | 1::p,.cond _ _ b=>Gt p b
 | 0::p,.loop c=>Gt p c
 | 0::p,.block _ c=>Gt p c
 | _,_=>.skip
noncomputable def Adf:Code:=Gt [1,1,1,1,1,1,1,1,1,0,0,0,1,1,0,1,0,0,1,0] (Tryz.f34.body.getD .skip)
noncomputable def Adg:Code:=Gt [1,1,1,1,1,1,1,1,1,0,0] (Tryz.f34.body.getD .skip)
noncomputable def Aem:Code:=Gt [1,1,1,1,1,1,1,1,1,0,0,0,1,1,1] (Tryz.f34.body.getD .skip)
noncomputable def Ael:Code:=Gt [1,1,1,1,1,1,1,1,1,0,0,0,1,1,1,1,1,1,1,1,1,1,1,1,1,0] (Tryz.f34.body.getD .skip)
def Jo (w:World) (ps:List Pd) (p:Pd) (pi:Nat) (e:Ending) (w':World):Prop:=(∃v,e=.returned (.tuple #[v,Jr (Hw ps p pi)]))/\Below w w w'
theorem Iw.put (x:Iw w cao ccap ps p h wr c) (hk:k<c.sts.length) {to go:Option Addr} {tc gc:Nat} (ht:Bl ((w:Nat)+1+1+1+1+1) wr to s.types) (hg:Bn ((w:Nat)+1+1+1+1+1) wr go s.guards) :
  Iw w cao ccap ps p h (((wr.setCell ⟨w.heap.size+1+1+1,k*3,none⟩ (.bool true)).setCell ⟨w.heap.size+1+1+1,k*3+1,none⟩ (.slice to s.types.length tc)).setCell ⟨w.heap.size+1+1+1,k*3+2,none⟩ (.slice go s.guards.length gc)) ⟨c.sts.set k (some s),c.due⟩:=by
 have hb:∀j,j≠w.heap.size+1+1+1->(((wr.setCell ⟨w.heap.size+1+1+1,k*3,none⟩ (.bool true)).setCell ⟨w.heap.size+1+1+1,k*3+1,none⟩ (.slice to s.types.length tc)).setCell ⟨w.heap.size+1+1+1,k*3+2,none⟩ (.slice go s.guards.length gc)).heap[j]?=wr.heap[j]?:=fun j hj=>by
  rw[yL _ _ _ _ hj,yL _ _ _ _ hj,yL _ _ _ _ hj]
 exact⟨(hb _ (by omega)).trans x.code,(hb _ (by omega)).trans x.flt,(hb _ (by omega)).trans x.proto,x.sts.put hk (by omega) ht hg,(hb _ (by omega)).trans x.due,((x.below.setCell (by dsimp only;omega) _).setCell (by dsimp only;omega) _).setCell (by dsimp only;omega) _⟩
theorem Kt {r:List (Nat×St)} : Al c ((x,s)::r)=match Cu c x s with|none=>.error (13,x)|some c'=>Al c' r:=rfl
theorem Aaq {fl:List (Nat×St)}{j:Nat} (h:fl[j]?=some (x,s)):fl.drop j=(x,s)::fl.drop (j+1):=by obtain⟨hl,he⟩:=yD.1 h;rw[List.drop_eq_getElem_cons hl,he]
theorem Sc (h:c.st x=none):Cu c x s=some ⟨c.sts.set x (some s),c.due.set x true⟩:=by unfold Cu;rw[h]
theorem Z9 (h:c.st x=some t):Cu c x s=if t=s then some c else none:=by unfold Cu;rw[h]
theorem A7r : (decide (t.types=s.types)&&decide (t.guards=s.guards))=decide (t=s):=by obtain⟨a,b⟩:=t;obtain⟨a2,b2⟩:=s;rw[Bool.eq_iff_iff];simp
theorem Yv (w:World) (n:Nat) (hn:n<=maxLen):(w.alloc (.cells (madeCells #[()] n) 3)).ownsRow (w:Nat) 3 1 (.slice (w:Nat) n n) n (Az (List.replicate n 0)):=by have h:=World.ownsRow_lit (base:=(w:Nat)) (e:=3) (size:=1) w (madeCells #[()] n) n (yB _) hn (by rw[size_madeCells];omega);rw[toList_madeCells_one]at h;simpa[Az]using h
def Ff (p:Pd) (r:Nat):List Int:=List.replicate r 1++List.replicate (p.regs.toNat-r) 0
theorem Ux (h:r<p.regs.toNat):(Ff p r).set r 1=Ff p (r+1):=by unfold Ff;rw[List.set_append_right _ _ (by simp),show p.regs.toNat-r=(p.regs.toNat-(r+1))+1 by omega,List.replicate_succ (n:=p.regs.toNat-(r+1))];simp only[List.length_replicate,Nat.sub_self,yJ];rw[List.replicate_succ',List.append_assoc];rfl
theorem Lu (h:r<=p.regs.toNat):(Ff p r).length=p.regs.toNat:=by unfold Ff;simp;omega
theorem Uy (p:Pd) (h:Ph) (np:Nat) (w:World) (hp:Oz np p) :
  Calls prog 102 #[.agg (p.cells h)] w fun e w'=>∃v,e=.returned v/\w'.ownsRow (w:Nat) 3 1 v (Dz p).length (Az (Dz p))/\Below w w w':=by
 have hrg:=hp.regs;have hpa:=hp.params;have HP:Hid _:=hp;obtain⟨rg,hrgN⟩:=yN hrg.1;obtain⟨pa,hpaN⟩:=yN hpa.1;have hmi:=Bj 99 3 _ 1 8 underlying99 Tryz.info_int .i64 .i64 rg (by omega) (by omega);simp only[Nat.mul_one]at hmi;rw[←hrgN]at hmi;have HPA:Hid _:=hpaN;have HRG:Hid _:=hrgN;have T1:=Yv (w.alloc (.cells #[p.name,p.line,p.params,.bool p.rest,p.regs,.slice h.uo p.ups.length h.uc,.slice h.co p.consts.length h.cc,.slice h.io p.ins.length h.ic,.slice h.no p.named.length h.nc] 77)) rg (by unfold maxLen;omega);have P1:=(Blk.new w #[p.name,p.line,p.params,.bool p.rest,p.regs,.slice h.uo p.ups.length h.uc,.slice h.co p.consts.length h.cc,.slice h.io p.ins.length h.ic,.slice h.no p.named.length h.nc] 77).alloc (.cells (madeCells #[()] rg) 3);have B1:Below w w ((w.alloc (.cells #[p.name,p.line,p.params,.bool p.rest,p.regs,.slice h.uo p.ups.length h.uc,.slice h.co p.consts.length h.cc,.slice h.io p.ins.length h.ic,.slice h.no p.named.length h.nc] 77)).alloc (.cells (madeCells #[()] rg) 3)):=((yA _ _).alloc (yB _) _).alloc (by simp) _;simp only[nblk_alloc]at T1;have hT0:Az (List.replicate rg 0)=Az (Ff p 0):=by unfold Ff;rw[hrgN];simp
 rw[hT0]at T1;clear hT0 hp hpaN hrgN;unfold Pd.cells;go_in;go_wp2_with fail;clear hmi;generalize (w.alloc (.cells #[p.name,p.line,p.params,.bool p.rest,p.regs,.slice h.uo p.ups.length h.uc,.slice h.co p.consts.length h.cc,.slice h.io p.ins.length h.ic,.slice h.no p.named.length h.nc] 77)).alloc (.cells (madeCells #[()] rg) 3)=w1 at *;go_loopw [10] (fun y wr=>∃r:Nat,y=r/\r<=pa/\wr.ownsRow ((w:Nat)+1) 3 1 (.slice (some ⟨(w:Nat)+1,0,none⟩) rg rg) rg (Az (Ff p r))/\Blk wr (w:Nat) #[p.name,p.line,p.params,.bool p.rest,p.regs,.slice h.uo p.ups.length h.uc,.slice h.co p.consts.length h.cc,.slice h.io p.ins.length h.ic,.slice h.no p.named.length h.nc] 77/\Below w w wr) (fun y _=>pa-(intOf y).toNat);case atStart=>exact⟨0,rfl,yE _,T1,P1,B1⟩
 case round=>
  obtain⟨r,rfl,hr,T2,P2,B2⟩:=hrel;clear T1 P1 B1;have hrr:pa<=rg:=by have:=HPA.out;have:=HRG.out;omega
  have hrN:p.regs.toNat=rg:=by have:=HRG.out;omega
  by_cases hrp:r<pa
  ·have t2:=(T2.cellAt r (by omega)).trans (Co (by rw[Lu (by omega)];omega));have f2:=T2.frozenAt r;have T3:=(T2.stored r (1:Int)).1;rw[Dx,Ux (by omega)]at T3;have k2:(r:Int)<p.params:=by have:=HPA.out;omega
   have k3:(r:Int)<rg:=by omega
   have P3:=P2.setOther (p:=((w:Nat)+1,r)) (by dsimp only;omega) (1:Int);have B3:=B2.setCell (p:=((w:Nat)+1,r)) (by dsimp only;omega) (1:Int);clear hrN;go_wp2;go_roundw;case rel=>exact⟨r+1,by go_num,by omega,T3,P3,B3⟩
   case measure=>simp[intOf];omega
  ·obtain rfl:r=pa:=by omega
   have k2:¬(r:Int)<p.params:=by have:=HPA.out;omega
   have hlen:(Dz p).length=rg:=by have:=Pi HP.out;have:=HRG.out;omega
   have HLEN:Hid _:=hlen;have hpr:=HPA.out;have hwk:∀{W:World} {v:Value} {n:Nat} {xs:List Value},W.ownsRow ((w:Nat)+1) 3 1 v n xs->W.ownsRow (w:Nat) 3 1 v n xs:=by
    rintro W v n xs ⟨r1,r2|⟨g',c',cur,r3,r4,r5⟩⟩
    ·exact⟨r1,.inl r2⟩
    ·exact⟨r1,.inr ⟨g',c',cur,r3,by omega,r5⟩⟩
   have HWK:Hid _:=@hwk;clear hwk;cases hre:p.rest
   ·have hft:Ff p r=Dz p:=by unfold Dz Ff;rw[hre,hpr];simp
    have P3:=P2;rw[hre]at P3;have p3:=P3.cell;rw[hft]at T2;clear hft hlen hpr hrN hre;go_wp2;go_ret;exact⟨_,rfl,by rw[HLEN.out];exact HWK.out T2,B2⟩
   ·have hrl:r<rg:=by have:=hpa.2.2 hre;have:=HRG.out;omega
    have k6:(r:Int)<rg:=by omega
    have t2:=(T2.cellAt r (by omega)).trans (Co (by rw[Lu (by omega)];omega));have f2:=T2.frozenAt r;have T5:=(T2.stored r (3:Int)).1;rw[Dx]at T5;have hft:(Ff p r).set r 3=Dz p:=by unfold Dz Ff;rw[hre,hpr];simp
    rw[hft]at T5;have B5:=B2.setCell (p:=((w:Nat)+1,r)) (by dsimp only;omega) (3:Int);have P3:=P2;rw[hre,hpr]at P3;have p3:=P3.cell;clear hft hlen hpr hrN hre P2;go_wp2;go_ret;exact⟨_,rfl,by rw[HLEN.out];exact HWK.out T5,B5⟩
theorem Af (h:Below w w w') (o:Obj):Below w w (w'.alloc o):=h.alloc h.size o
theorem Dw (h:Below w w w') {p:Addr} (hp:(w:Nat)<=p.block) (v:Value):Below w w (w'.setCell p v):=h.setCell hp v
noncomputable def pcS1:Code:=Gt [1,0] (Tryz.f104.body.getD .skip)
noncomputable def pcS2:Code:=Gt [1,1,0] (Tryz.f104.body.getD .skip)
noncomputable def pcS4:Code:=Gt [1,1,1,1,0,0,0] (Tryz.f104.body.getD .skip)
noncomputable def pcS8:Code:=Gt [1,1,1,1,1,1,0] (Tryz.f104.body.getD .skip)
noncomputable def pcS9:Code:=Gt [1,1,1,1,1,1,1,0,0] (Tryz.f104.body.getD .skip)
theorem Aer (vb sb ib iof i:Nat) (p:Pd) (h:Ph) (op na nb nc nd:Int) (s:St) (ao ago:Option Addr) (ac agc:Nat) (w:World) (c2 c3 c4 c5 c6 c7 c8 c9 c10 c11 c12 c13 c14 c15 c16 c17 c18 c19 c20 c21 c22 c23 c24 c25 c26 c27 c28 c29 c30 c31 c32 c33 c34 c35 c36 c37 c38 c39 c40 c41 c42 c43 c44 c45 c46 c47 c48 c49 c50 c51 c52 c53 c54 c55 c56 c57 c58 c59 c60 c61 c62 c63 c64 c65 c66 c67 c68 c69 c70 c71 c72 c73 c74 c75 c76 c77 c78 c79 c80 c81 c82 c83 c84 c85 c86 c87 c88 c89 c90 c91 c92 c93 c94 c95 c96 c97 c98 c99 c100:Value) (Q:Exit->Act->World->Prop)
  (hq:∀(u10 u11 u12 u13 u14 u15 u16 u17 u18 u19 u20 u21 u22 u23 u24:Value) (x5 x6:Nat) (wx:World),x5≠x6->(w:Nat)<=x5->(w:Nat)<=x6->Blk wx x5 #[op,na,nb,nc,nd] 81->Blk wx x6 #[true,.slice ao s.types.length ac,.slice ago s.guards.length agc] 146->Below w w wx->Q .normal ⟨List.toArray (.pointer vb::i::c2::c3::c4::.pointer x5::.pointer x6::c7::c8::c9::u10::u11::u12::u13::u14::u15::u16::u17::u18::u19::u20::u21::u22::u23::u24::c25::c26::c27::c28::c29::c30::c31::c32::c33::c34::c35::c36::c37::c38::c39::c40::c41::c42::c43::c44::c45::c46::c47::c48::c49::c50::c51::c52::c53::c54::c55::c56::c57::c58::c59::c60::c61::c62::c63::c64::c65::c66::c67::c68::c69::c70::c71::c72::c73::c74::c75::c76::c77::c78::c79::c80::c81::c82::c83::c84::c85::c86::c87::c88::c89::c90::c91::c92::c93::c94::c95::c96::c97::c98::c99::c100::[]),[]⟩ wx)
  (_k1:(i:Int)<p.ins.length) (_hv:vb<(w:Nat)) (_hs:sb<(w:Nat)) (_hi:ib<(w:Nat)) (e0:w.cell? (vb,8)=some (.slice (some ⟨ib,iof,none⟩) p.ins.length h.ic)) (e1:w.cell? (vb,10)=some (.slice sb p.ins.length p.ins.length)) (e2:w.cell? (ib,iof+i*5)=some (op:Value)) (e3:w.cell? (ib,iof+i*5+1)=some (na:Value)) (e4:w.cell? (ib,iof+i*5+2)=some (nb:Value)) (e5:w.cell? (ib,iof+i*5+3)=some (nc:Value)) (e6:w.cell? (ib,iof+i*5+4)=some (nd:Value)) (e7:w.cell? (sb,i*3)=some (.bool true)) (e8:w.cell? (sb,i*3+1)=some (.slice ao s.types.length ac)) (e9:w.cell? (sb,i*3+2)=some (.slice ago s.guards.length agc)) :
  Code.wp prog pcS1 Q ⟨List.toArray (.pointer vb::i::c2::c3::c4::c5::c6::c7::c8::c9::c10::c11::c12::c13::c14::c15::c16::c17::c18::c19::c20::c21::c22::c23::c24::c25::c26::c27::c28::c29::c30::c31::c32::c33::c34::c35::c36::c37::c38::c39::c40::c41::c42::c43::c44::c45::c46::c47::c48::c49::c50::c51::c52::c53::c54::c55::c56::c57::c58::c59::c60::c61::c62::c63::c64::c65::c66::c67::c68::c69::c70::c71::c72::c73::c74::c75::c76::c77::c78::c79::c80::c81::c82::c83::c84::c85::c86::c87::c88::c89::c90::c91::c92::c93::c94::c95::c96::c97::c98::c99::c100::[]),[]⟩ w:=by
 conv=>arg 2;whnf
 have HQ:Hid _:=hq;clear hq;go_region_held3 (fun w'=>w'.cell? (vb,8)=some (.slice (some ⟨ib,iof,none⟩) p.ins.length h.ic)/\w'.cell? (vb,10)=some (.slice sb p.ins.length p.ins.length)/\w'.cell? (ib,iof+i*5)=some (op:Value)/\w'.cell? (ib,iof+i*5+1)=some (na:Value)/\w'.cell? (ib,iof+i*5+2)=some (nb:Value)/\w'.cell? (ib,iof+i*5+3)=some (nc:Value)/\w'.cell? (ib,iof+i*5+4)=some (nd:Value)/\w'.cell? (sb,i*3)=some (.bool true)/\w'.cell? (sb,i*3+1)=some (.slice ao s.types.length ac)/\w'.cell? (sb,i*3+2)=some (.slice ago s.guards.length agc)) (first|exact⟨e0,e1,e2,e3,e4,e5,e6,e7,e8,e9⟩|(go_keep;done)) (fail)
 ·refine HQ.out _ _ _ _ _ _ _ _ _ _ _ _ _ _ _ (w:Nat) ((w:Nat)+1) _ (by omega) (yB _) (by omega) ?_ ?_ ?_
  ·exact(Blk.new w #[op,na,nb,nc,nd] 81).alloc (.cells #[true,.slice ao s.types.length ac,.slice ago s.guards.length agc] 146)
  ·have:=Blk.new (w.alloc (.cells #[op,na,nb,nc,nd] 81)) #[true,.slice ao s.types.length ac,.slice ago s.guards.length agc] 146;simp only[nblk_alloc]at this;exact this
  ·exact(Af (Af (yA _ _) _) _).drew
 ·refine HQ.out _ _ _ _ _ _ _ _ _ _ _ _ _ _ _ ((w:Nat)+1) (w:Nat) _ (by omega) (by omega) (yB _) ?_ ?_ ?_
  ·have:=Blk.new (w.alloc (.cells #[true,.slice ao s.types.length ac,.slice ago s.guards.length agc] 146)) #[op,na,nb,nc,nd] 81;simp only[nblk_alloc]at this;exact this
  ·exact(Blk.new w #[true,.slice ao s.types.length ac,.slice ago s.guards.length agc] 146).alloc (.cells #[op,na,nb,nc,nd] 81)
  ·exact(Af (Af (yA _ _) _) _).drew
theorem A5i {g:Gd} (h:gs[k]?=some g) (k0:Int):(gs.drop k).foldl (fun k g=>if g.tr then max k g.keep else k) k0=(gs.drop (k+1)).foldl (fun k g=>if g.tr then max k g.keep else k) (if g.tr then max k0 g.keep else k0):=by rw[Ao h];rfl
theorem Aeh (m x:Int):(if m<x then x else m)=max m x:=by
 split
 ·rw[Int.max_eq_right (by omega)]
 ·rw[Int.max_eq_left (by omega)]
theorem Aei (m x:Int):(if x<m then x else m)=min m x:=by
 split
 ·rw[Int.min_eq_right (by omega)]
 ·rw[Int.min_eq_left (by omega)]
theorem Ol (ao:Option Addr) (cap:Nat) (gs:List Gd) (w:World) (hm:gs.length<=1048576) (hx:Bn 0 w ao gs) :
  Kw 191 #[.slice ao gs.length cap] w (Bc gs:Int):=by
 unfold Kw;go_in;go_wp2;go_loopw [3,8] (fun v y wr=>∃(k:Nat) (m:Int),k<=gs.length/\v=m/\y=.int .i64 k/\Hid ((gs.drop k).foldl (fun k g=>if g.tr then max k g.keep else k) m=Bc gs)/\Below w w wr) (fun _ y _=>gs.length-(intOf y).toNat);case atStart=>exact⟨0,0,yE _,rfl,rfl,rfl,yA _ _⟩
 case round=>
  obtain⟨k,m,hk,rfl,rfl,HQ,hb⟩:=hrel;by_cases hkl:k<gs.length
  ·obtain⟨x,hxk⟩:=A8 hkl;obtain⟨b,off,rfl,_,hbl,q0,q1,q2⟩:=hx.l (A7.o hb) k x hxk;have HD:Hid (_=Bc gs):=(A5i hxk m).symm.trans HQ.out;have hba:=fun o=>hb.alloc hb.size o;obtain⟨x0,x1,x2⟩:=x;dsimp only at *;clear hxk HQ;cases x0
   ·have HN:Hid ((gs.drop (k+1)).foldl (fun k g=>if g.tr then max k g.keep else k) m=Bc gs):=HD.out;clear HD;go_wp2;go_roundw;case rel=>exact⟨k+1,m,by omega,rfl,by go_num,HN.out,hba _⟩
    case measure=>simp[intOf];omega
   ·have HN:Hid ((gs.drop (k+1)).foldl (fun k g=>if g.tr then max k g.keep else k) (max m x1)=Bc gs):=HD.out;clear HD;go_wp2;go_roundw;case rel=>first|exact⟨k+1,if m<x1 then x1 else m,by omega,rfl,by go_num,by show _=_;rw[Aeh];exact HN.out,hba _⟩|exact⟨k+1,max m x1,by omega,rfl,by go_num,HN.out,hba _⟩
    case measure=>simp[intOf];omega
  ·have HN:Hid (m=Bc gs):=by have h:=HQ.out;rw[yQ (by omega)]at h;exact h
   clear HQ;go_wp2;go_ret;exact⟨Ar HN.out,hb⟩
def Qv (x:Int) (xs:List Int):Int:=xs.foldl min x
theorem A62 (o:Option Addr) (c:Nat) (x:Int) (xs:List Int) (w:World) (hl:xs.length<=1048576) (hx:Bl 0 w o (x::xs)) :
  Kw 294 #[.slice o (xs.length+1) c] w (Qv x xs:Int):=by
 obtain⟨b,off,rfl,_,hbl,q0⟩:=hx 0 x rfl;unfold Ho at q0;rw[Nat.zero_mul,Nat.add_zero]at q0;have k0:¬((xs.length:Int)+1<1):=by omega
 have k1:(0:Int)<(xs.length:Int)+1:=by omega
 unfold Kw;go_in;go_wp2;go_loopw [3,4] (fun v y wr=>∃(k:Nat) (m:Int),k<=xs.length/\v=m/\y=((k:Int)+1:Int)/\Hid ((xs.drop k).foldl min m=Qv x xs)/\Below w w wr) (fun _ y _=>xs.length+1-(intOf y).toNat);case atStart=>exact⟨0,x,yE _,rfl,rfl,rfl,yA _ _⟩
 case round=>
  obtain⟨k,m,hk,rfl,rfl,HQ,hb⟩:=hrel;by_cases hkl:k<xs.length
  ·obtain⟨y,hyk⟩:=A8 hkl;obtain⟨b',off',e1,_,hbl',p0⟩:=hx.l (A7.o hb) (k+1) y (by simpa using hyk);simp at e1;obtain⟨rfl,rfl⟩:=e1;unfold Ho at p0;rw[Nat.mul_one]at p0;have HN:Hid ((xs.drop (k+1)).foldl min (min m y)=Qv x xs):=by show _=_;rw[←HQ.out,Ao hyk];rfl
   have k2:(k:Int)+1<(xs.length:Int)+1:=by omega
   clear hyk HQ q0;go_wp2;go_roundw;case rel=>first|exact⟨k+1,if y<m then y else m,by omega,rfl,by simp,by show _=_;rw[Aei];exact HN.out,hb⟩|exact⟨k+1,min m y,by omega,rfl,by simp,HN.out,hb⟩
   case measure=>simp[intOf];omega
  ·have HN:Hid (m=Qv x xs):=by have h:=HQ.out;rw[yQ (by omega)]at h;exact h
   have k2:¬(k:Int)+1<(xs.length:Int)+1:=by omega
   clear HQ;go_wp2;go_ret;exact⟨Ar HN.out,hb⟩
def zs (l:List Nat):List Int:=l.map (fun x:Nat=>(x:Int))
theorem A1u (l:List Nat):(zs l).length=l.length:=by simp[zs]
theorem Acl {l:List Nat} (h:l[k]?=some x):(zs l)[k]?=some (x:Int):=by simp[zs,h]
def Ip (l:List Nat):Array Value:=(Az (zs l)).toArray
theorem M9 {l:List Nat} (h:k<l.length):(Ip l)[k]?=some (.int .i64 (l.getD k 0)):=by unfold Ip zs Az;simp[h]
theorem A64 (l:List Nat) (k v:Nat):(Ip l).setIfInBounds k v=Ip (l.set k v):=by unfold Ip zs Az;rw[yC];simp[List.map_set]
def Mc (N:Nat) (P:Nat->Bool):List Bool:=(List.range N).map P
theorem Vx (N:Nat) (P:Nat->Bool):(Mc N P).length=N:=by simp[Mc]
theorem Abj {P:Nat->Bool} (h:v<N):(Mc N P).getD v false=P v:=by simp[Mc,h]
theorem A3x (N:Nat) (P:Nat->Bool) (v:Nat) (b:Bool):(Mc N P).set v b=Mc N (fun x=>if x=v then b else P x):=by
 apply List.ext_getElem?;intro j;unfold Mc;rw[List.getElem?_set];by_cases hj:j<N
 ·by_cases hv:v=j
  ·subst hv;simp[hj]
  ·simp[hj,hv,Ne.symm hv]
 ·by_cases hv:v=j
  ·subst hv;simp[hj]
  ·simp[hj,hv]
theorem Me {P Q:Nat->Bool} (h:∀v,v<N->P v=Q v):Mc N P=Mc N Q:=by unfold Mc;apply List.map_congr_left;intro v hv;exact h v (by simpa using hv)
structure Tm (lo:Nat) (w:World) (gb N:Nat) (f:Nat->List Int):Prop where
 own:Own w gb 99 N
 at_:∀j,j<N->∃ao cap,w.cell? ⟨gb,j,none⟩=some (.slice ao (f j).length cap)/\Bl lo w ao (f j)
theorem Tm.l {f:Nat->List Int} (h:Tm lo w gb N f) (hb:Below w w w'):Tm lo w' gb N f:=
 ⟨h.own.l hb,fun j hj=>by obtain⟨ao,cap,h1,h2⟩:=h.at_ j hj;exact⟨ao,cap,(hb.cell (p:=⟨gb,j,none⟩) h.own.lt).trans h1,h2.l (A7.o hb)⟩⟩
structure Mo (s cb gb ob qb N:Nat) (w:World) (T:Tj) (vp:Value):Prop where
 blk:Blk w cb #[.slice gb N N,T.count,.slice ob N N,vp,.slice qb N N,T.least] 310
 order:Blk w ob (Ip T.order) 3
 opn:Blk w qb (Cc (Mc N fun v=>decide (v∈T.path))) 4
 path:w.ownsRow (s+3) 3 1 vp T.path.length (Az (zs T.path))
structure A80 (s cb ob qb:Nat):Prop where
 c1:s<=cb
 c2:cb<s+3
 o1:s<=ob
 o2:ob<s+3
 q1:s<=qb
 q2:qb<s+3
 co:cb≠ob
 cq:cb≠qb
 oq:ob≠qb
theorem Mo.l{s cb ob qb:Nat} (h:Mo s cb gb ob qb N w T vp) (hb:Below w w w'):Mo s cb gb ob qb N w' T vp:=⟨h.blk.l hb,h.order.l hb,h.opn.l hb,Ai h.path hb⟩
theorem A99{base e:Nat} (h:w.ownsRow base e 1 (.slice ao n cap) n xs) (hk:k<=n) (hao:ao≠none):w.ownsRow base e 1 (.slice ao k cap) k (xs.take k):=by
 obtain⟨h1,⟨h2,h3⟩|⟨g,c,cur,h3,hg,hh,hc1,hc2,hc3,hc4⟩⟩:=h
 ·simp at h2;exact absurd h2.1 hao
 ·simp at h3;obtain⟨rfl,rfl⟩:=h3;refine⟨by simp;omega,.inr ⟨g,cap,cur,rfl,hg,hh,by omega,hc2,hc3,?_⟩⟩;rw[←hc4,List.take_take];simp;omega
def Iy (f:Nat->List Int) (a:Nat) (ext:List Nat) (least:Int):Int:=if ext≠[]∨(a:Int)∈f a then min least (Qv (a:Int) (zs ext)) else least
theorem Adq (vb x5 x6 x7 x8:Nat) (op nb:Int)  (t0 t1 t2 t3:TypeId) (v0 v1 v2 v3:Value) (w:World) (c1 c2 c3 c4 c9 c10 c11 c12 c13 c14 c15 c16 c17 c18 c19 c20 c21 c22 c23 c24 c25 c26 c27 c28 c29 c30 c31 c32 c33 c34 c35 c36 c37 c38 c39 c40 c41 c42 c43 c44 c45 c46 c47 c48 c49 c50 c51 c52 c53 c54 c55 c56 c57 c58 c59 c60 c61 c62 c63 c64 c65 c66 c67 c68 c69 c70 c71 c72 c73 c74 c75 c76 c77 c78 c79 c80 c81 c82 c83 c84 c85 c86 c87 c88 c89 c90 c91 c92 c93 c94 c95 c96 c97 c98 c99 c100:Value) (Q:Exit->Act->World->Prop) (PO:World->Prop)
  (hq:∀(u40 u41 u42 u43 u44 u45 u46 u47 u48 u49 u50 u51 u52 u53 u54 u55 u56 u57 u58 u59 u60 u61 u62 u63:Value) (wx:World),PO wx->Q .normal ⟨List.toArray (.pointer vb::c1::c2::c3::c4::.pointer x5::.pointer x6::.pointer x7::.pointer x8::c9::c10::c11::c12::c13::c14::c15::c16::c17::c18::c19::c20::c21::c22::c23::c24::c25::c26::c27::c28::c29::c30::c31::c32::c33::c34::c35::c36::c37::c38::true::u40::u41::u42::u43::u44::u45::u46::u47::u48::u49::u50::u51::u52::u53::u54::u55::u56::u57::u58::u59::u60::u61::u62::u63::c64::c65::c66::c67::c68::c69::c70::c71::c72::c73::c74::c75::c76::c77::c78::c79::c80::c81::c82::c83::c84::c85::c86::c87::c88::c89::c90::c91::c92::c93::c94::c95::c96::c97::c98::c99::c100::[]),[]⟩ wx)
  (hall:Calls prog 185 #[.pointer x8,.agg #[.iface t0 v0,.iface t1 v1,.iface t2 v2,.iface t3 v3]] w.drew fun e w'=>e=.returned (false)/\PO w'/\w'.cell? (x7,0)=some (.iface t0 v0)/\w'.cell? (x7,1)=some (.iface t1 v1)/\w'.cell? (x7,2)=some (.iface t2 v2)/\w'.cell? (x7,3)=some (.iface t3 v3)/\w'.cell? (x5,0)=some (op:Value)/\w'.cell? (x5,2)=some (nb:Value))
  (hS0:w.drew.cell? (x7,0)=some (.iface t0 v0)/\w.drew.cell? (x7,1)=some (.iface t1 v1)/\w.drew.cell? (x7,2)=some (.iface t2 v2)/\w.drew.cell? (x7,3)=some (.iface t3 v3)/\w.drew.cell? (x5,0)=some (op:Value)/\w.drew.cell? (x5,2)=some (nb:Value)) :
  Code.wp prog pcS4 Q ⟨List.toArray (.pointer vb::c1::c2::c3::c4::.pointer x5::.pointer x6::.pointer x7::.pointer x8::c9::c10::c11::c12::c13::c14::c15::c16::c17::c18::c19::c20::c21::c22::c23::c24::c25::c26::c27::c28::c29::c30::c31::c32::c33::c34::c35::c36::c37::c38::c39::c40::c41::c42::c43::c44::c45::c46::c47::c48::c49::c50::c51::c52::c53::c54::c55::c56::c57::c58::c59::c60::c61::c62::c63::c64::c65::c66::c67::c68::c69::c70::c71::c72::c73::c74::c75::c76::c77::c78::c79::c80::c81::c82::c83::c84::c85::c86::c87::c88::c89::c90::c91::c92::c93::c94::c95::c96::c97::c98::c99::c100::[]),[]⟩ w:=by
 conv=>arg 2;whnf
 have HQ:Hid _:=hq;clear hq;refine rgN (fun w'=>w'.cell? (x7,0)=some (.iface t0 v0)/\w'.cell? (x7,1)=some (.iface t1 v1)/\w'.cell? (x7,2)=some (.iface t2 v2)/\w'.cell? (x7,3)=some (.iface t3 v3)/\w'.cell? (x5,0)=some (op:Value)/\w'.cell? (x5,2)=some (nb:Value)) hS0 (fun hS=>?_);iterate 1 (refine tkF (by kernel_rfl) (by rfl) hS ⟨?_,fun W hW=>?_,?_⟩;rotate_left;(focus ((try dsimp only at hW);go_simp;try with_reducible rfl));try simp only[Act.put,yC,yJ,yK])
 refine doN (by kernel_rfl) (by rfl) (fun K hK=>?_);go_simp;refine(hall).mono ?_;rintro e w2 ⟨rfl,hpo,hS2⟩;go_wp2;refine hK.out _ _ hS2 (fun hS=>?_);clear hK K;try simp only[Act.put,yC,yJ,yK]
 iterate 2 (refine tkF (by kernel_rfl) (by rfl) hS ⟨?_,fun W hW=>?_,?_⟩;rotate_left;(focus ((try dsimp only at hW);go_simp;try with_reducible rfl));try simp only[Act.put,yC,yJ,yK])
 iterate 19 (refine tkG (by kernel_rfl) (by rfl) hS ?_;try simp only[Act.put,yC,yJ,yK])
 iterate 2 (refine tkF (by kernel_rfl) (by rfl) hS ⟨?_,fun W hW=>?_,?_⟩;rotate_left;(focus ((try dsimp only at hW);go_simp;try with_reducible rfl));try simp only[Act.put,yC,yJ,yK])
 refine enD (by kernel_rfl) (NoPanic.normal ?_);exact HQ.out _ _ _ _ _ _ _ _ _ _ _ _ _ _ _ _ _ _ _ _ _ _ _ _ _ hpo
theorem Aeu (x6 x8 x9 m kN:Nat) (kb:Bool) (ao ago ko bo:Option Addr) (ac agc kc bc:Nat) (s:St) (tk:List Int) (w:World) (c0 c1 c2 c3 c4 c5 c7 c10 c11 c12 c13 c14 c15 c16 c17 c18 c19 c20 c21 c22 c23 c24 c25 c26 c27 c28 c29 c30 c31 c32 c33 c34 c35 c36 c37 c38 c39 c40 c41 c42 c43 c44 c45 c46 c47 c48 c49 c50 c51 c52 c53 c54 c55 c56 c57 c58 c59 c60 c61 c62 c63 c64 c65 c66 c67 c68 c69 c70 c71 c72 c73 c74 c75 c76 c77 c78 c79 c80 c81 c82 c83 c84 c85 c86 c87 c88 c89 c90 c91 c92 c93 c94 c95 c96 c97 c98 c99 c100:Value) (Q:Exit->Act->World->Prop)
  (hq:∀(u83 u84 u85 u86 u87 u88 u89 u90 u91 u92:Value) (wx:World),Below w w wx->Q .normal ⟨List.toArray (c0::c1::c2::c3::c4::c5::.pointer x6::c7::.pointer x8::.pointer x9::c10::c11::c12::c13::c14::c15::c16::c17::c18::c19::c20::c21::c22::c23::c24::c25::c26::c27::c28::c29::c30::c31::c32::c33::c34::c35::c36::c37::c38::c39::c40::c41::c42::c43::c44::c45::c46::c47::c48::c49::c50::c51::c52::c53::c54::c55::c56::c57::c58::c59::c60::c61::c62::c63::c64::c65::c66::c67::c68::c69::c70::c71::c72::c73::c74::c75::c76::c77::c78::c79::c80::c81::c82::u83::u84::u85::u86::u87::u88::u89::u90::u91::u92::.bool (!kb)::c94::c95::c96::c97::c98::c99::c100::[]),[]⟩ wx)
  (hkb:∀W,Below w w W->Calls prog 191 #[.slice ago s.guards.length agc] W fun e w'=>e=.returned kN/\Below w w w')
  (hks:∀W,Below w w W->Calls prog 190 #[kN,.slice ko tk.length kc,.slice ao m ac,.slice bo m bc] W fun e w'=>e=.returned (.bool kb)/\Below w w w')
  (hS:∀w',Below w w w'->w'.cell? (x6,1)=some (.slice ao m ac)/\w'.cell? (x6,2)=some (.slice ago s.guards.length agc)/\w'.cell? (x8,2)=some (.slice ko tk.length kc)/\w'.cell? (x9,1)=some (.slice bo m bc)) :
  Code.wp prog pcS9 Q ⟨List.toArray (c0::c1::c2::c3::c4::c5::.pointer x6::c7::.pointer x8::.pointer x9::c10::c11::c12::c13::c14::c15::c16::c17::c18::c19::c20::c21::c22::c23::c24::c25::c26::c27::c28::c29::c30::c31::c32::c33::c34::c35::c36::c37::c38::c39::c40::c41::c42::c43::c44::c45::c46::c47::c48::c49::c50::c51::c52::c53::c54::c55::c56::c57::c58::c59::c60::c61::c62::c63::c64::c65::c66::c67::c68::c69::c70::c71::c72::c73::c74::c75::c76::c77::c78::c79::c80::c81::c82::c83::c84::c85::c86::c87::c88::c89::c90::c91::c92::c93::c94::c95::c96::c97::c98::c99::c100::[]),[]⟩ w:=by
 conv=>arg 2;whnf
 have HQ:Hid _:=hq;have HKB:Hid _:=hkb;have HKS:Hid _:=hks;have HS:Hid _:=hS;obtain⟨e0,e1,e2,e3⟩:=hS w (yA _ _);clear hq hkb hks hS;go_region_held3 (fun w'=>w'.cell? (x6,1)=some (.slice ao m ac)/\w'.cell? (x6,2)=some (.slice ago s.guards.length agc)/\w'.cell? (x8,2)=some (.slice ko tk.length kc)/\w'.cell? (x9,1)=some (.slice bo m bc)) (first|(refine HS.out _ ?_;(repeat (first|assumption|exact HB2.out|exact HB3.out|exact yA _ _|refine Below.drew ?_|refine Af ?_ _|refine Dw ?_ (by dsimp only;omega) _))))
  (first
   | (go_at_call 191;refine(HKB.out _ (by (repeat (first|assumption|exact HB2.out|exact HB3.out|exact yA _ _|refine Below.drew ?_|refine Af ?_ _|refine Dw ?_ (by dsimp only;omega) _)))).mono ?_;rintro e w2 ⟨rfl,hw2⟩;have HB2:Hid (Below w w w2):=hw2)
   | (go_at_call 190;refine(HKS.out _ (by (repeat (first|assumption|exact HB2.out|exact HB3.out|exact yA _ _|refine Below.drew ?_|refine Af ?_ _|refine Dw ?_ (by dsimp only;omega) _)))).mono ?_;rintro e w3 ⟨rfl,hw3⟩;have HB3:Hid (Below w w w3):=hw3))
 exact HQ.out _ _ _ _ _ _ _ _ _ _ _ HB3.out
end Go.Proofs.YtjbbppblgjhapaaGreatDoor
