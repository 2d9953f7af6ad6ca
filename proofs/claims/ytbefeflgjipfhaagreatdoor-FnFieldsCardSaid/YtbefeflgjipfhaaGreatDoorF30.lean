import Derived.Test.YtbefeflgjipfhaaGreatDoorF29
set_option maxRecDepth 100000
set_option maxHeartbeats 4000000
namespace Go.Proofs.YtbefeflgjipfhaaGreatDoor
open Go.Deep Go.Proofs.Tryz Go.RowKit
theorem Tryz.info_bool:(prog.info? 4).map (fun i=>(i.zero,i.size,i.bytes))=some (some (.bool false),1,1):=by kernel_rfl
theorem Jn (w:World) (n:Nat):Blk (w.alloc (.cells (madeCells #[.bool false] n) 4)) w.heap.size (Ci (List.replicate n false)) 4:=by
 have h:madeCells #[.bool false] n=Ci (List.replicate n false):=by apply Array.toList_inj.1;rw[toList_madeCells_one];simp[Ci]
 rw[h];exact Blk.new _ _ _
def A9a (ps:List Pd):Prop:=∀p∈ps,∀n∈p.ins,n.op=11->0<=n.b/\n.b<ps.length
def Eh (ps:List Pd):Int×Int×Int:=
 match Ie ps 0 ps (List.replicate ps.length false) with
 | (some (p,k),_)=>(6,p,k)
 | (none,m)=>if 0<=Db false (m.set 0 true) 0 then (7,Db false (m.set 0 true) 0,0) else (0,0,0)
def Oi (f:Int×Int×Int):Value:=.agg #[.int .i64 f.1,.int .i64 f.2.1,.int .i64 f.2.2]
theorem Zc {ps:List Pd} {p k:Nat} {m:List Bool} (h:Ie ps 0 ps (List.replicate ps.length false)=(some (p,k),m)):Eh ps=(6,(p:Int),(k:Int)):=by unfold Eh;rw[h]
theorem Pq (ao:Option Addr) (cap:Nat) (ps:List Pd) (w:World) (h1:1<=ps.length) (hm:ps.length<=1048576) (hz:∀p∈ps,Ny p) (hr:∀p∈ps,0<=p.regs/\p.regs<=250) (hfn:A9a ps) (hv:Az 0 w ao ps) :
  Kw 257 #[.agg #[.slice ao ps.length cap]] w (Oi (Eh ps)):=by
 have hmk:=Ca (P:=prog) 242 4 _ 1 1 underlying242 Tryz.info_bool .i64 .i64 ps.length (by omega) (by omega);simp only[Nat.mul_one]at hmk;have C0:=((Blk.new w #[.slice ao ps.length cap] 26).alloc (.cells #[.int .i64 0,.int .i64 0,.int .i64 0] 155)).alloc (.cells (madeCells #[.bool false] ps.length) 4);have R0:=(Blk.new (w.alloc (.cells #[.slice ao ps.length cap] 26)) #[.int .i64 0,.int .i64 0,.int .i64 0] 155).alloc (.cells (madeCells #[.bool false] ps.length) 4);have M0:=Jn ((w.alloc (.cells #[.slice ao ps.length cap] 26)).alloc (.cells #[.int .i64 0,.int .i64 0,.int .i64 0] 155)) ps.length;simp only[nblk_alloc]at R0 M0;have hb3:∀o1 o2 o3,Below w.heap.size w (((w.alloc o1).alloc o2).alloc o3):=fun o1 o2 o3=>(((yA _ _).alloc (yB _) o1).alloc (by simp) o2).alloc (by simp;omega) o3;(try unfold Kw);go_in;go_wp2_with fail;clear hmk;go_loopw [16] (fun y wr=>∃(k:Nat) (m:List Bool),k<=ps.length/\y=.int .i64 k/\m.length=ps.length/\Hid (Ie ps k (ps.drop k) m=Ie ps 0 ps (List.replicate ps.length false))/\Below w.heap.size w wr/\Blk wr w.heap.size #[.slice ao ps.length cap] 26/\Blk wr (w.heap.size+1) #[.int .i64 0,.int .i64 0,.int .i64 0] 155/\Blk wr (w.heap.size+1+1) (Ci m) 4) (fun y _=>ps.length-(intOf y).toNat);case atStart=>exact⟨0,_,yE _,rfl,by simp,rfl,hb3 _ _ _,C0,R0,M0⟩
 case round=>
  obtain⟨k,m,hk,rfl,hml,HQ,hb,C1,R1,M1⟩:=hrel;clear C0 R0 M0;by_cases hkl:k<ps.length
  ·obtain⟨p,hpk⟩:=Ah hkl;have HD:Hid (Ie ps 0 ps (List.replicate ps.length false)=_):=HQ.out.symm.trans (A18 hpk m);obtain⟨b,off,e0,_,hbl,h,n0,pin⟩:=hv k p hpk;obtain⟨p0,p1,p2,p3,p4,p5,p6,p7,p8⟩:=n0.l hb hbl;subst e0;have hba:∀o,Below w.heap.size w (wr.alloc o):=fun o=>hb.alloc hb.size o;have C2:=C1.alloc (.cells #[.string p.name,.int .i64 p.line,.int .i64 p.params,.bool p.rest,.int .i64 p.regs,.slice h.uo p.ups.length h.uc,.slice h.co p.consts.length h.cc,.slice h.io p.ins.length h.ic,.slice h.no p.named.length h.nc] 63);have R2:=R1.alloc (.cells #[.string p.name,.int .i64 p.line,.int .i64 p.params,.bool p.rest,.int .i64 p.regs,.slice h.uo p.ups.length h.uc,.slice h.co p.consts.length h.cc,.slice h.io p.ins.length h.ic,.slice h.no p.named.length h.nc] 63);have M2:=M1.alloc (.cells #[.string p.name,.int .i64 p.line,.int .i64 p.params,.bool p.rest,.int .i64 p.regs,.slice h.uo p.ups.length h.uc,.slice h.co p.consts.length h.cc,.slice h.io p.ins.length h.ic,.slice h.no p.named.length h.nc] 63);have P2:=Blk.new wr #[.string p.name,.int .i64 p.line,.int .i64 p.params,.bool p.rest,.int .i64 p.regs,.slice h.uo p.ups.length h.uc,.slice h.co p.consts.length h.cc,.slice h.io p.ins.length h.ic,.slice h.no p.named.length h.nc] 63;have hins:p.ins.length<=1048576:=(hz p (yH hpk)).ins;have hPB1:=M1.lt;have Bw:=hba (.cells #[.string p.name,.int .i64 p.line,.int .i64 p.params,.bool p.rest,.int .i64 p.regs,.slice h.uo p.ups.length h.uc,.slice h.co p.consts.length h.cc,.slice h.io p.ins.length h.ic,.slice h.no p.named.length h.nc] 63);clear C1 R1 M1 HQ hba;have HM:Hid (m.length=ps.length):=hml;clear hml;go_wp2_with fail;clear p0 p1 p2 p3 p4 p5 p6 p7 p8 hb;generalize hPB:wr.heap.size=PB at *;clear hPB;go_loopw [24] (fun y wi=>∃(j:Nat) (m':List Bool),j<=p.ins.length/\y=.int .i64 j/\Hid (m'.length=ps.length)/\Hid (Ex ps k p j (p.ins.drop j) m'=Ex ps k p 0 p.ins m)/\Below w.heap.size w wi/\Blk wi w.heap.size #[.slice (some ⟨b,off,none⟩) ps.length cap] 26/\Blk wi (w.heap.size+1) #[.int .i64 0,.int .i64 0,.int .i64 0] 155/\Blk wi (w.heap.size+1+1) (Ci m') 4/\Blk wi PB #[.string p.name,.int .i64 p.line,.int .i64 p.params,.bool p.rest,.int .i64 p.regs,.slice h.uo p.ups.length h.uc,.slice h.co p.consts.length h.cc,.slice h.io p.ins.length h.ic,.slice h.no p.named.length h.nc] 63) (fun y _=>p.ins.length-(intOf y).toNat);case atStart=>exact⟨0,m,yE _,rfl,HM,rfl,Bw,C2,R2,M2,P2⟩
   case round=>
    obtain⟨j,m',hj,rfl,HM',HQ',hb',C3,R3,M3,P3⟩:=hrel;clear C2 R2 M2 P2 Bw;by_cases hjl:j<p.ins.length
    ·obtain⟨n,hnj⟩:=Ah hjl;obtain⟨b',off',e',_,hbl',q0,q1,q2,q3,q4⟩:=pin.ins.l (Ad.o hb') j n hnj;have HE:Hid (Ex ps k p 0 p.ins m=_):=HQ'.out.symm.trans (A19 hnj m');have hba:∀o,Below w.heap.size w (wr.alloc o):=fun o=>hb'.alloc hb'.size o;have CA:Hid (∀o,Blk (wr.alloc o) w.heap.size _ _):=fun o=>C3.alloc o;have RA:Hid (∀o,Blk (wr.alloc o) (w.heap.size+1) _ _):=fun o=>R3.alloc o;have MA:Hid (∀o,Blk (wr.alloc o) (w.heap.size+1+1) _ _):=fun o=>M3.alloc o;have PA:Hid (∀o,Blk (wr.alloc o) PB _ _):=fun o=>P3.alloc o;have hio:h.io=some ⟨b',off',none⟩:=e';by_cases hop:n.op=11
     ·obtain⟨hn1,hn2⟩:=hfn p (yH hpk) n (yH hnj) hop;obtain⟨op,a1,b1,c1,d1⟩:=n;dsimp only at *;subst hop;obtain⟨bN,rfl⟩:=yN hn1;obtain⟨q,hq⟩:=Ah (l:=ps) (k:=bN) (by omega);obtain⟨b2,off2,e2,_,_,h2,m0,pin2⟩:=hv bN q hq;obtain⟨rfl,rfl⟩:b=b2/\off=off2:=by simpa using e2
      obtain⟨_,_,_,_,_,s5,_⟩:=m0.l hb' hbl;have hs5:∀o,(wr.alloc o).cell? ⟨b,off+bN*9+5,none⟩=some (.slice h2.uo q.ups.length h2.uc):=fun o=>by
       have h9:=m0.l (hba o) hbl;exact h9.2.2.2.2.2.1
      have hmb:bN<m'.length:=by rw[HM'.out];omega
      have HFn:Hid (Mx ps k p m' ⟨11,a1,bN,c1,d1⟩=(decide ((bN:Int)<=k)||(m'.getD bN false||!Nw p q.ups))):=by show _=_;unfold Mx;simp[hq]
      have HE2:Hid (Ex ps k p 0 p.ins m=if Mx ps k p m' ⟨11,a1,bN,c1,d1⟩ then (some j,m') else Ex ps k p (j+1) (p.ins.drop (j+1)) (m'.set bN true)):=by show _=_;rw[HE.out];rfl
      have hz1:=hz p (yH hpk);have hzq:=hz q (yH hq);have hr1:=hr p (yH hpk);have cM:∀o,(wr.alloc o).cell? ⟨w.heap.size+1+1,bN,none⟩=some (.bool (m'.getD bN false)):=fun o=>((MA.out o).cell bN).trans (Cs hmb);have cC:=fun o=>(CA.out o).cell 0;have cP:=fun o=>(PA.out o).cell;have hups:=fun o=>pin2.ups.l (Ad.o (hba o));clear HE HQ' C3 R3 M3 P3 pin pin2 n0 m0 e' e2 s5 hv hfn hz hr hnj hpk;generalize hmbv:m'.getD bN false=mb at *;obtain⟨uo,uc,co,cc,io,ic,no,nc⟩:=h;dsimp only at *;subst hio;have HU:Hid _:=hups;clear hups hmbv;have hfault:Mx ps k p m' ⟨11,a1,bN,c1,d1⟩=true->Eh ps=(6,(k:Int),(j:Int)):=by intro hbad;refine Zc (m:=m') ?_;rw[HD.out,HE2.out,if_pos hbad]
      have HFa:Hid _:=hfault;clear hfault;have cR:=fun o=>(RA.out o).cell;have fR:=fun o=>(RA.out o).frozen;have hno:(11:Int)=11:=rfl;clear hno;by_cases g1:(bN:Int)<=k
      ·have HV:Hid (Eh ps=(6,(k:Int),(j:Int))):=HFa.out (by rw[HFn.out,decide_eq_true g1];rfl);clear HFa HFn;go_wp2_with fail;go_quiet (fail);go_wp2_with fail;refine bodyPost_ret (v:=.agg #[.int .i64 6,.int .i64 k,.int .i64 j]) ?_ rfl ⟨?_,?_⟩
       ·simp[results,results257,go_sem,cR]
       ·rw[HV.out];rfl
       ·iterate 3 (refine yP ?_ (by simp;try omega) _)
        exact below_drewN (hba _) _
      ·have g1':decide ((bN:Int)<=k)=false:=decide_eq_false g1;have gn:decide (bN<=k)=false:=decide_eq_false (by omega);have gl:k<bN:=by omega
       have gi:(k:Int)<bN:=by omega
       clear g1;cases mb
       rotate_left
       ·have HV:Hid (Eh ps=(6,(k:Int),(j:Int))):=HFa.out (by rw[HFn.out,g1'];rfl);clear HFa HFn;go_wp2_with fail;go_quiet (fail);go_wp2_with fail;refine bodyPost_ret (v:=.agg #[.int .i64 6,.int .i64 k,.int .i64 j]) ?_ rfl ⟨?_,?_⟩
        ·simp[results,results257,go_sem,cR]
        ·rw[HV.out];rfl
        ·iterate 3 (refine yP ?_ (by simp;try omega) _)
         exact below_drewN (hba _) _
       ·have HFn2:Hid (Mx ps k p m' ⟨11,a1,bN,c1,d1⟩ = !Nw p q.ups):=by show _=_;rw[HFn.out,g1'];rfl
        clear HFn;have N4:=Blk.new wr #[.int .i64 11,.int .i64 a1,.int .i64 bN,.int .i64 c1,.int .i64 d1] 58;have M4:=MA.out (.cells #[.int .i64 11,.int .i64 a1,.int .i64 bN,.int .i64 c1,.int .i64 d1] 58);have C4:=CA.out (.cells #[.int .i64 11,.int .i64 a1,.int .i64 bN,.int .i64 c1,.int .i64 d1] 58);have P4:=PA.out (.cells #[.int .i64 11,.int .i64 a1,.int .i64 bN,.int .i64 c1,.int .i64 d1] 58);have R4:=RA.out (.cells #[.int .i64 11,.int .i64 a1,.int .i64 bN,.int .i64 c1,.int .i64 d1] 58);have B4:=hba (.cells #[.int .i64 11,.int .i64 a1,.int .i64 bN,.int .i64 c1,.int .i64 d1] 58);have s4:=hs5 (.cells #[.int .i64 11,.int .i64 a1,.int .i64 bN,.int .i64 c1,.int .i64 d1] 58);have cm4:=cM (.cells #[.int .i64 11,.int .i64 a1,.int .i64 bN,.int .i64 c1,.int .i64 d1] 58);have U4:Hid (Lx 0 (wr.alloc (.cells #[.int .i64 11,.int .i64 a1,.int .i64 bN,.int .i64 c1,.int .i64 d1] 58)).drew h2.uo q.ups):=(HU.out (.cells #[.int .i64 11,.int .i64 a1,.int .i64 bN,.int .i64 c1,.int .i64 d1] 58)).l (Ad.o (yA _ _).drew);have D4:Below (wr.alloc (.cells #[.int .i64 11,.int .i64 a1,.int .i64 bN,.int .i64 c1,.int .i64 d1] 58)).heap.size (wr.alloc (.cells #[.int .i64 11,.int .i64 a1,.int .i64 bN,.int .i64 c1,.int .i64 d1] 58)) (wr.alloc (.cells #[.int .i64 11,.int .i64 a1,.int .i64 bN,.int .i64 c1,.int .i64 d1] 58)).drew:=(yA _ _).drew;have hb4:b<(wr.alloc (.cells #[.int .i64 11,.int .i64 a1,.int .i64 bN,.int .i64 c1,.int .i64 d1] 58)).drew.heap.size:=yF hbl B4.size;go_wp2_with fail;go_region_held3 (fun w'=>w'.cell? ⟨wr.heap.size,2,none⟩=some (.int .i64 bN)/\w'.cell? ⟨w.heap.size+1+1,bN,none⟩=some (.bool false)/\w'.cell? ⟨w.heap.size,0,none⟩=some (.slice (some ⟨b,off,none⟩) ps.length cap)/\w'.cell? ⟨b,off+bN*9+5,none⟩=some (.slice h2.uo q.ups.length h2.uc)/\w'.cell? ⟨PB,0,none⟩=some (.string p.name)/\w'.cell? ⟨PB,1,none⟩=some (.int .i64 p.line)/\w'.cell? ⟨PB,2,none⟩=some (.int .i64 p.params)/\w'.cell? ⟨PB,3,none⟩=some (.bool p.rest)/\w'.cell? ⟨PB,4,none⟩=some (.int .i64 p.regs)/\w'.cell? ⟨PB,5,none⟩=some (.slice uo p.ups.length uc)/\w'.cell? ⟨PB,6,none⟩=some (.slice co p.consts.length cc)/\w'.cell? ⟨PB,7,none⟩=some (.slice (some ⟨b',off',none⟩) p.ins.length ic)/\w'.cell? ⟨PB,8,none⟩=some (.slice no p.named.length nc)) (first|(go_keep;done)|(simp +arith [*,yG];done))
         (first|(go_at_call 313;refine(A1w p ⟨uo,uc,co,cc,some ⟨b',off',none⟩,ic,no,nc⟩ h2.uo h2.uc q.ups (wr.alloc (.cells #[.int .i64 11,.int .i64 a1,.int .i64 bN,.int .i64 c1,.int .i64 d1] 58)).drew hzq.ups hz1 hr1 U4.out).mono ?_;rintro e w1 ⟨rfl,hw1⟩;have u0:=((N4.l D4).l hw1).cell 2;have u1:=(hw1.cell (p:=⟨w.heap.size+1+1,bN,none⟩) (M4.l D4).lt).trans cm4;have u2:=((C4.l D4).l hw1).cell 0;have u3:=(hw1.cell (p:=⟨b,off+bN*9+5,none⟩) hb4).trans s4;have up:=((P4.l D4).l hw1).cell))
        have B5:=B4.drew.trans (hw1.mono B4.size);have M5:=(M4.l D4).l hw1;have C5:=(C4.l D4).l hw1;have P5:=(P4.l D4).l hw1;have R5:=(R4.l D4).l hw1;have N5:=(N4.l D4).l hw1;clear u0 u1 u2 u3 up N4 M4 C4 P4 R4 B4 s4 cm4 U4 hb4 D4 hw1 cM cC cP cR fR hs5 hba;generalize Nw p q.ups=ub at *;cases ub
        ·have HV:Hid (Eh ps=(6,(k:Int),(j:Int))):=HFa.out (by rw[HFn2.out];rfl);clear HFa HFn2;have cR:=R5.cell;have fR:=R5.frozen;go_wp2_with fail;refine bodyPost_ret (v:=.agg #[.int .i64 6,.int .i64 k,.int .i64 j]) ?_ rfl ⟨?_,?_⟩
         ·simp[results,results257,go_sem,cR]
         ·rw[HV.out];rfl
         ·iterate 3 (refine yP ?_ (by simp;try omega) _)
          exact B5
        ·have HE3:Hid (Ex ps k p 0 p.ins m=Ex ps k p (j+1) (p.ins.drop (j+1)) (m'.set bN true)):=by show _=_;rw[HE2.out,HFn2.out];rfl
         clear HFa HFn2 HE2;have n5:=N5.cell;have m5:=(M5.cell bN).trans (Cs hmb);have f5:=M5.frozen;have Q1:=B5.setCell (p:=⟨w.heap.size+1+1,bN,none⟩) (by show w.heap.size<=w.heap.size+1+1;omega) (.bool true);have Q2:=C5.setOther (p:=⟨w.heap.size+1+1,bN,none⟩) (by show w.heap.size≠w.heap.size+1+1;omega) (.bool true);have Q3:=R5.setOther (p:=⟨w.heap.size+1+1,bN,none⟩) (by show w.heap.size+1≠w.heap.size+1+1;omega) (.bool true);have Q4:=M5.set bN (.bool true);rw[Ew]at Q4;have Q5:=P5.setOther (p:=⟨w.heap.size+1+1,bN,none⟩) (by show PB≠w.heap.size+1+1;omega) (.bool true);have HL:Hid ((m'.set bN true).length=ps.length):=by show _=_;rw[List.length_set];exact HM'.out
         clear N5 M5 C5 R5 P5 B5;go_wp2;go_roundw;case rel=>exact⟨j+1,m'.set bN true,by omega,by go_num,HL,HE3.out.symm,Q1,Q2,Q3,Q4,Q5⟩
         case measure=>simp[intOf];omega
     ·have ho:(n.op !=11)=true:=by simpa using hop
      have HE2:Hid (Ex ps k p 0 p.ins m=Ex ps k p (j+1) (p.ins.drop (j+1)) m'):=by show _=_;rw[HE.out,if_neg (by simpa using hop)]
      clear HE hop;clear C3 R3 M3 P3 pin n0 e';obtain⟨uo,uc,co,cc,io,ic,no,nc⟩:=h;dsimp only at *;subst hio;go_wp2;go_roundw;case rel=>exact⟨j+1,m',by omega,by go_num,HM',HE2.out.symm,hba _,CA.out _,RA.out _,MA.out _,PA.out _⟩
      case measure=>simp[intOf];omega
    ·have HI:Hid (Ex ps k p 0 p.ins m=(none,m')):=by have h1:=HQ'.out;rw[yQ (by omega)]at h1;exact h1.symm
     go_wp2;go_roundw;case rel=>exact⟨k+1,m',by omega,by go_num,HM'.out,by show _=_;rw[HD.out,HI.out],hb',C3,R3,M3⟩
     case measure=>simp[intOf];omega
  ·have HN:Hid (Ie ps 0 ps (List.replicate ps.length false)=(none,m)):=by have h2:=HQ.out;rw[yQ (by omega)]at h2;exact h2.symm
   have HV:Hid (Eh ps=if 0<=Db false (m.set 0 true) 0 then (7,Db false (m.set 0 true) 0,0) else (0,0,0)):=by show _=_;unfold Eh;rw[HN.out]
   have m1:=(M1.cell 0).trans (Cs (by omega));have f1:=M1.frozen;have c1:=R1.cell;have g1:=R1.frozen;have i0:(0:Int)<ps.length:=by omega
   have M2:=M1.set 0 (.bool true);rw[Ew]at M2;have R2:=R1.setOther (p:=⟨w.heap.size+1+1,0,none⟩) (by show w.heap.size+1≠w.heap.size+1+1;omega) (.bool true);have B2:=hb.setCell (p:=⟨w.heap.size+1+1,0,none⟩) (by show w.heap.size<=w.heap.size+1+1;omega) (.bool true);clear HQ HN hv hz hr hfn C1 hb;have hml2:(m.set 0 true).length=ps.length:=by rw[List.length_set];exact hml
   have HX:Hid (∀(c:Nat) (w:World),Blk w (w.heap.size+1+1) (Ci (m.set 0 true)) 4->True):=fun _ _ _=>trivial;clear HX;have hidx:=fun (W:World) (hB:Blk W (w.heap.size+1+1) (Ci (m.set 0 true)) 4)=>Sw (w.heap.size+1+1) ps.length (m.set 0 true) false W (by omega) hB;rw[hml2]at hidx;have HI:Hid _:=hidx;clear hidx hml2 hml;go_wp2_with fail;refine(HI.out _ M2).mono ?_;rintro e w1 ⟨rfl,hw1⟩;have B3:=B2.trans (hw1.mono B2.size);have R3:=R2.l hw1;have c3:=R3.cell;have g3:=R3.frozen;clear m1 f1 c1 g1 M1 M2 R1 R2 B2 hw1;generalize Db false (m.set 0 true) 0=ix at *;by_cases hx:0<=ix
   ·go_wp2_with fail;refine bodyPost_ret (v:=.agg #[.int .i64 7,.int .i64 ix,.int .i64 0]) ?_ rfl ⟨?_,?_⟩
    ·simp[results,results257,go_sem,c3]
    ·rw[HV.out,if_pos hx];rfl
    ·iterate 3 (refine yP ?_ (by simp;try omega) _)
     exact B3
   ·go_wp2_with fail;refine bodyPost_ret (v:=.agg #[.int .i64 0,.int .i64 0,.int .i64 0]) ?_ rfl ⟨?_,?_⟩
    ·simp[results,results257,go_sem,c3]
    ·rw[HV.out,if_neg (by omega)];rfl
    ·iterate 3 (refine yP ?_ (by simp;try omega) _)
     exact B3
end Go.Proofs.YtbefeflgjipfhaaGreatDoor
