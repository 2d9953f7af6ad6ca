import Derived.Laws.FloatArith
import Derived.Test.YtjbbppblgjhapaaGreatDoorJ01
set_option maxRecDepth 100000
set_option maxHeartbeats 8000000
namespace Go.Proofs.YtjbbppblgjhapaaGreatDoor
open Go.Deep Go.Proofs.Tryz Go.RowKit
def A7h (r:Nat):Int:=match r with|1=>1|6=>19|7=>1|_=>0
def A7g (np:Nat) (p:Pd) (r:Nat):Int:=
 match r with
 | 1=>100000
 | 2=>100000
 | 3=>p.consts.length-1
 | 4=>p.ups.length-1
 | 5=>np-1
 | 6=>22
 | 7=>18
 | 8=>250
 | 9=>p.regs
 | 10=>p.regs-2
 | _=>0
theorem Yt (n:Nat) (h:n<=23):n=0∨n=1∨n=2∨n=3∨n=4∨n=5∨n=6∨n=7∨n=8∨n=9∨n=10∨n=11∨n=12∨n=13∨n=14∨n=15∨n=16∨n=17∨n=18∨n=19∨n=20∨n=21∨n=22∨n=23:=by omega
def Aq (np:Nat) (p:Pd) (r:Nat) (x:Int):Value:=
 match r with
 | 0=>.iface 442 x
 | 11=>.iface 446 (.agg #[x,p.ins.length])
 | 12=>.iface 404 (.agg #[x,(1:Int)])
 | 13=>.iface 404 (.agg #[x,(3:Int)])
 | 14=>.iface 444 (.agg #[x,(1:Int),(1:Int)])
 | 15=>.iface 444 (.agg #[x,(1:Int),(2:Int)])
 | 16=>.iface 444 (.agg #[x,(1:Int),(3:Int)])
 | 17=>.iface 444 (.agg #[x,(2:Int),(1:Int)])
 | 18=>.iface 444 (.agg #[x,(3:Int),(1:Int)])
 | 19=>.iface 395 (.agg #[x,()])
 | 20=>.iface 395 (.agg #[x,(1:Int)])
 | 21=>.iface 395 (.agg #[x,(2:Int)])
 | 22=>.iface 395 (.agg #[x,(3:Int)])
 | 23=>.iface 397 (.agg #[x])
 | r=>.iface 448 (.agg #[x,(A7h r:Int),(A7g np p r:Int)])
theorem A13 (ao:Option Addr) (cap np:Nat) (p:Pd) (h:Ph) (r:Nat) (x:Int) (w:World) (hz:Ie p) (hm:np<=1048576) (hr:0<=p.regs/\p.regs<=250) (hr0:1<=r) (hro:r<=10) :
  Kw 290 #[.agg #[.slice ao np cap],.agg (p.cells h),r,x] w (.agg #[x,(A7h r:Int),(A7g np p r:Int)]):=by
 obtain⟨z1,z2,z3,z4⟩:=hz;obtain⟨nm,ln,pa,re,rg,us,cs,is,ms⟩:=p;obtain⟨uo,uc,co,cc,io,ic,no,nc⟩:=h;dsimp only[Pd.cells]at *;obtain⟨hr1,hr2⟩:=hr;rcases (by omega:r=1∨r=2∨r=3∨r=4∨r=5∨r=6∨r=7∨r=8∨r=9∨r=10) with rfl|rfl|rfl|rfl|rfl|rfl|rfl|rfl|rfl|rfl;all_goals
  clear hro hr0;unfold Kw;go_in;go_wp2_with fail;refine bodyPost_ret ?_ rfl ⟨rfl,(((yA _ _).alloc (yB _) _).alloc (by simp) _).alloc (by simp;omega) _⟩;simp[results,results290,go_sem,A7h,A7g]
theorem Qk (np:Nat) (p:Pd) (r:Nat) (x:Int) (h1:1<=r) (h2:r<=10):Aq np p r x=.iface 448 (.agg #[x,(A7h r:Int),(A7g np p r:Int)]):=by rcases (by omega:r=1∨r=2∨r=3∨r=4∨r=5∨r=6∨r=7∨r=8∨r=9∨r=10) with rfl|rfl|rfl|rfl|rfl|rfl|rfl|rfl|rfl|rfl<;>rfl
theorem A2q (ao:Option Addr) (cap np:Nat) (p:Pd) (h:Ph) (r:Nat) (x:Int) (w:World) (hz:Ie p) (hm:np<=1048576) (hr:0<=p.regs/\p.regs<=250) (hro:r<=23) :
  Kw 250 #[.agg #[.slice ao np cap],.agg (p.cells h),r,x] w (Aq np p r x):=by
 have hnum:=fun r w h1 h10=>A13 ao cap np p h r x w hz hm hr h1 h10;have hb2:∀o1 o2,Below w w ((w.alloc o1).alloc o2):=fun o1 o2=>((yA _ _).alloc (yB _) o1).alloc (by simp) o2;obtain⟨z1,z2,z3,z4⟩:=hz;obtain⟨nm,ln,pa,re,rg,us,cs,is,ms⟩:=p;obtain⟨uo,uc,co,cc,io,ic,no,nc⟩:=h;dsimp only[Pd.cells]at *;obtain⟨hr1,hr2⟩:=hr;have HN:Hid _:=hnum;clear hnum;by_cases hn:1<=r/\r<=10
 ·obtain⟨n1,n2⟩:=hn;have HF:Hid _:=Qk np ⟨nm,ln,pa,re,rg,us,cs,is,ms⟩ r x n1 n2;have hq:∀k:Int,(k=0∨11<=k)->((r:Int)==k)=false:=fun k hk=>by simp;omega
  have q0:=hq 0 (by omega);have q11:=hq 11 (by omega);have q12:=hq 12 (by omega);have q13:=hq 13 (by omega);have q14:=hq 14 (by omega);have q15:=hq 15 (by omega);have q16:=hq 16 (by omega);have q17:=hq 17 (by omega);have q18:=hq 18 (by omega);have q19:=hq 19 (by omega);have q20:=hq 20 (by omega);have q21:=hq 21 (by omega);have q22:=hq 22 (by omega);have q23:=hq 23 (by omega);have HN1:Hid (∀w,_):=fun w=>HN.out r w n1 n2;clear hq HN hro n1 n2;unfold Kw;go_in;go_wp2_with fail;refine(HN1.out _).mono ?_;rintro e w1 ⟨rfl,hw1⟩;go_wp2;go_ret;rw[HF.out];exact⟨rfl,(hb2 _ _).trans (hw1.mono (by simp;omega))⟩
 ·rcases (by omega:r=0∨r=11∨r=12∨r=13∨r=14∨r=15∨r=16∨r=17∨r=18∨r=19∨r=20∨r=21∨r=22∨r=23) with rfl|rfl|rfl|rfl|rfl|rfl|rfl|rfl|rfl|rfl|rfl|rfl|rfl|rfl;all_goals
   clear hro HN hn;unfold Kw;go_in;go_wp2;go_ret;exact⟨rfl,hb2 _ _⟩
def Gz:List (List Nat):=[[0,0,0,0],[1,0,0,0],[2,0,0,0],[0,0,0,0],[20,3,0,0],[20,12,0,0],[21,12,0,0],[20,15,0,0],[15,12,0,0],[20,4,0,0],[4,12,0,0],[20,5,0,0],[20,0,0,0],[14,12,12,0],[14,12,13,0],[20,12,12,0],[12,12,12,0],[20,6,12,0],[20,7,12,12],[11,0,0,0],[12,11,0,0],[12,11,0,0],[22,0,0,0],[16,12,0,0],[16,13,0,0],[20,13,0,0],[20,16,8,0],[22,16,0,0],[22,12,13,0],[13,0,0,0],[12,0,0,0],[11,10,0,0],[0,0,0,0],[9,0,0,0],[9,0,0,0],[12,13,0,0],[0,0,0,0],[18,0,0,0],[18,11,0,0],[18,11,0,0],[23,0,0,0],[17,11,22,0],[19,0,0,0]]
def Ci (op:Nat):List Nat:=Gz.getD op []
theorem Lf {n:Nat} (h2:n<=42):∃r0 r1 r2 r3,Ci n=[r0,r1,r2,r3]/\r0<=23/\r1<=23/\r2<=23/\r3<=23:=by
 have h:∀k,k<43->(Ci k).length=4/\∀r∈Ci k,r<=23:=by decide
 obtain⟨hl,hr⟩:=h n (by omega)
 match hm:Ci n,hl,hr with
 | [r0,r1,r2,r3],_,hr=>exact⟨r0,r1,r2,r3,rfl,hr _ (by simp),hr _ (by simp),hr _ (by simp),hr _ (by simp)⟩
structure Hm (w:World):Prop where
 lt:1<(w:Nat)
 at_:∀(op j r:Nat),(Ci op)[j]?=some r->w.cell? (1,op*4+j)=some (r:Value)
theorem Hm.l {w w':World} (h:Hm w) (hb:Below w w w'):Hm w':=
 ⟨yF h.lt hb.size,fun op j r hr=>(hb.cell (p:=⟨1,op*4+j,none⟩) h.lt).trans (h.at_ op j r hr)⟩
theorem Cb (np:Nat) (p:Pd) (r:Nat) (x:Int):∃t v,Aq np p r x=.iface t v:=by unfold Aq;split<;>exact⟨_,_,rfl⟩
theorem Qm (ao:Option Addr) (cap np:Nat) (p:Pd) (h:Ph) (n:Nd) (op f0 f1 f2 f3:Nat) (w:World) (hop:n.op=op) (h42:op<=42) (hfo:Ci op=[f0,f1,f2,f3]) (g0:f0<=23) (g1:f1<=23) (g2:f2<=23) (g3:f3<=23) (hz:Ie p) (hm:np<=1048576) (hr:0<=p.regs/\p.regs<=250) (hF:Hm w) :
  Kw 183 #[.agg #[.slice ao np cap],.agg (p.cells h),n.val] w (.agg #[Aq np p f0 n.a,Aq np p f1 n.b,Aq np p f2 n.c,Aq np p f3 n.d]):=by
 have hfld:=fun r x w hro=>A2q ao cap np p h r x w hz hm hr hro;obtain⟨x0,x1,x2,x3,x4⟩:=n;obtain⟨t0,v0,e0⟩:=Cb np p f0 x1;obtain⟨t1,v1,e1⟩:=Cb np p f1 x2;obtain⟨t2,v2,e2⟩:=Cb np p f2 x3;obtain⟨t3,v3,e3⟩:=Cb np p f3 x4;have h0:=fun w=>hfld f0 x1 w g0;have h1:=fun w=>hfld f1 x2 w g1;have h2:=fun w=>hfld f2 x3 w g2;have h3:=fun w=>hfld f3 x4 w g3;dsimp only at *;rw[e0,e1,e2,e3];simp only[e0]at h0;simp only[e1]at h1;simp only[e2]at h2;simp only[e3]at h3;clear e0 e1 e2 e3 hfld hz hr;obtain⟨nm,ln,pa,re,rg,us,cs,is,ms⟩:=p;obtain⟨uo,uc,co,cc,io,ic,no,nc⟩:=h;dsimp only[Pd.cells,Nd.val]at *;subst hop;have H0:Hid _:=h0;have H1:Hid _:=h1;have H2:Hid _:=h2;have H3:Hid _:=h3;clear h0 h1 h2 h3;have HW:∀o1 o2 o3 o4,Below w w ((((w.alloc o1).alloc o2).alloc o3).alloc o4):=fun o1 o2 o3 o4=>((((yA _ _).alloc (yB _) o1).alloc (by simp) o2).alloc (by simp;omega) o3).alloc (by simp;omega) o4;have HW5:=fun o1 o2 o3 o4 o5=>(HW o1 o2 o3 o4).alloc (by simp;omega) o5;have c0:=fun o1 o2 o3 o4=>(hF.l (HW o1 o2 o3 o4)).at_ op 0 f0 (by rw[hfo];rfl);have c1:=fun o1 o2 o3 o4=>(hF.l (HW o1 o2 o3 o4)).at_ op 1 f1 (by rw[hfo];rfl);have c2:=fun o1 o2 o3 o4=>(hF.l (HW o1 o2 o3 o4)).at_ op 2 f2 (by rw[hfo];rfl);have c3:=fun o1 o2 o3 o4=>(hF.l (HW o1 o2 o3 o4)).at_ op 3 f3 (by rw[hfo];rfl);simp only[Nat.add_zero]at c0;clear hF hfo;have hcells:∀(w':World),Blk w' w #[.slice ao np cap] 31->Blk w' ((w:Nat)+1) #[nm,ln,pa,.bool re,rg,.slice uo us.length uc,.slice co cs.length cc,.slice io is.length ic,.slice no ms.length nc] 77->Blk w' ((w:Nat)+1+1) #[op,x1,x2,x3,x4] 81->Blk w' ((w:Nat)+1+1+1+1) #[f0,f1,f2,f3] 389->w'.cell? ((w:Nat),0)=some (.slice ao np cap)/\w'.cell? ((w:Nat)+1,0)=some (.string nm)/\w'.cell? ((w:Nat)+1,1)=some (ln:Value)/\w'.cell? ((w:Nat)+1,2)=some (pa:Value)/\w'.cell? ((w:Nat)+1,3)=some (.bool re)/\w'.cell? ((w:Nat)+1,4)=some (rg:Value)/\w'.cell? ((w:Nat)+1,5)=some (.slice uo us.length uc)/\w'.cell? ((w:Nat)+1,6)=some (.slice co cs.length cc)/\w'.cell? ((w:Nat)+1,7)=some (.slice io is.length ic)/\w'.cell? ((w:Nat)+1,8)=some (.slice no ms.length nc)/\w'.cell? ((w:Nat)+1+1,0)=some (op:Value)/\w'.cell? ((w:Nat)+1+1,1)=some (x1:Value)/\w'.cell? ((w:Nat)+1+1,2)=some (x2:Value)/\w'.cell? ((w:Nat)+1+1,3)=some (x3:Value)/\w'.cell? ((w:Nat)+1+1,4)=some (x4:Value)/\w'.cell? ((w:Nat)+1+1+1+1,0)=some (f0:Value)/\w'.cell? ((w:Nat)+1+1+1+1,1)=some (f1:Value)/\w'.cell? ((w:Nat)+1+1+1+1,2)=some (f2:Value)/\w'.cell? ((w:Nat)+1+1+1+1,3)=some (f3:Value):=by intro w' h1 h2 h3 h4;exact⟨h1.cell 0,h2.cell 0,h2.cell 1,h2.cell 2,h2.cell 3,h2.cell 4,h2.cell 5,h2.cell 6,h2.cell 7,h2.cell 8,h3.cell 0,h3.cell 1,h3.cell 2,h3.cell 3,h3.cell 4,h4.cell 0,h4.cell 1,h4.cell 2,h4.cell 3⟩
 have HC:Hid _:=hcells;clear hcells;have K0:Blk (((((w.alloc (.cells #[.slice ao np cap] 31)).alloc (.cells #[nm,ln,pa,.bool re,rg,.slice uo us.length uc,.slice co cs.length cc,.slice io is.length ic,.slice no ms.length nc] 77)).alloc (.cells #[op,x1,x2,x3,x4] 81)).alloc (.cells #[.nilIface,.nilIface,.nilIface,.nilIface] 296)).alloc (.cells #[f0,f1,f2,f3] 389)).drew (w:Nat) #[.slice ao np cap] 31/\Blk (((((w.alloc (.cells #[.slice ao np cap] 31)).alloc (.cells #[nm,ln,pa,.bool re,rg,.slice uo us.length uc,.slice co cs.length cc,.slice io is.length ic,.slice no ms.length nc] 77)).alloc (.cells #[op,x1,x2,x3,x4] 81)).alloc (.cells #[.nilIface,.nilIface,.nilIface,.nilIface] 296)).alloc (.cells #[f0,f1,f2,f3] 389)).drew ((w:Nat)+1) #[nm,ln,pa,.bool re,rg,.slice uo us.length uc,.slice co cs.length cc,.slice io is.length ic,.slice no ms.length nc] 77/\Blk (((((w.alloc (.cells #[.slice ao np cap] 31)).alloc (.cells #[nm,ln,pa,.bool re,rg,.slice uo us.length uc,.slice co cs.length cc,.slice io is.length ic,.slice no ms.length nc] 77)).alloc (.cells #[op,x1,x2,x3,x4] 81)).alloc (.cells #[.nilIface,.nilIface,.nilIface,.nilIface] 296)).alloc (.cells #[f0,f1,f2,f3] 389)).drew ((w:Nat)+1+1) #[op,x1,x2,x3,x4] 81/\Blk (((((w.alloc (.cells #[.slice ao np cap] 31)).alloc (.cells #[nm,ln,pa,.bool re,rg,.slice uo us.length uc,.slice co cs.length cc,.slice io is.length ic,.slice no ms.length nc] 77)).alloc (.cells #[op,x1,x2,x3,x4] 81)).alloc (.cells #[.nilIface,.nilIface,.nilIface,.nilIface] 296)).alloc (.cells #[f0,f1,f2,f3] 389)).drew ((w:Nat)+1+1+1) #[.nilIface,.nilIface,.nilIface,.nilIface] 296/\Blk (((((w.alloc (.cells #[.slice ao np cap] 31)).alloc (.cells #[nm,ln,pa,.bool re,rg,.slice uo us.length uc,.slice co cs.length cc,.slice io is.length ic,.slice no ms.length nc] 77)).alloc (.cells #[op,x1,x2,x3,x4] 81)).alloc (.cells #[.nilIface,.nilIface,.nilIface,.nilIface] 296)).alloc (.cells #[f0,f1,f2,f3] 389)).drew ((w:Nat)+1+1+1+1) #[f0,f1,f2,f3] 389:=by have a1:=Blk.new w #[.slice ao np cap] 31;have a2:=Blk.new (w.alloc (.cells #[.slice ao np cap] 31)) #[nm,ln,pa,.bool re,rg,.slice uo us.length uc,.slice co cs.length cc,.slice io is.length ic,.slice no ms.length nc] 77;have a3:=Blk.new ((w.alloc (.cells #[.slice ao np cap] 31)).alloc (.cells #[nm,ln,pa,.bool re,rg,.slice uo us.length uc,.slice co cs.length cc,.slice io is.length ic,.slice no ms.length nc] 77)) #[op,x1,x2,x3,x4] 81;have a4:=Blk.new (((w.alloc (.cells #[.slice ao np cap] 31)).alloc (.cells #[nm,ln,pa,.bool re,rg,.slice uo us.length uc,.slice co cs.length cc,.slice io is.length ic,.slice no ms.length nc] 77)).alloc (.cells #[op,x1,x2,x3,x4] 81)) #[.nilIface,.nilIface,.nilIface,.nilIface] 296;have a5:=Blk.new ((((w.alloc (.cells #[.slice ao np cap] 31)).alloc (.cells #[nm,ln,pa,.bool re,rg,.slice uo us.length uc,.slice co cs.length cc,.slice io is.length ic,.slice no ms.length nc] 77)).alloc (.cells #[op,x1,x2,x3,x4] 81)).alloc (.cells #[.nilIface,.nilIface,.nilIface,.nilIface] 296)) #[f0,f1,f2,f3] 389;simp only[nblk_alloc]at a2 a3 a4 a5;exact⟨(((a1.alloc _).alloc _).alloc _).alloc _,((a2.alloc _).alloc _).alloc _,(a3.alloc _).alloc _,a4.alloc _,a5⟩
 have HK:Hid _:=K0;clear K0;have HB0:Hid (Below w w (((((w.alloc (.cells #[.slice ao np cap] 31)).alloc (.cells #[nm,ln,pa,.bool re,rg,.slice uo us.length uc,.slice co cs.length cc,.slice io is.length ic,.slice no ms.length nc] 77)).alloc (.cells #[op,x1,x2,x3,x4] 81)).alloc (.cells #[.nilIface,.nilIface,.nilIface,.nilIface] 296)).alloc (.cells #[f0,f1,f2,f3] 389)).drew):=(HW5 _ _ _ _ _).drew;clear HW HW5;unfold Kw;go_in;go_wp2_with fail;clear c0 c1 c2 c3;obtain⟨e_0,e_1,e_2,e_3,e_4,e_5,e_6,e_7,e_8,e_9,e_10,e_11,e_12,e_13,e_14,e_15,e_16,e_17,e_18⟩:=HC.out (((((w.alloc (.cells #[.slice ao np cap] 31)).alloc (.cells #[nm,ln,pa,.bool re,rg,.slice uo us.length uc,.slice co cs.length cc,.slice io is.length ic,.slice no ms.length nc] 77)).alloc (.cells #[op,x1,x2,x3,x4] 81)).alloc (.cells #[.nilIface,.nilIface,.nilIface,.nilIface] 296)).alloc (.cells #[f0,f1,f2,f3] 389)).drew HK.out.1 HK.out.2.1 HK.out.2.2.1 HK.out.2.2.2.2;go_region_held3 (fun w'=>w'.cell? ((w:Nat),0)=some (.slice ao np cap)/\w'.cell? ((w:Nat)+1,0)=some (.string nm)/\w'.cell? ((w:Nat)+1,1)=some (ln:Value)/\w'.cell? ((w:Nat)+1,2)=some (pa:Value)/\w'.cell? ((w:Nat)+1,3)=some (.bool re)/\w'.cell? ((w:Nat)+1,4)=some (rg:Value)/\w'.cell? ((w:Nat)+1,5)=some (.slice uo us.length uc)/\w'.cell? ((w:Nat)+1,6)=some (.slice co cs.length cc)/\w'.cell? ((w:Nat)+1,7)=some (.slice io is.length ic)/\w'.cell? ((w:Nat)+1,8)=some (.slice no ms.length nc)/\w'.cell? ((w:Nat)+1+1,0)=some (op:Value)/\w'.cell? ((w:Nat)+1+1,1)=some (x1:Value)/\w'.cell? ((w:Nat)+1+1,2)=some (x2:Value)/\w'.cell? ((w:Nat)+1+1,3)=some (x3:Value)/\w'.cell? ((w:Nat)+1+1,4)=some (x4:Value)/\w'.cell? ((w:Nat)+1+1+1+1,0)=some (f0:Value)/\w'.cell? ((w:Nat)+1+1+1+1,1)=some (f1:Value)/\w'.cell? ((w:Nat)+1+1+1+1,2)=some (f2:Value)/\w'.cell? ((w:Nat)+1+1+1+1,3)=some (f3:Value)) (first|(go_keep;done)|(simp +arith [*,yG];done))
  (first
   | (go_at_call_of 250 (Value.int IntKind.i64 x1);refine(H0.out _).mono ?_;rintro e w1 ⟨rfl,hw1⟩;have B1:=HB0.out.trans (hw1.mono HB0.out.size);have K1:=And.intro (HK.out.1.l hw1) (And.intro (HK.out.2.1.l hw1) (And.intro (HK.out.2.2.1.l hw1) (And.intro (HK.out.2.2.2.1.l hw1) (HK.out.2.2.2.2.l hw1))));obtain⟨d1_0,d1_1,d1_2,d1_3,d1_4,d1_5,d1_6,d1_7,d1_8,d1_9,d1_10,d1_11,d1_12,d1_13,d1_14,d1_15,d1_16,d1_17,d1_18⟩:=HC.out w1 K1.1 K1.2.1 K1.2.2.1 K1.2.2.2.2)
   | (go_at_call_of 250 (Value.int IntKind.i64 x2);refine(H1.out _).mono ?_;rintro e w2 ⟨rfl,hw2⟩;have B2:=B1.trans (hw2.mono B1.size);have K2:=And.intro (K1.1.l hw2) (And.intro (K1.2.1.l hw2) (And.intro (K1.2.2.1.l hw2) (And.intro (K1.2.2.2.1.l hw2) (K1.2.2.2.2.l hw2))));obtain⟨d2_0,d2_1,d2_2,d2_3,d2_4,d2_5,d2_6,d2_7,d2_8,d2_9,d2_10,d2_11,d2_12,d2_13,d2_14,d2_15,d2_16,d2_17,d2_18⟩:=HC.out w2 K2.1 K2.2.1 K2.2.2.1 K2.2.2.2.2)
   | (go_at_call_of 250 (Value.int IntKind.i64 x3);refine(H2.out _).mono ?_;rintro e w3 ⟨rfl,hw3⟩;have B3:=B2.trans (hw3.mono B2.size);have K3:=And.intro (K2.1.l hw3) (And.intro (K2.2.1.l hw3) (And.intro (K2.2.2.1.l hw3) (And.intro (K2.2.2.2.1.l hw3) (K2.2.2.2.2.l hw3))));obtain⟨d3_0,d3_1,d3_2,d3_3,d3_4,d3_5,d3_6,d3_7,d3_8,d3_9,d3_10,d3_11,d3_12,d3_13,d3_14,d3_15,d3_16,d3_17,d3_18⟩:=HC.out w3 K3.1 K3.2.1 K3.2.2.1 K3.2.2.2.2)
   | (go_at_call_of 250 (Value.int IntKind.i64 x4);refine(H3.out _).mono ?_;rintro e w4 ⟨rfl,hw4⟩;have B4:=B3.trans (hw4.mono B3.size);have K4:=And.intro (K3.1.l hw4) (And.intro (K3.2.1.l hw4) (And.intro (K3.2.2.1.l hw4) (And.intro (K3.2.2.2.1.l hw4) (K3.2.2.2.2.l hw4))));obtain⟨d4_0,d4_1,d4_2,d4_3,d4_4,d4_5,d4_6,d4_7,d4_8,d4_9,d4_10,d4_11,d4_12,d4_13,d4_14,d4_15,d4_16,d4_17,d4_18⟩:=HC.out w4 K4.1 K4.2.1 K4.2.2.1 K4.2.2.2.2;have z4:=K4.2.2.2.1.cell;have zf4:=K4.2.2.2.1.frozen))
 clear e_0 e_1 e_2 e_3 e_4 e_5 e_6 e_7 e_8 e_9 e_10 e_11 e_12 e_13 e_14 e_15 e_16 e_17 e_18;go_wp2_with fail;refine bodyPost_ret ?_ rfl ⟨rfl,?_⟩
 ·simp[results,results183,go_sem,z4]
 ·iterate 4 (refine yP ?_ (by simp;try omega) _)
  exact B4
end Go.Proofs.YtjbbppblgjhapaaGreatDoor
