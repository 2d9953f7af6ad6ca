import Derived.Test.YtbefeflgjipfhaaGreatDoorF01
set_option maxRecDepth 100000
set_option maxHeartbeats 4000000
namespace Go.Proofs.YtbefeflgjipfhaaGreatDoor
open Go.Deep Go.Proofs.Tryz Go.RowKit
def A2l (r:Nat):Int:=match r with|1=>1|6=>19|7=>1|_=>0
def A2k (np:Nat) (p:Pd) (r:Nat):Int:=
 match r with
 | 1=>100000
 | 2=>100000
 | 3=>p.consts.length-1
 | 4=>p.ups.length-1
 | 5=>np-1
 | 6=>22
 | 7=>18
 | 8=>250
 | 9=>p.regs
 | 10=>p.regs-2
 | _=>0
theorem U7 (n:Nat) (h:n<=23):n=0∨n=1∨n=2∨n=3∨n=4∨n=5∨n=6∨n=7∨n=8∨n=9∨n=10∨n=11∨n=12∨n=13∨n=14∨n=15∨n=16∨n=17∨n=18∨n=19∨n=20∨n=21∨n=22∨n=23:=by omega
def Al (np:Nat) (p:Pd) (r:Nat) (x:Int):Value:=
 match r with
 | 0=>.iface 487 (.int .i64 x)
 | 11=>.iface 491 (.agg #[.int .i64 x,.int .i64 p.ins.length])
 | 12=>.iface 286 (.agg #[.int .i64 x,.int .i64 1])
 | 13=>.iface 286 (.agg #[.int .i64 x,.int .i64 3])
 | 14=>.iface 489 (.agg #[.int .i64 x,.int .i64 1,.int .i64 1])
 | 15=>.iface 489 (.agg #[.int .i64 x,.int .i64 1,.int .i64 2])
 | 16=>.iface 489 (.agg #[.int .i64 x,.int .i64 1,.int .i64 3])
 | 17=>.iface 489 (.agg #[.int .i64 x,.int .i64 2,.int .i64 1])
 | 18=>.iface 489 (.agg #[.int .i64 x,.int .i64 3,.int .i64 1])
 | 19=>.iface 463 (.agg #[.int .i64 x,.int .i64 0])
 | 20=>.iface 463 (.agg #[.int .i64 x,.int .i64 1])
 | 21=>.iface 463 (.agg #[.int .i64 x,.int .i64 2])
 | 22=>.iface 463 (.agg #[.int .i64 x,.int .i64 3])
 | 23=>.iface 465 (.agg #[.int .i64 x])
 | r=>.iface 493 (.agg #[.int .i64 x,.int .i64 (A2l r),.int .i64 (A2k np p r)])
theorem Wt (ao:Option Addr) (cap np:Nat) (p:Pd) (h:Ph) (r:Nat) (x:Int) (w:World) (hz:Ny p) (hm:np<=1048576) (hr:0<=p.regs/\p.regs<=250) (hr0:1<=r) (hro:r<=10) :
  Kw 390 #[.agg #[.slice ao np cap],.agg (p.cells h),.int .i64 r,.int .i64 x] w (.agg #[.int .i64 x,.int .i64 (A2l r),.int .i64 (A2k np p r)]):=by
 obtain⟨z1,z2,z3,z4⟩:=hz;obtain⟨nm,ln,pa,re,rg,us,cs,is,ms⟩:=p;obtain⟨uo,uc,co,cc,io,ic,no,nc⟩:=h;dsimp only[Pd.cells]at *;obtain⟨hr1,hr2⟩:=hr;rcases (by omega:r=1∨r=2∨r=3∨r=4∨r=5∨r=6∨r=7∨r=8∨r=9∨r=10) with rfl|rfl|rfl|rfl|rfl|rfl|rfl|rfl|rfl|rfl;all_goals
  clear hro hr0;(try unfold Kw);go_in;go_wp2_with fail;refine bodyPost_ret ?_ rfl ⟨rfl,(((yA _ _).alloc (yB _) _).alloc (by simp) _).alloc (by simp;omega) _⟩;simp[results,results390,go_sem,A2l,A2k]
theorem Mt (np:Nat) (p:Pd) (r:Nat) (x:Int) (h1:1<=r) (h2:r<=10):Al np p r x=.iface 493 (.agg #[.int .i64 x,.int .i64 (A2l r),.int .i64 (A2k np p r)]):=by rcases (by omega:r=1∨r=2∨r=3∨r=4∨r=5∨r=6∨r=7∨r=8∨r=9∨r=10) with rfl|rfl|rfl|rfl|rfl|rfl|rfl|rfl|rfl|rfl<;>rfl
theorem Yf (ao:Option Addr) (cap np:Nat) (p:Pd) (h:Ph) (r:Nat) (x:Int) (w:World) (hz:Ny p) (hm:np<=1048576) (hr:0<=p.regs/\p.regs<=250) (hro:r<=23) :
  Kw 362 #[.agg #[.slice ao np cap],.agg (p.cells h),.int .i64 r,.int .i64 x] w (Al np p r x):=by
 have hnum:=fun r w h1 h10=>Wt ao cap np p h r x w hz hm hr h1 h10;have hb2:∀o1 o2,Below w.heap.size w ((w.alloc o1).alloc o2):=fun o1 o2=>((yA _ _).alloc (yB _) o1).alloc (by simp) o2;obtain⟨z1,z2,z3,z4⟩:=hz;obtain⟨nm,ln,pa,re,rg,us,cs,is,ms⟩:=p;obtain⟨uo,uc,co,cc,io,ic,no,nc⟩:=h;dsimp only[Pd.cells]at *;obtain⟨hr1,hr2⟩:=hr;have HN:Hid _:=hnum;clear hnum;by_cases hn:1<=r/\r<=10
 ·obtain⟨n1,n2⟩:=hn;have HF:Hid _:=Mt np ⟨nm,ln,pa,re,rg,us,cs,is,ms⟩ r x n1 n2;have hq:∀k:Int,(k=0∨11<=k)->((r:Int)==k)=false:=fun k hk=>by simp;omega
  have q0:=hq 0 (by omega);have q11:=hq 11 (by omega);have q12:=hq 12 (by omega);have q13:=hq 13 (by omega);have q14:=hq 14 (by omega);have q15:=hq 15 (by omega);have q16:=hq 16 (by omega);have q17:=hq 17 (by omega);have q18:=hq 18 (by omega);have q19:=hq 19 (by omega);have q20:=hq 20 (by omega);have q21:=hq 21 (by omega);have q22:=hq 22 (by omega);have q23:=hq 23 (by omega);have HN1:Hid (∀w,_):=fun w=>HN.out r w n1 n2;clear hq HN hro n1 n2;(try unfold Kw);go_in;go_wp2_with fail;refine(HN1.out _).mono ?_;rintro e w1 ⟨rfl,hw1⟩;go_wp2;go_ret;rw[HF.out];exact⟨rfl,(hb2 _ _).trans (hw1.mono (by simp;omega))⟩
 ·rcases (by omega:r=0∨r=11∨r=12∨r=13∨r=14∨r=15∨r=16∨r=17∨r=18∨r=19∨r=20∨r=21∨r=22∨r=23) with rfl|rfl|rfl|rfl|rfl|rfl|rfl|rfl|rfl|rfl|rfl|rfl|rfl|rfl;all_goals
   clear hro HN hn;(try unfold Kw);go_in;go_wp2;go_ret;exact⟨rfl,hb2 _ _⟩
end Go.Proofs.YtbefeflgjipfhaaGreatDoor
