import Derived.Laws.FloatArith
import Derived.Test.YtjbbppblgjhapaaGreatDoorJ01
set_option maxRecDepth 100000
set_option maxHeartbeats 4000000
namespace Go.Proofs.YtjbbppblgjhapaaGreatDoor
open Go.Deep Go.Proofs.Tryz Go.RowKit
def inR (x lo hi:Int):Bool:=decide (lo<=x)&&decide (x<=hi)
theorem Jw (x lo hi:Int) (w:World) :
  Calls prog 166 #[x,lo,hi] w fun e w'=>e=.returned (.bool (inR x lo hi))/\w'=w:=by
 go_in;go_wp2
 ·go_ret;exact⟨Ab (by simp[inR, *]),rfl⟩
 ·go_ret;exact⟨Ab (by simp[inR];omega),rfl⟩
theorem Cq (x lo hi:Int) (w:World) :
  Calls prog 133 #[x,lo,hi] w fun e w'=>e=.returned (.bool (inR x lo hi))/\w'=w:=by
 go_in;go_wp2
 ·go_ret;exact⟨Ab (by simp[inR, *]),rfl⟩
 ·go_ret;exact⟨Ab (by simp[inR];omega),rfl⟩
def A63 (p:Pd):Int:=if p.rest then wrap64 (p.regs-1) else p.regs
def Ja (p:Pd) (i:Nat):Bool:=
 decide (p.name.size<=40)&&inR p.line 0 100000&&inR p.regs 0 250&&inR p.params 0 (A63 p)&&decide (p.ups.length<=250)&&decide (p.consts.length<=500)&&(decide (0<i)||(p.params==0&&(p.ups.length:Int)==0))
theorem Aep {k:Int} {a b:Bool} (h:a=b):Ending.returned (.tuple #[k,.bool a])=.returned (.tuple #[k,.bool b]):=by rw[h]
theorem A0j (ao:Option Addr) (cap:Nat) (ps:List Pd) (i:Nat) (p:Pd) (w:World) (hi:ps[i]?=some p) (hz:Ie p) (_hm:ps.length<=1048576) (hv:Ad 0 w ao ps) :
  Kw 162 #[.agg #[.slice ao ps.length cap],i] w (.bool (Ja p i)):=by
 have hlt:i<ps.length:=(yD.1 hi).1;have hb1:∀o,Below w w (w.alloc o):=fun o=>(yA _ _).alloc (yB _) o;obtain⟨b,off,rfl,_,hbl,h,n1,i1⟩:=hv i p hi;clear hv hi;obtain⟨z1,z2,z3,z4⟩:=hz;obtain⟨nm,ln,pa,re,rg,us,cs,is,ms⟩:=p;obtain⟨uo,uc,co,cc,io,ic,no,nc⟩:=h;obtain⟨p0,p1,p2,p3,p4,p5,p6,p7,p8⟩:=n1;dsimp only at *;unfold Kw;go_in;go_wp2_with (go_at_call 166;refine(Jw _ _ _ _).mono ?_;rintro e w' ⟨rfl,rfl⟩);all_goals
  go_ret;refine⟨Ab ?_,(hb1 _).alloc (by simp) _⟩;clear p0 p1 p2 p3 p4 p5 p6 p7 p8 hb1;first
  | (simp_all [Ja,A63];done)
  | (simp_all [Ja,A63];omega)
theorem Xe (ao:Option Addr) (cap:Nat) (ps:List Pd) (i:Nat) (p:Pd) (w:World) (hi:ps[i]?=some p) (hz:Ie p) (_hm:ps.length<=1048576) (hv:Ad 0 w ao ps) :
  Kw 96 #[.agg #[.slice ao ps.length cap],i] w (.tuple #[(),.bool (Ja p i)]):=by
 have hlt:i<ps.length:=(yD.1 hi).1;have hb1:∀o,Below w w (w.alloc o):=fun o=>(yA _ _).alloc (yB _) o;obtain⟨b,off,rfl,_,hbl,h,n1,i1⟩:=hv i p hi;clear hv hi;obtain⟨z1,z2,z3,z4⟩:=hz;obtain⟨nm,ln,pa,re,rg,us,cs,is,ms⟩:=p;obtain⟨uo,uc,co,cc,io,ic,no,nc⟩:=h;obtain⟨p0,p1,p2,p3,p4,p5,p6,p7,p8⟩:=n1;dsimp only at *;unfold Kw;go_in;go_wp2_with (go_at_call 133;refine(Cq _ _ _ _).mono ?_;rintro e w' ⟨rfl,rfl⟩);all_goals
  go_ret2;refine⟨Aep ?_,(hb1 _).alloc (by simp) _⟩;clear p0 p1 p2 p3 p4 p5 p6 p7 p8 hb1;first
  | (simp_all [Ja,A63];done)
  | (simp_all [Ja,A63];omega)
def Bg (np:Nat) (p:Pd) (role:Nat) (x:Int):Bool:=
 match role with
 | 0=>x==0
 | 1=>inR x 0 (p.regs-1)
 | 2=>inR x (-p.regs) (p.regs-1)
 | 3=>inR x (-p.regs) (p.regs-1)
 | 4=>inR x 0 (p.regs-1)
 | 5=>inR x 0 (p.regs-1)
 | 6=>inR x 0 (p.regs-1)
 | 7=>inR x 0 (p.consts.length-1)
 | 8=>inR x 0 (p.ups.length-1)
 | 9=>inR x 0 (np-1)
 | 10=>inR x 0 (p.ins.length-1)
 | 11=>inR x 1 100000
 | 12=>inR x 0 100000
 | 13=>inR x 0 p.regs
 | 14=>inR x 0 (p.regs-2)
 | 15=>inR x 19 22
 | 16=>inR x 1 18
 | 17=>inR x 0 250
 | 18=>inR x 0 (p.regs-3)
 | 21=>inR x 0 (p.regs-1)
 | _=>inR x 0 (p.regs-2)
theorem Sg (n:Nat) (h:n<=21):n=0∨n=1∨n=2∨n=3∨n=4∨n=5∨n=6∨n=7∨n=8∨n=9∨n=10∨n=11∨n=12∨n=13∨n=14∨n=15∨n=16∨n=17∨n=18∨n=19∨n=20∨n=21:=by omega
theorem A5s (ao:Option Addr) (cap:Nat) (ps:List Pd) (i:Nat) (p:Pd) (role:Nat) (x:Int) (w:World) (hi:ps[i]?=some p) (hz:Ie p) (hm:ps.length<=1048576) (hr:0<=p.regs/\p.regs<=250) (hv:Ad 0 w ao ps) (hro:role<=21) :
  Kw 242 #[.agg #[.slice ao ps.length cap],i,role,x] w (.bool (Bg ps.length p role x)):=by
 have hlt:i<ps.length:=(yD.1 hi).1;have hb2:∀o1 o2,Below w w ((w.alloc o1).alloc o2):=fun o1 o2=>((yA _ _).alloc (yB _) o1).alloc (by simp) o2;obtain⟨b,off,rfl,_,hbl,h,n1,i1⟩:=hv i p hi;clear hv hi i1;obtain⟨z1,z2,z3,z4⟩:=hz;obtain⟨nm,ln,pa,re,rg,us,cs,is,ms⟩:=p;obtain⟨uo,uc,co,cc,io,ic,no,nc⟩:=h;obtain⟨p0,p1,p2,p3,p4,p5,p6,p7,p8⟩:=n1;dsimp only at *;obtain⟨hr1,hr2⟩:=hr;rcases Sg role hro with rfl|rfl|rfl|rfl|rfl|rfl|rfl|rfl|rfl|rfl|rfl|rfl|rfl|rfl|rfl|rfl|rfl|rfl|rfl|rfl|rfl|rfl;all_goals
  clear hro;unfold Kw;go_in;go_wp2_with (go_at_call 166;refine(Jw _ _ _ _).mono ?_;rintro e w' ⟨rfl,rfl⟩);go_ret;exact⟨Ab rfl,hb2 _ _⟩
def Ed:List (List Nat):=[[],[11,0,0,0],[12,0,0,0],[0,0,0,0],[1,7,0,0],[1,2,0,0],[1,2,0,0],[1,5,0,0],[5,2,0,0],[1,8,0,0],[8,2,0,0],[1,9,0,0],[1,0,0,0],[4,2,2,0],[4,2,3,0],[1,2,2,0],[2,2,2,0],[1,15,2,0],[1,16,2,2],[10,0,0,0],[2,10,0,0],[2,10,0,0],[1,0,0,0],[6,2,0,0],[6,3,0,0],[1,3,0,0],[1,6,17,0],[1,6,0,0],[1,2,3,0],[3,0,0,0],[2,0,0,0],[10,14,0,0],[0,0,0,0],[13,0,0,0],[13,0,0,0],[2,3,0,0],[0,0,0,0],[18,0,0,0],[18,10,0,0],[18,10,0,0],[19,0,0,0],[20,10,1,0],[21,0,0,0]]
def Bh (op:Nat):List Nat:=Ed.getD op []
theorem A15 (n:Nat) (h1:1<=n) (h2:n<=42):n=1∨n=2∨n=3∨n=4∨n=5∨n=6∨n=7∨n=8∨n=9∨n=10∨n=11∨n=12∨n=13∨n=14∨n=15∨n=16∨n=17∨n=18∨n=19∨n=20∨n=21∨n=22∨n=23∨n=24∨n=25∨n=26∨n=27∨n=28∨n=29∨n=30∨n=31∨n=32∨n=33∨n=34∨n=35∨n=36∨n=37∨n=38∨n=39∨n=40∨n=41∨n=42:=by omega
theorem Nf (n r0 r1 r2 r3:Nat) (w:World) (h1:1<=n) (h2:n<=42) (hr:Bh n=[r0,r1,r2,r3]) :
  Calls prog 168 #[n] w fun e w'=>e=.returned (.slice (w:Nat) 4 4)/\w'=w.alloc (.cells #[r0,r1,r2,r3] 3):=by
 rcases A15 n h1 h2 with rfl|rfl|rfl|rfl|rfl|rfl|rfl|rfl|rfl|rfl|rfl|rfl|rfl|rfl|rfl|rfl|rfl|rfl|rfl|rfl|rfl|rfl|rfl|rfl|rfl|rfl|rfl|rfl|rfl|rfl|rfl|rfl|rfl|rfl|rfl|rfl|rfl|rfl|rfl|rfl|rfl|rfl;all_goals
  simp only[Bh,Ed,List.getD_cons_succ,List.getD_cons_zero,List.cons.injEq,and_true]at hr;obtain⟨rfl,rfl,rfl,rfl⟩:=hr;clear h1 h2;go_in;go_wp2;go_ret;exact⟨rfl,rfl⟩
end Go.Proofs.YtjbbppblgjhapaaGreatDoor
