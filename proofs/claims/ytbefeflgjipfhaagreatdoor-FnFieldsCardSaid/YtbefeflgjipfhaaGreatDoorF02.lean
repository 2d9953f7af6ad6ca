import Derived.Laws.StructEq
import Derived.Test.YtbefeflgjipfhaaGreatDoorF01
set_option maxHeartbeats 2000000
namespace Go.Proofs.YtbefeflgjipfhaaGreatDoor
open Go.Deep Go.Proofs.Tryz Go.RowKit
variable{arr:Array Value}{k:Int}{ts:List Int}{g i:Nat}{row:Option Nat}{t:TypeId}
def inR (x lo hi:Int):Bool:=decide (lo<=x)&&decide (x<=hi)
theorem Bn (x lo hi:Int) (w:World) :
  Calls prog 30 #[.int .i64 x,.int .i64 lo,.int .i64 hi] w fun e w'=>e=.returned (.bool (inR x lo hi))/\w'=w:=by
 go_in;go_wp2
 ·go_ret;exact⟨Ac (by simp[inR, *]),rfl⟩
 ·go_ret;exact⟨Ac (by simp[inR];omega),rfl⟩
def most (p:Pd):Int:=if p.rest then wrap64 (p.regs-1) else p.regs
def Jl (p:Pd) (i:Nat):Bool:=
 decide (p.name.size<=40)&&inR p.line 0 100000&&inR p.regs 0 250&&inR p.params 0 (most p)&&decide (p.ups.length<=250)&&decide (p.consts.length<=500)&&(decide (0<i)||(p.params==0&&(p.ups.length:Int)==0))
theorem Aac {a b:Bool} (h:a=b):Ending.returned (.tuple #[.int .i64 k,.bool a])=.returned (.tuple #[.int .i64 k,.bool b]):=by rw[h]
theorem Sg (ao:Option Addr) (cap:Nat) (ps:List Pd) (i:Nat) (p:Pd) (w:World) (hi:ps[i]?=some p) (hz:Ny p) (_hm:ps.length<=1048576) (hv:Az 0 w ao ps) :
  Kw 253 #[.agg #[.slice ao ps.length cap],.int .i64 i] w (.tuple #[.int .i64 0,.bool (Jl p i)]):=by
 have hlt:i<ps.length:=(yD.1 hi).1;have hb1:∀o,Below w.heap.size w (w.alloc o):=fun o=>(yA _ _).alloc (yB _) o;obtain⟨b,off,rfl,_,hbl,h,n1,i1⟩:=hv i p hi;clear hv hi;obtain⟨z1,z2,z3,z4⟩:=hz;obtain⟨nm,ln,pa,re,rg,us,cs,is,ms⟩:=p;obtain⟨uo,uc,co,cc,io,ic,no,nc⟩:=h;obtain⟨p0,p1,p2,p3,p4,p5,p6,p7,p8⟩:=n1;dsimp only at *;(try unfold Kw);go_in;go_wp2_with (go_at_call 30;refine(Bn _ _ _ _).mono ?_;rintro e w' ⟨rfl,rfl⟩);all_goals
  go_ret2;refine⟨Aac ?_,(hb1 _).alloc (by simp) _⟩;clear p0 p1 p2 p3 p4 p5 p6 p7 p8 hb1;first
  | (simp_all [Jl,most];done)
  | (simp_all [Jl,most];omega)
def Bd (np:Nat) (p:Pd) (role:Nat) (x:Int):Bool:=
 match role with
 | 0=>x==0
 | 1=>inR x 0 (p.regs-1)
 | 2=>inR x (-p.regs) (p.regs-1)
 | 3=>inR x (-p.regs) (p.regs-1)
 | 4=>inR x 0 (p.regs-1)
 | 5=>inR x 0 (p.regs-1)
 | 6=>inR x 0 (p.regs-1)
 | 7=>inR x 0 (p.consts.length-1)
 | 8=>inR x 0 (p.ups.length-1)
 | 9=>inR x 0 (np-1)
 | 10=>inR x 0 (p.ins.length-1)
 | 11=>inR x 1 100000
 | 12=>inR x 0 100000
 | 13=>inR x 0 p.regs
 | 14=>inR x 0 (p.regs-2)
 | 15=>inR x 19 22
 | 16=>inR x 1 18
 | 17=>inR x 0 250
 | 18=>inR x 0 (p.regs-3)
 | 21=>inR x 0 (p.regs-1)
 | _=>inR x 0 (p.regs-2)
def Em (np:Nat) (p:Pd):List Nat->List Int->Bool
 | r::rs,x::xs=>Bd np p r x&&Em np p rs xs
 | _,_=>true
def Nd.fs (n:Nd):List Int:=[n.a,n.b,n.c,n.d]
theorem Dx {a b:World} (h:Blk a g arr t) (hg:a.grownBy b row) (hn:some g≠row):Blk b g arr t:=(hg.block g h.lt hn).trans h
structure El (np:Nat) (p:Pd) (n:Nd):Prop where
 lo:1<=n.op
 hi:n.op<=42
 fit:Em np p (Bt n.op.toNat) n.fs=true
def J8 (n:Nd) (ts:List Int):List Int:=
 if n.op=6 then ts.set n.a.toNat 2
 else if n.op=22∨n.op=27∨n.op=28 then ts.set n.a.toNat 3
 else if n.op=40 then ts.set (n.a.toNat+1) 1
 else if n.op=42 then ts.set n.a.toNat 0
 else if n.op=41 then ts.set n.c.toNat 3
 else if (Bt n.op.toNat).getD 0 0=1 then ts.set n.a.toNat 1 else ts
theorem Ha (ts:List Int) (i:Nat) (x:Int):(Bj ts).set i (.int .i64 x)=Bj (ts.set i x):=by simp[Bj,List.map_set]
theorem De (h:i<ts.length):(Bj ts)[i]?=some (.int .i64 (ts.getD i 0)):=by simp[Bj,h]
end Go.Proofs.YtbefeflgjipfhaaGreatDoor
