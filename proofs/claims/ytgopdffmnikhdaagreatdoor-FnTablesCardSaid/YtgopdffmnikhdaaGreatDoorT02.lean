import Derived.Test.YtgopdffmnikhdaaGreatDoorT01
import Derived.Laws.FloatArith
namespace Go.Proofs.YtgopdffmnikhdaaGreatDoor
open Go.RowKit Go.Deep
def inR (x lo hi:Int):Bool:=decide (lo≤x) && decide (x≤hi)
set_option maxHeartbeats 400000 in
theorem within_any (x lo hi:Int) (w:World) :
  Calls Tryz.prog 29 #[.int .i64 x,.int .i64 lo,.int .i64 hi] w fun e w'=>e=.returned (.bool (inR x lo hi))∧w'=w:=by
 go_enter Tryz.func29,Tryz.ntmps29
 go_wp2
 ·go_ret
  exact⟨ret_bool (by simp [inR, *]),rfl⟩
 ·go_ret
  exact⟨ret_bool (by simp [inR];omega),rfl⟩
def most (p:Pd):Int:=if p.rest then wrap64 (p.regs - 1) else p.regs
def headOk (p:Pd) (i:Nat):Bool:=
 decide (p.name.size≤40) && inR p.line 0 100000 && inR p.regs 0 250 && inR p.params 0 (most p) && decide (p.ups.length≤250) && decide (p.consts.length≤500) && (decide (0<i) || (p.params == 0 && (p.ups.length:Int) == 0))
theorem ret_ib {k:Int} {a b:Bool} (h:a=b):Ending.returned (.tuple #[.int .i64 k,.bool a])=.returned (.tuple #[.int .i64 k,.bool b]):=by rw [h]
set_option maxHeartbeats 2000000 in
theorem checkHead_any (ao:Option Addr) (cap:Nat) (ps:List Pd) (i:Nat) (p:Pd) (w:World) (hi:ps[i]?=some p) (hz:PFew p) (_hm:ps.length≤1048576) (hv:ProtosAt 0 w ao ps) :
  Calls Tryz.prog 245 #[.agg #[.slice ao ps.length cap],.int .i64 i] w fun e w'=>e=.returned (.tuple #[.int .i64 0,.bool (headOk p i)])∧Below w.heap.size w w':=by
 have hlt:i<ps.length:=(List.getElem?_eq_some_iff.1 hi).1
 have hb1:∀o,Below w.heap.size w (w.alloc o):=fun o=>(Below.refl _ _).alloc (Nat.le_refl _) o
 obtain⟨b,off,rfl,_,hbl,h,n1,i1⟩:=hv i p hi
 clear hv hi
 obtain⟨z1,z2,z3,z4⟩:=hz
 obtain⟨nm,ln,pa,re,rg,us,cs,is,ms⟩:=p
 obtain⟨uo,uc,co,cc,io,ic,no,nc⟩:=h
 obtain⟨p0,p1,p2,p3,p4,p5,p6,p7,p8⟩:=n1
 dsimp only at *
 go_enter Tryz.func245,Tryz.ntmps245
 go_wp2_with (go_at_call 29;refine (within_any _ _ _ _).mono ?_;rintro e w' ⟨rfl,rfl⟩)
 all_goals
  go_ret2
  refine⟨ret_ib ?_,(hb1 _).alloc (by simp) _⟩
  clear p0 p1 p2 p3 p4 p5 p6 p7 p8 hb1
  first
  | (simp_all [headOk,most];done)
  | (simp_all [headOk,most];omega)
end Go.Proofs.YtgopdffmnikhdaaGreatDoor
