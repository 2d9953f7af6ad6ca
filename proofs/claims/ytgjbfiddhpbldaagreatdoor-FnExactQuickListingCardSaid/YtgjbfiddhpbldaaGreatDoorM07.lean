import Derived.Test.YtgjbfiddhpbldaaGreatDoorM05
namespace Go.Proofs.YtgjbfiddhpbldaaGreatDoor
open Go.RowKit Go.Deep
def numLo (r:Nat):Int:=match r with | 1=>1 | 6=>19 | 7=>1 | _=>0
def numHi (np:Nat) (p:Pd) (r:Nat):Int:=
 match r with
 | 1=>100000
 | 2=>100000
 | 3=>p.consts.length - 1
 | 4=>p.ups.length - 1
 | 5=>np - 1
 | 6=>22
 | 7=>18
 | 8=>250
 | 9=>p.regs
 | 10=>p.regs - 2
 | _=>0
theorem forms_all (n:Nat) (h:n≤23):n=0∨n=1∨n=2∨n=3∨n=4∨n=5∨n=6∨n=7∨n=8∨n=9∨n=10∨n=11∨n=12∨n=13∨n=14∨n=15∨n=16∨n=17∨n=18∨n=19∨n=20∨n=21∨n=22∨n=23:=by omega
def fieldVal (np:Nat) (p:Pd) (r:Nat) (x:Int):Value:=
 match r with
 | 11=>.iface 426 (.agg #[.int .i64 x,.int .i64 p.ins.length])
 | 12=>.iface 393 (.agg #[.int .i64 x,.int .i64 1])
 | 13=>.iface 393 (.agg #[.int .i64 x,.int .i64 3])
 | 14=>.iface 448 (.agg #[.int .i64 x,.int .i64 1,.int .i64 1])
 | 15=>.iface 448 (.agg #[.int .i64 x,.int .i64 1,.int .i64 2])
 | 16=>.iface 448 (.agg #[.int .i64 x,.int .i64 1,.int .i64 3])
 | 17=>.iface 448 (.agg #[.int .i64 x,.int .i64 2,.int .i64 1])
 | 18=>.iface 448 (.agg #[.int .i64 x,.int .i64 3,.int .i64 1])
 | 19=>.iface 421 (.agg #[.int .i64 x,.int .i64 0])
 | 20=>.iface 421 (.agg #[.int .i64 x,.int .i64 1])
 | 21=>.iface 421 (.agg #[.int .i64 x,.int .i64 2])
 | 22=>.iface 421 (.agg #[.int .i64 x,.int .i64 3])
 | 23=>.iface 423 (.agg #[.int .i64 x])
 | r=>.iface 450 (.agg #[.int .i64 x,.int .i64 (numLo r),.int .i64 (numHi np p r)])
set_option maxRecDepth 100000 in
set_option maxHeartbeats 4000000 in
theorem numberOf_any (ao:Option Addr) (cap np:Nat) (p:Pd) (h:Ph) (r:Nat) (x:Int) (w:World) (hz:PFew p) (hm:np≤1048576) (hr:0≤p.regs∧p.regs≤250) (hro:r≤10) :
  Calls Tryz.prog 310 #[.agg #[.slice ao np cap],.agg (p.cells h),.int .i64 r,.int .i64 x] w fun e w'=>e=.returned (.agg #[.int .i64 x,.int .i64 (numLo r),.int .i64 (numHi np p r)])∧Below w.heap.size w w':=by
 obtain⟨z1,z2,z3,z4⟩:=hz
 obtain⟨nm,ln,pa,re,rg,us,cs,is,ms⟩:=p
 obtain⟨uo,uc,co,cc,io,ic,no,nc⟩:=h
 dsimp only [Pd.cells] at *
 obtain⟨hr1,hr2⟩:=hr
 rcases (by omega:r=0∨r=1∨r=2∨r=3∨r=4∨r=5∨r=6∨r=7∨r=8∨r=9∨r=10) with rfl | rfl | rfl | rfl | rfl | rfl | rfl | rfl | rfl | rfl | rfl
 all_goals
  clear hro
  go_enter Tryz.func310,Tryz.ntmps310
  go_wp2_with fail
  refine bodyPost_ret ?_ rfl ⟨rfl,(((Below.refl _ _).alloc (Nat.le_refl _) _).alloc (by simp) _).alloc (by simp;omega) _⟩
  simp [results,Tryz.results310,go_sem,numLo,numHi]
set_option maxRecDepth 100000 in
set_option maxHeartbeats 4000000 in
theorem fieldOf_any (ao:Option Addr) (cap np:Nat) (p:Pd) (h:Ph) (r:Nat) (x:Int) (w:World) (hz:PFew p) (hm:np≤1048576) (hr:0≤p.regs∧p.regs≤250) (hro:r≤23) :
  Calls Tryz.prog 271 #[.agg #[.slice ao np cap],.agg (p.cells h),.int .i64 r,.int .i64 x] w fun e w'=>e=.returned (fieldVal np p r x)∧Below w.heap.size w w':=by
 have hnum:=fun r w h10=>numberOf_any ao cap np p h r x w hz hm hr h10
 have hb2:∀o1 o2,Below w.heap.size w ((w.alloc o1).alloc o2):=fun o1 o2=>((Below.refl _ _).alloc (Nat.le_refl _) o1).alloc (by simp) o2
 obtain⟨z1,z2,z3,z4⟩:=hz
 obtain⟨nm,ln,pa,re,rg,us,cs,is,ms⟩:=p
 obtain⟨uo,uc,co,cc,io,ic,no,nc⟩:=h
 dsimp only [Pd.cells] at *
 obtain⟨hr1,hr2⟩:=hr
 have HN:Hid _:=hnum
 clear hnum
 rcases forms_all r hro with rfl | rfl | rfl | rfl | rfl | rfl | rfl | rfl | rfl | rfl | rfl | rfl | rfl | rfl | rfl | rfl | rfl | rfl | rfl | rfl | rfl | rfl | rfl | rfl
 ·clear hro
  go_enter Tryz.func271,Tryz.ntmps271
  go_wp2_with fail
  refine (HN.out 0 _ (by omega)).mono ?_
  rintro e w1 ⟨rfl,hw1⟩
  go_wp2_with fail
  go_ret
  exact⟨rfl,(hb2 _ _).trans (hw1.mono (by simp;omega))⟩
 ·clear hro
  go_enter Tryz.func271,Tryz.ntmps271
  go_wp2_with fail
  refine (HN.out 1 _ (by omega)).mono ?_
  rintro e w1 ⟨rfl,hw1⟩
  go_wp2_with fail
  go_ret
  exact⟨rfl,(hb2 _ _).trans (hw1.mono (by simp;omega))⟩
 ·clear hro
  go_enter Tryz.func271,Tryz.ntmps271
  go_wp2_with fail
  refine (HN.out 2 _ (by omega)).mono ?_
  rintro e w1 ⟨rfl,hw1⟩
  go_wp2_with fail
  go_ret
  exact⟨rfl,(hb2 _ _).trans (hw1.mono (by simp;omega))⟩
 ·clear hro
  go_enter Tryz.func271,Tryz.ntmps271
  go_wp2_with fail
  refine (HN.out 3 _ (by omega)).mono ?_
  rintro e w1 ⟨rfl,hw1⟩
  go_wp2_with fail
  go_ret
  exact⟨rfl,(hb2 _ _).trans (hw1.mono (by simp;omega))⟩
 ·clear hro
  go_enter Tryz.func271,Tryz.ntmps271
  go_wp2_with fail
  refine (HN.out 4 _ (by omega)).mono ?_
  rintro e w1 ⟨rfl,hw1⟩
  go_wp2_with fail
  go_ret
  exact⟨rfl,(hb2 _ _).trans (hw1.mono (by simp;omega))⟩
 ·clear hro
  go_enter Tryz.func271,Tryz.ntmps271
  go_wp2_with fail
  refine (HN.out 5 _ (by omega)).mono ?_
  rintro e w1 ⟨rfl,hw1⟩
  go_wp2_with fail
  go_ret
  exact⟨rfl,(hb2 _ _).trans (hw1.mono (by simp;omega))⟩
 ·clear hro
  go_enter Tryz.func271,Tryz.ntmps271
  go_wp2_with fail
  refine (HN.out 6 _ (by omega)).mono ?_
  rintro e w1 ⟨rfl,hw1⟩
  go_wp2_with fail
  go_ret
  exact⟨rfl,(hb2 _ _).trans (hw1.mono (by simp;omega))⟩
 ·clear hro
  go_enter Tryz.func271,Tryz.ntmps271
  go_wp2_with fail
  refine (HN.out 7 _ (by omega)).mono ?_
  rintro e w1 ⟨rfl,hw1⟩
  go_wp2_with fail
  go_ret
  exact⟨rfl,(hb2 _ _).trans (hw1.mono (by simp;omega))⟩
 ·clear hro
  go_enter Tryz.func271,Tryz.ntmps271
  go_wp2_with fail
  refine (HN.out 8 _ (by omega)).mono ?_
  rintro e w1 ⟨rfl,hw1⟩
  go_wp2_with fail
  go_ret
  exact⟨rfl,(hb2 _ _).trans (hw1.mono (by simp;omega))⟩
 ·clear hro
  go_enter Tryz.func271,Tryz.ntmps271
  go_wp2_with fail
  refine (HN.out 9 _ (by omega)).mono ?_
  rintro e w1 ⟨rfl,hw1⟩
  go_wp2_with fail
  go_ret
  exact⟨rfl,(hb2 _ _).trans (hw1.mono (by simp;omega))⟩
 ·clear hro
  go_enter Tryz.func271,Tryz.ntmps271
  go_wp2_with fail
  refine (HN.out 10 _ (by omega)).mono ?_
  rintro e w1 ⟨rfl,hw1⟩
  go_wp2_with fail
  go_ret
  exact⟨rfl,(hb2 _ _).trans (hw1.mono (by simp;omega))⟩
 all_goals
  clear hro HN
  go_enter Tryz.func271,Tryz.ntmps271
  go_wp2_with fail
  go_ret
  exact⟨rfl,hb2 _ _⟩
end Go.Proofs.YtgjbfiddhpbldaaGreatDoor
