import Derived.Test.YtgopdffmnikhdaaGreatDoorT45
import Derived.Test.YtgopdffmnikhdaaGreatDoorT44
import Derived.Test.YtgopdffmnikhdaaGreatDoorT46
namespace Go.Proofs.YtgopdffmnikhdaaGreatDoor
open Go.RowKit Go.Deep
def joinWV (tc nd td nc:Bool) (n x:Nd):Value:=
 if tc && !nd then .tuple #[Qd.val ⟨44,x.a,x.b,x.d,n.b,1,n.a⟩,.bool true]
 else if td && !nc then .tuple #[Qd.val ⟨44,x.a,x.b,x.c,n.b,0,n.a⟩,.bool true]
 else .tuple #[Qd.val ⟨0,0,0,0,0,0,0⟩,.bool false]
set_option maxRecDepth 100000 in
set_option maxHeartbeats 4000000 in
theorem joinWith_any (io co:Option Addr) (ic m cc:Nat) (c:Int) (l:List Nd) (n x:Nd) (w:World) (hl:l.length≤1048576) (hin:InssAt 0 w io l) (h0:l[0]?=some n) (h1:l[1]?=some x) (hxc:I64 x.c) (hxd:I64 x.d) :
  Calls Tryz.prog 195 #[.agg #[.slice io l.length ic,.slice co m cc,.int .i64 c]] w fun e w'=>e=.returned (joinWV (decide (x.c<0) && (regOf x.c == n.a)) (regOf x.d == n.a) (decide (x.d<0) && (regOf x.d == n.a)) (regOf x.c == n.a) n x)∧Below w.heap.size w w':=by
 obtain⟨b,off,rfl,_,hbl,q0,q1,q2,q3,q4⟩:=hin 0 n h0
 obtain⟨b',off',e',_,hbl',r0,r1,r2,r3,r4⟩:=hin 1 x h1
 simp only [Option.some.injEq,Addr.mk.injEq,and_true] at e'
 obtain⟨rfl,rfl⟩:=e'
 simp only [Nat.zero_mul,Nat.add_zero,Nat.one_mul] at q0 q1 q2 q3 q4 r0 r1 r2 r3 r4
 have hlt:1<l.length:=(List.getElem?_eq_some_iff.1 h1).1
 have k0:(0:Int)<l.length:=by omega
 have k1:(1:Int)<l.length:=by omega
 generalize l.length=z at *
 obtain⟨n0,n1,n2,n3,n4⟩:=n
 obtain⟨x0,x1,x2,x3,x4⟩:=x
 dsimp only at *
 replace q0:=cell_al2 hbl q0
 replace q1:=cell_al2 hbl q1
 replace q2:=cell_al2 hbl q2
 replace q3:=cell_al2 hbl q3
 replace q4:=cell_al2 hbl q4
 replace r0:=cell_al2 hbl r0
 replace r1:=cell_al2 hbl r1
 replace r2:=cell_al2 hbl r2
 replace r3:=cell_al2 hbl r3
 replace r4:=cell_al2 hbl r4
 have k2:0<z:=by omega
 clear hin h0 h1
 obtain⟨TC,hTC⟩:∃B:Bool,(decide (x3<0) && (regOf x3 == n1))=B:=⟨_,rfl⟩
 have HTC:Hid (∀W,Calls Tryz.prog 256 #[.int .i64 x3,.int .i64 n1] W fun e w'=>e=.returned (.bool TC)∧Below W.heap.size W w'):=fun W=>by have:=takes_any x3 n1 hxc.1 hxc.2 W;rw [hTC] at this;exact this
 obtain⟨ND,hND⟩:∃B:Bool,(regOf x4 == n1)=B:=⟨_,rfl⟩
 have HND:Hid (∀W,Calls Tryz.prog 257 #[.int .i64 x4,.int .i64 n1] W fun e w'=>e=.returned (.bool ND)∧Below W.heap.size W w'):=fun W=>by have:=names_any x4 n1 hxd.1 hxd.2 W;rw [hND] at this;exact this
 obtain⟨TD,hTD⟩:∃B:Bool,(decide (x4<0) && (regOf x4 == n1))=B:=⟨_,rfl⟩
 have HTD:Hid (∀W,Calls Tryz.prog 256 #[.int .i64 x4,.int .i64 n1] W fun e w'=>e=.returned (.bool TD)∧Below W.heap.size W w'):=fun W=>by have:=takes_any x4 n1 hxd.1 hxd.2 W;rw [hTD] at this;exact this
 obtain⟨NC,hNC⟩:∃B:Bool,(regOf x3 == n1)=B:=⟨_,rfl⟩
 have HNC:Hid (∀W,Calls Tryz.prog 257 #[.int .i64 x3,.int .i64 n1] W fun e w'=>e=.returned (.bool NC)∧Below W.heap.size W w'):=fun W=>by have:=names_any x3 n1 hxc.1 hxc.2 W;rw [hNC] at this;exact this
 rw [hTC,hTD,hND,hNC]
 clear hTC hND hTD hNC
 go_enter Tryz.func195,Tryz.ntmps195
 go_wp2_with fail
 go_cut [4,5] from 6 (fun v4 v5 wx=>∃b4 b5:Nat,v4=.pointer (some ⟨b4,0,none⟩)∧v5=.pointer (some ⟨b5,0,none⟩)∧Hid (TwoAt w wx b4 b5 #[.slice (some ⟨b,off,none⟩) z ic,.slice co m cc,.int .i64 c] #[.int .i64 n0,.int .i64 n1,.int .i64 n2,.int .i64 n3,.int .i64 n4] #[.int .i64 x0,.int .i64 x1,.int .i64 x2,.int .i64 x3,.int .i64 x4]))
 case first=>
  go_region_held3 (fun w'=>w'.cell? ⟨w.heap.size,0,none⟩=some (.slice (some ⟨b,off,none⟩) z ic)∧w'.cell? ⟨b,off,none⟩=some (.int .i64 n0)∧w'.cell? ⟨b,off+1,none⟩=some (.int .i64 n1)∧w'.cell? ⟨b,off+2,none⟩=some (.int .i64 n2)∧w'.cell? ⟨b,off+3,none⟩=some (.int .i64 n3)∧w'.cell? ⟨b,off+4,none⟩=some (.int .i64 n4)∧w'.cell? ⟨b,off+5,none⟩=some (.int .i64 x0)∧w'.cell? ⟨b,off+5+1,none⟩=some (.int .i64 x1)∧w'.cell? ⟨b,off+5+2,none⟩=some (.int .i64 x2)∧w'.cell? ⟨b,off+5+3,none⟩=some (.int .i64 x3)∧w'.cell? ⟨b,off+5+4,none⟩=some (.int .i64 x4)) (go_keep) (fail)
  all_goals (go_wp2_with fail)
  all_goals go_meet
  case rel=>exact ⟨_,_,rfl,rfl,(TwoAt.one _ _ _ _).drew⟩
  case rel=>exact ⟨_,_,rfl,rfl,(TwoAt.other _ _ _ _).drew⟩
 case rest=>
  obtain⟨b4,b5,rfl,rfl,HT⟩:=hcut
  have T1:=HT.out
  have n_:=T1.n.cell
  have x_:=T1.x.cell
  have na:=fun o=>(T1.n.alloc o).cell
  have xa:=fun o=>(T1.x.alloc o).cell
  clear q0 q1 q2 q3 q4 r0 r1 r2 r3 r4
  have hrl:=T1.r.lt
  go_wp2_with fail
  cases TC
  ·refine (HTC.out _).mono ?_
   rintro e w1 ⟨rfl,hw1⟩
   have N1:=(T1.n.alloc _).later hw1
   have X1:=(T1.x.alloc _).later hw1
   have R1:=(T1.r.alloc _).later hw1
   have Q1:=(Blk.new wc #[.int .i64 44,.int .i64 x1,.int .i64 x2,.int .i64 0,.int .i64 n2,.int .i64 0,.int .i64 n1] 149).later hw1
   have B1:=(T1.below.alloc T1.below.size _).trans (hw1.mono (T1.below.alloc T1.below.size _).size)
   clear hw1
   have nc1:=N1.cell
   have xc1:=X1.cell
   have rc1:=R1.cell
   have qc1:=Q1.cell
   have rf1:=R1.frozen
   have qf1:=Q1.frozen
   go_wp2_with fail
   cases TD
   ·refine (HTD.out _).mono ?_
    rintro e w2 ⟨rfl,hw2⟩
    have N2:=N1.later hw2
    have X2:=X1.later hw2
    have R2:=R1.later hw2
    have Q2:=Q1.later hw2
    have B2:=B1.trans (hw2.mono B1.size)
    clear hw2
    have nc2:=N2.cell
    have xc2:=X2.cell
    have rc2:=R2.cell
    have qc2:=Q2.cell
    have rf2:=R2.frozen
    have qf2:=Q2.frozen
    clear nc1 xc1 rc1 qc1 rf1 qf1
    go_wp2_with fail
    refine bodyPost_ret (v:=.tuple #[.agg #[.int .i64 0,.int .i64 0,.int .i64 0,.int .i64 0,.int .i64 0,.int .i64 0,.int .i64 0],.bool false]) ?_ rfl ⟨?_,?_⟩
    ·simp [results,Tryz.results195,go_sem,rc2]
    ·simp [joinWV,Qd.val]
    ·iterate 7 (refine Below.setCell ?_ (by first | (show w.heap.size≤w.heap.size+1;omega) | exact T1.below.size) _)
     exact B2
   ·cases NC
    ·refine (HTD.out _).mono ?_
     rintro e w2 ⟨rfl,hw2⟩
     have N2:=N1.later hw2
     have X2:=X1.later hw2
     have R2:=R1.later hw2
     have Q2:=Q1.later hw2
     have B2:=B1.trans (hw2.mono B1.size)
     clear hw2
     have nc2:=N2.cell
     have xc2:=X2.cell
     have rc2:=R2.cell
     have qc2:=Q2.cell
     have rf2:=R2.frozen
     have qf2:=Q2.frozen
     clear nc1 xc1 rc1 qc1 rf1 qf1
     go_wp2_with fail
     refine (HNC.out _).mono ?_
     rintro e w3 ⟨rfl,hw3⟩
     have N3:=N2.later hw3
     have X3:=X2.later hw3
     have R3:=R2.later hw3
     have Q3:=Q2.later hw3
     have B3:=B2.trans (hw3.mono B2.size)
     clear hw3
     have nc3:=N3.cell
     have xc3:=X3.cell
     have rc3:=R3.cell
     have qc3:=Q3.cell
     have rf3:=R3.frozen
     have qf3:=Q3.frozen
     clear nc2 xc2 rc2 qc2 rf2 qf2
     go_wp2_with fail
     refine bodyPost_ret (v:=.tuple #[.agg #[.int .i64 44,.int .i64 x1,.int .i64 x2,.int .i64 x3,.int .i64 n2,.int .i64 0,.int .i64 n1],.bool true]) ?_ rfl ⟨?_,?_⟩
     ·simp [results,Tryz.results195,go_sem,rc3]
     ·simp [joinWV,Qd.val]
     ·iterate 8 (refine Below.setCell ?_ (by first | (show w.heap.size≤w.heap.size+1;omega) | exact T1.below.size) _)
      exact B3
    ·refine (HTD.out _).mono ?_
     rintro e w2 ⟨rfl,hw2⟩
     have N2:=N1.later hw2
     have X2:=X1.later hw2
     have R2:=R1.later hw2
     have Q2:=Q1.later hw2
     have B2:=B1.trans (hw2.mono B1.size)
     clear hw2
     have nc2:=N2.cell
     have xc2:=X2.cell
     have rc2:=R2.cell
     have qc2:=Q2.cell
     have rf2:=R2.frozen
     have qf2:=Q2.frozen
     clear nc1 xc1 rc1 qc1 rf1 qf1
     go_wp2_with fail
     refine (HNC.out _).mono ?_
     rintro e w3 ⟨rfl,hw3⟩
     have N3:=N2.later hw3
     have X3:=X2.later hw3
     have R3:=R2.later hw3
     have Q3:=Q2.later hw3
     have B3:=B2.trans (hw3.mono B2.size)
     clear hw3
     have nc3:=N3.cell
     have xc3:=X3.cell
     have rc3:=R3.cell
     have qc3:=Q3.cell
     have rf3:=R3.frozen
     have qf3:=Q3.frozen
     clear nc2 xc2 rc2 qc2 rf2 qf2
     go_wp2_with fail
     refine bodyPost_ret (v:=.tuple #[.agg #[.int .i64 0,.int .i64 0,.int .i64 0,.int .i64 0,.int .i64 0,.int .i64 0,.int .i64 0],.bool false]) ?_ rfl ⟨?_,?_⟩
     ·simp [results,Tryz.results195,go_sem,rc3]
     ·simp [joinWV,Qd.val]
     ·iterate 7 (refine Below.setCell ?_ (by first | (show w.heap.size≤w.heap.size+1;omega) | exact T1.below.size) _)
      exact B3
  ·refine (HTC.out _).mono ?_
   rintro e w1 ⟨rfl,hw1⟩
   have N1:=(T1.n.alloc _).later hw1
   have X1:=(T1.x.alloc _).later hw1
   have R1:=(T1.r.alloc _).later hw1
   have Q1:=(Blk.new wc #[.int .i64 44,.int .i64 x1,.int .i64 x2,.int .i64 0,.int .i64 n2,.int .i64 0,.int .i64 n1] 149).later hw1
   have B1:=(T1.below.alloc T1.below.size _).trans (hw1.mono (T1.below.alloc T1.below.size _).size)
   clear hw1
   have nc1:=N1.cell
   have xc1:=X1.cell
   have rc1:=R1.cell
   have qc1:=Q1.cell
   have rf1:=R1.frozen
   have qf1:=Q1.frozen
   go_wp2_with fail
   cases ND
   ·refine (HND.out _).mono ?_
    rintro e w2 ⟨rfl,hw2⟩
    have N2:=N1.later hw2
    have X2:=X1.later hw2
    have R2:=R1.later hw2
    have Q2:=Q1.later hw2
    have B2:=B1.trans (hw2.mono B1.size)
    clear hw2
    have nc2:=N2.cell
    have xc2:=X2.cell
    have rc2:=R2.cell
    have qc2:=Q2.cell
    have rf2:=R2.frozen
    have qf2:=Q2.frozen
    clear nc1 xc1 rc1 qc1 rf1 qf1
    go_wp2_with fail
    refine bodyPost_ret (v:=.tuple #[.agg #[.int .i64 44,.int .i64 x1,.int .i64 x2,.int .i64 x4,.int .i64 n2,.int .i64 1,.int .i64 n1],.bool true]) ?_ rfl ⟨?_,?_⟩
    ·simp [results,Tryz.results195,go_sem,rc2]
    ·simp [joinWV,Qd.val]
    ·iterate 9 (refine Below.setCell ?_ (by first | (show w.heap.size≤w.heap.size+1;omega) | exact T1.below.size) _)
     exact B2
   ·refine (HND.out _).mono ?_
    rintro e w2 ⟨rfl,hw2⟩
    have N2:=N1.later hw2
    have X2:=X1.later hw2
    have R2:=R1.later hw2
    have Q2:=Q1.later hw2
    have B2:=B1.trans (hw2.mono B1.size)
    clear hw2
    have nc2:=N2.cell
    have xc2:=X2.cell
    have rc2:=R2.cell
    have qc2:=Q2.cell
    have rf2:=R2.frozen
    have qf2:=Q2.frozen
    clear nc1 xc1 rc1 qc1 rf1 qf1
    go_wp2_with fail
    cases TD
    ·refine (HTD.out _).mono ?_
     rintro e w3 ⟨rfl,hw3⟩
     have N3:=N2.later hw3
     have X3:=X2.later hw3
     have R3:=R2.later hw3
     have Q3:=Q2.later hw3
     have B3:=B2.trans (hw3.mono B2.size)
     clear hw3
     have nc3:=N3.cell
     have xc3:=X3.cell
     have rc3:=R3.cell
     have qc3:=Q3.cell
     have rf3:=R3.frozen
     have qf3:=Q3.frozen
     clear nc2 xc2 rc2 qc2 rf2 qf2
     go_wp2_with fail
     refine bodyPost_ret (v:=.tuple #[.agg #[.int .i64 0,.int .i64 0,.int .i64 0,.int .i64 0,.int .i64 0,.int .i64 0,.int .i64 0],.bool false]) ?_ rfl ⟨?_,?_⟩
     ·simp [results,Tryz.results195,go_sem,rc3]
     ·simp [joinWV,Qd.val]
     ·iterate 7 (refine Below.setCell ?_ (by first | (show w.heap.size≤w.heap.size+1;omega) | exact T1.below.size) _)
      exact B3
    ·cases NC
     ·refine (HTD.out _).mono ?_
      rintro e w3 ⟨rfl,hw3⟩
      have N3:=N2.later hw3
      have X3:=X2.later hw3
      have R3:=R2.later hw3
      have Q3:=Q2.later hw3
      have B3:=B2.trans (hw3.mono B2.size)
      clear hw3
      have nc3:=N3.cell
      have xc3:=X3.cell
      have rc3:=R3.cell
      have qc3:=Q3.cell
      have rf3:=R3.frozen
      have qf3:=Q3.frozen
      clear nc2 xc2 rc2 qc2 rf2 qf2
      go_wp2_with fail
      refine (HNC.out _).mono ?_
      rintro e w4 ⟨rfl,hw4⟩
      have N4:=N3.later hw4
      have X4:=X3.later hw4
      have R4:=R3.later hw4
      have Q4:=Q3.later hw4
      have B4:=B3.trans (hw4.mono B3.size)
      clear hw4
      have nc4:=N4.cell
      have xc4:=X4.cell
      have rc4:=R4.cell
      have qc4:=Q4.cell
      have rf4:=R4.frozen
      have qf4:=Q4.frozen
      clear nc3 xc3 rc3 qc3 rf3 qf3
      go_wp2_with fail
      refine bodyPost_ret (v:=.tuple #[.agg #[.int .i64 44,.int .i64 x1,.int .i64 x2,.int .i64 x3,.int .i64 n2,.int .i64 0,.int .i64 n1],.bool true]) ?_ rfl ⟨?_,?_⟩
      ·simp [results,Tryz.results195,go_sem,rc4]
      ·simp [joinWV,Qd.val]
      ·iterate 8 (refine Below.setCell ?_ (by first | (show w.heap.size≤w.heap.size+1;omega) | exact T1.below.size) _)
       exact B4
     ·refine (HTD.out _).mono ?_
      rintro e w3 ⟨rfl,hw3⟩
      have N3:=N2.later hw3
      have X3:=X2.later hw3
      have R3:=R2.later hw3
      have Q3:=Q2.later hw3
      have B3:=B2.trans (hw3.mono B2.size)
      clear hw3
      have nc3:=N3.cell
      have xc3:=X3.cell
      have rc3:=R3.cell
      have qc3:=Q3.cell
      have rf3:=R3.frozen
      have qf3:=Q3.frozen
      clear nc2 xc2 rc2 qc2 rf2 qf2
      go_wp2_with fail
      refine (HNC.out _).mono ?_
      rintro e w4 ⟨rfl,hw4⟩
      have N4:=N3.later hw4
      have X4:=X3.later hw4
      have R4:=R3.later hw4
      have Q4:=Q3.later hw4
      have B4:=B3.trans (hw4.mono B3.size)
      clear hw4
      have nc4:=N4.cell
      have xc4:=X4.cell
      have rc4:=R4.cell
      have qc4:=Q4.cell
      have rf4:=R4.frozen
      have qf4:=Q4.frozen
      clear nc3 xc3 rc3 qc3 rf3 qf3
      go_wp2_with fail
      refine bodyPost_ret (v:=.tuple #[.agg #[.int .i64 0,.int .i64 0,.int .i64 0,.int .i64 0,.int .i64 0,.int .i64 0,.int .i64 0],.bool false]) ?_ rfl ⟨?_,?_⟩
      ·simp [results,Tryz.results195,go_sem,rc4]
      ·simp [joinWV,Qd.val]
      ·iterate 7 (refine Below.setCell ?_ (by first | (show w.heap.size≤w.heap.size+1;omega) | exact T1.below.size) _)
       exact B4
def tryP (cs:List Vd) (c:Nat):List Nd→Nat→Option Qd
 | n::x::r,0=>if n.op=42∧x.op=42∧1<dropsF n.a 0 (n::x::r) then some ⟨46,n.a,dropsF n.a 0 (n::x::r),0,0,0,0⟩ else none
 | n::x::_,1=>if n.op=18∧x.op=20∧13≤n.b∧x.a = -1 - n.a then some ⟨43,n.a,n.b,n.c,n.d,x.b,1⟩ else none
 | n::x::_,2=>if n.op=18∧x.op=21∧13≤n.b∧x.a = -1 - n.a then some ⟨43,n.a,n.b,n.c,n.d,x.b,0⟩ else none
 | n::x::_,3=>if n.op=4∧x.op=18∧x.c = -1 - n.a∧x.d≠n.a∧x.d≠-1 - n.a then some ⟨44,x.a,x.b,x.d,n.b,1,n.a⟩
   else if n.op=4∧x.op=18∧x.d = -1 - n.a∧x.c≠n.a∧x.c≠-1 - n.a then some ⟨44,x.a,x.b,x.c,n.b,0,n.a⟩ else none
 | n::x::_,4=>if n.op=4∧x.op=15∧x.c = -1 - n.a∧x.b≠n.a∧x.b≠-1 - n.a∧kindAt cs n.b=4 then some ⟨45,x.a,x.b,n.b,c,0,n.a⟩ else none
 | _,_=>none
theorem drops_two {n x:Nd} {r:List Nd} (h:¬(n.op=42∧x.op=42)):¬1<dropsF n.a 0 (n::x::r):=by
 unfold dropsF
 split
 ·rename_i h1
  unfold dropsF
  rw [if_neg (fun h2=>h ⟨h1.1,h2.1⟩)]
  omega
 ·omega
theorem drops_one {n:Nd} : ¬1<dropsF n.a 0 [n]:=by
 have:=dropsF_le n.a 0 [n]
 simp at this
 omega
theorem quickOne_try {cs:List Vd} {c:Nat} {n:Nd} {r:List Nd} : quickOne cs c (n::r)=(((((tryP cs c (n::r) 0).or (tryP cs c (n::r) 1)).or (tryP cs c (n::r) 2)).or (tryP cs c (n::r) 3)).or (tryP cs c (n::r) 4)).getD (plainQ n):=by
 match r with
 | []=>simp [quickOne,twoL,tryP,drops_one]
 | x::r=>
  by_cases h:n.op=42∧x.op=42
  ·by_cases hd:1<dropsF n.a 0 (n::x::r)
   ·simp [quickOne,tryP,h.1,h.2,hd]
   ·simp [quickOne,tryP,twoL,twoF,h.1,h.2,hd]
  ·have hd:=drops_two (r:=r) h
   simp only [quickOne,if_neg hd,twoL]
   have h0:tryP cs c (n::x::r) 0=none:=by simp [tryP,hd]
   rw [h0]
   clear h hd h0
   by_cases a18:n.op=18
   ·by_cases x20:x.op=20
    ·by_cases hc:13≤n.b∧x.a = -1 - n.a
     ·simp [tryP,twoF,a18,x20,hc.1,hc.2]
     ·have:¬(13≤n.b∧x.a = -1 - n.a):=hc
      simp [tryP,twoF,a18,x20,this]
    ·by_cases x21:x.op=21
     ·by_cases hc:13≤n.b∧x.a = -1 - n.a
      ·simp [tryP,twoF,a18,x21,hc.1,hc.2]
      ·simp [tryP,twoF,a18,x21,hc]
     ·simp [tryP,twoF,a18,x20,x21]
   ·by_cases a4:n.op=4
    ·by_cases x18:x.op=18
     ·by_cases hc:x.c = -1 - n.a∧x.d≠n.a∧x.d≠-1 - n.a
      ·simp [tryP,twoF,a4,x18,hc.1,hc.2.1,hc.2.2]
      ·by_cases he:x.d = -1 - n.a∧x.c≠n.a∧x.c≠-1 - n.a
       ·simp only [tryP,twoF,a4,x18,if_neg hc,if_pos he,true_and]
        simp
       ·simp only [tryP,twoF,a4,x18,if_neg hc,if_neg he,true_and]
        simp
     ·by_cases x15:x.op=15
      ·by_cases hc:x.c = -1 - n.a∧x.b≠n.a∧x.b≠-1 - n.a∧kindAt cs n.b=4
       ·simp only [tryP,twoF,a4,x15,if_pos hc,true_and]
        simp
       ·simp only [tryP,twoF,a4,x15,if_neg hc,true_and]
        simp
      ·simp [tryP,twoF,a4,x18,x15]
    ·simp [tryP,twoF,a18,a4]
theorem try_hit {cs:List Vd} {c:Nat} {n:Nd} {r:List Nd} {k:Nat} {q:Qd} (hk:k<5) (h:∀j,j<k→tryP cs c (n::r) j=none) (hq:tryP cs c (n::r) k=some q):quickOne cs c (n::r)=q:=by
 rw [quickOne_try]
 rcases (show k=0∨k=1∨k=2∨k=3∨k=4 by omega) with rfl | rfl | rfl | rfl | rfl
 ·simp [hq]
 ·simp [hq,h 0]
 ·simp [hq,h 0,h 1]
 ·simp [hq,h 0,h 1,h 2]
 ·simp [hq,h 0,h 1,h 2,h 3]
theorem try_miss {cs:List Vd} {c:Nat} {n:Nd} {r:List Nd} (h:∀j,j<5→tryP cs c (n::r) j=none):quickOne cs c (n::r)=plainQ n:=by
 rw [quickOne_try]
 simp [h]
theorem try_short {cs:List Vd} {c k:Nat} {n:Nd} {x y:Int} {l:List Nd} (hs:stands x y (n::l)=false) (hk:(k=0∧x=42∧y=42)∨(k=1∧x=18∧y=20)∨(k=2∧x=18∧y=21)∨(k=3∧x=4∧y=18)∨(k=4∧x=4∧y=15)):tryP cs c (n::l) k=none:=by
 match l with
 | []=>rcases hk with ⟨rfl,_⟩ | ⟨rfl,_⟩ | ⟨rfl,_⟩ | ⟨rfl,_⟩ | ⟨rfl,_⟩ <;> rfl
 | z::l=>
  simp only [stands,Bool.and_eq_false_iff,beq_eq_false_iff_ne] at hs
  rcases hk with ⟨rfl,rfl,rfl⟩ | ⟨rfl,rfl,rfl⟩ | ⟨rfl,rfl,rfl⟩ | ⟨rfl,rfl,rfl⟩ | ⟨rfl,rfl,rfl⟩ <;> simp only [tryP] <;> grind
theorem takes_iff {x a:Int} (ha:0≤a):(decide (x<0) && (regOf x == a))=decide (x = -1 - a):=by
 unfold regOf
 rw [Bool.eq_iff_iff]
 split <;> simp <;> omega
theorem names_iff {x a:Int} (ha:0≤a):(regOf x == a)=decide (x=a∨x = -1 - a):=by
 unfold regOf
 rw [Bool.eq_iff_iff]
 split <;> simp <;> omega
def JoinOk (f k:Nat) (io co:Option Addr) (ic cc c:Nat) (l:List Nd) (cs:List Vd) (w:World):Prop:=
 ∃(q:Qd) (ok:Bool),(∀W,Below w.heap.size w W→Calls Tryz.prog f #[.agg #[.slice io l.length ic,.slice co cs.length cc,.int .i64 c]] W fun e w'=>e=.returned (.tuple #[q.val,.bool ok])∧Below W.heap.size W w')∧
  (ok=true→tryP cs c l k=some q)∧(ok=false→tryP cs c l k=none)
theorem stands_two {x y:Int} {l:List Nd} (h:stands x y l=true):∃n m r,l=n::m::r∧n.op=x∧m.op=y:=by
 match l with
 | []=>simp [stands] at h
 | [_]=>simp [stands] at h
 | n::m::r=>simp [stands] at h;exact ⟨n,m,r,rfl,h.1,h.2⟩
structure QGood (n:Nd) (r:List Nd) (cs:List Vd):Prop where
 few:(n::r).length≤1048576
 dr:∀z ∈ n::r,z.op=42→(0≤z.a∧z.a≤250)∧z.b=0∧z.c=0∧z.d=0
 c4:n.op=4→(0≤n.a∧n.a≤250)∧0≤n.b∧n.b<cs.length
 c18:n.op=18→(0≤n.a∧n.a≤250)
 w:∀z ∈ n::r,NdW z
section
variable {io co : Option Addr} {ic cc c : Nat} {n : Nd} {r : List Nd} {cs : List Vd} {w : World}
theorem joinDrops_ok (hq:QGood n r cs) (hin:InssAt 0 w io (n::r)) (hs:stands 42 42 (n::r)=true):JoinOk 193 0 io co ic cc c (n::r) cs w:=by
 obtain⟨n',x,r',e,h1,h2⟩:=stands_two hs
 simp only [List.cons.injEq] at e
 obtain⟨rfl,rfl⟩:=e
 refine⟨_,_,fun W hb=>joinDrops_any io co ic cs.length cc c _ n W hq.few (hin.later (Keeps.of_below hb)) rfl h1 hq.dr,?_,?_⟩
 ·intro h
  simp only [decide_eq_true_eq] at h
  simp [tryP,h1,h2,h]
 ·intro h
  simp only [decide_eq_false_iff_not] at h
  simp [tryP,h]
theorem joinTest_ok1 (hq:QGood n r cs) (hin:InssAt 0 w io (n::r)) (hs:stands 18 20 (n::r)=true):JoinOk 194 1 io co ic cc c (n::r) cs w:=by
 obtain⟨n',x,r',e,h1,h2⟩:=stands_two hs
 simp only [List.cons.injEq] at e
 obtain⟨rfl,rfl⟩:=e
 have hx:=hq.w x (by simp)
 have ha:=hq.c18 h1
 refine⟨_,_,fun W hb=>joinTest_any io co ic cs.length cc c _ n x W hq.few (hin.later (Keeps.of_below hb)) rfl rfl hx.a,?_,?_⟩
 ·intro h
  rw [takes_iff ha.1] at h
  simp only [Bool.and_eq_true,decide_eq_true_eq] at h
  simp [tryP,h1,h2,h.1,h.2]
 ·intro h
  rw [takes_iff ha.1] at h
  have:¬(13≤n.b∧x.a = -1 - n.a):=by
   intro h3
   simp [h3.1,h3.2] at h
  simp [tryP,h1,h2,this]
theorem joinTest_ok2 (hq:QGood n r cs) (hin:InssAt 0 w io (n::r)) (hs:stands 18 21 (n::r)=true):JoinOk 194 2 io co ic cc c (n::r) cs w:=by
 obtain⟨n',x,r',e,h1,h2⟩:=stands_two hs
 simp only [List.cons.injEq] at e
 obtain⟨rfl,rfl⟩:=e
 have hx:=hq.w x (by simp)
 have ha:=hq.c18 h1
 refine⟨_,_,fun W hb=>joinTest_any io co ic cs.length cc c _ n x W hq.few (hin.later (Keeps.of_below hb)) rfl rfl hx.a,?_,?_⟩
 ·intro h
  rw [takes_iff ha.1] at h
  simp only [Bool.and_eq_true,decide_eq_true_eq] at h
  simp [tryP,h1,h2,h.1,h.2]
 ·intro h
  rw [takes_iff ha.1] at h
  have:¬(13≤n.b∧x.a = -1 - n.a):=by
   intro h3
   simp [h3.1,h3.2] at h
  simp [tryP,h1,h2,this]
theorem joinWith_ok (hq:QGood n r cs) (hin:InssAt 0 w io (n::r)) (hs:stands 4 18 (n::r)=true):JoinOk 195 3 io co ic cc c (n::r) cs w:=by
 obtain⟨n',x,r',e,h1,h2⟩:=stands_two hs
 simp only [List.cons.injEq] at e
 obtain⟨rfl,rfl⟩:=e
 have hx:=hq.w x (by simp)
 have ha:=(hq.c4 h1).1.1
 have hc:=fun W hb=>joinWith_any io co ic cs.length cc c (n::x::r') n x W hq.few (hin.later (Keeps.of_below (w:=w) (w':=W) hb)) rfl rfl hx.c hx.d
 simp only [takes_iff ha] at hc
 simp only [names_iff ha] at hc
 by_cases k1:x.c = -1 - n.a∧x.d≠n.a∧x.d≠-1 - n.a
 ·refine⟨⟨44,x.a,x.b,x.d,n.b,1,n.a⟩,true,fun W hb=>?_,fun _=>?_,fun h=>by cases h⟩
  ·have:=hc W hb
   rw [joinWV,if_pos (by simp [k1.1,k1.2.1,k1.2.2])] at this
   exact this
  ·simp only [tryP,h1,h2,true_and,if_pos k1]
 ·have e1:(decide (x.c = -1 - n.a) && !decide (x.d=n.a∨x.d = -1 - n.a))=false:=by
   rw [←Bool.not_eq_true]
   intro h
   simp at h
   exact k1 ⟨h.1,h.2.1,h.2.2⟩
  by_cases k2:x.d = -1 - n.a∧x.c≠n.a∧x.c≠-1 - n.a
  ·refine⟨⟨44,x.a,x.b,x.c,n.b,0,n.a⟩,true,fun W hb=>?_,fun _=>?_,fun h=>by cases h⟩
   ·have:=hc W hb
    rw [joinWV,e1,if_neg (by simp),if_pos (by simp [k2.1,k2.2.1,k2.2.2])] at this
    exact this
   ·simp only [tryP,h1,h2,true_and,if_neg k1,if_pos k2]
  ·have e2:(decide (x.d = -1 - n.a) && !decide (x.c=n.a∨x.c = -1 - n.a))=false:=by
    rw [←Bool.not_eq_true]
    intro h
    simp at h
    exact k2 ⟨h.1,h.2.1,h.2.2⟩
   refine⟨⟨0,0,0,0,0,0,0⟩,false,fun W hb=>?_,fun h=>(by cases h),fun _=>?_⟩
   ·have:=hc W hb
    rw [joinWV,e1,e2,if_neg (by simp),if_neg (by simp)] at this
    exact this
   ·simp only [tryP,h1,h2,true_and,if_neg k1,if_neg k2]
theorem joinField_ok (hq:QGood n r cs) (hin:InssAt 0 w io (n::r)) (hcs:ValsAt 0 w co cs) (hs:stands 4 15 (n::r)=true):JoinOk 196 4 io co ic cc c (n::r) cs w:=by
 obtain⟨n',x,r',e,h1,h2⟩:=stands_two hs
 simp only [List.cons.injEq] at e
 obtain⟨rfl,rfl⟩:=e
 have hx:=hq.w x (by simp)
 obtain⟨⟨ha,_⟩,hb1,hb2⟩:=hq.c4 h1
 obtain⟨v,hv⟩:=some_of_lt (show n.b.toNat<cs.length by omega)
 have hk:kindAt cs n.b=v.kind:=by simp [kindAt,hv]
 have hc:=fun W hb=>joinField_any io co ic cc c (n::x::r') cs n x n.b.toNat v W hq.few (hin.later (Keeps.of_below (w:=w) (w':=W) hb)) (hcs.later (Keeps.of_below hb)) rfl rfl (by omega) hv hx.c hx.b
 simp only [takes_iff ha] at hc
 simp only [names_iff ha] at hc
 refine⟨_,_,hc,?_,?_⟩
 ·intro h
  simp at h
  simp [tryP,h1,h2,hk,h.1.1,h.1.2,h.2.1,h.2.2]
 ·intro h
  have:¬(x.c = -1 - n.a∧x.b≠n.a∧x.b≠-1 - n.a∧kindAt cs n.b=4):=by
   rintro⟨h3,h4,h5,h6⟩
   rw [hk] at h6
   simp [h3,h4,h5,h6] at h
  simp only [tryP,h1,h2,true_and,if_neg this]
end
end Go.Proofs.YtgopdffmnikhdaaGreatDoor
