import Derived.Test.YtaakadmnhpboiaaGreatDoorN01
import Derived.Laws.EntriesVeiled
import Derived.Deep.RegionHeld3
import Derived.Laws.StructEq
import Derived.Test.YtaakadmnhpboiaaGreatDoorM09
import Derived.Deep.Cut
namespace Go.Proofs.YtaakadmnhpboiaaGreatDoor
open Go.RowKit Go.Deep
theorem below_alQ {N:Nat} {w w1:World} (h:Below N w w1) (hn:N≤w1.heap.size) (o:Obj):Below N w (w1.alloc o):=h.alloc hn o
theorem AllAt.dropAt {α:Type} {lo:Nat} {w:World} {b off k:Nat} {at1:Nat→Nat→α→Prop} {xs:List α} (h:AllAt lo w (some ⟨b,off,none⟩) k at1 xs) (i:Nat):AllAt lo w (some ⟨b,off+i * k,none⟩) k at1 (xs.drop i):=by
 intro j x hx
 rw [List.getElem?_drop] at hx
 obtain⟨b',off',e,hl,hs,ha⟩:=h (i+j) x hx
 simp only [Option.some.injEq,Addr.mk.injEq,and_true] at e
 obtain⟨rfl,rfl⟩:=e
 refine⟨b,off+i * k,rfl,hl,hs,?_⟩
 rw [Nat.add_assoc,←Nat.add_mul]
 exact ha
def PatAt (w:World) (b o f:Nat) (x y:Int):Prop:=∃g,w.cell? ⟨b,o,none⟩=some (.func (.func f) #[] #[])∧w.cell? ⟨b,o+1,none⟩=some (.slice (some ⟨g,0,none⟩) 2 2)∧g<w.heap.size∧w.cell? ⟨g,0,none⟩=some (.int .i64 x)∧w.cell? ⟨g,1,none⟩=some (.int .i64 y)
theorem PatAt.later {w w':World} {b o f:Nat} {x y:Int} (h:PatAt w b o f x y) (hb:b<w.heap.size) (hw:Below w.heap.size w w'):PatAt w' b o f x y:=by
 obtain⟨g,h1,h2,h3,h4,h5⟩:=h
 exact⟨g,(hw.cell (p:=⟨b,o,none⟩) hb).trans h1,(hw.cell (p:=⟨b,o+1,none⟩) hb).trans h2,Nat.lt_of_lt_of_le h3 hw.size,(hw.cell (p:=⟨g,0,none⟩) h3).trans h4,(hw.cell (p:=⟨g,1,none⟩) h3).trans h5⟩
structure PatsAt (w:World) (g:Nat):Prop where
 lt:g<w.heap.size
 p0:PatAt w g 0 71 42 42
 p1:PatAt w g 2 72 18 20
 p2:PatAt w g 4 72 18 21
 p3:PatAt w g 6 73 4 18
 p4:PatAt w g 8 74 4 15
theorem PatsAt.later {w w':World} {g:Nat} (h:PatsAt w g) (hw:Below w.heap.size w w'):PatsAt w' g:=
 ⟨Nat.lt_of_lt_of_le h.lt hw.size,h.p0.later h.lt hw,h.p1.later h.lt hw,h.p2.later h.lt hw,h.p3.later h.lt hw,h.p4.later h.lt hw⟩
set_option maxHeartbeats 400000 in
theorem wanting_any (f:Fn) (ao:Option Addr) (n c:Nat) (w:World) :
  Calls Tryz.prog 70 #[.func f #[] #[],.slice ao n c] w fun e w'=>e=.returned (.agg #[.func f #[] #[],.slice ao n c])∧Below w.heap.size w w':=by
 go_enter Tryz.func70,Tryz.ntmps70
 go_wp2_with fail
 refine bodyPost_ret (v:=.agg #[.func f #[] #[],.slice ao n c]) (by simp [results,Tryz.results70,go_sem]) rfl ⟨rfl,?_⟩
 repeat (first | exact Below.refl _ _ | refine Below.alloc ?_ (by simp;try omega) _ | refine Below.setCell ?_ (by simp;try omega) _)
set_option maxHeartbeats 400000 in
theorem patterns_any (w:World):Calls Tryz.prog 28 #[] w fun e w'=>∃g,e=.returned (.slice (some ⟨g,0,none⟩) 5 5)∧PatsAt w' g∧w.heap.size≤g∧Below w.heap.size w w':=by
 go_enter Tryz.func28,Tryz.ntmps28
 go_wp2_with fail
 refine (wanting_any _ _ _ _ _).mono ?_
 rintro e w1 ⟨rfl,hw1⟩
 have X0:=(Blk.new w #[.int .i64 42,.int .i64 42] 3).later hw1
 have B0:=(below_alQ (Below.refl w.heap.size w) (Nat.le_refl _) (.cells #[.int .i64 42,.int .i64 42] 3)).trans (hw1.mono (by simp))
 clear hw1
 go_wp2_with fail
 refine (wanting_any _ _ _ _ _).mono ?_
 rintro e w2 ⟨rfl,hw2⟩
 have X1:=(Blk.new w1 #[.int .i64 18,.int .i64 20] 3).later hw2
 have B1:=(below_alQ (Below.refl w1.heap.size w1) (Nat.le_refl _) (.cells #[.int .i64 18,.int .i64 20] 3)).trans (hw2.mono (by simp))
 replace X0:=X0.later B1
 clear hw2
 go_wp2_with fail
 refine (wanting_any _ _ _ _ _).mono ?_
 rintro e w3 ⟨rfl,hw3⟩
 have X2:=(Blk.new w2 #[.int .i64 18,.int .i64 21] 3).later hw3
 have B2:=(below_alQ (Below.refl w2.heap.size w2) (Nat.le_refl _) (.cells #[.int .i64 18,.int .i64 21] 3)).trans (hw3.mono (by simp))
 replace X0:=X0.later B2
 replace X1:=X1.later B2
 clear hw3
 go_wp2_with fail
 refine (wanting_any _ _ _ _ _).mono ?_
 rintro e w4 ⟨rfl,hw4⟩
 have X3:=(Blk.new w3 #[.int .i64 4,.int .i64 18] 3).later hw4
 have B3:=(below_alQ (Below.refl w3.heap.size w3) (Nat.le_refl _) (.cells #[.int .i64 4,.int .i64 18] 3)).trans (hw4.mono (by simp))
 replace X0:=X0.later B3
 replace X1:=X1.later B3
 replace X2:=X2.later B3
 clear hw4
 go_wp2_with fail
 refine (wanting_any _ _ _ _ _).mono ?_
 rintro e w5 ⟨rfl,hw5⟩
 have X4:=(Blk.new w4 #[.int .i64 4,.int .i64 15] 3).later hw5
 have B4:=(below_alQ (Below.refl w4.heap.size w4) (Nat.le_refl _) (.cells #[.int .i64 4,.int .i64 15] 3)).trans (hw5.mono (by simp))
 replace X0:=X0.later B4
 replace X1:=X1.later B4
 replace X2:=X2.later B4
 replace X3:=X3.later B4
 clear hw5
 go_wp2_with fail
 go_ret
 have hz1:=B1.size
 have hz2:=B2.size
 have hz3:=B3.size
 have hz4:=B4.size
 have hz0:=B0.size
 have BB:=(((B0.trans (B1.mono hz0)).trans (B2.mono (by omega))).trans (B3.mono (by omega))).trans (B4.mono (by omega))
 have hbn:∀o,Below w5.heap.size w5 (w5.alloc o):=fun o=>below_alQ (Below.refl _ _) (Nat.le_refl _) o
 have G:=Blk.new w5 #[.func (.func 71) #[] #[],.slice (some ⟨w.heap.size,0,none⟩) 2 2,.func (.func 72) #[] #[],.slice (some ⟨w1.heap.size,0,none⟩) 2 2,.func (.func 72) #[] #[],.slice (some ⟨w2.heap.size,0,none⟩) 2 2,.func (.func 73) #[] #[],.slice (some ⟨w3.heap.size,0,none⟩) 2 2,.func (.func 74) #[] #[],.slice (some ⟨w4.heap.size,0,none⟩) 2 2] 135
 have gc:=G.cell
 refine⟨_,rfl,⟨G.lt,?_,?_,?_,?_,?_⟩,by omega,BB.trans ((hbn _).mono (by omega))⟩
 ·exact⟨w.heap.size,(gc 0).trans rfl,(gc 1).trans rfl,(X0.later (hbn _)).lt,((X0.later (hbn _)).cell 0).trans rfl,((X0.later (hbn _)).cell 1).trans rfl⟩
 ·exact⟨w1.heap.size,(gc 2).trans rfl,(gc 3).trans rfl,(X1.later (hbn _)).lt,((X1.later (hbn _)).cell 0).trans rfl,((X1.later (hbn _)).cell 1).trans rfl⟩
 ·exact⟨w2.heap.size,(gc 4).trans rfl,(gc 5).trans rfl,(X2.later (hbn _)).lt,((X2.later (hbn _)).cell 0).trans rfl,((X2.later (hbn _)).cell 1).trans rfl⟩
 ·exact⟨w3.heap.size,(gc 6).trans rfl,(gc 7).trans rfl,(X3.later (hbn _)).lt,((X3.later (hbn _)).cell 0).trans rfl,((X3.later (hbn _)).cell 1).trans rfl⟩
 ·exact⟨w4.heap.size,(gc 8).trans rfl,(gc 9).trans rfl,(X4.later (hbn _)).lt,((X4.later (hbn _)).cell 0).trans rfl,((X4.later (hbn _)).cell 1).trans rfl⟩
def stands (x y:Int):List Nd→Bool
 | n::m::_=>n.op == x && m.op == y
 | _=>false
theorem cell_al2 {w:World} {b o:Nat} {v:Value} (hb:b<w.heap.size) (h:w.cell? ⟨b,o,none⟩=some v) (o1 o2:Obj):((w.alloc o1).alloc o2).cell? ⟨b,o,none⟩=some v:=
 (Below.cell (p:=⟨b,o,none⟩) (((Below.refl w.heap.size w).alloc (Nat.le_refl _) o1).alloc (by simp) o2) hb).trans h
set_option maxRecDepth 100000 in
set_option maxHeartbeats 1000000 in
theorem standsAt_any (f:Fn) (g:Nat) (x y:Int) (io co:Option Addr) (ic m cc:Nat) (c:Int) (l:List Nd) (w:World) (hl:l.length≤1048576) (hg:g<w.heap.size) (hx:w.cell? ⟨g,0,none⟩=some (.int .i64 x)) (hy:w.cell? ⟨g,1,none⟩=some (.int .i64 y)) (hin:InssAt 0 w io l) :
  Calls Tryz.prog 75 #[.agg #[.func f #[] #[],.slice (some ⟨g,0,none⟩) 2 2],.agg #[.slice io l.length ic,.slice co m cc,.int .i64 c]] w fun e w'=>e=.returned (.bool (stands x y l))∧Below w.heap.size w w':=by
 have hb2:∀o1 o2,Below w.heap.size w ((w.alloc o1).alloc o2):=fun o1 o2=>((Below.refl _ _).alloc (Nat.le_refl _) o1).alloc (by simp) o2
 match l with
 | []=>
  clear hx hy hin hg
  dsimp only [List.length_nil] at *
  go_enter Tryz.func75,Tryz.ntmps75
  go_wp2_with fail
  go_ret
  exact⟨rfl,hb2 _ _⟩
 | [n]=>
  clear hx hy hin hg
  dsimp only [List.length_nil,List.length_cons] at *
  go_enter Tryz.func75,Tryz.ntmps75
  go_wp2_with fail
  go_ret
  exact⟨rfl,hb2 _ _⟩
 | n::k::r=>
  obtain⟨b,off,rfl,_,hbl,q0,_⟩:=hin 0 n rfl
  obtain⟨b',off',e',_,hbl',r0,_⟩:=hin 1 k rfl
  simp only [Option.some.injEq,Addr.mk.injEq,and_true] at e'
  obtain⟨rfl,rfl⟩:=e'
  simp only [Nat.zero_mul,Nat.add_zero,Nat.one_mul] at q0 r0
  replace q0:=cell_al2 hbl q0
  replace r0:=cell_al2 hbl r0
  replace hx:=cell_al2 hg hx
  replace hy:=cell_al2 hg hy
  have hz3:2≤(n::k::r).length:=by simp
  generalize (n::k::r).length=z at *
  have hz2:¬(z:Int)<2:=by omega
  have k0:(0:Int)<z:=by omega
  have k1:(1:Int)<z:=by omega
  have HS:Hid (stands x y (n::k::r)=(n.op == x && k.op == y)):=rfl
  generalize stands x y (n::k::r)=R at *
  obtain⟨n0,n1,n2,n3,n4⟩:=n
  obtain⟨m0,m1,m2,m3,m4⟩:=k
  dsimp only at *
  clear hin hl
  by_cases h0:n0=x
  ·have g0:(n0 != x)=false:=by simpa using h0
   have HS0:Hid (n0 == x):=by simpa [Hid] using h0
   clear h0
   by_cases h1:m0=y
   ·have g1:(m0 != y)=false:=by simpa using h1
    have HS1:Hid (m0 == y):=by simpa [Hid] using h1
    clear h1
    go_enter Tryz.func75,Tryz.ntmps75
    go_wp2_with fail
    refine wp_loop_rounds 3 ?_
    rw [rounds_succ]
    go_wp2_with fail
    rw [rounds_succ]
    go_wp2_with fail
    rw [rounds_succ]
    go_wp2_with fail
    go_ret
    exact⟨ret_bool (by rw [HS.out,HS0.out,HS1.out];rfl),hb2 _ _⟩
   ·have g1:(m0 != y)=true:=by simpa using h1
    have HS1:Hid ((m0 == y)=false):=by simpa [Hid] using h1
    clear h1
    go_enter Tryz.func75,Tryz.ntmps75
    go_wp2_with fail
    refine wp_loop_rounds 2 ?_
    rw [rounds_succ]
    go_wp2_with fail
    rw [rounds_succ]
    go_wp2_with fail
    go_ret
    exact⟨ret_bool (by rw [HS.out,HS1.out];simp),hb2 _ _⟩
  ·have g0:(n0 != x)=true:=by simpa using h0
   have HS0:Hid ((n0 == x)=false):=by simpa [Hid] using h0
   clear h0
   go_enter Tryz.func75,Tryz.ntmps75
   go_wp2_with fail
   refine wp_loop_rounds 1 ?_
   rw [rounds_succ]
   go_wp2_with fail
   go_ret
   exact⟨ret_bool (by rw [HS.out,HS0.out];simp),hb2 _ _⟩
theorem dropsF_at {a:Int} {l:List Nd} {k:Nat} {n:Nd} (h:l[k]?=some n):dropsF a k (l.drop k)=if n.op=42∧n.a=a+k then dropsF a (k+1) (l.drop (k+1))+1 else 0:=by
 rw [drop_some h];rfl
set_option maxRecDepth 100000 in
set_option maxHeartbeats 1000000 in
theorem joinDrops_any (io co:Option Addr) (ic m cc:Nat) (c:Int) (l:List Nd) (n0:Nd) (w:World) (hl:l.length≤1048576) (hin:InssAt 0 w io l) (h0:l[0]?=some n0) (hop:n0.op=42) (hd:∀n ∈ l,n.op=42→(0≤n.a∧n.a≤250)∧n.b=0∧n.c=0∧n.d=0) :
  Calls Tryz.prog 71 #[.agg #[.slice io l.length ic,.slice co m cc,.int .i64 c]] w fun e w'=>e=.returned (.tuple #[Qd.val ⟨46,n0.a,dropsF n0.a 0 l,0,0,0,0⟩,.bool (decide (1<dropsF n0.a 0 l))])∧Below w.heap.size w w':=by
 have HS:Hid (∀(k:Nat) n,l[k]?=some n→dropsF n0.a k (l.drop k)=if n.op=42∧n.a=n0.a+k then dropsF n0.a (k+1) (l.drop (k+1))+1 else 0):=fun k n hn=>dropsF_at hn
 obtain⟨D,hD⟩:∃D,D=dropsF n0.a 0 l:=⟨_,rfl⟩
 have hD1:dropsF n0.a 1 (l.drop 1)+1=D:=by
  have:=HS.out 0 n0 h0
  rw [if_pos ⟨hop,by simp⟩] at this
  rw [hD]
  exact this.symm
 have HDL:Hid (D≤l.length):=by rw [hD];exact dropsF_le _ _ _
 have HD:Hid (D=dropsF n0.a 0 l):=hD
 rw [←hD]
 clear hD
 have hlt:=(List.getElem?_eq_some_iff.1 h0).1
 obtain⟨⟨ha1,ha2⟩,_⟩:=hd n0 (List.mem_of_getElem? h0) hop
 have HDR:Hid (∀n ∈ l,n.op=42→(0≤n.a∧n.a≤250)∧n.b=0∧n.c=0∧n.d=0):=hd
 obtain⟨b,off,rfl,_,hbl,q0,q1,q2,q3,q4⟩:=hin 0 n0 h0
 simp only [Nat.zero_mul,Nat.add_zero] at q0 q1 q2 q3 q4
 replace q1:=cell_al2 hbl q1
 have hb2:∀o1 o2,Below w.heap.size w ((w.alloc o1).alloc o2):=fun o1 o2=>((Below.refl _ _).alloc (Nat.le_refl _) o1).alloc (by simp) o2
 have X0:=(Blk.new w #[.slice (some ⟨b,off,none⟩) l.length ic,.slice co m cc,.int .i64 c] 63).alloc (.cells #[.int .i64 0,.int .i64 0,.int .i64 0,.int .i64 0,.int .i64 0,.int .i64 0,.int .i64 0] 60)
 have Y0:=Blk.new (w.alloc (.cells #[.slice (some ⟨b,off,none⟩) l.length ic,.slice co m cc,.int .i64 c] 63)) #[.int .i64 0,.int .i64 0,.int .i64 0,.int .i64 0,.int .i64 0,.int .i64 0,.int .i64 0] 60
 rw [nblk_alloc] at Y0
 obtain⟨z0,A,z2,z3,z4⟩:=n0
 dsimp only at *
 clear hd hop q0 q2 q3 q4 h0
 have k0:(0:Int)<l.length:=by omega
 go_enter Tryz.func71,Tryz.ntmps71
 go_wp2_with fail
 go_loopw [5] (fun y wr=>∃k:Nat,1≤k∧k≤l.length∧y=.int .i64 k∧Hid (dropsF A k (l.drop k)+k=D)∧Below w.heap.size w wr∧Blk wr w.heap.size #[.slice (some ⟨b,off,none⟩) l.length ic,.slice co m cc,.int .i64 c] 63∧Blk wr (w.heap.size+1) #[.int .i64 0,.int .i64 0,.int .i64 0,.int .i64 0,.int .i64 0,.int .i64 0,.int .i64 0] 60) (fun y _=>l.length - (intOf y).toNat)
 case atStart=>exact ⟨1,by omega,by omega,rfl,hD1,hb2 _ _,X0,Y0⟩
 case round=>
  obtain⟨k,hk1,hk,rfl,HQ,hb,X1,Y1⟩:=hrel
  clear X0 Y0 q1 hD1
  have x1:=X1.cell
  by_cases hlt2:k<l.length
  ·obtain⟨n,hn⟩:=some_of_lt hlt2
   obtain⟨b',off',e',_,hbl',r0,r1,r2,r3,r4⟩:=hin.later (Keeps.of_below hb) k n hn
   simp only [Option.some.injEq,Addr.mk.injEq,and_true] at e'
   obtain⟨rfl,rfl⟩:=e'
   have HE:=HS.out k n hn
   have HN:=HDR.out n (List.mem_of_getElem? hn)
   have g0:(k:Int)<l.length:=by omega
   obtain⟨n0',n1,n2,n3,n4⟩:=n
   dsimp only at *
   by_cases hc:n0'=42∧n1=A+k
   ·have HQ1:Hid (dropsF A (k+1) (l.drop (k+1))+(k+1)=D):=by
     have h1:=HQ.out
     rw [HE,if_pos hc] at h1
     show _=_
     omega
    obtain⟨rfl,rfl⟩:=hc
    obtain⟨_,rfl,rfl,rfl⟩:=HN rfl
    clear HQ HE HS HN HDR hn
    go_wp2_with fail
    go_roundw
    case rel=>exact ⟨k+1,by omega,by omega,by go_num,HQ1.out,hb,X1,Y1⟩
    case measure=>simp [intOf];omega
   ·have HQ1:Hid (k=D):=by
     have h1:=HQ.out
     rw [HE,if_neg hc] at h1
     show _=_
     omega
    have y1:=Y1.cell
    have yf:=Y1.frozen
    by_cases h42:n0'=42
    ·obtain⟨_,rfl,rfl,rfl⟩:=HN h42
     have ga:(n1 == A+(k:Int))=false:=by
      have:¬n1=A+(k:Int):=fun h=>hc ⟨h42,h⟩
      simpa using this
     subst h42
     clear HQ HE HS HN HDR hn hc
     go_wp2_with fail
     refine bodyPost_ret (v:=.tuple #[.agg #[.int .i64 46,.int .i64 A,.int .i64 k,.int .i64 0,.int .i64 0,.int .i64 0,.int .i64 0],.bool (decide (1<(k:Int)))]) ?_ rfl ⟨?_,?_⟩
     ·simp [results,Tryz.results71,go_sem,y1]
     ·obtain rfl:=HQ1.out
      have:decide (1<(k:Int))=decide (1<k):=by rw [decide_eq_decide];omega
      rw [this]
      rfl
     ·iterate 7 (refine Below.setCell ?_ (by simp;try omega) _)
      exact hb
    ·have go:(n0' == 42)=false:=by simpa using h42
     clear HQ HE HS HN HDR hn hc h42
     go_wp2_with fail
     refine bodyPost_ret (v:=.tuple #[.agg #[.int .i64 46,.int .i64 A,.int .i64 k,.int .i64 0,.int .i64 0,.int .i64 0,.int .i64 0],.bool (decide (1<(k:Int)))]) ?_ rfl ⟨?_,?_⟩
     ·simp [results,Tryz.results71,go_sem,y1]
     ·obtain rfl:=HQ1.out
      have:decide (1<(k:Int))=decide (1<k):=by rw [decide_eq_decide];omega
      rw [this]
      rfl
     ·iterate 7 (refine Below.setCell ?_ (by simp;try omega) _)
      exact hb
  ·have k0:¬(k:Int)<l.length:=by omega
   have HQ1:Hid (k=D):=by
    have h1:=HQ.out
    rw [List.drop_of_length_le (by omega)] at h1
    simp only [dropsF] at h1
    show _=_
    omega
   have y1:=Y1.cell
   have yf:=Y1.frozen
   clear HQ HS HDR hlt2
   go_wp2_with fail
   refine bodyPost_ret (v:=.tuple #[.agg #[.int .i64 46,.int .i64 A,.int .i64 k,.int .i64 0,.int .i64 0,.int .i64 0,.int .i64 0],.bool (decide (1<(k:Int)))]) ?_ rfl ⟨?_,?_⟩
   ·simp [results,Tryz.results71,go_sem,y1]
   ·obtain rfl:=HQ1.out
    have:decide (1<(k:Int))=decide (1<k):=by rw [decide_eq_decide];omega
    rw [this]
    rfl
   ·iterate 7 (refine Below.setCell ?_ (by simp;try omega) _)
    exact hb
set_option maxHeartbeats 400000 in
theorem names_any (x r:Int) (hx1 : -9223372036854775808≤x) (hx2:x≤9223372036854775807) (w:World) :
  Calls Tryz.prog 130 #[.int .i64 x,.int .i64 r] w fun e w'=>e=.returned (.bool (regOf x == r))∧Below w.heap.size w w':=by
 go_enter Tryz.func130,Tryz.ntmps130
 go_wp2_with fail
 refine (register_any x 0 hx1 hx2 _).mono ?_
 rintro e w1 ⟨rfl,hw1⟩
 go_wp2_with fail
 go_ret
 exact⟨rfl,hw1⟩
set_option maxHeartbeats 400000 in
theorem takes_any (x r:Int) (hx1 : -9223372036854775808≤x) (hx2:x≤9223372036854775807) (w:World) :
  Calls Tryz.prog 129 #[.int .i64 x,.int .i64 r] w fun e w'=>e=.returned (.bool (decide (x<0) && (regOf x == r)))∧Below w.heap.size w w':=by
 go_enter Tryz.func129,Tryz.ntmps129
 go_wp2_with fail
 refine (taken_any x 0 _).mono ?_
 rintro e w1 ⟨rfl,hw1⟩
 by_cases h:x<0
 ·go_wp2_with fail
  refine (names_any x r hx1 hx2 _).mono ?_
  rintro e w2 ⟨rfl,hw2⟩
  go_wp2_with fail
  go_ret
  exact⟨ret_bool (by simp [h]),hw1.trans (hw2.mono hw1.size)⟩
 ·go_wp2_with fail
  go_ret
  exact⟨ret_bool (by rw [decide_eq_false (by omega)];rfl),hw1⟩
theorem Blk.newIn {W:World} {n:Nat} (arr:Array Value) (t:TypeId) (h:W.heap.size=n):Blk (W.alloc (.cells arr t)) n arr t:=h▸Blk.new W arr t
structure TwoAt (w wx:World) (b4 b5:Nat) (sp n x:Array Value):Prop where
 s:Blk wx w.heap.size sp 63
 r:Blk wx (w.heap.size+1) #[.int .i64 0,.int .i64 0,.int .i64 0,.int .i64 0,.int .i64 0,.int .i64 0,.int .i64 0] 60
 n:Blk wx b4 n 93
 x:Blk wx b5 x 93
 below:Below w.heap.size w wx
 apart:b4≠b5
 lo4:w.heap.size+1<b4
 lo5:w.heap.size+1<b5
theorem TwoAt.drew {w wx:World} {b4 b5:Nat} {sp n x:Array Value} (h:TwoAt w wx b4 b5 sp n x):TwoAt w wx.drew b4 b5 sp n x:=⟨h.s,h.r,h.n,h.x,h.below.drew,h.apart,h.lo4,h.lo5⟩
theorem TwoAt.one (w:World) (sp n x:Array Value):TwoAt w ((((w.alloc (.cells sp 63)).alloc (.cells #[.int .i64 0,.int .i64 0,.int .i64 0,.int .i64 0,.int .i64 0,.int .i64 0,.int .i64 0] 60)).alloc (.cells n 93)).alloc (.cells x 93)) (w.heap.size+1+1) (w.heap.size+1+1+1) sp n x:=by
 refine⟨(((Blk.new _ _ _).alloc _).alloc _).alloc _,((Blk.newIn _ _ (by simp)).alloc _).alloc _,(Blk.newIn _ _ (by simp)).alloc _,Blk.newIn _ _ (by simp),?_,by omega,by omega,by omega⟩
 exact (((((Below.refl _ _).alloc (Nat.le_refl _) _).alloc (by simp) _).alloc (by simp;omega) _).alloc (by simp;omega) _)
theorem TwoAt.other (w:World) (sp n x:Array Value):TwoAt w ((((w.alloc (.cells sp 63)).alloc (.cells #[.int .i64 0,.int .i64 0,.int .i64 0,.int .i64 0,.int .i64 0,.int .i64 0,.int .i64 0] 60)).alloc (.cells x 93)).alloc (.cells n 93)) (w.heap.size+1+1+1) (w.heap.size+1+1) sp n x:=by
 have:=TwoAt.one w sp x n
 exact⟨this.s,this.r,this.x,this.n,this.below,this.apart.symm,this.lo5,this.lo4⟩
def CellsAre (W:World) (b:Nat) (A:Array Value):Prop:=∀o,W.cell? ⟨b,o,none⟩=A[o]?
theorem CellsAre.set {W:World} {b g:Nat} {A:Array Value} (h:∀o,W.cell? ⟨b,o,none⟩=A[o]?) (hn:b≠g) (i:Nat) (v:Value):∀o,(W.setCell ⟨g,i,none⟩ v).cell? ⟨b,o,none⟩=A[o]?:=fun o=>(World.cell?_of_block (a:=⟨b,o,none⟩) (Below.heap_setCell _ _ _ _ hn)).trans (h o)
theorem CellsAre.set7 {W:World} {b g:Nat} {A:Array Value} (h:∀o,W.cell? ⟨b,o,none⟩=A[o]?) (hn:b≠g) (v0 v1 v2 v3 v4 v5 v6:Value):∀o,(((((((W.setCell ⟨g,0,none⟩ v0).setCell ⟨g,1,none⟩ v1).setCell ⟨g,2,none⟩ v2).setCell ⟨g,3,none⟩ v3).setCell ⟨g,4,none⟩ v4).setCell ⟨g,5,none⟩ v5).setCell ⟨g,6,none⟩ v6).cell? ⟨b,o,none⟩=A[o]?:=
 CellsAre.set (CellsAre.set (CellsAre.set (CellsAre.set (CellsAre.set (CellsAre.set (CellsAre.set h hn _ _) hn _ _) hn _ _) hn _ _) hn _ _) hn _ _) hn _ _
set_option maxRecDepth 100000 in
set_option maxHeartbeats 4000000 in
theorem joinTest_any (io co:Option Addr) (ic m cc:Nat) (c:Int) (l:List Nd) (n x:Nd) (w:World) (hl:l.length≤1048576) (hin:InssAt 0 w io l) (h0:l[0]?=some n) (h1:l[1]?=some x) (hx:I64 x.a) :
  Calls Tryz.prog 72 #[.agg #[.slice io l.length ic,.slice co m cc,.int .i64 c]] w fun e w'=>e=.returned (.tuple #[Qd.val ⟨43,n.a,n.b,n.c,n.d,x.b,if x.op=20 then 1 else 0⟩,.bool (decide (13≤n.b) && (decide (x.a<0) && (regOf x.a == n.a)))])∧Below w.heap.size w w':=by
 obtain⟨FV,hFV⟩:∃FV:Int,(if x.op=20 then (1:Int) else 0)=FV:=⟨_,rfl⟩
 rw [hFV]
 have HFV:Hid ((if x.op=20 then (1:Int) else 0)=FV):=hFV
 clear hFV
 obtain⟨b,off,rfl,_,hbl,q0,q1,q2,q3,q4⟩:=hin 0 n h0
 obtain⟨b',off',e',_,hbl',r0,r1,r2,r3,r4⟩:=hin 1 x h1
 simp only [Option.some.injEq,Addr.mk.injEq,and_true] at e'
 obtain⟨rfl,rfl⟩:=e'
 simp only [Nat.zero_mul,Nat.add_zero,Nat.one_mul] at q0 q1 q2 q3 q4 r0 r1 r2 r3 r4
 have hlt:1<l.length:=(List.getElem?_eq_some_iff.1 h1).1
 have k0:(0:Int)<l.length:=by omega
 have k1:(1:Int)<l.length:=by omega
 generalize l.length=z at *
 obtain⟨n0,n1,n2,n3,n4⟩:=n
 obtain⟨x0,x1,x2,x3,x4⟩:=x
 dsimp only at *
 replace q0:=cell_al2 hbl q0
 replace q1:=cell_al2 hbl q1
 replace q2:=cell_al2 hbl q2
 replace q3:=cell_al2 hbl q3
 replace q4:=cell_al2 hbl q4
 replace r0:=cell_al2 hbl r0
 replace r1:=cell_al2 hbl r1
 replace r2:=cell_al2 hbl r2
 replace r3:=cell_al2 hbl r3
 replace r4:=cell_al2 hbl r4
 have k2:0<z:=by omega
 clear hin h0 h1
 go_enter Tryz.func72,Tryz.ntmps72
 go_wp2_with fail
 go_cut [4,5] from 6 (fun v4 v5 wx=>∃b4 b5:Nat,v4=.pointer (some ⟨b4,0,none⟩)∧v5=.pointer (some ⟨b5,0,none⟩)∧Hid (TwoAt w wx b4 b5 #[.slice (some ⟨b,off,none⟩) z ic,.slice co m cc,.int .i64 c] #[.int .i64 n0,.int .i64 n1,.int .i64 n2,.int .i64 n3,.int .i64 n4] #[.int .i64 x0,.int .i64 x1,.int .i64 x2,.int .i64 x3,.int .i64 x4]))
 case first=>
  go_region_held3 (fun w'=>w'.cell? ⟨w.heap.size,0,none⟩=some (.slice (some ⟨b,off,none⟩) z ic)∧w'.cell? ⟨b,off,none⟩=some (.int .i64 n0)∧w'.cell? ⟨b,off+1,none⟩=some (.int .i64 n1)∧w'.cell? ⟨b,off+2,none⟩=some (.int .i64 n2)∧w'.cell? ⟨b,off+3,none⟩=some (.int .i64 n3)∧w'.cell? ⟨b,off+4,none⟩=some (.int .i64 n4)∧w'.cell? ⟨b,off+5,none⟩=some (.int .i64 x0)∧w'.cell? ⟨b,off+5+1,none⟩=some (.int .i64 x1)∧w'.cell? ⟨b,off+5+2,none⟩=some (.int .i64 x2)∧w'.cell? ⟨b,off+5+3,none⟩=some (.int .i64 x3)∧w'.cell? ⟨b,off+5+4,none⟩=some (.int .i64 x4)) (go_keep) (fail)
  all_goals (go_wp2_with fail)
  all_goals go_meet
  case rel=>exact ⟨_,_,rfl,rfl,(TwoAt.one _ _ _ _).drew⟩
  case rel=>exact ⟨_,_,rfl,rfl,(TwoAt.other _ _ _ _).drew⟩
 case rest=>
  obtain⟨b4,b5,rfl,rfl,HT⟩:=hcut
  have T1:=HT.out
  have n_:=T1.n.cell
  have x_:=T1.x.cell
  have na:=fun o=>(T1.n.alloc o).cell
  have xa:=fun o=>(T1.x.alloc o).cell
  have ra:=fun o=>(T1.r.alloc o).cell
  have raf:=fun o=>(T1.r.alloc o).frozen
  have hn4:b4≠w.heap.size+1:=by have:=T1.lo4;omega
  have hn5:b5≠w.heap.size+1:=by have:=T1.lo5;omega
  have hn6:wc.heap.size≠w.heap.size+1:=by have:=T1.r.lt;omega
  clear q0 q1 q2 q3 q4 r0 r1 r2 r3 r4
  by_cases h20:x0=20
  ·have g20:(x0 == 20)=true:=by simpa using h20
   have HV:Hid (FV=1):=HFV.out.symm.trans (if_pos h20)
   have Bq:Below wc.heap.size wc (wc.alloc (.cells #[.int .i64 43,.int .i64 n1,.int .i64 n2,.int .i64 n3,.int .i64 n4,.int .i64 x2,.int .i64 1] 60)).drew:=((Below.refl _ _).alloc (Nat.le_refl _) _).drew
   have HQ0:Hid (Blk (wc.alloc (.cells #[.int .i64 43,.int .i64 n1,.int .i64 n2,.int .i64 n3,.int .i64 n4,.int .i64 x2,.int .i64 1] 60)).drew wc.heap.size #[.int .i64 43,.int .i64 n1,.int .i64 n2,.int .i64 n3,.int .i64 n4,.int .i64 x2,.int .i64 1] 60):=Blk.new wc #[.int .i64 43,.int .i64 n1,.int .i64 n2,.int .i64 n3,.int .i64 n4,.int .i64 x2,.int .i64 1] 60
   have HN0:Hid (Blk (wc.alloc (.cells #[.int .i64 43,.int .i64 n1,.int .i64 n2,.int .i64 n3,.int .i64 n4,.int .i64 x2,.int .i64 1] 60)).drew b4 #[.int .i64 n0,.int .i64 n1,.int .i64 n2,.int .i64 n3,.int .i64 n4] 93):=T1.n.later Bq
   have HX0:Hid (Blk (wc.alloc (.cells #[.int .i64 43,.int .i64 n1,.int .i64 n2,.int .i64 n3,.int .i64 n4,.int .i64 x2,.int .i64 1] 60)).drew b5 #[.int .i64 x0,.int .i64 x1,.int .i64 x2,.int .i64 x3,.int .i64 x4] 93):=T1.x.later Bq
   have HR0:Hid (Blk (wc.alloc (.cells #[.int .i64 43,.int .i64 n1,.int .i64 n2,.int .i64 n3,.int .i64 n4,.int .i64 x2,.int .i64 1] 60)).drew (w.heap.size+1) #[.int .i64 0,.int .i64 0,.int .i64 0,.int .i64 0,.int .i64 0,.int .i64 0,.int .i64 0] 60):=T1.r.later Bq
   have HB:Hid (Below w.heap.size w (wc.alloc (.cells #[.int .i64 43,.int .i64 n1,.int .i64 n2,.int .i64 n3,.int .i64 n4,.int .i64 x2,.int .i64 1] 60)).drew):=T1.below.trans (Bq.mono T1.below.size)
   clear Bq
   go_wp2_with fail
   have e0:=HQ0.out.cell
   have e1:=HN0.out.cell
   have e2:=HX0.out.cell
   by_cases h13:13≤n2
   ·have g13:decide (13≤n2)=true:=by simpa using h13
    go_region_held3 (fun W=>(∀o,W.cell? ⟨wc.heap.size,o,none⟩=(#[.int .i64 43,.int .i64 n1,.int .i64 n2,.int .i64 n3,.int .i64 n4,.int .i64 x2,.int .i64 1]:Array Value)[o]?)∧(∀o,W.cell? ⟨b4,o,none⟩=(#[.int .i64 n0,.int .i64 n1,.int .i64 n2,.int .i64 n3,.int .i64 n4]:Array Value)[o]?)∧(∀o,W.cell? ⟨b5,o,none⟩=(#[.int .i64 x0,.int .i64 x1,.int .i64 x2,.int .i64 x3,.int .i64 x4]:Array Value)[o]?)) (first | with_reducible exact ⟨e0,e1,e2⟩ | with_reducible exact ⟨d0,d1,d2⟩ | with_reducible exact ⟨CellsAre.set7 d0 hn6 _ _ _ _ _ _ _,CellsAre.set7 d1 hn4 _ _ _ _ _ _ _,CellsAre.set7 d2 hn5 _ _ _ _ _ _ _⟩)
     (first | (go_at_call 129;refine (takes_any x1 n1 hx.1 hx.2 _).mono ?_;rintro e w1 ⟨rfl,hw1⟩;have d0:=(HQ0.out.later hw1).cell;have d1:=(HN0.out.later hw1).cell;have d2:=(HX0.out.later hw1).cell;have r0:=(HR0.out.later hw1).cell;have rf0:=(HR0.out.later hw1).frozen))
    go_wp2_with fail
    refine bodyPost_ret (v:=.tuple #[.agg #[.int .i64 43,.int .i64 n1,.int .i64 n2,.int .i64 n3,.int .i64 n4,.int .i64 x2,.int .i64 1],.bool (decide (x1<0) && (regOf x1 == n1))]) ?_ rfl ⟨?_,?_⟩
    ·simp [results,Tryz.results72,go_sem,r0]
    ·obtain rfl:=HV.out;simp [Qd.val,h13]
    ·iterate 7 (refine Below.setCell ?_ (by simp;try omega) _)
     exact HB.out.trans (hw1.mono HB.out.size)
   ·have g13:decide (13≤n2)=false:=by simpa using h13
    go_region
    all_goals (go_wp2_with fail)
    refine bodyPost_ret (v:=.tuple #[.agg #[.int .i64 43,.int .i64 n1,.int .i64 n2,.int .i64 n3,.int .i64 n4,.int .i64 x2,.int .i64 1],.bool false]) ?_ rfl ⟨?_,?_⟩
    ·simp [results,Tryz.results72,go_sem,ra]
    ·obtain rfl:=HV.out;simp [Qd.val]
    ·refine Below.drew ?_
     iterate 7 (refine Below.setCell ?_ (by simp;try omega) _)
     exact T1.below.alloc T1.below.size _
  ·have g20:(x0 == 20)=false:=by simpa using h20
   have HV:Hid (FV=0):=HFV.out.symm.trans (if_neg h20)
   clear h20
   have Bq:Below wc.heap.size wc (wc.alloc (.cells #[.int .i64 43,.int .i64 n1,.int .i64 n2,.int .i64 n3,.int .i64 n4,.int .i64 x2,.int .i64 0] 60)).drew:=((Below.refl _ _).alloc (Nat.le_refl _) _).drew
   have HQ0:Hid (Blk (wc.alloc (.cells #[.int .i64 43,.int .i64 n1,.int .i64 n2,.int .i64 n3,.int .i64 n4,.int .i64 x2,.int .i64 0] 60)).drew wc.heap.size #[.int .i64 43,.int .i64 n1,.int .i64 n2,.int .i64 n3,.int .i64 n4,.int .i64 x2,.int .i64 0] 60):=Blk.new wc #[.int .i64 43,.int .i64 n1,.int .i64 n2,.int .i64 n3,.int .i64 n4,.int .i64 x2,.int .i64 0] 60
   have HN0:Hid (Blk (wc.alloc (.cells #[.int .i64 43,.int .i64 n1,.int .i64 n2,.int .i64 n3,.int .i64 n4,.int .i64 x2,.int .i64 0] 60)).drew b4 #[.int .i64 n0,.int .i64 n1,.int .i64 n2,.int .i64 n3,.int .i64 n4] 93):=T1.n.later Bq
   have HX0:Hid (Blk (wc.alloc (.cells #[.int .i64 43,.int .i64 n1,.int .i64 n2,.int .i64 n3,.int .i64 n4,.int .i64 x2,.int .i64 0] 60)).drew b5 #[.int .i64 x0,.int .i64 x1,.int .i64 x2,.int .i64 x3,.int .i64 x4] 93):=T1.x.later Bq
   have HR0:Hid (Blk (wc.alloc (.cells #[.int .i64 43,.int .i64 n1,.int .i64 n2,.int .i64 n3,.int .i64 n4,.int .i64 x2,.int .i64 0] 60)).drew (w.heap.size+1) #[.int .i64 0,.int .i64 0,.int .i64 0,.int .i64 0,.int .i64 0,.int .i64 0,.int .i64 0] 60):=T1.r.later Bq
   have HB:Hid (Below w.heap.size w (wc.alloc (.cells #[.int .i64 43,.int .i64 n1,.int .i64 n2,.int .i64 n3,.int .i64 n4,.int .i64 x2,.int .i64 0] 60)).drew):=T1.below.trans (Bq.mono T1.below.size)
   clear Bq
   go_wp2_with fail
   have e0:=HQ0.out.cell
   have e1:=HN0.out.cell
   have e2:=HX0.out.cell
   by_cases h13:13≤n2
   ·have g13:decide (13≤n2)=true:=by simpa using h13
    go_region_held3 (fun W=>(∀o,W.cell? ⟨wc.heap.size,o,none⟩=(#[.int .i64 43,.int .i64 n1,.int .i64 n2,.int .i64 n3,.int .i64 n4,.int .i64 x2,.int .i64 0]:Array Value)[o]?)∧(∀o,W.cell? ⟨b4,o,none⟩=(#[.int .i64 n0,.int .i64 n1,.int .i64 n2,.int .i64 n3,.int .i64 n4]:Array Value)[o]?)∧(∀o,W.cell? ⟨b5,o,none⟩=(#[.int .i64 x0,.int .i64 x1,.int .i64 x2,.int .i64 x3,.int .i64 x4]:Array Value)[o]?)) (first | with_reducible exact ⟨e0,e1,e2⟩ | with_reducible exact ⟨d0,d1,d2⟩ | with_reducible exact ⟨CellsAre.set7 d0 hn6 _ _ _ _ _ _ _,CellsAre.set7 d1 hn4 _ _ _ _ _ _ _,CellsAre.set7 d2 hn5 _ _ _ _ _ _ _⟩)
     (first | (go_at_call 129;refine (takes_any x1 n1 hx.1 hx.2 _).mono ?_;rintro e w1 ⟨rfl,hw1⟩;have d0:=(HQ0.out.later hw1).cell;have d1:=(HN0.out.later hw1).cell;have d2:=(HX0.out.later hw1).cell;have r0:=(HR0.out.later hw1).cell;have rf0:=(HR0.out.later hw1).frozen))
    go_wp2_with fail
    refine bodyPost_ret (v:=.tuple #[.agg #[.int .i64 43,.int .i64 n1,.int .i64 n2,.int .i64 n3,.int .i64 n4,.int .i64 x2,.int .i64 0],.bool (decide (x1<0) && (regOf x1 == n1))]) ?_ rfl ⟨?_,?_⟩
    ·simp [results,Tryz.results72,go_sem,r0]
    ·obtain rfl:=HV.out;simp [Qd.val,h13]
    ·iterate 7 (refine Below.setCell ?_ (by simp;try omega) _)
     exact HB.out.trans (hw1.mono HB.out.size)
   ·have g13:decide (13≤n2)=false:=by simpa using h13
    go_region
    all_goals (go_wp2_with fail)
    refine bodyPost_ret (v:=.tuple #[.agg #[.int .i64 43,.int .i64 n1,.int .i64 n2,.int .i64 n3,.int .i64 n4,.int .i64 x2,.int .i64 0],.bool false]) ?_ rfl ⟨?_,?_⟩
    ·simp [results,Tryz.results72,go_sem,ra]
    ·obtain rfl:=HV.out;simp [Qd.val]
    ·refine Below.drew ?_
     iterate 7 (refine Below.setCell ?_ (by simp;try omega) _)
     exact T1.below.alloc T1.below.size _
end Go.Proofs.YtaakadmnhpboiaaGreatDoor
