import Derived.Test.YtaakadmnhpboiaaGreatDoorK04
import Derived.Test.YtaakadmnhpboiaaGreatDoorM01
import Derived.Test.YtaakadmnhpboiaaGreatDoorK01
namespace Go.Proofs.YtaakadmnhpboiaaGreatDoor
open Go.RowKit Go.Deep
theorem CellAre.set7 {W:World} {b o g:Nat} {u:Value} (h:W.cell? ⟨b,o,none⟩=some u) (hn:b≠g) (v0 v1 v2 v3 v4 v5 v6:Value):(((((((W.setCell ⟨g,0,none⟩ v0).setCell ⟨g,1,none⟩ v1).setCell ⟨g,2,none⟩ v2).setCell ⟨g,3,none⟩ v3).setCell ⟨g,4,none⟩ v4).setCell ⟨g,5,none⟩ v5).setCell ⟨g,6,none⟩ v6).cell? ⟨b,o,none⟩=some u:=by
 have k:∀(W:World) i v,(W.setCell ⟨g,i,none⟩ v).cell? ⟨b,o,none⟩=W.cell? ⟨b,o,none⟩:=fun W i v=>World.cell?_of_block (a:=⟨b,o,none⟩) (Below.heap_setCell _ _ _ _ hn)
 rw [k,k,k,k,k,k,k];exact h
set_option maxRecDepth 100000 in
set_option maxHeartbeats 4000000 in
theorem joinField_any (io co:Option Addr) (ic cc:Nat) (c:Int) (l:List Nd) (cs:List Vd) (n x:Nd) (mi:Nat) (v:Vd) (w:World) (hl:l.length≤1048576) (hin:InssAt 0 w io l) (hcs:ValsAt 0 w co cs) (h0:l[0]?=some n) (h1:l[1]?=some x) (hm:n.b=mi) (hv:cs[mi]?=some v) (hxc:I64 x.c) (hxb:I64 x.b) :
  Calls Tryz.prog 74 #[.agg #[.slice io l.length ic,.slice co cs.length cc,.int .i64 c]] w fun e w'=>e=.returned (.tuple #[Qd.val ⟨45,x.a,x.b,n.b,c,0,n.a⟩,.bool ((v.kind == 4) && (decide (x.c<0) && (regOf x.c == n.a)) && !(regOf x.b == n.a))])∧Below w.heap.size w w':=by
 obtain⟨cb,cof,rfl,_,hcb,w0,_⟩:=hcs mi v hv
 have hmi:(mi:Int)<cs.length:=by have:=(List.getElem?_eq_some_iff.1 hv).1;omega
 obtain⟨kd,num,flt,str,rf⟩:=v
 obtain⟨b,off,rfl,_,hbl,q0,q1,q2,q3,q4⟩:=hin 0 n h0
 obtain⟨b',off',e',_,hbl',r0,r1,r2,r3,r4⟩:=hin 1 x h1
 simp only [Option.some.injEq,Addr.mk.injEq,and_true] at e'
 obtain⟨rfl,rfl⟩:=e'
 simp only [Nat.zero_mul,Nat.add_zero,Nat.one_mul] at q0 q1 q2 q3 q4 r0 r1 r2 r3 r4
 have hlt:1<l.length:=(List.getElem?_eq_some_iff.1 h1).1
 have k0:(0:Int)<l.length:=by omega
 have k1:(1:Int)<l.length:=by omega
 generalize l.length=z at *
 obtain⟨n0,n1,n2,n3,n4⟩:=n
 obtain⟨x0,x1,x2,x3,x4⟩:=x
 dsimp only at *
 subst hm
 replace q0:=cell_al2 hbl q0
 replace q1:=cell_al2 hbl q1
 replace q2:=cell_al2 hbl q2
 replace q3:=cell_al2 hbl q3
 replace q4:=cell_al2 hbl q4
 replace r0:=cell_al2 hbl r0
 replace r1:=cell_al2 hbl r1
 replace r2:=cell_al2 hbl r2
 replace r3:=cell_al2 hbl r3
 replace r4:=cell_al2 hbl r4
 have k2:0<z:=by omega
 clear hin h0 h1
 clear hcs hv
 obtain⟨TK,hTK⟩:∃TK:Bool,(decide (x3<0) && (regOf x3 == n1))=TK:=⟨_,rfl⟩
 obtain⟨NM,hNM⟩:∃NM:Bool,(regOf x2 == n1)=NM:=⟨_,rfl⟩
 have HTK:Hid (∀W,Calls Tryz.prog 129 #[.int .i64 x3,.int .i64 n1] W fun e w'=>e=.returned (.bool TK)∧Below W.heap.size W w'):=fun W=>by have:=takes_any x3 n1 hxc.1 hxc.2 W;rw [hTK] at this;exact this
 have HNM:Hid (∀W,Calls Tryz.prog 130 #[.int .i64 x2,.int .i64 n1] W fun e w'=>e=.returned (.bool NM)∧Below W.heap.size W w'):=fun W=>by have:=names_any x2 n1 hxb.1 hxb.2 W;rw [hNM] at this;exact this
 rw [hTK,hNM]
 clear hTK hNM
 go_enter Tryz.func74,Tryz.ntmps74
 go_wp2_with fail
 go_cut [4,5] from 6 (fun v4 v5 wx=>∃b4 b5:Nat,v4=.pointer (some ⟨b4,0,none⟩)∧v5=.pointer (some ⟨b5,0,none⟩)∧Hid (TwoAt w wx b4 b5 #[.slice (some ⟨b,off,none⟩) z ic,.slice (some ⟨cb,cof,none⟩) cs.length cc,.int .i64 c] #[.int .i64 n0,.int .i64 n1,.int .i64 mi,.int .i64 n3,.int .i64 n4] #[.int .i64 x0,.int .i64 x1,.int .i64 x2,.int .i64 x3,.int .i64 x4]))
 case first=>
  go_region_held3 (fun w'=>w'.cell? ⟨w.heap.size,0,none⟩=some (.slice (some ⟨b,off,none⟩) z ic)∧w'.cell? ⟨b,off,none⟩=some (.int .i64 n0)∧w'.cell? ⟨b,off+1,none⟩=some (.int .i64 n1)∧w'.cell? ⟨b,off+2,none⟩=some (.int .i64 mi)∧w'.cell? ⟨b,off+3,none⟩=some (.int .i64 n3)∧w'.cell? ⟨b,off+4,none⟩=some (.int .i64 n4)∧w'.cell? ⟨b,off+5,none⟩=some (.int .i64 x0)∧w'.cell? ⟨b,off+5+1,none⟩=some (.int .i64 x1)∧w'.cell? ⟨b,off+5+2,none⟩=some (.int .i64 x2)∧w'.cell? ⟨b,off+5+3,none⟩=some (.int .i64 x3)∧w'.cell? ⟨b,off+5+4,none⟩=some (.int .i64 x4)) (go_keep) (fail)
  all_goals (go_wp2_with fail)
  all_goals go_meet
  case rel=>exact ⟨_,_,rfl,rfl,(TwoAt.one _ _ _ _).drew⟩
  case rel=>exact ⟨_,_,rfl,rfl,(TwoAt.other _ _ _ _).drew⟩
 case rest=>
  obtain⟨b4,b5,rfl,rfl,HT⟩:=hcut
  have T1:=HT.out
  have n_:=T1.n.cell
  have x_:=T1.x.cell
  have s_:=T1.s.cell
  have hn4:b4≠w.heap.size+1:=by have:=T1.lo4;omega
  have hn5:b5≠w.heap.size+1:=by have:=T1.lo5;omega
  have hns:w.heap.size≠w.heap.size+1:=by omega
  have hnc:cb≠w.heap.size+1:=by omega
  have hn6:wc.heap.size≠w.heap.size+1:=by have:=T1.r.lt;omega
  clear q0 q1 q2 q3 q4 r0 r1 r2 r3 r4
  have Bq:Below wc.heap.size wc (wc.alloc (.cells #[.int .i64 45,.int .i64 x1,.int .i64 x2,.int .i64 mi,.int .i64 c,.int .i64 0,.int .i64 n1] 60)).drew:=((Below.refl _ _).alloc (Nat.le_refl _) _).drew
  have HB:Hid (Below w.heap.size w (wc.alloc (.cells #[.int .i64 45,.int .i64 x1,.int .i64 x2,.int .i64 mi,.int .i64 c,.int .i64 0,.int .i64 n1] 60)).drew):=T1.below.trans (Bq.mono T1.below.size)
  have HQ0:Hid (Blk (wc.alloc (.cells #[.int .i64 45,.int .i64 x1,.int .i64 x2,.int .i64 mi,.int .i64 c,.int .i64 0,.int .i64 n1] 60)).drew wc.heap.size #[.int .i64 45,.int .i64 x1,.int .i64 x2,.int .i64 mi,.int .i64 c,.int .i64 0,.int .i64 n1] 60):=Blk.new wc #[.int .i64 45,.int .i64 x1,.int .i64 x2,.int .i64 mi,.int .i64 c,.int .i64 0,.int .i64 n1] 60
  have HN0:Hid (Blk (wc.alloc (.cells #[.int .i64 45,.int .i64 x1,.int .i64 x2,.int .i64 mi,.int .i64 c,.int .i64 0,.int .i64 n1] 60)).drew b4 #[.int .i64 n0,.int .i64 n1,.int .i64 mi,.int .i64 n3,.int .i64 n4] 93):=T1.n.later Bq
  have HX0:Hid (Blk (wc.alloc (.cells #[.int .i64 45,.int .i64 x1,.int .i64 x2,.int .i64 mi,.int .i64 c,.int .i64 0,.int .i64 n1] 60)).drew b5 #[.int .i64 x0,.int .i64 x1,.int .i64 x2,.int .i64 x3,.int .i64 x4] 93):=T1.x.later Bq
  have HS0:Hid (Blk (wc.alloc (.cells #[.int .i64 45,.int .i64 x1,.int .i64 x2,.int .i64 mi,.int .i64 c,.int .i64 0,.int .i64 n1] 60)).drew w.heap.size #[.slice (some ⟨b,off,none⟩) z ic,.slice (some ⟨cb,cof,none⟩) cs.length cc,.int .i64 c] 63):=T1.s.later Bq
  have HR0:Hid (Blk (wc.alloc (.cells #[.int .i64 45,.int .i64 x1,.int .i64 x2,.int .i64 mi,.int .i64 c,.int .i64 0,.int .i64 n1] 60)).drew (w.heap.size+1) #[.int .i64 0,.int .i64 0,.int .i64 0,.int .i64 0,.int .i64 0,.int .i64 0,.int .i64 0] 60):=T1.r.later Bq
  have HC0:Hid (((wc.alloc (.cells #[.int .i64 45,.int .i64 x1,.int .i64 x2,.int .i64 mi,.int .i64 c,.int .i64 0,.int .i64 n1] 60)).drew).cell? ⟨cb,cof+mi*5,none⟩=some (.int .i64 kd)):=(HB.out.cell (p:=⟨cb,cof+mi*5,none⟩) hcb).trans w0
  have hcb0:cb<((wc.alloc (.cells #[.int .i64 45,.int .i64 x1,.int .i64 x2,.int .i64 mi,.int .i64 c,.int .i64 0,.int .i64 n1] 60)).drew).heap.size:=Nat.lt_of_lt_of_le hcb HB.out.size
  clear Bq
  go_wp2_with fail
  have e0:=HQ0.out.cell
  have e1:=HN0.out.cell
  have e2:=HX0.out.cell
  have e3:=HS0.out.cell
  have e4:=HC0.out
  by_cases h4:kd=4
  ·have g4:(kd == 4)=true:=by simpa using h4
   cases TK
   ·refine rgN (fun W=>(∀o,W.cell? ⟨wc.heap.size,o,none⟩=(#[.int .i64 45,.int .i64 x1,.int .i64 x2,.int .i64 mi,.int .i64 c,.int .i64 0,.int .i64 n1]:Array Value)[o]?)∧(∀o,W.cell? ⟨b4,o,none⟩=(#[.int .i64 n0,.int .i64 n1,.int .i64 mi,.int .i64 n3,.int .i64 n4]:Array Value)[o]?)∧(∀o,W.cell? ⟨b5,o,none⟩=(#[.int .i64 x0,.int .i64 x1,.int .i64 x2,.int .i64 x3,.int .i64 x4]:Array Value)[o]?)∧(∀o,W.cell? ⟨w.heap.size,o,none⟩=(#[.slice (some ⟨b,off,none⟩) z ic,.slice (some ⟨cb,cof,none⟩) cs.length cc,.int .i64 c]:Array Value)[o]?)∧W.cell? ⟨cb,cof+mi*5,none⟩=some (.int .i64 kd)) ⟨e0,e1,e2,e3,e4⟩ (fun hS=>?_)
    iterate 14 (refine tkF (by kernel_rfl) (by rfl) hS ⟨?_,fun W hW=>?_,?_⟩;rotate_left;(focus ((try dsimp only at hW);go_simp;try with_reducible rfl));try simp only [Act.put,List.setIfInBounds_toArray,List.set_cons_zero,List.set_cons_succ])
    refine doN (by kernel_rfl) (by rfl) (fun K hK=>?_)
    go_simp
    refine (HTK.out _).mono ?_
    rintro e w1 ⟨rfl,hw1⟩
    have HQ1:=HQ0.out.later hw1
    have HN1:=HN0.out.later hw1
    have HX1:=HX0.out.later hw1
    have HS1:=HS0.out.later hw1
    have HR1:=HR0.out.later hw1
    have HC1:=(hw1.cell (p:=⟨cb,cof+mi*5,none⟩) hcb0).trans HC0.out
    have hcb1:=Nat.lt_of_lt_of_le hcb0 hw1.size
    have d0:=HQ1.cell
    have d1:=HN1.cell
    have d2:=HX1.cell
    have d3:=HS1.cell
    have d4:=HC1
    have r0:=HR1.cell
    have rf0:=HR1.frozen
    go_wp2_with fail
    refine hK.out _ _ ⟨d0,d1,d2,d3,d4⟩ (fun hS=>?_)
    clear hK K
    try simp only [Act.put,List.setIfInBounds_toArray,List.set_cons_zero,List.set_cons_succ]
    iterate 2 (refine tkF (by kernel_rfl) (by rfl) hS ⟨?_,fun W hW=>?_,?_⟩;rotate_left;(focus ((try dsimp only at hW);go_simp;try with_reducible rfl));try simp only [Act.put,List.setIfInBounds_toArray,List.set_cons_zero,List.set_cons_succ])
    iterate 6 (refine tkG (by kernel_rfl) (by rfl) hS ?_;try simp only [Act.put,List.setIfInBounds_toArray,List.set_cons_zero,List.set_cons_succ])
    iterate 1 (refine tkF (by kernel_rfl) (by rfl) hS ⟨?_,fun W hW=>?_,?_⟩;rotate_left;(focus ((try dsimp only at hW);go_simp;try with_reducible rfl));try simp only [Act.put,List.setIfInBounds_toArray,List.set_cons_zero,List.set_cons_succ])
    refine doN (by kernel_rfl) (by rfl) (fun K hK=>?_)
    go_wp2_with fail
    refine hK.out _ _ ⟨CellsAre.set7 d0 hn6 _ _ _ _ _ _ _,CellsAre.set7 d1 hn4 _ _ _ _ _ _ _,CellsAre.set7 d2 hn5 _ _ _ _ _ _ _,CellsAre.set7 d3 hns _ _ _ _ _ _ _,CellAre.set7 d4 hnc _ _ _ _ _ _ _⟩ (fun hS=>?_)
    clear hK K
    try simp only [Act.put,List.setIfInBounds_toArray,List.set_cons_zero,List.set_cons_succ]
    iterate 1 (refine tkF (by kernel_rfl) (by rfl) hS ⟨?_,fun W hW=>?_,?_⟩;rotate_left;(focus ((try dsimp only at hW);go_simp;try with_reducible rfl));try simp only [Act.put,List.setIfInBounds_toArray,List.set_cons_zero,List.set_cons_succ])
    refine enD (by kernel_rfl) ?_
    refine NoPanic.normal ?_
    all_goals (go_wp2_with fail)
    refine bodyPost_ret (v:=.tuple #[.agg #[.int .i64 45,.int .i64 x1,.int .i64 x2,.int .i64 mi,.int .i64 c,.int .i64 0,.int .i64 n1],.bool false]) ?_ rfl ⟨?_,?_⟩
    ·simp [results,Tryz.results74,go_sem,r0]
    ·simp [Qd.val]
    ·iterate 7 (refine Below.setCell ?_ (by simp;try omega) _)
     exact HB.out.trans (hw1.mono HB.out.size)
   ·go_region_held3 (fun W=>(∀o,W.cell? ⟨wc.heap.size,o,none⟩=(#[.int .i64 45,.int .i64 x1,.int .i64 x2,.int .i64 mi,.int .i64 c,.int .i64 0,.int .i64 n1]:Array Value)[o]?)∧(∀o,W.cell? ⟨b4,o,none⟩=(#[.int .i64 n0,.int .i64 n1,.int .i64 mi,.int .i64 n3,.int .i64 n4]:Array Value)[o]?)∧(∀o,W.cell? ⟨b5,o,none⟩=(#[.int .i64 x0,.int .i64 x1,.int .i64 x2,.int .i64 x3,.int .i64 x4]:Array Value)[o]?)∧(∀o,W.cell? ⟨w.heap.size,o,none⟩=(#[.slice (some ⟨b,off,none⟩) z ic,.slice (some ⟨cb,cof,none⟩) cs.length cc,.int .i64 c]:Array Value)[o]?)∧W.cell? ⟨cb,cof+mi*5,none⟩=some (.int .i64 kd)) (first | with_reducible exact ⟨e0,e1,e2,e3,e4⟩ | with_reducible exact ⟨d0,d1,d2,d3,d4⟩ | with_reducible exact ⟨f0,f1,f2,f3,f4⟩ | with_reducible exact ⟨CellsAre.set7 f0 hn6 _ _ _ _ _ _ _,CellsAre.set7 f1 hn4 _ _ _ _ _ _ _,CellsAre.set7 f2 hn5 _ _ _ _ _ _ _,CellsAre.set7 f3 hns _ _ _ _ _ _ _,CellAre.set7 f4 hnc _ _ _ _ _ _ _⟩)
     (first | (go_at_call 129;refine (HTK.out _).mono ?_;rintro e w1 ⟨rfl,hw1⟩;have HQ1:=HQ0.out.later hw1;have HN1:=HN0.out.later hw1;have HX1:=HX0.out.later hw1;have HS1:=HS0.out.later hw1;have HR1:=HR0.out.later hw1;have HC1:=(hw1.cell (p:=⟨cb,cof+mi*5,none⟩) hcb0).trans HC0.out;have hcb1:=Nat.lt_of_lt_of_le hcb0 hw1.size;have d0:=HQ1.cell;have d1:=HN1.cell;have d2:=HX1.cell;have d3:=HS1.cell;have d4:=HC1) | (go_at_call 130;refine (HNM.out _).mono ?_;rintro e w2 ⟨rfl,hw2⟩;have HQ2:=HQ1.later hw2;have HN2:=HN1.later hw2;have HX2:=HX1.later hw2;have HS2:=HS1.later hw2;have HR2:=HR1.later hw2;have HC2:=(hw2.cell (p:=⟨cb,cof+mi*5,none⟩) hcb1).trans HC1;have hcb2:=Nat.lt_of_lt_of_le hcb1 hw2.size;have f0:=HQ2.cell;have f1:=HN2.cell;have f2:=HX2.cell;have f3:=HS2.cell;have f4:=HC2;have r0:=HR2.cell;have rf0:=HR2.frozen))
    go_wp2_with fail
    refine bodyPost_ret (v:=.tuple #[.agg #[.int .i64 45,.int .i64 x1,.int .i64 x2,.int .i64 mi,.int .i64 c,.int .i64 0,.int .i64 n1],.bool (!NM)]) ?_ rfl ⟨?_,?_⟩
    ·simp [results,Tryz.results74,go_sem,r0]
    ·simp [Qd.val,h4]
    ·iterate 7 (refine Below.setCell ?_ (by simp;try omega) _)
     exact (HB.out.trans (hw1.mono HB.out.size)).trans (hw2.mono (Nat.le_trans HB.out.size hw1.size))
  ·have g4:(kd == 4)=false:=by simpa using h4
   have na:=fun o=>(T1.n.alloc o).cell
   have xa:=fun o=>(T1.x.alloc o).cell
   have sa:=fun o=>(T1.s.alloc o).cell
   have ca:∀o,(wc.alloc o).cell? ⟨cb,cof+mi*5,none⟩=some (.int .i64 kd):=fun o=>(((T1.below.alloc T1.below.size o).cell (p:=⟨cb,cof+mi*5,none⟩) hcb)).trans w0
   have ra:=fun o=>(T1.r.alloc o).cell
   have raf:=fun o=>(T1.r.alloc o).frozen
   go_region
   all_goals (go_wp2_with fail)
   refine bodyPost_ret (v:=.tuple #[.agg #[.int .i64 45,.int .i64 x1,.int .i64 x2,.int .i64 mi,.int .i64 c,.int .i64 0,.int .i64 n1],.bool false]) ?_ rfl ⟨?_,?_⟩
   ·simp [results,Tryz.results74,go_sem,ra]
   ·simp [Qd.val,h4]
   ·refine Below.drew ?_
    iterate 7 (refine Below.setCell ?_ (by simp;try omega) _)
    exact T1.below.alloc T1.below.size _
def joinWV (tc nd td nc:Bool) (n x:Nd):Value:=
 if tc && !nd then .tuple #[Qd.val ⟨44,x.a,x.b,x.d,n.b,1,n.a⟩,.bool true]
 else if td && !nc then .tuple #[Qd.val ⟨44,x.a,x.b,x.c,n.b,0,n.a⟩,.bool true]
 else .tuple #[Qd.val ⟨0,0,0,0,0,0,0⟩,.bool false]
set_option maxRecDepth 100000 in
set_option maxHeartbeats 4000000 in
theorem joinWith_any (io co:Option Addr) (ic m cc:Nat) (c:Int) (l:List Nd) (n x:Nd) (w:World) (hl:l.length≤1048576) (hin:InssAt 0 w io l) (h0:l[0]?=some n) (h1:l[1]?=some x) (hxc:I64 x.c) (hxd:I64 x.d) :
  Calls Tryz.prog 73 #[.agg #[.slice io l.length ic,.slice co m cc,.int .i64 c]] w fun e w'=>e=.returned (joinWV (decide (x.c<0) && (regOf x.c == n.a)) (regOf x.d == n.a) (decide (x.d<0) && (regOf x.d == n.a)) (regOf x.c == n.a) n x)∧Below w.heap.size w w':=by
 obtain⟨b,off,rfl,_,hbl,q0,q1,q2,q3,q4⟩:=hin 0 n h0
 obtain⟨b',off',e',_,hbl',r0,r1,r2,r3,r4⟩:=hin 1 x h1
 simp only [Option.some.injEq,Addr.mk.injEq,and_true] at e'
 obtain⟨rfl,rfl⟩:=e'
 simp only [Nat.zero_mul,Nat.add_zero,Nat.one_mul] at q0 q1 q2 q3 q4 r0 r1 r2 r3 r4
 have hlt:1<l.length:=(List.getElem?_eq_some_iff.1 h1).1
 have k0:(0:Int)<l.length:=by omega
 have k1:(1:Int)<l.length:=by omega
 generalize l.length=z at *
 obtain⟨n0,n1,n2,n3,n4⟩:=n
 obtain⟨x0,x1,x2,x3,x4⟩:=x
 dsimp only at *
 replace q0:=cell_al2 hbl q0
 replace q1:=cell_al2 hbl q1
 replace q2:=cell_al2 hbl q2
 replace q3:=cell_al2 hbl q3
 replace q4:=cell_al2 hbl q4
 replace r0:=cell_al2 hbl r0
 replace r1:=cell_al2 hbl r1
 replace r2:=cell_al2 hbl r2
 replace r3:=cell_al2 hbl r3
 replace r4:=cell_al2 hbl r4
 have k2:0<z:=by omega
 clear hin h0 h1
 obtain⟨TC,hTC⟩:∃B:Bool,(decide (x3<0) && (regOf x3 == n1))=B:=⟨_,rfl⟩
 have HTC:Hid (∀W,Calls Tryz.prog 129 #[.int .i64 x3,.int .i64 n1] W fun e w'=>e=.returned (.bool TC)∧Below W.heap.size W w'):=fun W=>by have:=takes_any x3 n1 hxc.1 hxc.2 W;rw [hTC] at this;exact this
 obtain⟨ND,hND⟩:∃B:Bool,(regOf x4 == n1)=B:=⟨_,rfl⟩
 have HND:Hid (∀W,Calls Tryz.prog 130 #[.int .i64 x4,.int .i64 n1] W fun e w'=>e=.returned (.bool ND)∧Below W.heap.size W w'):=fun W=>by have:=names_any x4 n1 hxd.1 hxd.2 W;rw [hND] at this;exact this
 obtain⟨TD,hTD⟩:∃B:Bool,(decide (x4<0) && (regOf x4 == n1))=B:=⟨_,rfl⟩
 have HTD:Hid (∀W,Calls Tryz.prog 129 #[.int .i64 x4,.int .i64 n1] W fun e w'=>e=.returned (.bool TD)∧Below W.heap.size W w'):=fun W=>by have:=takes_any x4 n1 hxd.1 hxd.2 W;rw [hTD] at this;exact this
 obtain⟨NC,hNC⟩:∃B:Bool,(regOf x3 == n1)=B:=⟨_,rfl⟩
 have HNC:Hid (∀W,Calls Tryz.prog 130 #[.int .i64 x3,.int .i64 n1] W fun e w'=>e=.returned (.bool NC)∧Below W.heap.size W w'):=fun W=>by have:=names_any x3 n1 hxc.1 hxc.2 W;rw [hNC] at this;exact this
 rw [hTC,hTD,hND,hNC]
 clear hTC hND hTD hNC
 go_enter Tryz.func73,Tryz.ntmps73
 go_wp2_with fail
 go_cut [4,5] from 6 (fun v4 v5 wx=>∃b4 b5:Nat,v4=.pointer (some ⟨b4,0,none⟩)∧v5=.pointer (some ⟨b5,0,none⟩)∧Hid (TwoAt w wx b4 b5 #[.slice (some ⟨b,off,none⟩) z ic,.slice co m cc,.int .i64 c] #[.int .i64 n0,.int .i64 n1,.int .i64 n2,.int .i64 n3,.int .i64 n4] #[.int .i64 x0,.int .i64 x1,.int .i64 x2,.int .i64 x3,.int .i64 x4]))
 case first=>
  go_region_held3 (fun w'=>w'.cell? ⟨w.heap.size,0,none⟩=some (.slice (some ⟨b,off,none⟩) z ic)∧w'.cell? ⟨b,off,none⟩=some (.int .i64 n0)∧w'.cell? ⟨b,off+1,none⟩=some (.int .i64 n1)∧w'.cell? ⟨b,off+2,none⟩=some (.int .i64 n2)∧w'.cell? ⟨b,off+3,none⟩=some (.int .i64 n3)∧w'.cell? ⟨b,off+4,none⟩=some (.int .i64 n4)∧w'.cell? ⟨b,off+5,none⟩=some (.int .i64 x0)∧w'.cell? ⟨b,off+5+1,none⟩=some (.int .i64 x1)∧w'.cell? ⟨b,off+5+2,none⟩=some (.int .i64 x2)∧w'.cell? ⟨b,off+5+3,none⟩=some (.int .i64 x3)∧w'.cell? ⟨b,off+5+4,none⟩=some (.int .i64 x4)) (go_keep) (fail)
  all_goals (go_wp2_with fail)
  all_goals go_meet
  case rel=>exact ⟨_,_,rfl,rfl,(TwoAt.one _ _ _ _).drew⟩
  case rel=>exact ⟨_,_,rfl,rfl,(TwoAt.other _ _ _ _).drew⟩
 case rest=>
  obtain⟨b4,b5,rfl,rfl,HT⟩:=hcut
  have T1:=HT.out
  have n_:=T1.n.cell
  have x_:=T1.x.cell
  have na:=fun o=>(T1.n.alloc o).cell
  have xa:=fun o=>(T1.x.alloc o).cell
  clear q0 q1 q2 q3 q4 r0 r1 r2 r3 r4
  have hrl:=T1.r.lt
  go_wp2_with fail
  cases TC
  ·refine (HTC.out _).mono ?_
   rintro e w1 ⟨rfl,hw1⟩
   have N1:=(T1.n.alloc _).later hw1
   have X1:=(T1.x.alloc _).later hw1
   have R1:=(T1.r.alloc _).later hw1
   have Q1:=(Blk.new wc #[.int .i64 44,.int .i64 x1,.int .i64 x2,.int .i64 0,.int .i64 n2,.int .i64 0,.int .i64 n1] 60).later hw1
   have B1:=(T1.below.alloc T1.below.size _).trans (hw1.mono (T1.below.alloc T1.below.size _).size)
   clear hw1
   have nc1:=N1.cell
   have xc1:=X1.cell
   have rc1:=R1.cell
   have qc1:=Q1.cell
   have rf1:=R1.frozen
   have qf1:=Q1.frozen
   go_wp2_with fail
   cases TD
   ·refine (HTD.out _).mono ?_
    rintro e w2 ⟨rfl,hw2⟩
    have N2:=N1.later hw2
    have X2:=X1.later hw2
    have R2:=R1.later hw2
    have Q2:=Q1.later hw2
    have B2:=B1.trans (hw2.mono B1.size)
    clear hw2
    have nc2:=N2.cell
    have xc2:=X2.cell
    have rc2:=R2.cell
    have qc2:=Q2.cell
    have rf2:=R2.frozen
    have qf2:=Q2.frozen
    clear nc1 xc1 rc1 qc1 rf1 qf1
    go_wp2_with fail
    refine bodyPost_ret (v:=.tuple #[.agg #[.int .i64 0,.int .i64 0,.int .i64 0,.int .i64 0,.int .i64 0,.int .i64 0,.int .i64 0],.bool false]) ?_ rfl ⟨?_,?_⟩
    ·simp [results,Tryz.results73,go_sem,rc2]
    ·simp [joinWV,Qd.val]
    ·iterate 7 (refine Below.setCell ?_ (by first | (show w.heap.size≤w.heap.size+1;omega) | exact T1.below.size) _)
     exact B2
   ·cases NC
    ·refine (HTD.out _).mono ?_
     rintro e w2 ⟨rfl,hw2⟩
     have N2:=N1.later hw2
     have X2:=X1.later hw2
     have R2:=R1.later hw2
     have Q2:=Q1.later hw2
     have B2:=B1.trans (hw2.mono B1.size)
     clear hw2
     have nc2:=N2.cell
     have xc2:=X2.cell
     have rc2:=R2.cell
     have qc2:=Q2.cell
     have rf2:=R2.frozen
     have qf2:=Q2.frozen
     clear nc1 xc1 rc1 qc1 rf1 qf1
     go_wp2_with fail
     refine (HNC.out _).mono ?_
     rintro e w3 ⟨rfl,hw3⟩
     have N3:=N2.later hw3
     have X3:=X2.later hw3
     have R3:=R2.later hw3
     have Q3:=Q2.later hw3
     have B3:=B2.trans (hw3.mono B2.size)
     clear hw3
     have nc3:=N3.cell
     have xc3:=X3.cell
     have rc3:=R3.cell
     have qc3:=Q3.cell
     have rf3:=R3.frozen
     have qf3:=Q3.frozen
     clear nc2 xc2 rc2 qc2 rf2 qf2
     go_wp2_with fail
     refine bodyPost_ret (v:=.tuple #[.agg #[.int .i64 44,.int .i64 x1,.int .i64 x2,.int .i64 x3,.int .i64 n2,.int .i64 0,.int .i64 n1],.bool true]) ?_ rfl ⟨?_,?_⟩
     ·simp [results,Tryz.results73,go_sem,rc3]
     ·simp [joinWV,Qd.val]
     ·iterate 8 (refine Below.setCell ?_ (by first | (show w.heap.size≤w.heap.size+1;omega) | exact T1.below.size) _)
      exact B3
    ·refine (HTD.out _).mono ?_
     rintro e w2 ⟨rfl,hw2⟩
     have N2:=N1.later hw2
     have X2:=X1.later hw2
     have R2:=R1.later hw2
     have Q2:=Q1.later hw2
     have B2:=B1.trans (hw2.mono B1.size)
     clear hw2
     have nc2:=N2.cell
     have xc2:=X2.cell
     have rc2:=R2.cell
     have qc2:=Q2.cell
     have rf2:=R2.frozen
     have qf2:=Q2.frozen
     clear nc1 xc1 rc1 qc1 rf1 qf1
     go_wp2_with fail
     refine (HNC.out _).mono ?_
     rintro e w3 ⟨rfl,hw3⟩
     have N3:=N2.later hw3
     have X3:=X2.later hw3
     have R3:=R2.later hw3
     have Q3:=Q2.later hw3
     have B3:=B2.trans (hw3.mono B2.size)
     clear hw3
     have nc3:=N3.cell
     have xc3:=X3.cell
     have rc3:=R3.cell
     have qc3:=Q3.cell
     have rf3:=R3.frozen
     have qf3:=Q3.frozen
     clear nc2 xc2 rc2 qc2 rf2 qf2
     go_wp2_with fail
     refine bodyPost_ret (v:=.tuple #[.agg #[.int .i64 0,.int .i64 0,.int .i64 0,.int .i64 0,.int .i64 0,.int .i64 0,.int .i64 0],.bool false]) ?_ rfl ⟨?_,?_⟩
     ·simp [results,Tryz.results73,go_sem,rc3]
     ·simp [joinWV,Qd.val]
     ·iterate 7 (refine Below.setCell ?_ (by first | (show w.heap.size≤w.heap.size+1;omega) | exact T1.below.size) _)
      exact B3
  ·refine (HTC.out _).mono ?_
   rintro e w1 ⟨rfl,hw1⟩
   have N1:=(T1.n.alloc _).later hw1
   have X1:=(T1.x.alloc _).later hw1
   have R1:=(T1.r.alloc _).later hw1
   have Q1:=(Blk.new wc #[.int .i64 44,.int .i64 x1,.int .i64 x2,.int .i64 0,.int .i64 n2,.int .i64 0,.int .i64 n1] 60).later hw1
   have B1:=(T1.below.alloc T1.below.size _).trans (hw1.mono (T1.below.alloc T1.below.size _).size)
   clear hw1
   have nc1:=N1.cell
   have xc1:=X1.cell
   have rc1:=R1.cell
   have qc1:=Q1.cell
   have rf1:=R1.frozen
   have qf1:=Q1.frozen
   go_wp2_with fail
   cases ND
   ·refine (HND.out _).mono ?_
    rintro e w2 ⟨rfl,hw2⟩
    have N2:=N1.later hw2
    have X2:=X1.later hw2
    have R2:=R1.later hw2
    have Q2:=Q1.later hw2
    have B2:=B1.trans (hw2.mono B1.size)
    clear hw2
    have nc2:=N2.cell
    have xc2:=X2.cell
    have rc2:=R2.cell
    have qc2:=Q2.cell
    have rf2:=R2.frozen
    have qf2:=Q2.frozen
    clear nc1 xc1 rc1 qc1 rf1 qf1
    go_wp2_with fail
    refine bodyPost_ret (v:=.tuple #[.agg #[.int .i64 44,.int .i64 x1,.int .i64 x2,.int .i64 x4,.int .i64 n2,.int .i64 1,.int .i64 n1],.bool true]) ?_ rfl ⟨?_,?_⟩
    ·simp [results,Tryz.results73,go_sem,rc2]
    ·simp [joinWV,Qd.val]
    ·iterate 9 (refine Below.setCell ?_ (by first | (show w.heap.size≤w.heap.size+1;omega) | exact T1.below.size) _)
     exact B2
   ·refine (HND.out _).mono ?_
    rintro e w2 ⟨rfl,hw2⟩
    have N2:=N1.later hw2
    have X2:=X1.later hw2
    have R2:=R1.later hw2
    have Q2:=Q1.later hw2
    have B2:=B1.trans (hw2.mono B1.size)
    clear hw2
    have nc2:=N2.cell
    have xc2:=X2.cell
    have rc2:=R2.cell
    have qc2:=Q2.cell
    have rf2:=R2.frozen
    have qf2:=Q2.frozen
    clear nc1 xc1 rc1 qc1 rf1 qf1
    go_wp2_with fail
    cases TD
    ·refine (HTD.out _).mono ?_
     rintro e w3 ⟨rfl,hw3⟩
     have N3:=N2.later hw3
     have X3:=X2.later hw3
     have R3:=R2.later hw3
     have Q3:=Q2.later hw3
     have B3:=B2.trans (hw3.mono B2.size)
     clear hw3
     have nc3:=N3.cell
     have xc3:=X3.cell
     have rc3:=R3.cell
     have qc3:=Q3.cell
     have rf3:=R3.frozen
     have qf3:=Q3.frozen
     clear nc2 xc2 rc2 qc2 rf2 qf2
     go_wp2_with fail
     refine bodyPost_ret (v:=.tuple #[.agg #[.int .i64 0,.int .i64 0,.int .i64 0,.int .i64 0,.int .i64 0,.int .i64 0,.int .i64 0],.bool false]) ?_ rfl ⟨?_,?_⟩
     ·simp [results,Tryz.results73,go_sem,rc3]
     ·simp [joinWV,Qd.val]
     ·iterate 7 (refine Below.setCell ?_ (by first | (show w.heap.size≤w.heap.size+1;omega) | exact T1.below.size) _)
      exact B3
    ·cases NC
     ·refine (HTD.out _).mono ?_
      rintro e w3 ⟨rfl,hw3⟩
      have N3:=N2.later hw3
      have X3:=X2.later hw3
      have R3:=R2.later hw3
      have Q3:=Q2.later hw3
      have B3:=B2.trans (hw3.mono B2.size)
      clear hw3
      have nc3:=N3.cell
      have xc3:=X3.cell
      have rc3:=R3.cell
      have qc3:=Q3.cell
      have rf3:=R3.frozen
      have qf3:=Q3.frozen
      clear nc2 xc2 rc2 qc2 rf2 qf2
      go_wp2_with fail
      refine (HNC.out _).mono ?_
      rintro e w4 ⟨rfl,hw4⟩
      have N4:=N3.later hw4
      have X4:=X3.later hw4
      have R4:=R3.later hw4
      have Q4:=Q3.later hw4
      have B4:=B3.trans (hw4.mono B3.size)
      clear hw4
      have nc4:=N4.cell
      have xc4:=X4.cell
      have rc4:=R4.cell
      have qc4:=Q4.cell
      have rf4:=R4.frozen
      have qf4:=Q4.frozen
      clear nc3 xc3 rc3 qc3 rf3 qf3
      go_wp2_with fail
      refine bodyPost_ret (v:=.tuple #[.agg #[.int .i64 44,.int .i64 x1,.int .i64 x2,.int .i64 x3,.int .i64 n2,.int .i64 0,.int .i64 n1],.bool true]) ?_ rfl ⟨?_,?_⟩
      ·simp [results,Tryz.results73,go_sem,rc4]
      ·simp [joinWV,Qd.val]
      ·iterate 8 (refine Below.setCell ?_ (by first | (show w.heap.size≤w.heap.size+1;omega) | exact T1.below.size) _)
       exact B4
     ·refine (HTD.out _).mono ?_
      rintro e w3 ⟨rfl,hw3⟩
      have N3:=N2.later hw3
      have X3:=X2.later hw3
      have R3:=R2.later hw3
      have Q3:=Q2.later hw3
      have B3:=B2.trans (hw3.mono B2.size)
      clear hw3
      have nc3:=N3.cell
      have xc3:=X3.cell
      have rc3:=R3.cell
      have qc3:=Q3.cell
      have rf3:=R3.frozen
      have qf3:=Q3.frozen
      clear nc2 xc2 rc2 qc2 rf2 qf2
      go_wp2_with fail
      refine (HNC.out _).mono ?_
      rintro e w4 ⟨rfl,hw4⟩
      have N4:=N3.later hw4
      have X4:=X3.later hw4
      have R4:=R3.later hw4
      have Q4:=Q3.later hw4
      have B4:=B3.trans (hw4.mono B3.size)
      clear hw4
      have nc4:=N4.cell
      have xc4:=X4.cell
      have rc4:=R4.cell
      have qc4:=Q4.cell
      have rf4:=R4.frozen
      have qf4:=Q4.frozen
      clear nc3 xc3 rc3 qc3 rf3 qf3
      go_wp2_with fail
      refine bodyPost_ret (v:=.tuple #[.agg #[.int .i64 0,.int .i64 0,.int .i64 0,.int .i64 0,.int .i64 0,.int .i64 0,.int .i64 0],.bool false]) ?_ rfl ⟨?_,?_⟩
      ·simp [results,Tryz.results73,go_sem,rc4]
      ·simp [joinWV,Qd.val]
      ·iterate 7 (refine Below.setCell ?_ (by first | (show w.heap.size≤w.heap.size+1;omega) | exact T1.below.size) _)
       exact B4
def tryP (cs:List Vd) (c:Nat):List Nd→Nat→Option Qd
 | n::x::r,0=>if n.op=42∧x.op=42∧1<dropsF n.a 0 (n::x::r) then some ⟨46,n.a,dropsF n.a 0 (n::x::r),0,0,0,0⟩ else none
 | n::x::_,1=>if n.op=18∧x.op=20∧13≤n.b∧x.a = -1 - n.a then some ⟨43,n.a,n.b,n.c,n.d,x.b,1⟩ else none
 | n::x::_,2=>if n.op=18∧x.op=21∧13≤n.b∧x.a = -1 - n.a then some ⟨43,n.a,n.b,n.c,n.d,x.b,0⟩ else none
 | n::x::_,3=>if n.op=4∧x.op=18∧x.c = -1 - n.a∧x.d≠n.a∧x.d≠-1 - n.a then some ⟨44,x.a,x.b,x.d,n.b,1,n.a⟩
   else if n.op=4∧x.op=18∧x.d = -1 - n.a∧x.c≠n.a∧x.c≠-1 - n.a then some ⟨44,x.a,x.b,x.c,n.b,0,n.a⟩ else none
 | n::x::_,4=>if n.op=4∧x.op=15∧x.c = -1 - n.a∧x.b≠n.a∧x.b≠-1 - n.a∧kindAt cs n.b=4 then some ⟨45,x.a,x.b,n.b,c,0,n.a⟩ else none
 | _,_=>none
theorem drops_two {n x:Nd} {r:List Nd} (h:¬(n.op=42∧x.op=42)):¬1<dropsF n.a 0 (n::x::r):=by
 unfold dropsF
 split
 ·rename_i h1
  unfold dropsF
  rw [if_neg (fun h2=>h ⟨h1.1,h2.1⟩)]
  omega
 ·omega
theorem drops_one {n:Nd} : ¬1<dropsF n.a 0 [n]:=by
 have:=dropsF_le n.a 0 [n]
 simp at this
 omega
theorem quickOne_try {cs:List Vd} {c:Nat} {n:Nd} {r:List Nd} : quickOne cs c (n::r)=(((((tryP cs c (n::r) 0).or (tryP cs c (n::r) 1)).or (tryP cs c (n::r) 2)).or (tryP cs c (n::r) 3)).or (tryP cs c (n::r) 4)).getD (plainQ n):=by
 match r with
 | []=>simp [quickOne,twoL,tryP,drops_one]
 | x::r=>
  by_cases h:n.op=42∧x.op=42
  ·by_cases hd:1<dropsF n.a 0 (n::x::r)
   ·simp [quickOne,tryP,h.1,h.2,hd]
   ·simp [quickOne,tryP,twoL,twoF,h.1,h.2,hd]
  ·have hd:=drops_two (r:=r) h
   simp only [quickOne,if_neg hd,twoL]
   have h0:tryP cs c (n::x::r) 0=none:=by simp [tryP,hd]
   rw [h0]
   clear h hd h0
   by_cases a18:n.op=18
   ·by_cases x20:x.op=20
    ·by_cases hc:13≤n.b∧x.a = -1 - n.a
     ·simp [tryP,twoF,a18,x20,hc.1,hc.2]
     ·have:¬(13≤n.b∧x.a = -1 - n.a):=hc
      simp [tryP,twoF,a18,x20,this]
    ·by_cases x21:x.op=21
     ·by_cases hc:13≤n.b∧x.a = -1 - n.a
      ·simp [tryP,twoF,a18,x21,hc.1,hc.2]
      ·simp [tryP,twoF,a18,x21,hc]
     ·simp [tryP,twoF,a18,x20,x21]
   ·by_cases a4:n.op=4
    ·by_cases x18:x.op=18
     ·by_cases hc:x.c = -1 - n.a∧x.d≠n.a∧x.d≠-1 - n.a
      ·simp [tryP,twoF,a4,x18,hc.1,hc.2.1,hc.2.2]
      ·by_cases he:x.d = -1 - n.a∧x.c≠n.a∧x.c≠-1 - n.a
       ·simp only [tryP,twoF,a4,x18,if_neg hc,if_pos he,true_and]
        simp
       ·simp only [tryP,twoF,a4,x18,if_neg hc,if_neg he,true_and]
        simp
     ·by_cases x15:x.op=15
      ·by_cases hc:x.c = -1 - n.a∧x.b≠n.a∧x.b≠-1 - n.a∧kindAt cs n.b=4
       ·simp only [tryP,twoF,a4,x15,if_pos hc,true_and]
        simp
       ·simp only [tryP,twoF,a4,x15,if_neg hc,true_and]
        simp
      ·simp [tryP,twoF,a4,x18,x15]
    ·simp [tryP,twoF,a18,a4]
theorem try_hit {cs:List Vd} {c:Nat} {n:Nd} {r:List Nd} {k:Nat} {q:Qd} (hk:k<5) (h:∀j,j<k→tryP cs c (n::r) j=none) (hq:tryP cs c (n::r) k=some q):quickOne cs c (n::r)=q:=by
 rw [quickOne_try]
 rcases (show k=0∨k=1∨k=2∨k=3∨k=4 by omega) with rfl | rfl | rfl | rfl | rfl
 ·simp [hq]
 ·simp [hq,h 0]
 ·simp [hq,h 0,h 1]
 ·simp [hq,h 0,h 1,h 2]
 ·simp [hq,h 0,h 1,h 2,h 3]
theorem try_miss {cs:List Vd} {c:Nat} {n:Nd} {r:List Nd} (h:∀j,j<5→tryP cs c (n::r) j=none):quickOne cs c (n::r)=plainQ n:=by
 rw [quickOne_try]
 simp [h]
theorem try_short {cs:List Vd} {c k:Nat} {n:Nd} {x y:Int} {l:List Nd} (hs:stands x y (n::l)=false) (hk:(k=0∧x=42∧y=42)∨(k=1∧x=18∧y=20)∨(k=2∧x=18∧y=21)∨(k=3∧x=4∧y=18)∨(k=4∧x=4∧y=15)):tryP cs c (n::l) k=none:=by
 match l with
 | []=>rcases hk with ⟨rfl,_⟩ | ⟨rfl,_⟩ | ⟨rfl,_⟩ | ⟨rfl,_⟩ | ⟨rfl,_⟩ <;> rfl
 | z::l=>
  simp only [stands,Bool.and_eq_false_iff,beq_eq_false_iff_ne] at hs
  rcases hk with ⟨rfl,rfl,rfl⟩ | ⟨rfl,rfl,rfl⟩ | ⟨rfl,rfl,rfl⟩ | ⟨rfl,rfl,rfl⟩ | ⟨rfl,rfl,rfl⟩ <;> simp only [tryP] <;> grind
theorem takes_iff {x a:Int} (ha:0≤a):(decide (x<0) && (regOf x == a))=decide (x = -1 - a):=by
 unfold regOf
 rw [Bool.eq_iff_iff]
 split <;> simp <;> omega
theorem names_iff {x a:Int} (ha:0≤a):(regOf x == a)=decide (x=a∨x = -1 - a):=by
 unfold regOf
 rw [Bool.eq_iff_iff]
 split <;> simp <;> omega
def JoinOk (f k:Nat) (io co:Option Addr) (ic cc c:Nat) (l:List Nd) (cs:List Vd) (w:World):Prop:=
 ∃(q:Qd) (ok:Bool),(∀W,Below w.heap.size w W→Calls Tryz.prog f #[.agg #[.slice io l.length ic,.slice co cs.length cc,.int .i64 c]] W fun e w'=>e=.returned (.tuple #[q.val,.bool ok])∧Below W.heap.size W w')∧
  (ok=true→tryP cs c l k=some q)∧(ok=false→tryP cs c l k=none)
theorem stands_two {x y:Int} {l:List Nd} (h:stands x y l=true):∃n m r,l=n::m::r∧n.op=x∧m.op=y:=by
 match l with
 | []=>simp [stands] at h
 | [_]=>simp [stands] at h
 | n::m::r=>simp [stands] at h;exact ⟨n,m,r,rfl,h.1,h.2⟩
structure QGood (n:Nd) (r:List Nd) (cs:List Vd):Prop where
 few:(n::r).length≤1048576
 dr:∀z ∈ n::r,z.op=42→(0≤z.a∧z.a≤250)∧z.b=0∧z.c=0∧z.d=0
 c4:n.op=4→(0≤n.a∧n.a≤250)∧0≤n.b∧n.b<cs.length
 c18:n.op=18→(0≤n.a∧n.a≤250)
 w:∀z ∈ n::r,NdW z
section
variable {io co : Option Addr} {ic cc c : Nat} {n : Nd} {r : List Nd} {cs : List Vd} {w : World}
theorem joinDrops_ok (hq:QGood n r cs) (hin:InssAt 0 w io (n::r)) (hs:stands 42 42 (n::r)=true):JoinOk 71 0 io co ic cc c (n::r) cs w:=by
 obtain⟨n',x,r',e,h1,h2⟩:=stands_two hs
 simp only [List.cons.injEq] at e
 obtain⟨rfl,rfl⟩:=e
 refine⟨_,_,fun W hb=>joinDrops_any io co ic cs.length cc c _ n W hq.few (hin.later (Keeps.of_below hb)) rfl h1 hq.dr,?_,?_⟩
 ·intro h
  simp only [decide_eq_true_eq] at h
  simp [tryP,h1,h2,h]
 ·intro h
  simp only [decide_eq_false_iff_not] at h
  simp [tryP,h]
theorem joinTest_ok1 (hq:QGood n r cs) (hin:InssAt 0 w io (n::r)) (hs:stands 18 20 (n::r)=true):JoinOk 72 1 io co ic cc c (n::r) cs w:=by
 obtain⟨n',x,r',e,h1,h2⟩:=stands_two hs
 simp only [List.cons.injEq] at e
 obtain⟨rfl,rfl⟩:=e
 have hx:=hq.w x (by simp)
 have ha:=hq.c18 h1
 refine⟨_,_,fun W hb=>joinTest_any io co ic cs.length cc c _ n x W hq.few (hin.later (Keeps.of_below hb)) rfl rfl hx.a,?_,?_⟩
 ·intro h
  rw [takes_iff ha.1] at h
  simp only [Bool.and_eq_true,decide_eq_true_eq] at h
  simp [tryP,h1,h2,h.1,h.2]
 ·intro h
  rw [takes_iff ha.1] at h
  have:¬(13≤n.b∧x.a = -1 - n.a):=by
   intro h3
   simp [h3.1,h3.2] at h
  simp [tryP,h1,h2,this]
theorem joinTest_ok2 (hq:QGood n r cs) (hin:InssAt 0 w io (n::r)) (hs:stands 18 21 (n::r)=true):JoinOk 72 2 io co ic cc c (n::r) cs w:=by
 obtain⟨n',x,r',e,h1,h2⟩:=stands_two hs
 simp only [List.cons.injEq] at e
 obtain⟨rfl,rfl⟩:=e
 have hx:=hq.w x (by simp)
 have ha:=hq.c18 h1
 refine⟨_,_,fun W hb=>joinTest_any io co ic cs.length cc c _ n x W hq.few (hin.later (Keeps.of_below hb)) rfl rfl hx.a,?_,?_⟩
 ·intro h
  rw [takes_iff ha.1] at h
  simp only [Bool.and_eq_true,decide_eq_true_eq] at h
  simp [tryP,h1,h2,h.1,h.2]
 ·intro h
  rw [takes_iff ha.1] at h
  have:¬(13≤n.b∧x.a = -1 - n.a):=by
   intro h3
   simp [h3.1,h3.2] at h
  simp [tryP,h1,h2,this]
theorem joinWith_ok (hq:QGood n r cs) (hin:InssAt 0 w io (n::r)) (hs:stands 4 18 (n::r)=true):JoinOk 73 3 io co ic cc c (n::r) cs w:=by
 obtain⟨n',x,r',e,h1,h2⟩:=stands_two hs
 simp only [List.cons.injEq] at e
 obtain⟨rfl,rfl⟩:=e
 have hx:=hq.w x (by simp)
 have ha:=(hq.c4 h1).1.1
 have hc:=fun W hb=>joinWith_any io co ic cs.length cc c (n::x::r') n x W hq.few (hin.later (Keeps.of_below (w:=w) (w':=W) hb)) rfl rfl hx.c hx.d
 simp only [takes_iff ha] at hc
 simp only [names_iff ha] at hc
 by_cases k1:x.c = -1 - n.a∧x.d≠n.a∧x.d≠-1 - n.a
 ·refine⟨⟨44,x.a,x.b,x.d,n.b,1,n.a⟩,true,fun W hb=>?_,fun _=>?_,fun h=>by cases h⟩
  ·have:=hc W hb
   rw [joinWV,if_pos (by simp [k1.1,k1.2.1,k1.2.2])] at this
   exact this
  ·simp only [tryP,h1,h2,true_and,if_pos k1]
 ·have e1:(decide (x.c = -1 - n.a) && !decide (x.d=n.a∨x.d = -1 - n.a))=false:=by
   rw [←Bool.not_eq_true]
   intro h
   simp at h
   exact k1 ⟨h.1,h.2.1,h.2.2⟩
  by_cases k2:x.d = -1 - n.a∧x.c≠n.a∧x.c≠-1 - n.a
  ·refine⟨⟨44,x.a,x.b,x.c,n.b,0,n.a⟩,true,fun W hb=>?_,fun _=>?_,fun h=>by cases h⟩
   ·have:=hc W hb
    rw [joinWV,e1,if_neg (by simp),if_pos (by simp [k2.1,k2.2.1,k2.2.2])] at this
    exact this
   ·simp only [tryP,h1,h2,true_and,if_neg k1,if_pos k2]
  ·have e2:(decide (x.d = -1 - n.a) && !decide (x.c=n.a∨x.c = -1 - n.a))=false:=by
    rw [←Bool.not_eq_true]
    intro h
    simp at h
    exact k2 ⟨h.1,h.2.1,h.2.2⟩
   refine⟨⟨0,0,0,0,0,0,0⟩,false,fun W hb=>?_,fun h=>(by cases h),fun _=>?_⟩
   ·have:=hc W hb
    rw [joinWV,e1,e2,if_neg (by simp),if_neg (by simp)] at this
    exact this
   ·simp only [tryP,h1,h2,true_and,if_neg k1,if_neg k2]
theorem joinField_ok (hq:QGood n r cs) (hin:InssAt 0 w io (n::r)) (hcs:ValsAt 0 w co cs) (hs:stands 4 15 (n::r)=true):JoinOk 74 4 io co ic cc c (n::r) cs w:=by
 obtain⟨n',x,r',e,h1,h2⟩:=stands_two hs
 simp only [List.cons.injEq] at e
 obtain⟨rfl,rfl⟩:=e
 have hx:=hq.w x (by simp)
 obtain⟨⟨ha,_⟩,hb1,hb2⟩:=hq.c4 h1
 obtain⟨v,hv⟩:=some_of_lt (show n.b.toNat<cs.length by omega)
 have hk:kindAt cs n.b=v.kind:=by simp [kindAt,hv]
 have hc:=fun W hb=>joinField_any io co ic cc c (n::x::r') cs n x n.b.toNat v W hq.few (hin.later (Keeps.of_below (w:=w) (w':=W) hb)) (hcs.later (Keeps.of_below hb)) rfl rfl (by omega) hv hx.c hx.b
 simp only [takes_iff ha] at hc
 simp only [names_iff ha] at hc
 refine⟨_,_,hc,?_,?_⟩
 ·intro h
  simp at h
  simp [tryP,h1,h2,hk,h.1.1,h.1.2,h.2.1,h.2.2]
 ·intro h
  have:¬(x.c = -1 - n.a∧x.b≠n.a∧x.b≠-1 - n.a∧kindAt cs n.b=4):=by
   rintro⟨h3,h4,h5,h6⟩
   rw [hk] at h6
   simp [h3,h4,h5,h6] at h
  simp only [tryP,h1,h2,true_and,if_neg this]
end
set_option maxRecDepth 100000 in
set_option maxHeartbeats 4000000 in
theorem quicken_any (io co:Option Addr) (ic cc c g:Nat) (n:Nd) (r:List Nd) (cs:List Vd) (w:World) (hq:QGood n r cs) (hin:InssAt 0 w io (n::r)) (hcs:ValsAt 0 w co cs) (hp:PatsAt w g) :
  Calls Tryz.prog 29 #[.agg #[.slice io (n::r).length ic,.slice co cs.length cc,.int .i64 c],.slice (some ⟨g,0,none⟩) 5 5] w fun e w'=>e=.returned (Qd.val (quickOne cs c (n::r)))∧Below w.heap.size w w':=by
 obtain⟨z,hz⟩:∃z,(n::r).length=z:=⟨_,rfl⟩
 have HST:Hid (∀f gp x y W,Below w.heap.size w W→gp<W.heap.size→W.cell? ⟨gp,0,none⟩=some (.int .i64 x)→W.cell? ⟨gp,1,none⟩=some (.int .i64 y)→Calls Tryz.prog 75 #[.agg #[.func f #[] #[],.slice (some ⟨gp,0,none⟩) 2 2],.agg #[.slice io z ic,.slice co cs.length cc,.int .i64 c]] W fun e w'=>e=.returned (.bool (stands x y (n::r)))∧Below W.heap.size W w'):=fun f gp x y W hb h1 h2 h3=>by
  have:=standsAt_any f gp x y io co ic cs.length cc c (n::r) W hq.few h1 h2 h3 (hin.later (Keeps.of_below hb))
  rw [hz] at this
  exact this
 rw [hz]
 have hzl:z≤1048576:=hz▸hq.few
 have hz1:0<z:=by rw [←hz];simp
 have hz0:(0:Int)<z:=by omega
 have hb2:∀o1 o2,Below w.heap.size w ((w.alloc o1).alloc o2):=fun o1 o2=>((Below.refl _ _).alloc (Nat.le_refl _) o1).alloc (by simp) o2
 have X0:=(Blk.new w #[.slice io z ic,.slice co cs.length cc,.int .i64 c] 63).alloc (.cells #[.int .i64 0,.int .i64 0,.int .i64 0,.int .i64 0,.int .i64 0,.int .i64 0,.int .i64 0] 60)
 have Y0:=Blk.newIn (W:=w.alloc (.cells #[.slice io z ic,.slice co cs.length cc,.int .i64 c] 63)) (n:=w.heap.size+1) #[.int .i64 0,.int .i64 0,.int .i64 0,.int .i64 0,.int .i64 0,.int .i64 0,.int .i64 0] 60 (by simp)
 have HHIT:Hid (∀k q,k<5→(∀j,j<k→tryP cs c (n::r) j=none)→tryP cs c (n::r) k=some q→quickOne cs c (n::r)=q):=fun k q h1 h2 h3=>try_hit h1 h2 h3
 have HMISS:Hid ((∀j,j<5→tryP cs c (n::r) j=none)→quickOne cs c (n::r)=plainQ n):=try_miss
 have HIN:Hid (InssAt 0 w io (n::r)):=hin
 have HCS:Hid (ValsAt 0 w co cs):=hcs
 have HQ:Hid (QGood n r cs):=hq
 clear hq hin hcs
 generalize quickOne cs c (n::r)=R at *
 go_enter Tryz.func29,Tryz.ntmps29
 go_wp2_with fail
 go_loopw [12] (fun y wr=>∃k:Nat,k≤5∧y=.int .i64 k∧Hid (∀j,j<k→tryP cs c (n::r) j=none)∧Below w.heap.size w wr∧PatsAt wr g∧Blk wr w.heap.size #[.slice io z ic,.slice co cs.length cc,.int .i64 c] 63∧Blk wr (w.heap.size+1) #[.int .i64 0,.int .i64 0,.int .i64 0,.int .i64 0,.int .i64 0,.int .i64 0,.int .i64 0] 60) (fun y _=>5 - (intOf y).toNat)
 case atStart=>exact ⟨0,by omega,rfl,fun j h=>absurd h (Nat.not_lt_zero _),hb2 _ _,hp.later (hb2 _ _),X0,Y0⟩
 case round=>
  obtain⟨k,hk,rfl,HK,hb,P1,X1,Y1⟩:=hrel
  clear X0 Y0 hb2 hp
  have x1:=X1.cell
  by_cases hk5:k<5
  ·have xa:=fun o=>(X1.alloc o).cell
   rcases (show k=0∨k=1∨k=2∨k=3∨k=4 by omega) with rfl | rfl | rfl | rfl | rfl
   ·obtain⟨gp,p1,p2,p3,p4,p5⟩:=P1.p0
    clear hk hk5
    cases hs:stands 42 42 (n::r)
    ·
     have HN:Hid (∀j,j<1→tryP cs c (n::r) j=none):=by
      intro j hj
      rcases (show j<0∨j=0 by omega) with h | rfl
      ·exact HK.out j h
      ·exact try_short hs (by simp)
     have BA:=below_alQ (Below.refl wr.heap.size wr) (Nat.le_refl _) (.cells #[.func (.func 71) #[] #[],.slice (some ⟨gp,0,none⟩) 2 2] 135)
     go_wp2_with fail
     refine (HST.out (.func 71) gp 42 42 _ (Below.trans hb (BA.mono hb.size)) (Nat.lt_of_lt_of_le p3 BA.size) ((BA.cell (p:=⟨gp,0,none⟩) p3).trans p4) ((BA.cell (p:=⟨gp,1,none⟩) p3).trans p5)).mono ?_
     rintro e w1 ⟨rfl,hw1⟩
     have BW:=BA.trans (hw1.mono BA.size)
     have B1:=hb.trans (BW.mono hb.size)
     have C1:=(Blk.new wr #[.func (.func 71) #[] #[],.slice (some ⟨gp,0,none⟩) 2 2] 135).later hw1
     have P2:=P1.later BW
     have X2:=X1.later BW
     have Y2:=Y1.later BW
     clear hw1 BW BA P1 X1 Y1 x1 xa hb
     have c1:=C1.cell
     have x2:=X2.cell
     rw [hs]
     go_wp2_with fail
     go_roundw
     case rel=>exact ⟨1,by omega,by go_num,HN.out,B1,P2,X2,Y2⟩
     case measure=>simp [intOf]
    ·obtain⟨q,ok,hj,ht,hf⟩:=joinDrops_ok (ic:=ic) (cc:=cc) (c:=c) (co:=co) HQ.out HIN.out hs
     rw [hz] at hj
     obtain⟨q0,q1,q2,q3,q4,q5,q6⟩:=q
     have HJ:Hid (∀W,Below w.heap.size w W→Calls Tryz.prog 71 #[.agg #[.slice io z ic,.slice co cs.length cc,.int .i64 c]] W fun e w'=>e=.returned (.tuple #[.agg #[.int .i64 q0,.int .i64 q1,.int .i64 q2,.int .i64 q3,.int .i64 q4,.int .i64 q5,.int .i64 q6],.bool ok])∧Below W.heap.size W w'):=hj
     have HT:Hid (ok=true→tryP cs c (n::r) 0=some ⟨q0,q1,q2,q3,q4,q5,q6⟩):=ht
     have HF:Hid (ok=false→tryP cs c (n::r) 0=none):=hf
     clear hj ht hf
     have BA:=below_alQ (Below.refl wr.heap.size wr) (Nat.le_refl _) (.cells #[.func (.func 71) #[] #[],.slice (some ⟨gp,0,none⟩) 2 2] 135)
     go_wp2_with fail
     refine (HST.out (.func 71) gp 42 42 _ (Below.trans hb (BA.mono hb.size)) (Nat.lt_of_lt_of_le p3 BA.size) ((BA.cell (p:=⟨gp,0,none⟩) p3).trans p4) ((BA.cell (p:=⟨gp,1,none⟩) p3).trans p5)).mono ?_
     rintro e w1 ⟨rfl,hw1⟩
     have BW:=BA.trans (hw1.mono BA.size)
     have B1:=hb.trans (BW.mono hb.size)
     have C1:=(Blk.new wr #[.func (.func 71) #[] #[],.slice (some ⟨gp,0,none⟩) 2 2] 135).later hw1
     have P2:=P1.later BW
     have X2:=X1.later BW
     have Y2:=Y1.later BW
     clear hw1 BW BA P1 X1 Y1 x1 xa hb
     have c1:=C1.cell
     have x2:=X2.cell
     rw [hs]
     go_wp2_with fail
     cases ok
     ·
      have HN:Hid (∀j,j<1→tryP cs c (n::r) j=none):=by
       intro j hj
       rcases (show j<0∨j=0 by omega) with h | rfl
       ·exact HK.out j h
       ·exact HF.out rfl
      refine (HJ.out w1 B1).mono ?_
      rintro e w2 ⟨rfl,hw2⟩
      have B2:=B1.trans (hw2.mono B1.size)
      have P3:=P2.later hw2
      have X3:=X2.later hw2
      have Y3:=Y2.later hw2
      clear hw2 P2 X2 Y2 C1 c1 x2
      have y3:=fun o=>(Y3.alloc o).cell
      have yf3:=fun o=>(Y3.alloc o).frozen
      have BB:∀o,Below w2.heap.size w2 (w2.alloc o):=fun o=>below_alQ (Below.refl _ _) (Nat.le_refl _) o
      go_wp2_with fail
      go_roundw
      case rel=>exact ⟨1,by omega,by go_num,HN.out,(B2.trans ((BB _).mono B2.size)),(P3.later (BB _)),(X3.alloc _),(Y3.alloc _)⟩
      case measure=>simp [intOf]
     ·have HT2:Hid (tryP cs c (n::r) 0=some ⟨q0,q1,q2,q3,q4,q5,q6⟩):=HT.out rfl
      clear HT HF
      refine (HJ.out w1 B1).mono ?_
      rintro e w2 ⟨rfl,hw2⟩
      have B2:=B1.trans (hw2.mono B1.size)
      have P3:=P2.later hw2
      have X3:=X2.later hw2
      have Y3:=Y2.later hw2
      clear hw2 P2 X2 Y2 C1 c1 x2
      have y3:=fun o=>(Y3.alloc o).cell
      have yf3:=fun o=>(Y3.alloc o).frozen
      have BB:∀o,Below w2.heap.size w2 (w2.alloc o):=fun o=>below_alQ (Below.refl _ _) (Nat.le_refl _) o
      go_wp2_with fail
      refine bodyPost_ret (v:=.agg #[.int .i64 q0,.int .i64 q1,.int .i64 q2,.int .i64 q3,.int .i64 q4,.int .i64 q5,.int .i64 q6]) ?_ rfl ⟨?_,?_⟩
      ·simp [results,Tryz.results29,go_sem,y3]
      ·rw [HHIT.out 0 _ (by omega) HK.out HT2.out];rfl
      ·iterate 7 (refine Below.setCell ?_ (by show w.heap.size≤w.heap.size+1;omega) _)
       exact B2.trans ((BB _).mono B2.size)
   ·obtain⟨gp,p1,p2,p3,p4,p5⟩:=P1.p1
    clear hk hk5
    cases hs:stands 18 20 (n::r)
    ·
     have HN:Hid (∀j,j<2→tryP cs c (n::r) j=none):=by
      intro j hj
      rcases (show j<1∨j=1 by omega) with h | rfl
      ·exact HK.out j h
      ·exact try_short hs (by simp)
     have BA:=below_alQ (Below.refl wr.heap.size wr) (Nat.le_refl _) (.cells #[.func (.func 72) #[] #[],.slice (some ⟨gp,0,none⟩) 2 2] 135)
     go_wp2_with fail
     refine (HST.out (.func 72) gp 18 20 _ (Below.trans hb (BA.mono hb.size)) (Nat.lt_of_lt_of_le p3 BA.size) ((BA.cell (p:=⟨gp,0,none⟩) p3).trans p4) ((BA.cell (p:=⟨gp,1,none⟩) p3).trans p5)).mono ?_
     rintro e w1 ⟨rfl,hw1⟩
     have BW:=BA.trans (hw1.mono BA.size)
     have B1:=hb.trans (BW.mono hb.size)
     have C1:=(Blk.new wr #[.func (.func 72) #[] #[],.slice (some ⟨gp,0,none⟩) 2 2] 135).later hw1
     have P2:=P1.later BW
     have X2:=X1.later BW
     have Y2:=Y1.later BW
     clear hw1 BW BA P1 X1 Y1 x1 xa hb
     have c1:=C1.cell
     have x2:=X2.cell
     rw [hs]
     go_wp2_with fail
     go_roundw
     case rel=>exact ⟨2,by omega,by go_num,HN.out,B1,P2,X2,Y2⟩
     case measure=>simp [intOf]
    ·obtain⟨q,ok,hj,ht,hf⟩:=joinTest_ok1 (ic:=ic) (cc:=cc) (c:=c) (co:=co) HQ.out HIN.out hs
     rw [hz] at hj
     obtain⟨q0,q1,q2,q3,q4,q5,q6⟩:=q
     have HJ:Hid (∀W,Below w.heap.size w W→Calls Tryz.prog 72 #[.agg #[.slice io z ic,.slice co cs.length cc,.int .i64 c]] W fun e w'=>e=.returned (.tuple #[.agg #[.int .i64 q0,.int .i64 q1,.int .i64 q2,.int .i64 q3,.int .i64 q4,.int .i64 q5,.int .i64 q6],.bool ok])∧Below W.heap.size W w'):=hj
     have HT:Hid (ok=true→tryP cs c (n::r) 1=some ⟨q0,q1,q2,q3,q4,q5,q6⟩):=ht
     have HF:Hid (ok=false→tryP cs c (n::r) 1=none):=hf
     clear hj ht hf
     have BA:=below_alQ (Below.refl wr.heap.size wr) (Nat.le_refl _) (.cells #[.func (.func 72) #[] #[],.slice (some ⟨gp,0,none⟩) 2 2] 135)
     go_wp2_with fail
     refine (HST.out (.func 72) gp 18 20 _ (Below.trans hb (BA.mono hb.size)) (Nat.lt_of_lt_of_le p3 BA.size) ((BA.cell (p:=⟨gp,0,none⟩) p3).trans p4) ((BA.cell (p:=⟨gp,1,none⟩) p3).trans p5)).mono ?_
     rintro e w1 ⟨rfl,hw1⟩
     have BW:=BA.trans (hw1.mono BA.size)
     have B1:=hb.trans (BW.mono hb.size)
     have C1:=(Blk.new wr #[.func (.func 72) #[] #[],.slice (some ⟨gp,0,none⟩) 2 2] 135).later hw1
     have P2:=P1.later BW
     have X2:=X1.later BW
     have Y2:=Y1.later BW
     clear hw1 BW BA P1 X1 Y1 x1 xa hb
     have c1:=C1.cell
     have x2:=X2.cell
     rw [hs]
     go_wp2_with fail
     cases ok
     ·
      have HN:Hid (∀j,j<2→tryP cs c (n::r) j=none):=by
       intro j hj
       rcases (show j<1∨j=1 by omega) with h | rfl
       ·exact HK.out j h
       ·exact HF.out rfl
      refine (HJ.out w1 B1).mono ?_
      rintro e w2 ⟨rfl,hw2⟩
      have B2:=B1.trans (hw2.mono B1.size)
      have P3:=P2.later hw2
      have X3:=X2.later hw2
      have Y3:=Y2.later hw2
      clear hw2 P2 X2 Y2 C1 c1 x2
      have y3:=fun o=>(Y3.alloc o).cell
      have yf3:=fun o=>(Y3.alloc o).frozen
      have BB:∀o,Below w2.heap.size w2 (w2.alloc o):=fun o=>below_alQ (Below.refl _ _) (Nat.le_refl _) o
      go_wp2_with fail
      go_roundw
      case rel=>exact ⟨2,by omega,by go_num,HN.out,(B2.trans ((BB _).mono B2.size)),(P3.later (BB _)),(X3.alloc _),(Y3.alloc _)⟩
      case measure=>simp [intOf]
     ·have HT2:Hid (tryP cs c (n::r) 1=some ⟨q0,q1,q2,q3,q4,q5,q6⟩):=HT.out rfl
      clear HT HF
      refine (HJ.out w1 B1).mono ?_
      rintro e w2 ⟨rfl,hw2⟩
      have B2:=B1.trans (hw2.mono B1.size)
      have P3:=P2.later hw2
      have X3:=X2.later hw2
      have Y3:=Y2.later hw2
      clear hw2 P2 X2 Y2 C1 c1 x2
      have y3:=fun o=>(Y3.alloc o).cell
      have yf3:=fun o=>(Y3.alloc o).frozen
      have BB:∀o,Below w2.heap.size w2 (w2.alloc o):=fun o=>below_alQ (Below.refl _ _) (Nat.le_refl _) o
      go_wp2_with fail
      refine bodyPost_ret (v:=.agg #[.int .i64 q0,.int .i64 q1,.int .i64 q2,.int .i64 q3,.int .i64 q4,.int .i64 q5,.int .i64 q6]) ?_ rfl ⟨?_,?_⟩
      ·simp [results,Tryz.results29,go_sem,y3]
      ·rw [HHIT.out 1 _ (by omega) HK.out HT2.out];rfl
      ·iterate 7 (refine Below.setCell ?_ (by show w.heap.size≤w.heap.size+1;omega) _)
       exact B2.trans ((BB _).mono B2.size)
   ·obtain⟨gp,p1,p2,p3,p4,p5⟩:=P1.p2
    clear hk hk5
    cases hs:stands 18 21 (n::r)
    ·
     have HN:Hid (∀j,j<3→tryP cs c (n::r) j=none):=by
      intro j hj
      rcases (show j<2∨j=2 by omega) with h | rfl
      ·exact HK.out j h
      ·exact try_short hs (by simp)
     have BA:=below_alQ (Below.refl wr.heap.size wr) (Nat.le_refl _) (.cells #[.func (.func 72) #[] #[],.slice (some ⟨gp,0,none⟩) 2 2] 135)
     go_wp2_with fail
     refine (HST.out (.func 72) gp 18 21 _ (Below.trans hb (BA.mono hb.size)) (Nat.lt_of_lt_of_le p3 BA.size) ((BA.cell (p:=⟨gp,0,none⟩) p3).trans p4) ((BA.cell (p:=⟨gp,1,none⟩) p3).trans p5)).mono ?_
     rintro e w1 ⟨rfl,hw1⟩
     have BW:=BA.trans (hw1.mono BA.size)
     have B1:=hb.trans (BW.mono hb.size)
     have C1:=(Blk.new wr #[.func (.func 72) #[] #[],.slice (some ⟨gp,0,none⟩) 2 2] 135).later hw1
     have P2:=P1.later BW
     have X2:=X1.later BW
     have Y2:=Y1.later BW
     clear hw1 BW BA P1 X1 Y1 x1 xa hb
     have c1:=C1.cell
     have x2:=X2.cell
     rw [hs]
     go_wp2_with fail
     go_roundw
     case rel=>exact ⟨3,by omega,by go_num,HN.out,B1,P2,X2,Y2⟩
     case measure=>simp [intOf]
    ·obtain⟨q,ok,hj,ht,hf⟩:=joinTest_ok2 (ic:=ic) (cc:=cc) (c:=c) (co:=co) HQ.out HIN.out hs
     rw [hz] at hj
     obtain⟨q0,q1,q2,q3,q4,q5,q6⟩:=q
     have HJ:Hid (∀W,Below w.heap.size w W→Calls Tryz.prog 72 #[.agg #[.slice io z ic,.slice co cs.length cc,.int .i64 c]] W fun e w'=>e=.returned (.tuple #[.agg #[.int .i64 q0,.int .i64 q1,.int .i64 q2,.int .i64 q3,.int .i64 q4,.int .i64 q5,.int .i64 q6],.bool ok])∧Below W.heap.size W w'):=hj
     have HT:Hid (ok=true→tryP cs c (n::r) 2=some ⟨q0,q1,q2,q3,q4,q5,q6⟩):=ht
     have HF:Hid (ok=false→tryP cs c (n::r) 2=none):=hf
     clear hj ht hf
     have BA:=below_alQ (Below.refl wr.heap.size wr) (Nat.le_refl _) (.cells #[.func (.func 72) #[] #[],.slice (some ⟨gp,0,none⟩) 2 2] 135)
     go_wp2_with fail
     refine (HST.out (.func 72) gp 18 21 _ (Below.trans hb (BA.mono hb.size)) (Nat.lt_of_lt_of_le p3 BA.size) ((BA.cell (p:=⟨gp,0,none⟩) p3).trans p4) ((BA.cell (p:=⟨gp,1,none⟩) p3).trans p5)).mono ?_
     rintro e w1 ⟨rfl,hw1⟩
     have BW:=BA.trans (hw1.mono BA.size)
     have B1:=hb.trans (BW.mono hb.size)
     have C1:=(Blk.new wr #[.func (.func 72) #[] #[],.slice (some ⟨gp,0,none⟩) 2 2] 135).later hw1
     have P2:=P1.later BW
     have X2:=X1.later BW
     have Y2:=Y1.later BW
     clear hw1 BW BA P1 X1 Y1 x1 xa hb
     have c1:=C1.cell
     have x2:=X2.cell
     rw [hs]
     go_wp2_with fail
     cases ok
     ·
      have HN:Hid (∀j,j<3→tryP cs c (n::r) j=none):=by
       intro j hj
       rcases (show j<2∨j=2 by omega) with h | rfl
       ·exact HK.out j h
       ·exact HF.out rfl
      refine (HJ.out w1 B1).mono ?_
      rintro e w2 ⟨rfl,hw2⟩
      have B2:=B1.trans (hw2.mono B1.size)
      have P3:=P2.later hw2
      have X3:=X2.later hw2
      have Y3:=Y2.later hw2
      clear hw2 P2 X2 Y2 C1 c1 x2
      have y3:=fun o=>(Y3.alloc o).cell
      have yf3:=fun o=>(Y3.alloc o).frozen
      have BB:∀o,Below w2.heap.size w2 (w2.alloc o):=fun o=>below_alQ (Below.refl _ _) (Nat.le_refl _) o
      go_wp2_with fail
      go_roundw
      case rel=>exact ⟨3,by omega,by go_num,HN.out,(B2.trans ((BB _).mono B2.size)),(P3.later (BB _)),(X3.alloc _),(Y3.alloc _)⟩
      case measure=>simp [intOf]
     ·have HT2:Hid (tryP cs c (n::r) 2=some ⟨q0,q1,q2,q3,q4,q5,q6⟩):=HT.out rfl
      clear HT HF
      refine (HJ.out w1 B1).mono ?_
      rintro e w2 ⟨rfl,hw2⟩
      have B2:=B1.trans (hw2.mono B1.size)
      have P3:=P2.later hw2
      have X3:=X2.later hw2
      have Y3:=Y2.later hw2
      clear hw2 P2 X2 Y2 C1 c1 x2
      have y3:=fun o=>(Y3.alloc o).cell
      have yf3:=fun o=>(Y3.alloc o).frozen
      have BB:∀o,Below w2.heap.size w2 (w2.alloc o):=fun o=>below_alQ (Below.refl _ _) (Nat.le_refl _) o
      go_wp2_with fail
      refine bodyPost_ret (v:=.agg #[.int .i64 q0,.int .i64 q1,.int .i64 q2,.int .i64 q3,.int .i64 q4,.int .i64 q5,.int .i64 q6]) ?_ rfl ⟨?_,?_⟩
      ·simp [results,Tryz.results29,go_sem,y3]
      ·rw [HHIT.out 2 _ (by omega) HK.out HT2.out];rfl
      ·iterate 7 (refine Below.setCell ?_ (by show w.heap.size≤w.heap.size+1;omega) _)
       exact B2.trans ((BB _).mono B2.size)
   ·obtain⟨gp,p1,p2,p3,p4,p5⟩:=P1.p3
    clear hk hk5
    cases hs:stands 4 18 (n::r)
    ·
     have HN:Hid (∀j,j<4→tryP cs c (n::r) j=none):=by
      intro j hj
      rcases (show j<3∨j=3 by omega) with h | rfl
      ·exact HK.out j h
      ·exact try_short hs (by simp)
     have BA:=below_alQ (Below.refl wr.heap.size wr) (Nat.le_refl _) (.cells #[.func (.func 73) #[] #[],.slice (some ⟨gp,0,none⟩) 2 2] 135)
     go_wp2_with fail
     refine (HST.out (.func 73) gp 4 18 _ (Below.trans hb (BA.mono hb.size)) (Nat.lt_of_lt_of_le p3 BA.size) ((BA.cell (p:=⟨gp,0,none⟩) p3).trans p4) ((BA.cell (p:=⟨gp,1,none⟩) p3).trans p5)).mono ?_
     rintro e w1 ⟨rfl,hw1⟩
     have BW:=BA.trans (hw1.mono BA.size)
     have B1:=hb.trans (BW.mono hb.size)
     have C1:=(Blk.new wr #[.func (.func 73) #[] #[],.slice (some ⟨gp,0,none⟩) 2 2] 135).later hw1
     have P2:=P1.later BW
     have X2:=X1.later BW
     have Y2:=Y1.later BW
     clear hw1 BW BA P1 X1 Y1 x1 xa hb
     have c1:=C1.cell
     have x2:=X2.cell
     rw [hs]
     go_wp2_with fail
     go_roundw
     case rel=>exact ⟨4,by omega,by go_num,HN.out,B1,P2,X2,Y2⟩
     case measure=>simp [intOf]
    ·obtain⟨q,ok,hj,ht,hf⟩:=joinWith_ok (ic:=ic) (cc:=cc) (c:=c) (co:=co) HQ.out HIN.out hs
     rw [hz] at hj
     obtain⟨q0,q1,q2,q3,q4,q5,q6⟩:=q
     have HJ:Hid (∀W,Below w.heap.size w W→Calls Tryz.prog 73 #[.agg #[.slice io z ic,.slice co cs.length cc,.int .i64 c]] W fun e w'=>e=.returned (.tuple #[.agg #[.int .i64 q0,.int .i64 q1,.int .i64 q2,.int .i64 q3,.int .i64 q4,.int .i64 q5,.int .i64 q6],.bool ok])∧Below W.heap.size W w'):=hj
     have HT:Hid (ok=true→tryP cs c (n::r) 3=some ⟨q0,q1,q2,q3,q4,q5,q6⟩):=ht
     have HF:Hid (ok=false→tryP cs c (n::r) 3=none):=hf
     clear hj ht hf
     have BA:=below_alQ (Below.refl wr.heap.size wr) (Nat.le_refl _) (.cells #[.func (.func 73) #[] #[],.slice (some ⟨gp,0,none⟩) 2 2] 135)
     go_wp2_with fail
     refine (HST.out (.func 73) gp 4 18 _ (Below.trans hb (BA.mono hb.size)) (Nat.lt_of_lt_of_le p3 BA.size) ((BA.cell (p:=⟨gp,0,none⟩) p3).trans p4) ((BA.cell (p:=⟨gp,1,none⟩) p3).trans p5)).mono ?_
     rintro e w1 ⟨rfl,hw1⟩
     have BW:=BA.trans (hw1.mono BA.size)
     have B1:=hb.trans (BW.mono hb.size)
     have C1:=(Blk.new wr #[.func (.func 73) #[] #[],.slice (some ⟨gp,0,none⟩) 2 2] 135).later hw1
     have P2:=P1.later BW
     have X2:=X1.later BW
     have Y2:=Y1.later BW
     clear hw1 BW BA P1 X1 Y1 x1 xa hb
     have c1:=C1.cell
     have x2:=X2.cell
     rw [hs]
     go_wp2_with fail
     cases ok
     ·
      have HN:Hid (∀j,j<4→tryP cs c (n::r) j=none):=by
       intro j hj
       rcases (show j<3∨j=3 by omega) with h | rfl
       ·exact HK.out j h
       ·exact HF.out rfl
      refine (HJ.out w1 B1).mono ?_
      rintro e w2 ⟨rfl,hw2⟩
      have B2:=B1.trans (hw2.mono B1.size)
      have P3:=P2.later hw2
      have X3:=X2.later hw2
      have Y3:=Y2.later hw2
      clear hw2 P2 X2 Y2 C1 c1 x2
      have y3:=fun o=>(Y3.alloc o).cell
      have yf3:=fun o=>(Y3.alloc o).frozen
      have BB:∀o,Below w2.heap.size w2 (w2.alloc o):=fun o=>below_alQ (Below.refl _ _) (Nat.le_refl _) o
      go_wp2_with fail
      go_roundw
      case rel=>exact ⟨4,by omega,by go_num,HN.out,(B2.trans ((BB _).mono B2.size)),(P3.later (BB _)),(X3.alloc _),(Y3.alloc _)⟩
      case measure=>simp [intOf]
     ·have HT2:Hid (tryP cs c (n::r) 3=some ⟨q0,q1,q2,q3,q4,q5,q6⟩):=HT.out rfl
      clear HT HF
      refine (HJ.out w1 B1).mono ?_
      rintro e w2 ⟨rfl,hw2⟩
      have B2:=B1.trans (hw2.mono B1.size)
      have P3:=P2.later hw2
      have X3:=X2.later hw2
      have Y3:=Y2.later hw2
      clear hw2 P2 X2 Y2 C1 c1 x2
      have y3:=fun o=>(Y3.alloc o).cell
      have yf3:=fun o=>(Y3.alloc o).frozen
      have BB:∀o,Below w2.heap.size w2 (w2.alloc o):=fun o=>below_alQ (Below.refl _ _) (Nat.le_refl _) o
      go_wp2_with fail
      refine bodyPost_ret (v:=.agg #[.int .i64 q0,.int .i64 q1,.int .i64 q2,.int .i64 q3,.int .i64 q4,.int .i64 q5,.int .i64 q6]) ?_ rfl ⟨?_,?_⟩
      ·simp [results,Tryz.results29,go_sem,y3]
      ·rw [HHIT.out 3 _ (by omega) HK.out HT2.out];rfl
      ·iterate 7 (refine Below.setCell ?_ (by show w.heap.size≤w.heap.size+1;omega) _)
       exact B2.trans ((BB _).mono B2.size)
   ·obtain⟨gp,p1,p2,p3,p4,p5⟩:=P1.p4
    clear hk hk5
    cases hs:stands 4 15 (n::r)
    ·
     have HN:Hid (∀j,j<5→tryP cs c (n::r) j=none):=by
      intro j hj
      rcases (show j<4∨j=4 by omega) with h | rfl
      ·exact HK.out j h
      ·exact try_short hs (by simp)
     have BA:=below_alQ (Below.refl wr.heap.size wr) (Nat.le_refl _) (.cells #[.func (.func 74) #[] #[],.slice (some ⟨gp,0,none⟩) 2 2] 135)
     go_wp2_with fail
     refine (HST.out (.func 74) gp 4 15 _ (Below.trans hb (BA.mono hb.size)) (Nat.lt_of_lt_of_le p3 BA.size) ((BA.cell (p:=⟨gp,0,none⟩) p3).trans p4) ((BA.cell (p:=⟨gp,1,none⟩) p3).trans p5)).mono ?_
     rintro e w1 ⟨rfl,hw1⟩
     have BW:=BA.trans (hw1.mono BA.size)
     have B1:=hb.trans (BW.mono hb.size)
     have C1:=(Blk.new wr #[.func (.func 74) #[] #[],.slice (some ⟨gp,0,none⟩) 2 2] 135).later hw1
     have P2:=P1.later BW
     have X2:=X1.later BW
     have Y2:=Y1.later BW
     clear hw1 BW BA P1 X1 Y1 x1 xa hb
     have c1:=C1.cell
     have x2:=X2.cell
     rw [hs]
     go_wp2_with fail
     go_roundw
     case rel=>exact ⟨5,by omega,by go_num,HN.out,B1,P2,X2,Y2⟩
     case measure=>simp [intOf]
    ·obtain⟨q,ok,hj,ht,hf⟩:=joinField_ok (ic:=ic) (cc:=cc) (c:=c) (co:=co) HQ.out HIN.out HCS.out hs
     rw [hz] at hj
     obtain⟨q0,q1,q2,q3,q4,q5,q6⟩:=q
     have HJ:Hid (∀W,Below w.heap.size w W→Calls Tryz.prog 74 #[.agg #[.slice io z ic,.slice co cs.length cc,.int .i64 c]] W fun e w'=>e=.returned (.tuple #[.agg #[.int .i64 q0,.int .i64 q1,.int .i64 q2,.int .i64 q3,.int .i64 q4,.int .i64 q5,.int .i64 q6],.bool ok])∧Below W.heap.size W w'):=hj
     have HT:Hid (ok=true→tryP cs c (n::r) 4=some ⟨q0,q1,q2,q3,q4,q5,q6⟩):=ht
     have HF:Hid (ok=false→tryP cs c (n::r) 4=none):=hf
     clear hj ht hf
     have BA:=below_alQ (Below.refl wr.heap.size wr) (Nat.le_refl _) (.cells #[.func (.func 74) #[] #[],.slice (some ⟨gp,0,none⟩) 2 2] 135)
     go_wp2_with fail
     refine (HST.out (.func 74) gp 4 15 _ (Below.trans hb (BA.mono hb.size)) (Nat.lt_of_lt_of_le p3 BA.size) ((BA.cell (p:=⟨gp,0,none⟩) p3).trans p4) ((BA.cell (p:=⟨gp,1,none⟩) p3).trans p5)).mono ?_
     rintro e w1 ⟨rfl,hw1⟩
     have BW:=BA.trans (hw1.mono BA.size)
     have B1:=hb.trans (BW.mono hb.size)
     have C1:=(Blk.new wr #[.func (.func 74) #[] #[],.slice (some ⟨gp,0,none⟩) 2 2] 135).later hw1
     have P2:=P1.later BW
     have X2:=X1.later BW
     have Y2:=Y1.later BW
     clear hw1 BW BA P1 X1 Y1 x1 xa hb
     have c1:=C1.cell
     have x2:=X2.cell
     rw [hs]
     go_wp2_with fail
     cases ok
     ·
      have HN:Hid (∀j,j<5→tryP cs c (n::r) j=none):=by
       intro j hj
       rcases (show j<4∨j=4 by omega) with h | rfl
       ·exact HK.out j h
       ·exact HF.out rfl
      refine (HJ.out w1 B1).mono ?_
      rintro e w2 ⟨rfl,hw2⟩
      have B2:=B1.trans (hw2.mono B1.size)
      have P3:=P2.later hw2
      have X3:=X2.later hw2
      have Y3:=Y2.later hw2
      clear hw2 P2 X2 Y2 C1 c1 x2
      have y3:=fun o=>(Y3.alloc o).cell
      have yf3:=fun o=>(Y3.alloc o).frozen
      have BB:∀o,Below w2.heap.size w2 (w2.alloc o):=fun o=>below_alQ (Below.refl _ _) (Nat.le_refl _) o
      go_wp2_with fail
      go_roundw
      case rel=>exact ⟨5,by omega,by go_num,HN.out,(B2.trans ((BB _).mono B2.size)),(P3.later (BB _)),(X3.alloc _),(Y3.alloc _)⟩
      case measure=>simp [intOf]
     ·have HT2:Hid (tryP cs c (n::r) 4=some ⟨q0,q1,q2,q3,q4,q5,q6⟩):=HT.out rfl
      clear HT HF
      refine (HJ.out w1 B1).mono ?_
      rintro e w2 ⟨rfl,hw2⟩
      have B2:=B1.trans (hw2.mono B1.size)
      have P3:=P2.later hw2
      have X3:=X2.later hw2
      have Y3:=Y2.later hw2
      clear hw2 P2 X2 Y2 C1 c1 x2
      have y3:=fun o=>(Y3.alloc o).cell
      have yf3:=fun o=>(Y3.alloc o).frozen
      have BB:∀o,Below w2.heap.size w2 (w2.alloc o):=fun o=>below_alQ (Below.refl _ _) (Nat.le_refl _) o
      go_wp2_with fail
      refine bodyPost_ret (v:=.agg #[.int .i64 q0,.int .i64 q1,.int .i64 q2,.int .i64 q3,.int .i64 q4,.int .i64 q5,.int .i64 q6]) ?_ rfl ⟨?_,?_⟩
      ·simp [results,Tryz.results29,go_sem,y3]
      ·rw [HHIT.out 4 _ (by omega) HK.out HT2.out];rfl
      ·iterate 7 (refine Below.setCell ?_ (by show w.heap.size≤w.heap.size+1;omega) _)
       exact B2.trans ((BB _).mono B2.size)
  ·obtain rfl:k=5:=by omega
   obtain⟨b,off,e,_,hbl,q0,q1,q2,q3,q4⟩:=HIN.out.later (Keeps.of_below hb) 0 n rfl
   subst e
   simp only [Nat.zero_mul,Nat.add_zero] at q0 q1 q2 q3 q4
   have HR:Hid (R=plainQ n):=HMISS.out HK.out
   obtain⟨n0,n1,n2,n3,n4⟩:=n
   dsimp only at *
   have y1:=fun o=>(Y1.alloc o).cell
   have yf1:=fun o=>(Y1.alloc o).frozen
   clear HST HHIT HMISS HIN HCS HQ HK hz
   go_wp2_with fail
   refine bodyPost_ret (v:=.agg #[.int .i64 n0,.int .i64 n1,.int .i64 n2,.int .i64 n3,.int .i64 n4,.int .i64 0,.int .i64 0]) ?_ rfl ⟨?_,?_⟩
   ·simp [results,Tryz.results29,go_sem,y1]
   ·rw [HR.out];rfl
   ·iterate 7 (refine Below.setCell ?_ (by show w.heap.size≤w.heap.size+1;omega) _)
    exact hb.alloc hb.size _
structure OutAt (w2:World) (ps:List Pd) (wr:World) (gs:Nat→Nat) (k:Nat):Prop where
 b2:Below w2.heap.size w2 wr
 hq:Blk wr (w2.heap.size+1) #[.slice (some ⟨w2.heap.size,0,none⟩) ps.length ps.length,.int .i64 (cAll ps k:Int)] 38
 own:Own wr w2.heap.size 65 ps.length
 hdr:∀j p,j<k→ps[j]?=some p→wr.cell? ⟨w2.heap.size,j,none⟩=some (.slice (some ⟨gs j,0,none⟩) p.ins.length p.ins.length)
 up:∀j,j<k→w2.heap.size+1<gs j∧gs j<wr.heap.size
 apart:∀i j,i<j→j<k→gs i<gs j
 row:∀j p,j<k→ps[j]?=some p→Own wr (gs j) 60 (p.ins.length*7)∧Laid wr (gs j) 7 Qd.vals (qIns p.consts p.ins (cAll ps j)) p.ins.length
theorem OutAt.start (w2:World) (ps:List Pd) (zs:Array Value):OutAt w2 ps ((w2.alloc (.cells (madeCells zs ps.length) 65)).alloc (.cells #[.slice (some ⟨w2.heap.size,0,none⟩) ps.length ps.length,.int .i64 0] 38)) (fun _=>0) 0:=by
 refine⟨((Below.refl _ _).alloc (Nat.le_refl _) _).alloc (by simp) _,?_,(Own.made _ _ _ _).later (below_alQ (Below.refl _ _) (Nat.le_refl _) _),fun _ _ h=>absurd h (Nat.not_lt_zero _),fun _ h=>absurd h (Nat.not_lt_zero _),fun _ _ _ h=>absurd h (Nat.not_lt_zero _),fun _ _ h=>absurd h (Nat.not_lt_zero _)⟩
 exact Blk.newIn _ _ (by simp)
structure InAt (w2 wr:World) (ps:List Pd) (fc:Array Value) (k:Nat) (p:Pd) (wi:World) (c i:Nat):Prop where
 only:Only (w2.heap.size+1) wr wi
 hq:Blk wi (w2.heap.size+1) #[.slice (some ⟨w2.heap.size,0,none⟩) ps.length ps.length,.int .i64 (c:Int)] 38
 pr:Blk wi wr.heap.size fc 57
 own:Own wi (wr.heap.size+1) 60 (p.ins.length*7)
 laid:Laid wi (wr.heap.size+1) 7 Qd.vals (qIns p.consts p.ins (cAll ps k)) i
section
variable {w2 wr wi w' : World} {ps : List Pd} {fc : Array Value} {k c i : Nat} {p : Pd} {gs : Nat → Nat}
theorem InAt.start (h:OutAt w2 ps wr gs k) (fc:Array Value) (zs:Array Value):InAt w2 wr ps fc k p ((wr.alloc (.cells fc 57)).alloc (.cells (madeCells zs (p.ins.length*7)) 60)) (cAll ps k) 0:=by
 have hb:Below wr.heap.size wr ((wr.alloc (.cells fc 57)).alloc (.cells (madeCells zs (p.ins.length*7)) 60)):=((Below.refl _ _).alloc (Nat.le_refl _) _).alloc (by simp) _
 refine⟨(Only.refl _ _).below hb,h.hq.later hb,(Blk.new _ _ _).alloc _,?_,Laid.zero _ _ _ _ _⟩
 have:=Own.made (wr.alloc (.cells fc 57)) zs (p.ins.length*7) 60
 rwa [nblk_alloc] at this
theorem InAt.b2 (h:OutAt w2 ps wr gs k) (x:InAt w2 wr ps fc k p wi c i):Below w2.heap.size w2 wi:=
 ⟨x.only.os.trans h.b2.os,x.only.tape.trans h.b2.tape,x.only.output.trans h.b2.output,Nat.le_trans h.b2.size x.only.size,fun b hb=>(x.only.block b (by omega) (Nat.lt_of_lt_of_le hb h.b2.size)).trans (h.b2.block b hb)⟩
theorem InAt.later (x:InAt w2 wr ps fc k p wi c i) (hb:Below wi.heap.size wi w'):InAt w2 wr ps fc k p w' c i:=
 ⟨x.only.below hb,x.hq.later hb,x.pr.later hb,x.own.later hb,x.laid.later hb x.own.lt⟩
theorem InAt.lt (h:OutAt w2 ps wr gs k):w2.heap.size+1<wr.heap.size:=h.hq.lt
theorem Only.setsNew {g b:Nat} : ∀(vs:List Value) (o:Nat) {w w':World},Only g w w'→w.heap.size≤b→Only g w (w'.setCells b o vs)
 | [],_,_,_,h,_=>h
 | v::r,o,_,_,h,hb=>Only.setsNew r (o+1) (h.other hb o v) hb
theorem Blk.setsOther {b g:Nat} {arr:Array Value} {t:TypeId} (hn:b≠g):∀(vs:List Value) (o:Nat) {w:World},Blk w b arr t→Blk (w.setCells g o vs) b arr t
 | [],_,_,h=>h
 | v::r,o,_,h=>Blk.setsOther hn r (o+1) (h.setOther (p:=⟨g,o,none⟩) hn v)
theorem InAt.put (h:OutAt w2 ps wr gs k) (x:InAt w2 wr ps fc k p wi c i) {q:Qd} (hq:(qIns p.consts p.ins (cAll ps k))[i]?=some q):InAt w2 wr ps fc k p (wi.setCells (wr.heap.size+1) (i*7) q.vals) c (i+1):=by
 have hlt:=InAt.lt h
 have hi:i<p.ins.length:=by have:=(List.getElem?_eq_some_iff.1 hq).1;rwa [qIns_len] at this
 exact⟨Only.setsNew _ _ x.only (by omega),Blk.setsOther (by omega) _ _ x.hq,Blk.setsOther (by omega) _ _ x.pr,x.own.sets _ _,x.laid.step x.own (by omega) (fun _=>rfl) hq⟩
theorem InAt.count (h:OutAt w2 ps wr gs k) (x:InAt w2 wr ps fc k p wi c i) (c':Nat):InAt w2 wr ps fc k p (wi.setCell ⟨w2.heap.size+1,1,none⟩ (.int .i64 (c':Int))) c' i:=by
 have hlt:=InAt.lt h
 refine⟨x.only.set 1 _,?_,x.pr.setOther (by show wr.heap.size≠w2.heap.size+1;omega) _,?_,fun j y hj hy a v hv=>?_⟩
 ·simpa using x.hq.set 1 (.int .i64 (c':Int))
 ·exact x.own.of_block (Below.heap_setCell _ _ _ _ (by show wr.heap.size+1≠w2.heap.size+1;omega))
 ·exact (World.cell?_of_block (a:=⟨wr.heap.size+1,j*7+a,none⟩) (Below.heap_setCell _ _ _ _ (by show wr.heap.size+1≠w2.heap.size+1;omega))).trans (x.laid j y hj hy a v hv)
theorem OutAt.more (h:OutAt w2 ps wr gs k) (hp:ps[k]?=some p) (x:InAt w2 wr ps fc k p wi (cAll ps (k+1)) p.ins.length) :
  OutAt w2 ps (wi.setCell ⟨w2.heap.size,k,none⟩ (.slice (some ⟨wr.heap.size+1,0,none⟩) p.ins.length p.ins.length)) (fun j=>if j=k then wr.heap.size+1 else gs j) (k+1):=by
 have hlt:=InAt.lt h
 have hk:=(List.getElem?_eq_some_iff.1 hp).1
 have hsz:=x.own.lt
 have hG:Own wi w2.heap.size 65 ps.length:=h.own.of_block (x.only.block _ (by omega) h.own.lt)
 have hcell:∀b o,b<wr.heap.size→b≠w2.heap.size+1→wi.cell? ⟨b,o,none⟩=wr.cell? ⟨b,o,none⟩:=fun b o hb hn=>World.cell?_of_block (a:=⟨b,o,none⟩) (x.only.block b hn hb)
 have hset:∀b o,b≠w2.heap.size→(wi.setCell ⟨w2.heap.size,k,none⟩ (.slice (some ⟨wr.heap.size+1,0,none⟩) p.ins.length p.ins.length)).cell? ⟨b,o,none⟩=wi.cell? ⟨b,o,none⟩:=fun b o hn=>World.cell?_of_block (a:=⟨b,o,none⟩) (Below.heap_setCell _ _ _ _ hn)
 have hblk:∀b,b≠w2.heap.size→(wi.setCell ⟨w2.heap.size,k,none⟩ (.slice (some ⟨wr.heap.size+1,0,none⟩) p.ins.length p.ins.length)).heap[b]?=wi.heap[b]?:=fun b hn=>Below.heap_setCell _ _ _ _ hn
 refine⟨(InAt.b2 h x).setCell (by show w2.heap.size≤w2.heap.size;omega) _,x.hq.setOther (by show w2.heap.size+1≠w2.heap.size;omega) _,hG.set _ _,?_,?_,?_,?_⟩
 ·intro j q hj hq
  by_cases e:j=k
  ·subst e
   obtain rfl:=Option.some.inj (hp.symm.trans hq)
   rw [if_pos rfl]
   obtain⟨v,hv⟩:=hG.cell (i:=j) hk
   exact World.cell?_setCell_same _ _ _ hv
  ·rw [if_neg e]
   have:=h.hdr j q (by omega) hq
   rw [cell_set_nv _ (by omega),hcell _ _ h.own.lt (by omega)]
   exact this
 ·intro j hj
  by_cases e:j=k
  ·subst e
   rw [if_pos rfl]
   exact⟨by omega,by simpa using hsz⟩
  ·rw [if_neg e]
   have:=h.up j (by omega)
   exact⟨this.1,by simp;omega⟩
 ·intro a b hab hb
  by_cases e:b=k
  ·subst e
   rw [if_pos rfl,if_neg (by omega)]
   have:=(h.up a (by omega)).2
   omega
  ·rw [if_neg e,if_neg (by omega)]
   exact h.apart a b hab (by omega)
 ·intro j q hj hq
  by_cases e:j=k
  ·subst e
   obtain rfl:=Option.some.inj (hp.symm.trans hq)
   rw [if_pos rfl]
   refine⟨x.own.of_block (hblk _ (by omega)),fun i y hi hy a v hv=>?_⟩
   rw [hset _ _ (by omega)]
   exact x.laid i y hi hy a v hv
  ·rw [if_neg e]
   obtain⟨h1,h2⟩:=h.row j q (by omega) hq
   obtain⟨h3,h4⟩:=h.up j (by omega)
   refine⟨h1.of_block ((hblk _ (by omega)).trans (x.only.block _ (by omega) h4)),fun i y hi hy a v hv=>?_⟩
   rw [hset _ _ (by omega),hcell _ _ h4 (by omega)]
   exact h2 i y hi hy a v hv
theorem OutAt.done (h:OutAt w2 ps wr gs ps.length):QOwn wr w2.heap.size gs (qAll ps):=by
 have hget:∀{j:Nat} {qs:List Qd},(qAll ps)[j]?=some qs→∃p,j<ps.length∧ps[j]?=some p∧qs=qIns p.consts p.ins (cAll ps j):=by
  intro j qs hj
  have hl:j<ps.length:=by have:=(List.getElem?_eq_some_iff.1 hj).1;rwa [qAll_len] at this
  obtain⟨p,hp⟩:=some_of_lt hl
  exact⟨p,hl,hp,Option.some.inj (hj.symm.trans (qAll_at hp))⟩
 refine⟨by rw [qAll_len];exact h.own,fun j qs hj=>?_,fun j hj=>?_,fun i j hij hj=>?_,fun j qs hj=>?_⟩
 ·obtain⟨p,hl,hp,rfl⟩:=hget hj
  rw [qIns_len]
  exact h.hdr j p hl hp
 ·rw [qAll_len] at hj
  have:=(h.up j hj).1
  omega
 ·rw [qAll_len] at hj
  exact h.apart i j hij hj
 ·obtain⟨p,hl,hp,rfl⟩:=hget hj
  rw [qIns_len]
  exact h.row j p hl hp
end
end Go.Proofs.YtaakadmnhpboiaaGreatDoor
