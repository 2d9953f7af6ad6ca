import Derived.Test.YtgopdffmnikhdaaGreatDoorT45
import Derived.Test.YtgopdffmnikhdaaGreatDoorT03
import Derived.Test.YtgopdffmnikhdaaGreatDoorT41
import Derived.Test.YtgopdffmnikhdaaGreatDoorT43
namespace Go.Proofs.YtgopdffmnikhdaaGreatDoor
open Go.RowKit Go.Deep
theorem CellAre.set7 {W:World} {b o g:Nat} {u:Value} (h:W.cell? ⟨b,o,none⟩=some u) (hn:b≠g) (v0 v1 v2 v3 v4 v5 v6:Value):(((((((W.setCell ⟨g,0,none⟩ v0).setCell ⟨g,1,none⟩ v1).setCell ⟨g,2,none⟩ v2).setCell ⟨g,3,none⟩ v3).setCell ⟨g,4,none⟩ v4).setCell ⟨g,5,none⟩ v5).setCell ⟨g,6,none⟩ v6).cell? ⟨b,o,none⟩=some u:=by
 have k:∀(W:World) i v,(W.setCell ⟨g,i,none⟩ v).cell? ⟨b,o,none⟩=W.cell? ⟨b,o,none⟩:=fun W i v=>World.cell?_of_block (a:=⟨b,o,none⟩) (Below.heap_setCell _ _ _ _ hn)
 rw [k,k,k,k,k,k,k];exact h
set_option maxRecDepth 100000 in
set_option maxHeartbeats 4000000 in
theorem joinField_any (io co:Option Addr) (ic cc:Nat) (c:Int) (l:List Nd) (cs:List Vd) (n x:Nd) (mi:Nat) (v:Vd) (w:World) (hl:l.length≤1048576) (hin:InssAt 0 w io l) (hcs:ValsAt 0 w co cs) (h0:l[0]?=some n) (h1:l[1]?=some x) (hm:n.b=mi) (hv:cs[mi]?=some v) (hxc:I64 x.c) (hxb:I64 x.b) :
  Calls Tryz.prog 196 #[.agg #[.slice io l.length ic,.slice co cs.length cc,.int .i64 c]] w fun e w'=>e=.returned (.tuple #[Qd.val ⟨45,x.a,x.b,n.b,c,0,n.a⟩,.bool ((v.kind == 4) && (decide (x.c<0) && (regOf x.c == n.a)) && !(regOf x.b == n.a))])∧Below w.heap.size w w':=by
 obtain⟨cb,cof,rfl,_,hcb,w0,_⟩:=hcs mi v hv
 have hmi:(mi:Int)<cs.length:=by have:=(List.getElem?_eq_some_iff.1 hv).1;omega
 obtain⟨kd,num,flt,str,rf⟩:=v
 obtain⟨b,off,rfl,_,hbl,q0,q1,q2,q3,q4⟩:=hin 0 n h0
 obtain⟨b',off',e',_,hbl',r0,r1,r2,r3,r4⟩:=hin 1 x h1
 simp only [Option.some.injEq,Addr.mk.injEq,and_true] at e'
 obtain⟨rfl,rfl⟩:=e'
 simp only [Nat.zero_mul,Nat.add_zero,Nat.one_mul] at q0 q1 q2 q3 q4 r0 r1 r2 r3 r4
 have hlt:1<l.length:=(List.getElem?_eq_some_iff.1 h1).1
 have k0:(0:Int)<l.length:=by omega
 have k1:(1:Int)<l.length:=by omega
 generalize l.length=z at *
 obtain⟨n0,n1,n2,n3,n4⟩:=n
 obtain⟨x0,x1,x2,x3,x4⟩:=x
 dsimp only at *
 subst hm
 replace q0:=cell_al2 hbl q0
 replace q1:=cell_al2 hbl q1
 replace q2:=cell_al2 hbl q2
 replace q3:=cell_al2 hbl q3
 replace q4:=cell_al2 hbl q4
 replace r0:=cell_al2 hbl r0
 replace r1:=cell_al2 hbl r1
 replace r2:=cell_al2 hbl r2
 replace r3:=cell_al2 hbl r3
 replace r4:=cell_al2 hbl r4
 have k2:0<z:=by omega
 clear hin h0 h1
 clear hcs hv
 obtain⟨TK,hTK⟩:∃TK:Bool,(decide (x3<0) && (regOf x3 == n1))=TK:=⟨_,rfl⟩
 obtain⟨NM,hNM⟩:∃NM:Bool,(regOf x2 == n1)=NM:=⟨_,rfl⟩
 have HTK:Hid (∀W,Calls Tryz.prog 256 #[.int .i64 x3,.int .i64 n1] W fun e w'=>e=.returned (.bool TK)∧Below W.heap.size W w'):=fun W=>by have:=takes_any x3 n1 hxc.1 hxc.2 W;rw [hTK] at this;exact this
 have HNM:Hid (∀W,Calls Tryz.prog 257 #[.int .i64 x2,.int .i64 n1] W fun e w'=>e=.returned (.bool NM)∧Below W.heap.size W w'):=fun W=>by have:=names_any x2 n1 hxb.1 hxb.2 W;rw [hNM] at this;exact this
 rw [hTK,hNM]
 clear hTK hNM
 go_enter Tryz.func196,Tryz.ntmps196
 go_wp2_with fail
 go_cut [4,5] from 6 (fun v4 v5 wx=>∃b4 b5:Nat,v4=.pointer (some ⟨b4,0,none⟩)∧v5=.pointer (some ⟨b5,0,none⟩)∧Hid (TwoAt w wx b4 b5 #[.slice (some ⟨b,off,none⟩) z ic,.slice (some ⟨cb,cof,none⟩) cs.length cc,.int .i64 c] #[.int .i64 n0,.int .i64 n1,.int .i64 mi,.int .i64 n3,.int .i64 n4] #[.int .i64 x0,.int .i64 x1,.int .i64 x2,.int .i64 x3,.int .i64 x4]))
 case first=>
  go_region_held3 (fun w'=>w'.cell? ⟨w.heap.size,0,none⟩=some (.slice (some ⟨b,off,none⟩) z ic)∧w'.cell? ⟨b,off,none⟩=some (.int .i64 n0)∧w'.cell? ⟨b,off+1,none⟩=some (.int .i64 n1)∧w'.cell? ⟨b,off+2,none⟩=some (.int .i64 mi)∧w'.cell? ⟨b,off+3,none⟩=some (.int .i64 n3)∧w'.cell? ⟨b,off+4,none⟩=some (.int .i64 n4)∧w'.cell? ⟨b,off+5,none⟩=some (.int .i64 x0)∧w'.cell? ⟨b,off+5+1,none⟩=some (.int .i64 x1)∧w'.cell? ⟨b,off+5+2,none⟩=some (.int .i64 x2)∧w'.cell? ⟨b,off+5+3,none⟩=some (.int .i64 x3)∧w'.cell? ⟨b,off+5+4,none⟩=some (.int .i64 x4)) (go_keep) (fail)
  all_goals (go_wp2_with fail)
  all_goals go_meet
  case rel=>exact ⟨_,_,rfl,rfl,(TwoAt.one _ _ _ _).drew⟩
  case rel=>exact ⟨_,_,rfl,rfl,(TwoAt.other _ _ _ _).drew⟩
 case rest=>
  obtain⟨b4,b5,rfl,rfl,HT⟩:=hcut
  have T1:=HT.out
  have n_:=T1.n.cell
  have x_:=T1.x.cell
  have s_:=T1.s.cell
  have hn4:b4≠w.heap.size+1:=by have:=T1.lo4;omega
  have hn5:b5≠w.heap.size+1:=by have:=T1.lo5;omega
  have hns:w.heap.size≠w.heap.size+1:=by omega
  have hnc:cb≠w.heap.size+1:=by omega
  have hn6:wc.heap.size≠w.heap.size+1:=by have:=T1.r.lt;omega
  clear q0 q1 q2 q3 q4 r0 r1 r2 r3 r4
  have Bq:Below wc.heap.size wc (wc.alloc (.cells #[.int .i64 45,.int .i64 x1,.int .i64 x2,.int .i64 mi,.int .i64 c,.int .i64 0,.int .i64 n1] 149)).drew:=((Below.refl _ _).alloc (Nat.le_refl _) _).drew
  have HB:Hid (Below w.heap.size w (wc.alloc (.cells #[.int .i64 45,.int .i64 x1,.int .i64 x2,.int .i64 mi,.int .i64 c,.int .i64 0,.int .i64 n1] 149)).drew):=T1.below.trans (Bq.mono T1.below.size)
  have HQ0:Hid (Blk (wc.alloc (.cells #[.int .i64 45,.int .i64 x1,.int .i64 x2,.int .i64 mi,.int .i64 c,.int .i64 0,.int .i64 n1] 149)).drew wc.heap.size #[.int .i64 45,.int .i64 x1,.int .i64 x2,.int .i64 mi,.int .i64 c,.int .i64 0,.int .i64 n1] 149):=Blk.new wc #[.int .i64 45,.int .i64 x1,.int .i64 x2,.int .i64 mi,.int .i64 c,.int .i64 0,.int .i64 n1] 149
  have HN0:Hid (Blk (wc.alloc (.cells #[.int .i64 45,.int .i64 x1,.int .i64 x2,.int .i64 mi,.int .i64 c,.int .i64 0,.int .i64 n1] 149)).drew b4 #[.int .i64 n0,.int .i64 n1,.int .i64 mi,.int .i64 n3,.int .i64 n4] 48):=T1.n.later Bq
  have HX0:Hid (Blk (wc.alloc (.cells #[.int .i64 45,.int .i64 x1,.int .i64 x2,.int .i64 mi,.int .i64 c,.int .i64 0,.int .i64 n1] 149)).drew b5 #[.int .i64 x0,.int .i64 x1,.int .i64 x2,.int .i64 x3,.int .i64 x4] 48):=T1.x.later Bq
  have HS0:Hid (Blk (wc.alloc (.cells #[.int .i64 45,.int .i64 x1,.int .i64 x2,.int .i64 mi,.int .i64 c,.int .i64 0,.int .i64 n1] 149)).drew w.heap.size #[.slice (some ⟨b,off,none⟩) z ic,.slice (some ⟨cb,cof,none⟩) cs.length cc,.int .i64 c] 152):=T1.s.later Bq
  have HR0:Hid (Blk (wc.alloc (.cells #[.int .i64 45,.int .i64 x1,.int .i64 x2,.int .i64 mi,.int .i64 c,.int .i64 0,.int .i64 n1] 149)).drew (w.heap.size+1) #[.int .i64 0,.int .i64 0,.int .i64 0,.int .i64 0,.int .i64 0,.int .i64 0,.int .i64 0] 149):=T1.r.later Bq
  have HC0:Hid (((wc.alloc (.cells #[.int .i64 45,.int .i64 x1,.int .i64 x2,.int .i64 mi,.int .i64 c,.int .i64 0,.int .i64 n1] 149)).drew).cell? ⟨cb,cof+mi*5,none⟩=some (.int .i64 kd)):=(HB.out.cell (p:=⟨cb,cof+mi*5,none⟩) hcb).trans w0
  have hcb0:cb<((wc.alloc (.cells #[.int .i64 45,.int .i64 x1,.int .i64 x2,.int .i64 mi,.int .i64 c,.int .i64 0,.int .i64 n1] 149)).drew).heap.size:=Nat.lt_of_lt_of_le hcb HB.out.size
  clear Bq
  go_wp2_with fail
  have e0:=HQ0.out.cell
  have e1:=HN0.out.cell
  have e2:=HX0.out.cell
  have e3:=HS0.out.cell
  have e4:=HC0.out
  by_cases h4:kd=4
  ·have g4:(kd == 4)=true:=by simpa using h4
   cases TK
   ·refine rgN (fun W=>(∀o,W.cell? ⟨wc.heap.size,o,none⟩=(#[.int .i64 45,.int .i64 x1,.int .i64 x2,.int .i64 mi,.int .i64 c,.int .i64 0,.int .i64 n1]:Array Value)[o]?)∧(∀o,W.cell? ⟨b4,o,none⟩=(#[.int .i64 n0,.int .i64 n1,.int .i64 mi,.int .i64 n3,.int .i64 n4]:Array Value)[o]?)∧(∀o,W.cell? ⟨b5,o,none⟩=(#[.int .i64 x0,.int .i64 x1,.int .i64 x2,.int .i64 x3,.int .i64 x4]:Array Value)[o]?)∧(∀o,W.cell? ⟨w.heap.size,o,none⟩=(#[.slice (some ⟨b,off,none⟩) z ic,.slice (some ⟨cb,cof,none⟩) cs.length cc,.int .i64 c]:Array Value)[o]?)∧W.cell? ⟨cb,cof+mi*5,none⟩=some (.int .i64 kd)) ⟨e0,e1,e2,e3,e4⟩ (fun hS=>?_)
    iterate 14 (refine tkF (by kernel_rfl) (by rfl) hS ⟨?_,fun W hW=>?_,?_⟩;rotate_left;(focus ((try dsimp only at hW);go_simp;try with_reducible rfl));try simp only [Act.put,List.setIfInBounds_toArray,List.set_cons_zero,List.set_cons_succ])
    refine doN (by kernel_rfl) (by rfl) (fun K hK=>?_)
    go_simp
    refine (HTK.out _).mono ?_
    rintro e w1 ⟨rfl,hw1⟩
    have HQ1:=HQ0.out.later hw1
    have HN1:=HN0.out.later hw1
    have HX1:=HX0.out.later hw1
    have HS1:=HS0.out.later hw1
    have HR1:=HR0.out.later hw1
    have HC1:=(hw1.cell (p:=⟨cb,cof+mi*5,none⟩) hcb0).trans HC0.out
    have hcb1:=Nat.lt_of_lt_of_le hcb0 hw1.size
    have d0:=HQ1.cell
    have d1:=HN1.cell
    have d2:=HX1.cell
    have d3:=HS1.cell
    have d4:=HC1
    have r0:=HR1.cell
    have rf0:=HR1.frozen
    go_wp2_with fail
    refine hK.out _ _ ⟨d0,d1,d2,d3,d4⟩ (fun hS=>?_)
    clear hK K
    try simp only [Act.put,List.setIfInBounds_toArray,List.set_cons_zero,List.set_cons_succ]
    iterate 2 (refine tkF (by kernel_rfl) (by rfl) hS ⟨?_,fun W hW=>?_,?_⟩;rotate_left;(focus ((try dsimp only at hW);go_simp;try with_reducible rfl));try simp only [Act.put,List.setIfInBounds_toArray,List.set_cons_zero,List.set_cons_succ])
    iterate 6 (refine tkG (by kernel_rfl) (by rfl) hS ?_;try simp only [Act.put,List.setIfInBounds_toArray,List.set_cons_zero,List.set_cons_succ])
    iterate 1 (refine tkF (by kernel_rfl) (by rfl) hS ⟨?_,fun W hW=>?_,?_⟩;rotate_left;(focus ((try dsimp only at hW);go_simp;try with_reducible rfl));try simp only [Act.put,List.setIfInBounds_toArray,List.set_cons_zero,List.set_cons_succ])
    refine doN (by kernel_rfl) (by rfl) (fun K hK=>?_)
    go_wp2_with fail
    refine hK.out _ _ ⟨CellsAre.set7 d0 hn6 _ _ _ _ _ _ _,CellsAre.set7 d1 hn4 _ _ _ _ _ _ _,CellsAre.set7 d2 hn5 _ _ _ _ _ _ _,CellsAre.set7 d3 hns _ _ _ _ _ _ _,CellAre.set7 d4 hnc _ _ _ _ _ _ _⟩ (fun hS=>?_)
    clear hK K
    try simp only [Act.put,List.setIfInBounds_toArray,List.set_cons_zero,List.set_cons_succ]
    iterate 1 (refine tkF (by kernel_rfl) (by rfl) hS ⟨?_,fun W hW=>?_,?_⟩;rotate_left;(focus ((try dsimp only at hW);go_simp;try with_reducible rfl));try simp only [Act.put,List.setIfInBounds_toArray,List.set_cons_zero,List.set_cons_succ])
    refine enD (by kernel_rfl) ?_
    refine NoPanic.normal ?_
    all_goals (go_wp2_with fail)
    refine bodyPost_ret (v:=.tuple #[.agg #[.int .i64 45,.int .i64 x1,.int .i64 x2,.int .i64 mi,.int .i64 c,.int .i64 0,.int .i64 n1],.bool false]) ?_ rfl ⟨?_,?_⟩
    ·simp [results,Tryz.results196,go_sem,r0]
    ·simp [Qd.val]
    ·iterate 7 (refine Below.setCell ?_ (by simp;try omega) _)
     exact HB.out.trans (hw1.mono HB.out.size)
   ·go_region_held3 (fun W=>(∀o,W.cell? ⟨wc.heap.size,o,none⟩=(#[.int .i64 45,.int .i64 x1,.int .i64 x2,.int .i64 mi,.int .i64 c,.int .i64 0,.int .i64 n1]:Array Value)[o]?)∧(∀o,W.cell? ⟨b4,o,none⟩=(#[.int .i64 n0,.int .i64 n1,.int .i64 mi,.int .i64 n3,.int .i64 n4]:Array Value)[o]?)∧(∀o,W.cell? ⟨b5,o,none⟩=(#[.int .i64 x0,.int .i64 x1,.int .i64 x2,.int .i64 x3,.int .i64 x4]:Array Value)[o]?)∧(∀o,W.cell? ⟨w.heap.size,o,none⟩=(#[.slice (some ⟨b,off,none⟩) z ic,.slice (some ⟨cb,cof,none⟩) cs.length cc,.int .i64 c]:Array Value)[o]?)∧W.cell? ⟨cb,cof+mi*5,none⟩=some (.int .i64 kd)) (first | with_reducible exact ⟨e0,e1,e2,e3,e4⟩ | with_reducible exact ⟨d0,d1,d2,d3,d4⟩ | with_reducible exact ⟨f0,f1,f2,f3,f4⟩ | with_reducible exact ⟨CellsAre.set7 f0 hn6 _ _ _ _ _ _ _,CellsAre.set7 f1 hn4 _ _ _ _ _ _ _,CellsAre.set7 f2 hn5 _ _ _ _ _ _ _,CellsAre.set7 f3 hns _ _ _ _ _ _ _,CellAre.set7 f4 hnc _ _ _ _ _ _ _⟩)
     (first | (go_at_call 256;refine (HTK.out _).mono ?_;rintro e w1 ⟨rfl,hw1⟩;have HQ1:=HQ0.out.later hw1;have HN1:=HN0.out.later hw1;have HX1:=HX0.out.later hw1;have HS1:=HS0.out.later hw1;have HR1:=HR0.out.later hw1;have HC1:=(hw1.cell (p:=⟨cb,cof+mi*5,none⟩) hcb0).trans HC0.out;have hcb1:=Nat.lt_of_lt_of_le hcb0 hw1.size;have d0:=HQ1.cell;have d1:=HN1.cell;have d2:=HX1.cell;have d3:=HS1.cell;have d4:=HC1) | (go_at_call 257;refine (HNM.out _).mono ?_;rintro e w2 ⟨rfl,hw2⟩;have HQ2:=HQ1.later hw2;have HN2:=HN1.later hw2;have HX2:=HX1.later hw2;have HS2:=HS1.later hw2;have HR2:=HR1.later hw2;have HC2:=(hw2.cell (p:=⟨cb,cof+mi*5,none⟩) hcb1).trans HC1;have hcb2:=Nat.lt_of_lt_of_le hcb1 hw2.size;have f0:=HQ2.cell;have f1:=HN2.cell;have f2:=HX2.cell;have f3:=HS2.cell;have f4:=HC2;have r0:=HR2.cell;have rf0:=HR2.frozen))
    go_wp2_with fail
    refine bodyPost_ret (v:=.tuple #[.agg #[.int .i64 45,.int .i64 x1,.int .i64 x2,.int .i64 mi,.int .i64 c,.int .i64 0,.int .i64 n1],.bool (!NM)]) ?_ rfl ⟨?_,?_⟩
    ·simp [results,Tryz.results196,go_sem,r0]
    ·simp [Qd.val,h4]
    ·iterate 7 (refine Below.setCell ?_ (by simp;try omega) _)
     exact (HB.out.trans (hw1.mono HB.out.size)).trans (hw2.mono (Nat.le_trans HB.out.size hw1.size))
  ·have g4:(kd == 4)=false:=by simpa using h4
   have na:=fun o=>(T1.n.alloc o).cell
   have xa:=fun o=>(T1.x.alloc o).cell
   have sa:=fun o=>(T1.s.alloc o).cell
   have ca:∀o,(wc.alloc o).cell? ⟨cb,cof+mi*5,none⟩=some (.int .i64 kd):=fun o=>(((T1.below.alloc T1.below.size o).cell (p:=⟨cb,cof+mi*5,none⟩) hcb)).trans w0
   have ra:=fun o=>(T1.r.alloc o).cell
   have raf:=fun o=>(T1.r.alloc o).frozen
   go_region
   all_goals (go_wp2_with fail)
   refine bodyPost_ret (v:=.tuple #[.agg #[.int .i64 45,.int .i64 x1,.int .i64 x2,.int .i64 mi,.int .i64 c,.int .i64 0,.int .i64 n1],.bool false]) ?_ rfl ⟨?_,?_⟩
   ·simp [results,Tryz.results196,go_sem,ra]
   ·simp [Qd.val,h4]
   ·refine Below.drew ?_
    iterate 7 (refine Below.setCell ?_ (by simp;try omega) _)
    exact T1.below.alloc T1.below.size _
structure QFit (p:Pd) (n:Nd):Prop where
 lo:1≤n.op
 hi:n.op≤42
 drop:n.op=42→(0≤n.a∧n.a≤250)∧n.b=0∧n.c=0∧n.d=0
 cst:n.op=4→(0≤n.a∧n.a≤250)∧0≤n.b∧n.b<p.consts.length
 bin:n.op=18→(0≤n.a∧n.a≤250)
theorem qfit {np:Nat} {p:Pd} {n:Nd} (hr:0≤p.regs∧p.regs≤250) (h:InsFit np p n):QFit p n:=by
 obtain⟨lo,hi,hf⟩:=h
 refine⟨lo,hi,fun e=>?_,fun e=>?_,fun e=>?_⟩
 ·rw [e] at hf
  simp [rolesOf,roleTab,Nd.fs,fitAll,fitsR,inR] at hf
  omega
 ·rw [e] at hf
  simp [rolesOf,roleTab,Nd.fs,fitAll,fitsR,inR] at hf
  omega
 ·rw [e] at hf
  simp [rolesOf,roleTab,Nd.fs,fitAll,fitsR,inR] at hf
  omega
theorem shape_q {ps:List Pd} (h:(checkF ps).1=0):∀p ∈ ps,∀n ∈ p.ins,QFit p n:=by
 have hs:(shapeF ps).1=0:=by
  unfold checkF at h
  split at h
  ·assumption
  ·exact h
 intro p hp n hn
 have hf:=(shape_fits hs p hp).fit
 obtain⟨i,hi⟩:=List.getElem?_of_mem hn
 exact qfit hf.regs (hf.fit i n hi)
end Go.Proofs.YtgopdffmnikhdaaGreatDoor
