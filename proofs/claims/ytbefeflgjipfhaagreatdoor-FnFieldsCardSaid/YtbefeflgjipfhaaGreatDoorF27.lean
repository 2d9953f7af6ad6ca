import Derived.Deep.Cut
import Derived.Test.YtbefeflgjipfhaaGreatDoorF26
set_option maxRecDepth 100000
set_option maxHeartbeats 4000000
namespace Go.Proofs.YtbefeflgjipfhaaGreatDoor
open Go.Deep Go.Proofs.Tryz Go.RowKit
variable{A:Array Value}{b g n:Nat}{W:World}
theorem Blk.newIn (arr:Array Value) (t:TypeId) (h:W.heap.size=n):Blk (W.alloc (.cells arr t)) n arr t:=h▸Blk.new W arr t
structure Gf (w wx:World) (b4 b5:Nat) (sp n x:Array Value):Prop where
 s:Blk wx w.heap.size sp 164
 r:Blk wx (w.heap.size+1) #[.int .i64 0,.int .i64 0,.int .i64 0,.int .i64 0,.int .i64 0,.int .i64 0,.int .i64 0] 161
 n:Blk wx b4 n 58
 x:Blk wx b5 x 58
 below:Below w.heap.size w wx
 apart:b4≠b5
 lo4:w.heap.size+1<b4
 lo5:w.heap.size+1<b5
theorem Gf.drew {w wx:World} {b4 b5:Nat} {sp n x:Array Value} (h:Gf w wx b4 b5 sp n x):Gf w wx.drew b4 b5 sp n x:=⟨h.s,h.r,h.n,h.x,h.below.drew,h.apart,h.lo4,h.lo5⟩
theorem Gf.one (w:World) (sp n x:Array Value):Gf w ((((w.alloc (.cells sp 164)).alloc (.cells #[.int .i64 0,.int .i64 0,.int .i64 0,.int .i64 0,.int .i64 0,.int .i64 0,.int .i64 0] 161)).alloc (.cells n 58)).alloc (.cells x 58)) (w.heap.size+1+1) (w.heap.size+1+1+1) sp n x:=by refine⟨(((Blk.new _ _ _).alloc _).alloc _).alloc _,((Blk.newIn _ _ (by simp)).alloc _).alloc _,(Blk.newIn _ _ (by simp)).alloc _,Blk.newIn _ _ (by simp),?_,by omega,by omega,by omega⟩;exact(((((yA _ _).alloc (yB _) _).alloc (by simp) _).alloc (by simp;omega) _).alloc (by simp;omega) _)
theorem Gf.other (w:World) (sp n x:Array Value):Gf w ((((w.alloc (.cells sp 164)).alloc (.cells #[.int .i64 0,.int .i64 0,.int .i64 0,.int .i64 0,.int .i64 0,.int .i64 0,.int .i64 0] 161)).alloc (.cells x 58)).alloc (.cells n 58)) (w.heap.size+1+1+1) (w.heap.size+1+1) sp n x:=by have:=Gf.one w sp x n;exact⟨this.s,this.r,this.x,this.n,this.below,this.apart.symm,this.lo5,this.lo4⟩
theorem CellsAre.set (h:∀o,W.cell? ⟨b,o,none⟩=A[o]?) (hn:b≠g) (i:Nat) (v:Value):∀o,(W.setCell ⟨g,i,none⟩ v).cell? ⟨b,o,none⟩=A[o]?:=fun o=>(yX (a:=⟨b,o,none⟩) (yL _ _ _ _ hn)).trans (h o)
theorem CellsAre.set7 (h:∀o,W.cell? ⟨b,o,none⟩=A[o]?) (hn:b≠g) (v0 v1 v2 v3 v4 v5 v6:Value):∀o,(((((((W.setCell ⟨g,0,none⟩ v0).setCell ⟨g,1,none⟩ v1).setCell ⟨g,2,none⟩ v2).setCell ⟨g,3,none⟩ v3).setCell ⟨g,4,none⟩ v4).setCell ⟨g,5,none⟩ v5).setCell ⟨g,6,none⟩ v6).cell? ⟨b,o,none⟩=A[o]?:=
 CellsAre.set (CellsAre.set (CellsAre.set (CellsAre.set (CellsAre.set (CellsAre.set (CellsAre.set h hn _ _) hn _ _) hn _ _) hn _ _) hn _ _) hn _ _) hn _ _
theorem Nh (io co:Option Addr) (ic m cc:Nat) (c:Int) (l:List Nd) (n x:Nd) (w:World) (hl:l.length<=1048576) (hin:E5 0 w io l) (h0:l[0]?=some n) (h1:l[1]?=some x) (hx:I64 x.a) :
  Kw 197 #[.agg #[.slice io l.length ic,.slice co m cc,.int .i64 c]] w (.tuple #[Qd.val ⟨43,n.a,n.b,n.c,n.d,x.b,if x.op=20 then 1 else 0⟩,.bool (decide (13<=n.b)&&(decide (x.a<0)&&(Be x.a==n.a)))]):=by
 obtain⟨FV,hFV⟩:∃FV:Int,(if x.op=20 then (1:Int) else 0)=FV:=⟨_,rfl⟩;rw[hFV];have HFV:Hid ((if x.op=20 then (1:Int) else 0)=FV):=hFV;clear hFV;obtain⟨b,off,rfl,_,hbl,q0,q1,q2,q3,q4⟩:=hin 0 n h0;obtain⟨b',off',e',_,hbl',r0,r1,r2,r3,r4⟩:=hin 1 x h1;simp only[Option.some.injEq,Addr.mk.injEq,and_true]at e';obtain⟨rfl,rfl⟩:=e';simp only[Nat.zero_mul,Nat.add_zero,Nat.one_mul]at q0 q1 q2 q3 q4 r0 r1 r2 r3 r4;have hlt:1<l.length:=(yD.1 h1).1;have k0:(0:Int)<l.length:=by omega
 have k1:(1:Int)<l.length:=by omega
 generalize l.length=z at *;obtain⟨n0,n1,n2,n3,n4⟩:=n;obtain⟨x0,x1,x2,x3,x4⟩:=x;dsimp only at *;replace q0:=Ao hbl q0;replace q1:=Ao hbl q1;replace q2:=Ao hbl q2;replace q3:=Ao hbl q3;replace q4:=Ao hbl q4;replace r0:=Ao hbl r0;replace r1:=Ao hbl r1;replace r2:=Ao hbl r2;replace r3:=Ao hbl r3;replace r4:=Ao hbl r4;have k2:0<z:=by omega
 clear hin h0 h1;(try unfold Kw);go_in;go_wp2_with fail;go_cut [4,5] from 6 (fun v4 v5 wx=>∃b4 b5:Nat,v4=.pointer (some ⟨b4,0,none⟩)/\v5=.pointer (some ⟨b5,0,none⟩)/\Hid (Gf w wx b4 b5 #[.slice (some ⟨b,off,none⟩) z ic,.slice co m cc,.int .i64 c] #[.int .i64 n0,.int .i64 n1,.int .i64 n2,.int .i64 n3,.int .i64 n4] #[.int .i64 x0,.int .i64 x1,.int .i64 x2,.int .i64 x3,.int .i64 x4]));case first=>
  go_region_held3 (fun w'=>w'.cell? ⟨w.heap.size,0,none⟩=some (.slice (some ⟨b,off,none⟩) z ic)/\w'.cell? ⟨b,off,none⟩=some (.int .i64 n0)/\w'.cell? ⟨b,off+1,none⟩=some (.int .i64 n1)/\w'.cell? ⟨b,off+2,none⟩=some (.int .i64 n2)/\w'.cell? ⟨b,off+3,none⟩=some (.int .i64 n3)/\w'.cell? ⟨b,off+4,none⟩=some (.int .i64 n4)/\w'.cell? ⟨b,off+5,none⟩=some (.int .i64 x0)/\w'.cell? ⟨b,off+5+1,none⟩=some (.int .i64 x1)/\w'.cell? ⟨b,off+5+2,none⟩=some (.int .i64 x2)/\w'.cell? ⟨b,off+5+3,none⟩=some (.int .i64 x3)/\w'.cell? ⟨b,off+5+4,none⟩=some (.int .i64 x4)) (go_keep) (fail);all_goals (go_wp2_with fail)
  all_goals go_meet
  case rel=>exact⟨_,_,rfl,rfl,(Gf.one _ _ _ _).drew⟩
  case rel=>exact⟨_,_,rfl,rfl,(Gf.other _ _ _ _).drew⟩
 case rest=>
  obtain⟨b4,b5,rfl,rfl,HT⟩:=hcut;have T1:=HT.out;have n_:=T1.n.cell;have x_:=T1.x.cell;have na:=fun o=>(T1.n.alloc o).cell;have xa:=fun o=>(T1.x.alloc o).cell;have ra:=fun o=>(T1.r.alloc o).cell;have raf:=fun o=>(T1.r.alloc o).frozen;have hn4:b4≠w.heap.size+1:=by have:=T1.lo4;omega
  have hn5:b5≠w.heap.size+1:=by have:=T1.lo5;omega
  have hn6:wc.heap.size≠w.heap.size+1:=by have:=T1.r.lt;omega
  clear q0 q1 q2 q3 q4 r0 r1 r2 r3 r4;by_cases h20:x0=20
  ·have g20:(x0==20)=true:=by simpa using h20
   have HV:Hid (FV=1):=HFV.out.symm.trans (if_pos h20);have Bq:Below wc.heap.size wc (wc.alloc (.cells #[.int .i64 43,.int .i64 n1,.int .i64 n2,.int .i64 n3,.int .i64 n4,.int .i64 x2,.int .i64 1] 161)).drew:=((yA _ _).alloc (yB _) _).drew;have HQ0:Hid (Blk (wc.alloc (.cells #[.int .i64 43,.int .i64 n1,.int .i64 n2,.int .i64 n3,.int .i64 n4,.int .i64 x2,.int .i64 1] 161)).drew wc.heap.size #[.int .i64 43,.int .i64 n1,.int .i64 n2,.int .i64 n3,.int .i64 n4,.int .i64 x2,.int .i64 1] 161):=Blk.new wc #[.int .i64 43,.int .i64 n1,.int .i64 n2,.int .i64 n3,.int .i64 n4,.int .i64 x2,.int .i64 1] 161;have HN0:Hid (Blk (wc.alloc (.cells #[.int .i64 43,.int .i64 n1,.int .i64 n2,.int .i64 n3,.int .i64 n4,.int .i64 x2,.int .i64 1] 161)).drew b4 #[.int .i64 n0,.int .i64 n1,.int .i64 n2,.int .i64 n3,.int .i64 n4] 58):=T1.n.l Bq;have HX0:Hid (Blk (wc.alloc (.cells #[.int .i64 43,.int .i64 n1,.int .i64 n2,.int .i64 n3,.int .i64 n4,.int .i64 x2,.int .i64 1] 161)).drew b5 #[.int .i64 x0,.int .i64 x1,.int .i64 x2,.int .i64 x3,.int .i64 x4] 58):=T1.x.l Bq;have HR0:Hid (Blk (wc.alloc (.cells #[.int .i64 43,.int .i64 n1,.int .i64 n2,.int .i64 n3,.int .i64 n4,.int .i64 x2,.int .i64 1] 161)).drew (w.heap.size+1) #[.int .i64 0,.int .i64 0,.int .i64 0,.int .i64 0,.int .i64 0,.int .i64 0,.int .i64 0] 161):=T1.r.l Bq;have HB:Hid (Below w.heap.size w (wc.alloc (.cells #[.int .i64 43,.int .i64 n1,.int .i64 n2,.int .i64 n3,.int .i64 n4,.int .i64 x2,.int .i64 1] 161)).drew):=T1.below.trans (Bq.mono T1.below.size);clear Bq;go_wp2_with fail;have e0:=HQ0.out.cell;have e1:=HN0.out.cell;have e2:=HX0.out.cell;by_cases h13:13<=n2
   ·have g13:decide (13<=n2)=true:=by simpa using h13
    go_region_held3 (fun W=>(∀o,W.cell? ⟨wc.heap.size,o,none⟩=(#[.int .i64 43,.int .i64 n1,.int .i64 n2,.int .i64 n3,.int .i64 n4,.int .i64 x2,.int .i64 1]:Array Value)[o]?)/\(∀o,W.cell? ⟨b4,o,none⟩=(#[.int .i64 n0,.int .i64 n1,.int .i64 n2,.int .i64 n3,.int .i64 n4]:Array Value)[o]?)/\(∀o,W.cell? ⟨b5,o,none⟩=(#[.int .i64 x0,.int .i64 x1,.int .i64 x2,.int .i64 x3,.int .i64 x4]:Array Value)[o]?)) (first|with_reducible exact⟨e0,e1,e2⟩|with_reducible exact⟨d0,d1,d2⟩|with_reducible exact⟨CellsAre.set7 d0 hn6 _ _ _ _ _ _ _,CellsAre.set7 d1 hn4 _ _ _ _ _ _ _,CellsAre.set7 d2 hn5 _ _ _ _ _ _ _⟩)
     (first|(go_at_call 264;refine(Ih x1 n1 hx.1 hx.2 _).mono ?_;rintro e w1 ⟨rfl,hw1⟩;have d0:=(HQ0.out.l hw1).cell;have d1:=(HN0.out.l hw1).cell;have d2:=(HX0.out.l hw1).cell;have r0:=(HR0.out.l hw1).cell;have rf0:=(HR0.out.l hw1).frozen))
    go_wp2_with fail;refine bodyPost_ret (v:=.tuple #[.agg #[.int .i64 43,.int .i64 n1,.int .i64 n2,.int .i64 n3,.int .i64 n4,.int .i64 x2,.int .i64 1],.bool (decide (x1<0)&&(Be x1==n1))]) ?_ rfl ⟨?_,?_⟩
    ·simp[results,results197,go_sem,r0]
    ·obtain rfl:=HV.out;simp[Qd.val,h13]
    ·iterate 7 (refine yP ?_ (by simp;try omega) _)
     exact HB.out.trans (hw1.mono HB.out.size)
   ·have g13:decide (13<=n2)=false:=by simpa using h13
    go_region;all_goals (go_wp2_with fail)
    refine bodyPost_ret (v:=.tuple #[.agg #[.int .i64 43,.int .i64 n1,.int .i64 n2,.int .i64 n3,.int .i64 n4,.int .i64 x2,.int .i64 1],.bool false]) ?_ rfl ⟨?_,?_⟩
    ·simp[results,results197,go_sem,ra]
    ·obtain rfl:=HV.out;simp[Qd.val]
    ·refine Below.drew ?_;iterate 7 (refine yP ?_ (by simp;try omega) _)
     exact T1.below.alloc T1.below.size _
  ·have g20:(x0==20)=false:=by simpa using h20
   have HV:Hid (FV=0):=HFV.out.symm.trans (if_neg h20);clear h20;have Bq:Below wc.heap.size wc (wc.alloc (.cells #[.int .i64 43,.int .i64 n1,.int .i64 n2,.int .i64 n3,.int .i64 n4,.int .i64 x2,.int .i64 0] 161)).drew:=((yA _ _).alloc (yB _) _).drew;have HQ0:Hid (Blk (wc.alloc (.cells #[.int .i64 43,.int .i64 n1,.int .i64 n2,.int .i64 n3,.int .i64 n4,.int .i64 x2,.int .i64 0] 161)).drew wc.heap.size #[.int .i64 43,.int .i64 n1,.int .i64 n2,.int .i64 n3,.int .i64 n4,.int .i64 x2,.int .i64 0] 161):=Blk.new wc #[.int .i64 43,.int .i64 n1,.int .i64 n2,.int .i64 n3,.int .i64 n4,.int .i64 x2,.int .i64 0] 161;have HN0:Hid (Blk (wc.alloc (.cells #[.int .i64 43,.int .i64 n1,.int .i64 n2,.int .i64 n3,.int .i64 n4,.int .i64 x2,.int .i64 0] 161)).drew b4 #[.int .i64 n0,.int .i64 n1,.int .i64 n2,.int .i64 n3,.int .i64 n4] 58):=T1.n.l Bq;have HX0:Hid (Blk (wc.alloc (.cells #[.int .i64 43,.int .i64 n1,.int .i64 n2,.int .i64 n3,.int .i64 n4,.int .i64 x2,.int .i64 0] 161)).drew b5 #[.int .i64 x0,.int .i64 x1,.int .i64 x2,.int .i64 x3,.int .i64 x4] 58):=T1.x.l Bq;have HR0:Hid (Blk (wc.alloc (.cells #[.int .i64 43,.int .i64 n1,.int .i64 n2,.int .i64 n3,.int .i64 n4,.int .i64 x2,.int .i64 0] 161)).drew (w.heap.size+1) #[.int .i64 0,.int .i64 0,.int .i64 0,.int .i64 0,.int .i64 0,.int .i64 0,.int .i64 0] 161):=T1.r.l Bq;have HB:Hid (Below w.heap.size w (wc.alloc (.cells #[.int .i64 43,.int .i64 n1,.int .i64 n2,.int .i64 n3,.int .i64 n4,.int .i64 x2,.int .i64 0] 161)).drew):=T1.below.trans (Bq.mono T1.below.size);clear Bq;go_wp2_with fail;have e0:=HQ0.out.cell;have e1:=HN0.out.cell;have e2:=HX0.out.cell;by_cases h13:13<=n2
   ·have g13:decide (13<=n2)=true:=by simpa using h13
    go_region_held3 (fun W=>(∀o,W.cell? ⟨wc.heap.size,o,none⟩=(#[.int .i64 43,.int .i64 n1,.int .i64 n2,.int .i64 n3,.int .i64 n4,.int .i64 x2,.int .i64 0]:Array Value)[o]?)/\(∀o,W.cell? ⟨b4,o,none⟩=(#[.int .i64 n0,.int .i64 n1,.int .i64 n2,.int .i64 n3,.int .i64 n4]:Array Value)[o]?)/\(∀o,W.cell? ⟨b5,o,none⟩=(#[.int .i64 x0,.int .i64 x1,.int .i64 x2,.int .i64 x3,.int .i64 x4]:Array Value)[o]?)) (first|with_reducible exact⟨e0,e1,e2⟩|with_reducible exact⟨d0,d1,d2⟩|with_reducible exact⟨CellsAre.set7 d0 hn6 _ _ _ _ _ _ _,CellsAre.set7 d1 hn4 _ _ _ _ _ _ _,CellsAre.set7 d2 hn5 _ _ _ _ _ _ _⟩)
     (first|(go_at_call 264;refine(Ih x1 n1 hx.1 hx.2 _).mono ?_;rintro e w1 ⟨rfl,hw1⟩;have d0:=(HQ0.out.l hw1).cell;have d1:=(HN0.out.l hw1).cell;have d2:=(HX0.out.l hw1).cell;have r0:=(HR0.out.l hw1).cell;have rf0:=(HR0.out.l hw1).frozen))
    go_wp2_with fail;refine bodyPost_ret (v:=.tuple #[.agg #[.int .i64 43,.int .i64 n1,.int .i64 n2,.int .i64 n3,.int .i64 n4,.int .i64 x2,.int .i64 0],.bool (decide (x1<0)&&(Be x1==n1))]) ?_ rfl ⟨?_,?_⟩
    ·simp[results,results197,go_sem,r0]
    ·obtain rfl:=HV.out;simp[Qd.val,h13]
    ·iterate 7 (refine yP ?_ (by simp;try omega) _)
     exact HB.out.trans (hw1.mono HB.out.size)
   ·have g13:decide (13<=n2)=false:=by simpa using h13
    go_region;all_goals (go_wp2_with fail)
    refine bodyPost_ret (v:=.tuple #[.agg #[.int .i64 43,.int .i64 n1,.int .i64 n2,.int .i64 n3,.int .i64 n4,.int .i64 x2,.int .i64 0],.bool false]) ?_ rfl ⟨?_,?_⟩
    ·simp[results,results197,go_sem,ra]
    ·obtain rfl:=HV.out;simp[Qd.val]
    ·refine Below.drew ?_;iterate 7 (refine yP ?_ (by simp;try omega) _)
     exact T1.below.alloc T1.below.size _
end Go.Proofs.YtbefeflgjipfhaaGreatDoor
