import Derived.Test.YtjbbppblgjhapaaGreatDoorJ29
set_option maxRecDepth 100000
set_option maxHeartbeats 4000000
namespace Go.Proofs.YtjbbppblgjhapaaGreatDoor
open Go.Deep Go.Proofs.Tryz Go.RowKit
variable{A:Array Value}{b g n:Nat}{W:World}
theorem Blk.newIn (arr:Array Value) (t:TypeId) (h:(W:Nat)=n):Blk (W.alloc (.cells arr t)) n arr t:=h▸Blk.new W arr t
structure Iu (w wx:World) (b4 b5:Nat) (sp n x:Array Value):Prop where
 s:Blk wx w sp 93
 r:Blk wx ((w:Nat)+1) #[(),(),(),(),(),(),()] 79
 n:Blk wx b4 n 81
 x:Blk wx b5 x 81
 below:Below w w wx
 apart:b4≠b5
 lo4:(w:Nat)+1<b4
 lo5:(w:Nat)+1<b5
theorem Iu.drew {w wx:World} {b4 b5:Nat} {sp n x:Array Value} (h:Iu w wx b4 b5 sp n x):Iu w wx.drew b4 b5 sp n x:=⟨h.s,h.r,h.n,h.x,h.below.drew,h.apart,h.lo4,h.lo5⟩
theorem Iu.one (w:World) (sp n x:Array Value):Iu w ((((w.alloc (.cells sp 93)).alloc (.cells #[(),(),(),(),(),(),()] 79)).alloc (.cells n 81)).alloc (.cells x 81)) ((w:Nat)+1+1) ((w:Nat)+1+1+1) sp n x:=by refine⟨(((Blk.new _ _ _).alloc _).alloc _).alloc _,((Blk.newIn _ _ (by simp)).alloc _).alloc _,(Blk.newIn _ _ (by simp)).alloc _,Blk.newIn _ _ (by simp),?_,by omega,by omega,by omega⟩;exact(((((yA _ _).alloc (yB _) _).alloc (by simp) _).alloc (by simp;omega) _).alloc (by simp;omega) _)
theorem Iu.other (w:World) (sp n x:Array Value):Iu w ((((w.alloc (.cells sp 93)).alloc (.cells #[(),(),(),(),(),(),()] 79)).alloc (.cells x 81)).alloc (.cells n 81)) ((w:Nat)+1+1+1) ((w:Nat)+1+1) sp n x:=by have:=Iu.one w sp x n;exact⟨this.s,this.r,this.x,this.n,this.below,this.apart.symm,this.lo5,this.lo4⟩
def Ay (W:World) (b:Nat) (A:Array Value):Prop:=∀o,W.cell? ⟨b,o,none⟩=A[o]?
theorem Ay.set (h:∀o,W.cell? ⟨b,o,none⟩=A[o]?) (hn:b≠g) (i:Nat) (v:Value):∀o,(W.setCell (g,i) v).cell? ⟨b,o,none⟩=A[o]?:=fun o=>(yX (a:=⟨b,o,none⟩) (yL _ _ _ _ hn)).trans (h o)
theorem Ay.set7 (h:∀o,W.cell? ⟨b,o,none⟩=A[o]?) (hn:b≠g) (v0 v1 v2 v3 v4 v5 v6:Value):∀o,(((((((W.setCell ⟨g,0,none⟩ v0).setCell ⟨g,1,none⟩ v1).setCell ⟨g,2,none⟩ v2).setCell ⟨g,3,none⟩ v3).setCell ⟨g,4,none⟩ v4).setCell ⟨g,5,none⟩ v5).setCell ⟨g,6,none⟩ v6).cell? ⟨b,o,none⟩=A[o]?:=
 Ay.set (Ay.set (Ay.set (Ay.set (Ay.set (Ay.set (Ay.set h hn _ _) hn _ _) hn _ _) hn _ _) hn _ _) hn _ _) hn _ _
theorem Qp (io co:Option Addr) (ic m cc:Nat) (c:Int) (l:List Nd) (n x:Nd) (w:World) (hl:l.length<=1048576) (hin:Ck 0 w io l) (h0:l[0]?=some n) (h1:l[1]?=some x) (hx:I64 x.a) :
  Kw 112 #[.agg #[.slice io l.length ic,.slice co m cc,c]] w (.tuple #[Qd.val ⟨43,n.a,n.b,n.c,n.d,x.b,if x.op=20 then 1 else 0⟩,.bool (decide (13<=n.b)&&(decide (x.a<0)&&(Bz x.a==n.a)))]):=by
 obtain⟨FV,hFV⟩:∃FV:Int,(if x.op=20 then (1:Int) else 0)=FV:=⟨_,rfl⟩;rw[hFV];have HFV:Hid _:=hFV;clear hFV;obtain⟨b,off,rfl,_,hbl,q0,q1,q2,q3,q4⟩:=hin 0 n h0;obtain⟨b',off',e',_,hbl',r0,r1,r2,r3,r4⟩:=hin 1 x h1;simp only[Option.some.injEq,Addr.mk.injEq,and_true]at e';obtain⟨rfl,rfl⟩:=e';simp only[Nat.zero_mul,Nat.add_zero,Nat.one_mul]at q0 q1 q2 q3 q4 r0 r1 r2 r3 r4;have hlt:=(yD.1 h1).1;have k0:(0:Int)<l.length:=by omega
 have k1:(1:Int)<l.length:=by omega
 generalize l.length=z at *;obtain⟨n0,n1,n2,n3,n4⟩:=n;obtain⟨x0,x1,x2,x3,x4⟩:=x;dsimp only at *;replace q0:=Av hbl q0;replace q1:=Av hbl q1;replace q2:=Av hbl q2;replace q3:=Av hbl q3;replace q4:=Av hbl q4;replace r0:=Av hbl r0;replace r1:=Av hbl r1;replace r2:=Av hbl r2;replace r3:=Av hbl r3;replace r4:=Av hbl r4;have k2:0<z:=by omega
 clear hin h0 h1;unfold Kw;go_in;go_wp2_with fail;go_cut [4,5] from 6 (fun v4 v5 wx=>∃b4 b5:Nat,v4=.pointer b4/\v5=.pointer b5/\Hid (Iu w wx b4 b5 #[.slice (some ⟨b,off,none⟩) z ic,.slice co m cc,c] #[n0,n1,n2,n3,n4] #[x0,x1,x2,x3,x4]));case first=>
  go_region_held3 (fun w'=>w'.cell? ((w:Nat),0)=some (.slice (some ⟨b,off,none⟩) z ic)/\w'.cell? (b,off)=some (n0:Value)/\w'.cell? (b,off+1)=some (n1:Value)/\w'.cell? (b,off+2)=some (n2:Value)/\w'.cell? (b,off+3)=some (n3:Value)/\w'.cell? (b,off+4)=some (n4:Value)/\w'.cell? (b,off+5)=some (x0:Value)/\w'.cell? (b,off+5+1)=some (x1:Value)/\w'.cell? (b,off+5+2)=some (x2:Value)/\w'.cell? (b,off+5+3)=some (x3:Value)/\w'.cell? (b,off+5+4)=some (x4:Value)) (go_keep) (fail);all_goals (go_wp2_with fail)
  all_goals go_meet
  case rel=>exact⟨_,_,rfl,rfl,(Iu.one _ _ _ _).drew⟩
  case rel=>exact⟨_,_,rfl,rfl,(Iu.other _ _ _ _).drew⟩
 case rest=>
  obtain⟨b4,b5,rfl,rfl,HT⟩:=hcut;have T1:=HT.out;have n_:=T1.n.cell;have x_:=T1.x.cell;have na:=fun o=>(T1.n.alloc o).cell;have xa:=fun o=>(T1.x.alloc o).cell;have ra:=fun o=>(T1.r.alloc o).cell;have raf:=fun o=>(T1.r.alloc o).frozen;have hn4:b4≠(w:Nat)+1:=by have:=T1.lo4;omega
  have hn5:b5≠(w:Nat)+1:=by have:=T1.lo5;omega
  have hn6:(wc:Nat)≠(w:Nat)+1:=by have:=T1.r.lt;omega
  clear q0 q1 q2 q3 q4 r0 r1 r2 r3 r4;by_cases h20:x0=20
  ·have g20:(x0==20)=true:=by simpa using h20
   have HV:Hid _:=HFV.out.symm.trans (if_pos h20);have Bq:Below wc wc (wc.alloc (.cells #[(43:Int),n1,n2,n3,n4,x2,(1:Int)] 79)).drew:=((yA _ _).alloc (yB _) _).drew;have HQ0:Hid (Blk (wc.alloc (.cells #[(43:Int),n1,n2,n3,n4,x2,(1:Int)] 79)).drew (wc:Nat) #[(43:Int),n1,n2,n3,n4,x2,(1:Int)] 79):=Blk.new wc #[(43:Int),n1,n2,n3,n4,x2,(1:Int)] 79;have HN0:Hid (Blk (wc.alloc (.cells #[(43:Int),n1,n2,n3,n4,x2,(1:Int)] 79)).drew b4 #[n0,n1,n2,n3,n4] 81):=T1.n.l Bq;have HX0:Hid (Blk (wc.alloc (.cells #[(43:Int),n1,n2,n3,n4,x2,(1:Int)] 79)).drew b5 #[x0,x1,x2,x3,x4] 81):=T1.x.l Bq;have HR0:Hid (Blk (wc.alloc (.cells #[(43:Int),n1,n2,n3,n4,x2,(1:Int)] 79)).drew ((w:Nat)+1) #[(),(),(),(),(),(),()] 79):=T1.r.l Bq;have HB:Hid _:=T1.below.trans (Bq.mono T1.below.size);clear Bq;go_wp2_with fail;have e0:=HQ0.out.cell;have e1:=HN0.out.cell;have e2:=HX0.out.cell;by_cases h13:13<=n2
   ·have g13:decide (13<=n2)=true:=by simpa using h13
    go_region_held3 (fun W=>(∀o,W.cell? ⟨(wc:Nat),o,none⟩=(#[(43:Int),n1,n2,n3,n4,x2,(1:Int)]:Array Value)[o]?)/\(∀o,W.cell? ⟨b4,o,none⟩=(#[n0,n1,n2,n3,n4]:Array Value)[o]?)/\(∀o,W.cell? ⟨b5,o,none⟩=(#[x0,x1,x2,x3,x4]:Array Value)[o]?)) (first|with_reducible exact⟨e0,e1,e2⟩|with_reducible exact⟨d0,d1,d2⟩|with_reducible exact⟨Ay.set7 d0 hn6 _ _ _ _ _ _ _,Ay.set7 d1 hn4 _ _ _ _ _ _ _,Ay.set7 d2 hn5 _ _ _ _ _ _ _⟩)
     (first|(go_at_call 199;refine(Lj x1 n1 hx.1 hx.2 _).mono ?_;rintro e w1 ⟨rfl,hw1⟩;have d0:=(HQ0.out.l hw1).cell;have d1:=(HN0.out.l hw1).cell;have d2:=(HX0.out.l hw1).cell;have r0:=(HR0.out.l hw1).cell;have rf0:=(HR0.out.l hw1).frozen))
    go_wp2_with fail;refine bodyPost_ret (v:=.tuple #[.agg #[(43:Int),n1,n2,n3,n4,x2,(1:Int)],.bool (decide (x1<0)&&(Bz x1==n1))]) ?_ rfl ⟨?_,?_⟩
    ·simp[results,results112,go_sem,r0]
    ·obtain rfl:=HV.out;simp[Qd.val,h13]
    ·iterate 7 (refine yP ?_ (by simp;try omega) _)
     exact HB.out.trans (hw1.mono HB.out.size)
   ·have g13:decide (13<=n2)=false:=by simpa using h13
    go_region;all_goals (go_wp2_with fail)
    refine bodyPost_ret (v:=.tuple #[.agg #[(43:Int),n1,n2,n3,n4,x2,(1:Int)],false]) ?_ rfl ⟨?_,?_⟩
    ·simp[results,results112,go_sem,ra]
    ·obtain rfl:=HV.out;simp[Qd.val]
    ·refine Below.drew ?_;iterate 7 (refine yP ?_ (by simp;try omega) _)
     exact T1.below.alloc T1.below.size _
  ·have g20:(x0==20)=false:=by simpa using h20
   have HV:Hid _:=HFV.out.symm.trans (if_neg h20);clear h20;have Bq:Below wc wc (wc.alloc (.cells #[(43:Int),n1,n2,n3,n4,x2,()] 79)).drew:=((yA _ _).alloc (yB _) _).drew;have HQ0:Hid (Blk (wc.alloc (.cells #[(43:Int),n1,n2,n3,n4,x2,()] 79)).drew (wc:Nat) #[(43:Int),n1,n2,n3,n4,x2,()] 79):=Blk.new wc #[(43:Int),n1,n2,n3,n4,x2,()] 79;have HN0:Hid (Blk (wc.alloc (.cells #[(43:Int),n1,n2,n3,n4,x2,()] 79)).drew b4 #[n0,n1,n2,n3,n4] 81):=T1.n.l Bq;have HX0:Hid (Blk (wc.alloc (.cells #[(43:Int),n1,n2,n3,n4,x2,()] 79)).drew b5 #[x0,x1,x2,x3,x4] 81):=T1.x.l Bq;have HR0:Hid (Blk (wc.alloc (.cells #[(43:Int),n1,n2,n3,n4,x2,()] 79)).drew ((w:Nat)+1) #[(),(),(),(),(),(),()] 79):=T1.r.l Bq;have HB:Hid _:=T1.below.trans (Bq.mono T1.below.size);clear Bq;go_wp2_with fail;have e0:=HQ0.out.cell;have e1:=HN0.out.cell;have e2:=HX0.out.cell;by_cases h13:13<=n2
   ·have g13:decide (13<=n2)=true:=by simpa using h13
    go_region_held3 (fun W=>(∀o,W.cell? ⟨(wc:Nat),o,none⟩=(#[(43:Int),n1,n2,n3,n4,x2,()]:Array Value)[o]?)/\(∀o,W.cell? ⟨b4,o,none⟩=(#[n0,n1,n2,n3,n4]:Array Value)[o]?)/\(∀o,W.cell? ⟨b5,o,none⟩=(#[x0,x1,x2,x3,x4]:Array Value)[o]?)) (first|with_reducible exact⟨e0,e1,e2⟩|with_reducible exact⟨d0,d1,d2⟩|with_reducible exact⟨Ay.set7 d0 hn6 _ _ _ _ _ _ _,Ay.set7 d1 hn4 _ _ _ _ _ _ _,Ay.set7 d2 hn5 _ _ _ _ _ _ _⟩)
     (first|(go_at_call 199;refine(Lj x1 n1 hx.1 hx.2 _).mono ?_;rintro e w1 ⟨rfl,hw1⟩;have d0:=(HQ0.out.l hw1).cell;have d1:=(HN0.out.l hw1).cell;have d2:=(HX0.out.l hw1).cell;have r0:=(HR0.out.l hw1).cell;have rf0:=(HR0.out.l hw1).frozen))
    go_wp2_with fail;refine bodyPost_ret (v:=.tuple #[.agg #[(43:Int),n1,n2,n3,n4,x2,()],.bool (decide (x1<0)&&(Bz x1==n1))]) ?_ rfl ⟨?_,?_⟩
    ·simp[results,results112,go_sem,r0]
    ·obtain rfl:=HV.out;simp[Qd.val,h13]
    ·iterate 7 (refine yP ?_ (by simp;try omega) _)
     exact HB.out.trans (hw1.mono HB.out.size)
   ·have g13:decide (13<=n2)=false:=by simpa using h13
    go_region;all_goals (go_wp2_with fail)
    refine bodyPost_ret (v:=.tuple #[.agg #[(43:Int),n1,n2,n3,n4,x2,()],false]) ?_ rfl ⟨?_,?_⟩
    ·simp[results,results112,go_sem,ra]
    ·obtain rfl:=HV.out;simp[Qd.val]
    ·refine Below.drew ?_;iterate 7 (refine yP ?_ (by simp;try omega) _)
     exact T1.below.alloc T1.below.size _
end Go.Proofs.YtjbbppblgjhapaaGreatDoor
