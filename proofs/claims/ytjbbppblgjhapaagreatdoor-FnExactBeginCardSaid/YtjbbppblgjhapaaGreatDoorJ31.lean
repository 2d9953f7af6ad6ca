import Derived.Test.YtjbbppblgjhapaaGreatDoorJ30
set_option maxRecDepth 100000
set_option maxHeartbeats 4000000
namespace Go.Proofs.YtjbbppblgjhapaaGreatDoor
open Go.Deep Go.Proofs.Tryz Go.RowKit
theorem CellAre.set7 {W:World} {b o g:Nat} {u:Value} (h:W.cell? ⟨b,o,none⟩=some u) (hn:b≠g) (v0 v1 v2 v3 v4 v5 v6:Value):(((((((W.setCell ⟨g,0,none⟩ v0).setCell ⟨g,1,none⟩ v1).setCell ⟨g,2,none⟩ v2).setCell ⟨g,3,none⟩ v3).setCell ⟨g,4,none⟩ v4).setCell ⟨g,5,none⟩ v5).setCell ⟨g,6,none⟩ v6).cell? ⟨b,o,none⟩=some u:=by have k:∀(W:World) i v,(W.setCell ⟨g,i,none⟩ v).cell? (b,o)=W.cell? (b,o):=fun W i v=>yX (yL _ _ _ _ hn);rw[k,k,k,k,k,k,k];exact h
theorem Xt (io co:Option Addr) (ic cc:Nat) (c:Int) (l:List Nd) (cs:List Vd) (n x:Nd) (mi:Nat) (v:Vd) (w:World) (hl:l.length<=1048576) (hin:Ck 0 w io l) (hcs:Ba 0 w co cs) (h0:l[0]?=some n) (h1:l[1]?=some x) (hm:n.b=mi) (hv:cs[mi]?=some v) (hxc:I64 x.c) (hxb:I64 x.b) :
  Kw 114 #[.agg #[.slice io l.length ic,.slice co cs.length cc,c]] w (.tuple #[Qd.val ⟨45,x.a,x.b,n.b,c,0,n.a⟩,.bool ((v.kind==4)&&(decide (x.c<0)&&(Bz x.c==n.a))&&!(Bz x.b==n.a))]):=by
 obtain⟨cb,cof,rfl,_,hcb,w0,_⟩:=hcs mi v hv;have hmi:(mi:Int)<cs.length:=by have:=(yD.1 hv).1;omega
 obtain⟨kd,num,flt,str,rf⟩:=v;obtain⟨b,off,rfl,_,hbl,q0,q1,q2,q3,q4⟩:=hin 0 n h0;obtain⟨b',off',e',_,hbl',r0,r1,r2,r3,r4⟩:=hin 1 x h1;simp only[Option.some.injEq,Addr.mk.injEq,and_true]at e';obtain⟨rfl,rfl⟩:=e';simp only[Nat.zero_mul,Nat.add_zero,Nat.one_mul]at q0 q1 q2 q3 q4 r0 r1 r2 r3 r4;have hlt:=(yD.1 h1).1;have k0:(0:Int)<l.length:=by omega
 have k1:(1:Int)<l.length:=by omega
 generalize l.length=z at *;obtain⟨n0,n1,n2,n3,n4⟩:=n;obtain⟨x0,x1,x2,x3,x4⟩:=x;dsimp only at *;subst hm;replace q0:=Av hbl q0;replace q1:=Av hbl q1;replace q2:=Av hbl q2;replace q3:=Av hbl q3;replace q4:=Av hbl q4;replace r0:=Av hbl r0;replace r1:=Av hbl r1;replace r2:=Av hbl r2;replace r3:=Av hbl r3;replace r4:=Av hbl r4;have k2:0<z:=by omega
 clear hin h0 h1;clear hcs hv;obtain⟨TK,hTK⟩:∃TK:Bool,(decide (x3<0)&&(Bz x3==n1))=TK:=⟨_,rfl⟩;obtain⟨NM,hNM⟩:∃NM:Bool,(Bz x2==n1)=NM:=⟨_,rfl⟩;have HTK:Hid (∀W,Kw 199 #[x3,n1] W (.bool TK)):=fun W=>by have:=Lj x3 n1 hxc.1 hxc.2 W;rw[hTK]at this;exact this
 have HNM:Hid (∀W,Kw 200 #[x2,n1] W (.bool NM)):=fun W=>by have:=Nt x2 n1 hxb.1 hxb.2 W;rw[hNM]at this;exact this
 rw[hTK,hNM];clear hTK hNM;unfold Kw;go_in;go_wp2_with fail;go_cut [4,5] from 6 (fun v4 v5 wx=>∃b4 b5:Nat,v4=.pointer b4/\v5=.pointer b5/\Hid (Iu w wx b4 b5 #[.slice (some ⟨b,off,none⟩) z ic,.slice (some ⟨cb,cof,none⟩) cs.length cc,c] #[n0,n1,mi,n3,n4] #[x0,x1,x2,x3,x4]));case first=>
  go_region_held3 (fun w'=>w'.cell? ((w:Nat),0)=some (.slice (some ⟨b,off,none⟩) z ic)/\w'.cell? (b,off)=some (n0:Value)/\w'.cell? (b,off+1)=some (n1:Value)/\w'.cell? (b,off+2)=some (mi:Value)/\w'.cell? (b,off+3)=some (n3:Value)/\w'.cell? (b,off+4)=some (n4:Value)/\w'.cell? (b,off+5)=some (x0:Value)/\w'.cell? (b,off+5+1)=some (x1:Value)/\w'.cell? (b,off+5+2)=some (x2:Value)/\w'.cell? (b,off+5+3)=some (x3:Value)/\w'.cell? (b,off+5+4)=some (x4:Value)) (go_keep) (fail);all_goals (go_wp2_with fail)
  all_goals go_meet
  case rel=>exact⟨_,_,rfl,rfl,(Iu.one _ _ _ _).drew⟩
  case rel=>exact⟨_,_,rfl,rfl,(Iu.other _ _ _ _).drew⟩
 case rest=>
  obtain⟨b4,b5,rfl,rfl,HT⟩:=hcut;have T1:=HT.out;have n_:=T1.n.cell;have x_:=T1.x.cell;have s_:=T1.s.cell;have hn4:b4≠(w:Nat)+1:=by have:=T1.lo4;omega
  have hn5:b5≠(w:Nat)+1:=by have:=T1.lo5;omega
  have hns:(w:Nat)≠(w:Nat)+1:=by omega
  have hnc:cb≠(w:Nat)+1:=by omega
  have hn6:(wc:Nat)≠(w:Nat)+1:=by have:=T1.r.lt;omega
  clear q0 q1 q2 q3 q4 r0 r1 r2 r3 r4;have Bq:Below wc wc (wc.alloc (.cells #[(45:Int),x1,x2,mi,c,(),n1] 79)).drew:=((yA _ _).alloc (yB _) _).drew;have HB:Hid _:=T1.below.trans (Bq.mono T1.below.size);have HQ0:Hid (Blk (wc.alloc (.cells #[(45:Int),x1,x2,mi,c,(),n1] 79)).drew (wc:Nat) #[(45:Int),x1,x2,mi,c,(),n1] 79):=Blk.new wc #[(45:Int),x1,x2,mi,c,(),n1] 79;have HN0:Hid (Blk (wc.alloc (.cells #[(45:Int),x1,x2,mi,c,(),n1] 79)).drew b4 #[n0,n1,mi,n3,n4] 81):=T1.n.l Bq;have HX0:Hid (Blk (wc.alloc (.cells #[(45:Int),x1,x2,mi,c,(),n1] 79)).drew b5 #[x0,x1,x2,x3,x4] 81):=T1.x.l Bq;have HS0:Hid (Blk (wc.alloc (.cells #[(45:Int),x1,x2,mi,c,(),n1] 79)).drew (w:Nat) #[.slice (some ⟨b,off,none⟩) z ic,.slice (some ⟨cb,cof,none⟩) cs.length cc,c] 93):=T1.s.l Bq;have HR0:Hid (Blk (wc.alloc (.cells #[(45:Int),x1,x2,mi,c,(),n1] 79)).drew ((w:Nat)+1) #[(),(),(),(),(),(),()] 79):=T1.r.l Bq;have HC0:Hid (((wc.alloc (.cells #[(45:Int),x1,x2,mi,c,(),n1] 79)).drew).cell? (cb,cof+mi*5)=some (kd:Value)):=(HB.out.cell (p:=(cb,cof+mi*5)) hcb).trans w0;have hcb0:=yF hcb HB.out.size;clear Bq;go_wp2_with fail;have e0:=HQ0.out.cell;have e1:=HN0.out.cell;have e2:=HX0.out.cell;have e3:=HS0.out.cell;have e4:=HC0.out;by_cases h4:kd=4
  ·have g4:(kd==4)=true:=by simpa using h4
   cases TK
   ·refine rgN (fun W=>(∀o,W.cell? ⟨(wc:Nat),o,none⟩=(#[(45:Int),x1,x2,mi,c,(),n1]:Array Value)[o]?)/\(∀o,W.cell? ⟨b4,o,none⟩=(#[n0,n1,mi,n3,n4]:Array Value)[o]?)/\(∀o,W.cell? ⟨b5,o,none⟩=(#[x0,x1,x2,x3,x4]:Array Value)[o]?)/\(∀o,W.cell? ⟨(w:Nat),o,none⟩=(#[.slice (some ⟨b,off,none⟩) z ic,.slice (some ⟨cb,cof,none⟩) cs.length cc,c]:Array Value)[o]?)/\W.cell? (cb,cof+mi*5)=some (kd:Value)) ⟨e0,e1,e2,e3,e4⟩ (fun hS=>?_);iterate 14 (refine tkF (by kernel_rfl) (by rfl) hS ⟨?_,fun W hW=>?_,?_⟩;rotate_left;(focus ((try dsimp only at hW);go_simp;try with_reducible rfl));try simp only[Act.put,yC,yJ,yK])
    refine doN (by kernel_rfl) (by rfl) (fun K hK=>?_);go_simp;refine(HTK.out _).mono ?_;rintro e w1 ⟨rfl,hw1⟩;have HQ1:=HQ0.out.l hw1;have HN1:=HN0.out.l hw1;have HX1:=HX0.out.l hw1;have HS1:=HS0.out.l hw1;have HR1:=HR0.out.l hw1;have HC1:=(hw1.cell hcb0).trans HC0.out;have hcb1:=yF hcb0 hw1.size;have d0:=HQ1.cell;have d1:=HN1.cell;have d2:=HX1.cell;have d3:=HS1.cell;have d4:=HC1;have r0:=HR1.cell;have rf0:=HR1.frozen;go_wp2;refine hK.out _ _ ⟨d0,d1,d2,d3,d4⟩ (fun hS=>?_);clear hK K;try simp only[Act.put,yC,yJ,yK]
    iterate 2 (refine tkF (by kernel_rfl) (by rfl) hS ⟨?_,fun W hW=>?_,?_⟩;rotate_left;(focus ((try dsimp only at hW);go_simp;try with_reducible rfl));try simp only[Act.put,yC,yJ,yK])
    iterate 6 (refine tkG (by kernel_rfl) (by rfl) hS ?_;try simp only[Act.put,yC,yJ,yK])
    iterate 1 (refine tkF (by kernel_rfl) (by rfl) hS ⟨?_,fun W hW=>?_,?_⟩;rotate_left;(focus ((try dsimp only at hW);go_simp;try with_reducible rfl));try simp only[Act.put,yC,yJ,yK])
    refine doN (by kernel_rfl) (by rfl) (fun K hK=>?_);go_wp2;refine hK.out _ _ ⟨Ay.set7 d0 hn6 _ _ _ _ _ _ _,Ay.set7 d1 hn4 _ _ _ _ _ _ _,Ay.set7 d2 hn5 _ _ _ _ _ _ _,Ay.set7 d3 hns _ _ _ _ _ _ _,CellAre.set7 d4 hnc _ _ _ _ _ _ _⟩ (fun hS=>?_);clear hK K;try simp only[Act.put,yC,yJ,yK]
    iterate 1 (refine tkF (by kernel_rfl) (by rfl) hS ⟨?_,fun W hW=>?_,?_⟩;rotate_left;(focus ((try dsimp only at hW);go_simp;try with_reducible rfl));try simp only[Act.put,yC,yJ,yK])
    refine enD (by kernel_rfl) ?_;refine NoPanic.normal ?_;all_goals (go_wp2_with fail)
    refine bodyPost_ret (v:=.tuple #[.agg #[(45:Int),x1,x2,mi,c,(),n1],false]) ?_ rfl ⟨?_,?_⟩
    ·simp[results,results114,go_sem,r0]
    ·simp[Qd.val]
    ·iterate 7 (refine yP ?_ (by simp;try omega) _)
     exact HB.out.trans (hw1.mono HB.out.size)
   ·go_region_held3 (fun W=>(∀o,W.cell? ⟨(wc:Nat),o,none⟩=(#[(45:Int),x1,x2,mi,c,(),n1]:Array Value)[o]?)/\(∀o,W.cell? ⟨b4,o,none⟩=(#[n0,n1,mi,n3,n4]:Array Value)[o]?)/\(∀o,W.cell? ⟨b5,o,none⟩=(#[x0,x1,x2,x3,x4]:Array Value)[o]?)/\(∀o,W.cell? ⟨(w:Nat),o,none⟩=(#[.slice (some ⟨b,off,none⟩) z ic,.slice (some ⟨cb,cof,none⟩) cs.length cc,c]:Array Value)[o]?)/\W.cell? (cb,cof+mi*5)=some (kd:Value)) (first|with_reducible exact⟨e0,e1,e2,e3,e4⟩|with_reducible exact⟨d0,d1,d2,d3,d4⟩|with_reducible exact⟨f0,f1,f2,f3,f4⟩|with_reducible exact⟨Ay.set7 f0 hn6 _ _ _ _ _ _ _,Ay.set7 f1 hn4 _ _ _ _ _ _ _,Ay.set7 f2 hn5 _ _ _ _ _ _ _,Ay.set7 f3 hns _ _ _ _ _ _ _,CellAre.set7 f4 hnc _ _ _ _ _ _ _⟩)
     (first|(go_at_call 199;refine(HTK.out _).mono ?_;rintro e w1 ⟨rfl,hw1⟩;have HQ1:=HQ0.out.l hw1;have HN1:=HN0.out.l hw1;have HX1:=HX0.out.l hw1;have HS1:=HS0.out.l hw1;have HR1:=HR0.out.l hw1;have HC1:=(hw1.cell (p:=(cb,cof+mi*5)) hcb0).trans HC0.out;have hcb1:=yF hcb0 hw1.size;have d0:=HQ1.cell;have d1:=HN1.cell;have d2:=HX1.cell;have d3:=HS1.cell;have d4:=HC1)|(go_at_call 200;refine(HNM.out _).mono ?_;rintro e w2 ⟨rfl,hw2⟩;have HQ2:=HQ1.l hw2;have HN2:=HN1.l hw2;have HX2:=HX1.l hw2;have HS2:=HS1.l hw2;have HR2:=HR1.l hw2;have HC2:=(hw2.cell (p:=(cb,cof+mi*5)) hcb1).trans HC1;have hcb2:=yF hcb1 hw2.size;have f0:=HQ2.cell;have f1:=HN2.cell;have f2:=HX2.cell;have f3:=HS2.cell;have f4:=HC2;have r0:=HR2.cell;have rf0:=HR2.frozen))
    go_wp2_with fail;refine bodyPost_ret (v:=.tuple #[.agg #[(45:Int),x1,x2,mi,c,(),n1],.bool (!NM)]) ?_ rfl ⟨?_,?_⟩
    ·simp[results,results114,go_sem,r0]
    ·simp[Qd.val,h4]
    ·iterate 7 (refine yP ?_ (by simp;try omega) _)
     exact(HB.out.trans (hw1.mono HB.out.size)).trans (hw2.mono (yI HB.out.size hw1.size))
  ·have g4:(kd==4)=false:=by simpa using h4
   have na:=fun o=>(T1.n.alloc o).cell;have xa:=fun o=>(T1.x.alloc o).cell;have sa:=fun o=>(T1.s.alloc o).cell;have ca:∀o,(wc.alloc o).cell? (cb,cof+mi*5)=some (kd:Value):=fun o=>(((T1.below.alloc T1.below.size o).cell (p:=(cb,cof+mi*5)) hcb)).trans w0;have ra:=fun o=>(T1.r.alloc o).cell;have raf:=fun o=>(T1.r.alloc o).frozen;go_region;all_goals (go_wp2_with fail)
   refine bodyPost_ret (v:=.tuple #[.agg #[(45:Int),x1,x2,mi,c,(),n1],false]) ?_ rfl ⟨?_,?_⟩
   ·simp[results,results114,go_sem,ra]
   ·simp[Qd.val,h4]
   ·refine Below.drew ?_;iterate 7 (refine yP ?_ (by simp;try omega) _)
    exact T1.below.alloc T1.below.size _
end Go.Proofs.YtjbbppblgjhapaaGreatDoor
