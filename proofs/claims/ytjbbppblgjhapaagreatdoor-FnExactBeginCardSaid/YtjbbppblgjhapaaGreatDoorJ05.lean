import Derived.Test.YtjbbppblgjhapaaGreatDoorJ03
import Derived.Test.YtjbbppblgjhapaaGreatDoorJ04
set_option maxRecDepth 100000
set_option maxHeartbeats 8000000
namespace Go.Proofs.YtjbbppblgjhapaaGreatDoor
open Go.Deep Go.Proofs.Tryz Go.RowKit
def A76:List Nat:=[0,11,12,7,8,9,15,16,17,13,14,10,2,3,4,5,6,20,18,21,1,1,1,19]
def Cm (r:Nat):Nat:=A76.getD r 0
theorem Ls (op:Nat) (h1:1<=op) (h2:op<=42):(Ci op).map Cm=Bh op:=by
 have h:∀k,k<43->1<=k->(Ci k).map Cm=Bh k:=by decide
 exact h op (by omega) h1
theorem A2r (np:Nat) (p:Pd) (r:Nat) (x:Int) (hr:r<=23) :
  (Aq np p r x=.iface 442 x/\(x==0)=Bg np p (Cm r) x)∨
  (∃lo hi,Aq np p r x=.iface 448 (.agg #[x,.int .i64 lo,.int .i64 hi])/\inR x lo hi=Bg np p (Cm r) x)∨
  (Aq np p r x=.iface 446 (.agg #[x,p.ins.length])/\inR x 0 (p.ins.length-1)=Bg np p (Cm r) x)∨
  (∃t,Aq np p r x=.iface 404 (.agg #[x,.int .i64 t])/\inR x (-p.regs) (p.regs-1)=Bg np p (Cm r) x)∨
  (∃k t,Aq np p r x=.iface 444 (.agg #[x,.int .i64 k,.int .i64 t])/\0<=k/\k<=3/\inR x 0 (p.regs-k)=Bg np p (Cm r) x)∨
  (∃t,Aq np p r x=.iface 395 (.agg #[x,.int .i64 t])/\inR x 0 (p.regs-1)=Bg np p (Cm r) x)∨
  (Aq np p r x=.iface 397 (.agg #[x])/\inR x 0 (p.regs-2)=Bg np p (Cm r) x):=by
 rcases Yt r hr with rfl|rfl|rfl|rfl|rfl|rfl|rfl|rfl|rfl|rfl|rfl|rfl|rfl|rfl|rfl|rfl|rfl|rfl|rfl|rfl|rfl|rfl|rfl|rfl;all_goals first
  | exact Or.inl ⟨rfl,rfl⟩
  | exact Or.inr (Or.inl ⟨_,_,rfl,rfl⟩)
  | exact Or.inr (Or.inr (Or.inl ⟨rfl,rfl⟩))
  | exact Or.inr (Or.inr (Or.inr (Or.inl ⟨_,rfl,rfl⟩)))
  | exact Or.inr (Or.inr (Or.inr (Or.inr (Or.inl ⟨_,_,rfl,by omega,by omega,rfl⟩))))
  | exact Or.inr (Or.inr (Or.inr (Or.inr (Or.inr (Or.inl ⟨_,rfl,rfl⟩)))))
  | exact Or.inr (Or.inr (Or.inr (Or.inr (Or.inr (Or.inr ⟨rfl,rfl⟩)))))
theorem A3q (v:Value) (w:World):(method 599 442 v "loop.example/loom/impl.fits").run prog w=.ok (374,v) w:=by kernel_rfl
theorem A3m (v:Value) (w:World):(method 599 448 v "loop.example/loom/impl.fits").run prog w=.ok (377,v) w:=by kernel_rfl
theorem A3p (v:Value) (w:World):(method 599 446 v "loop.example/loom/impl.fits").run prog w=.ok (376,v) w:=by kernel_rfl
theorem A11 (v:Value) (w:World):(method 599 404 v "loop.example/loom/impl.fits").run prog w=.ok (373,v) w:=by kernel_rfl
theorem A3n (v:Value) (w:World):(method 599 444 v "loop.example/loom/impl.fits").run prog w=.ok (375,v) w:=by kernel_rfl
theorem A3o (v:Value) (w:World):(method 599 395 v "loop.example/loom/impl.fits").run prog w=.ok (371,v) w:=by kernel_rfl
theorem A10 (v:Value) (w:World):(method 599 397 v "loop.example/loom/impl.fits").run prog w=.ok (372,v) w:=by kernel_rfl
structure NdW (n:Nd):Prop where
 op:I64 n.op
 a:I64 n.a
 b:I64 n.b
 c:I64 n.c
 d:I64 n.d
def Gw (np:Nat) (p:Pd) (n:Nd):Bool:=inR n.op 1 42&&Da np p (Bh n.op.toNat) n.fs
def Acm (np:Nat) (p:Pd) (t:TypeId) (v:Value) (b:Bool):Prop:=
 ∃f:Nat,(∀w:World,(method 599 t v "loop.example/loom/impl.fits").run prog w=.ok (f,v) w)/\np=np/\p=p/\
  (∀(w:World),Calls prog f #[v,p.regs] w fun e w'=>e=.returned (.bool b)/\Below w w w')/\
  (f=374∨f=377∨f=376∨f=373∨f=375∨f=371∨f=372)
theorem Ql (np:Nat) (p:Pd) (r:Nat) (x:Int) (hr:r<=23) (hx:I64 x) (hreg:0<=p.regs/\p.regs<=250) (hi:p.ins.length<=1048576) :
  ∃t v,Aq np p r x=.iface t v/\Acm np p t v (Bg np p (Cm r) x):=by
 rcases A2r np p r x hr with ⟨ee,HE⟩|⟨lo,hi',ee,HE⟩|⟨ee,HE⟩|⟨tt,ee,HE⟩|⟨kk,tt,ee,h1,h2,HE⟩|⟨tt,ee,HE⟩|⟨ee,HE⟩
 ·exact⟨_,_,ee,_,fun w=>A3q _ w,rfl,rfl,by rw[←HE];exact fun w=>Ws x _ w,by simp⟩
 ·exact⟨_,_,ee,_,fun w=>A3m _ w,rfl,rfl,by rw[←HE];exact fun w=>Vw x lo hi' _ w,by simp⟩
 ·exact⟨_,_,ee,_,fun w=>A3p _ w,rfl,rfl,by rw[←HE];exact fun w=>Wq x _ _ hi w,by simp⟩
 ·exact⟨_,_,ee,_,fun w=>A11 _ w,rfl,rfl,by rw[←HE];exact fun w=>Uc x tt _ hx.1 hx.2 w,by simp⟩
 ·exact⟨_,_,ee,_,fun w=>A3n _ w,rfl,rfl,by rw[←HE];exact fun w=>Vz x kk tt _ hreg.1 hreg.2 h1 h2 w,by simp⟩
 ·exact⟨_,_,ee,_,fun w=>A3o _ w,rfl,rfl,by rw[←HE];exact fun w=>Wi x tt _ hreg.1 hreg.2 w,by simp⟩
 ·exact⟨_,_,ee,_,fun w=>A10 _ w,rfl,rfl,by rw[←HE];exact fun w=>Ub x _ hreg.1 hreg.2 w,by simp⟩
theorem O9 (ao:Option Addr) (cap np:Nat) (p:Pd) (h:Ph) (n:Nd) (w:World) (hn:NdW n) (hz:Ie p) (hm:np<=1048576) (hr:0<=p.regs/\p.regs<=250) (hF:Hm w) :
  Kw 177 #[.agg #[.slice ao np cap],.agg (p.cells h),n.val] w (.bool (Gw np p n)):=by
 have hb3:∀o1 o2 o3,Below w w (((w.alloc o1).alloc o2).alloc o3):=fun o1 o2 o3=>(((yA _ _).alloc (yB _) o1).alloc (by simp) o2).alloc (by simp;omega) o3;cases hop0:inR n.op 1 42
 ·have E0:Hid (Gw np p n=false):=by show _=_;unfold Gw;rw[hop0];rfl
  unfold Nd.val Pd.cells;unfold Kw;go_in;go_wp2_with fail;refine(Cq n.op 1 42 _).mono ?_;rintro e w1 ⟨rfl,rfl⟩;rw[hop0];go_wp2;go_ret;exact⟨Ab E0.out.symm,hb3 _ _ _⟩
 have hop1:1<=n.op/\n.op<=42:=by simpa[inR]using hop0
 obtain⟨op,hop⟩:=yN (by omega:0<=n.op);have hop2:1<=op/\op<=42:=by omega
 obtain⟨f0,f1,f2,f3,hfo,g0,g1,g2,g3⟩:=Lf hop2.2;have hfl:=fun w hF=>Qm ao cap np p h n op f0 f1 f2 f3 w hop hop2.2 hfo g0 g1 g2 g3 hz hm hr hF;have hco:=Ls op hop2.1 hop2.2;rw[hfo]at hco;obtain⟨t0,v0,e0,m0,a0,-,-,s0,d0⟩:=Ql np p f0 n.a g0 hn.a hr hz.ins;obtain⟨t1,v1,e1,m1,a1,-,-,s1,d1⟩:=Ql np p f1 n.b g1 hn.b hr hz.ins;obtain⟨t2,v2,e2,m2,a2,-,-,s2,d2⟩:=Ql np p f2 n.c g2 hn.c hr hz.ins;obtain⟨t3,v3,e3,m3,a3,-,-,s3,d3⟩:=Ql np p f3 n.d g3 hn.d hr hz.ins;rw[e0,e1,e2,e3]at hfl;have E0:Hid (Gw np p n=(Bg np p (Cm f0) n.a&&(Bg np p (Cm f1) n.b&&(Bg np p (Cm f2) n.c&&(Bg np p (Cm f3) n.d&&true))))):=by show _=_;unfold Gw;rw[hop0,hop,Int.toNat_natCast,←hco];rfl
 generalize Bg np p (Cm f0) n.a=b0 at *;generalize Bg np p (Cm f1) n.b=b1 at *;generalize Bg np p (Cm f2) n.c=b2 at *;generalize Bg np p (Cm f3) n.d=b3 at *;have S0:Hid _:=s0;have S1:Hid _:=s1;have S2:Hid _:=s2;have S3:Hid _:=s3;have HL:Hid _:=hfl;clear s0 s1 s2 s3 hfl e0 e1 e2 e3 hco hfo g0 g1 g2 g3 hn hop1 hz hop hop2;have i0:∀w:World,(Instr.index 296 (.agg #[.iface t0 v0,.iface t1 v1,.iface t2 v2,.iface t3 v3]) ()).run prog w=.ok (.iface t0 v0) w:=fun _=>by kernel_rfl
 have i1:∀w:World,(Instr.index 296 (.agg #[.iface t0 v0,.iface t1 v1,.iface t2 v2,.iface t3 v3]) (1:Int)).run prog w=.ok (.iface t1 v1) w:=fun _=>by kernel_rfl
 have i2:∀w:World,(Instr.index 296 (.agg #[.iface t0 v0,.iface t1 v1,.iface t2 v2,.iface t3 v3]) (2:Int)).run prog w=.ok (.iface t2 v2) w:=fun _=>by kernel_rfl
 have i3:∀w:World,(Instr.index 296 (.agg #[.iface t0 v0,.iface t1 v1,.iface t2 v2,.iface t3 v3]) (3:Int)).run prog w=.ok (.iface t3 v3) w:=fun _=>by kernel_rfl
 have X0:=(Blk.new (w.alloc (.cells #[.slice ao np cap] 31)) (p.cells h) 77).alloc (.cells #[n.op,n.a,n.b,n.c,n.d] 81);rw[nblk_alloc]at X0;have hF3:=hF.l (hb3 (.cells #[.slice ao np cap] 31) (.cells (p.cells h) 77) (.cells #[n.op,n.a,n.b,n.c,n.d] 81));unfold Nd.val Pd.cells at *;unfold Kw;go_in;go_wp2_with fail;refine(Cq n.op 1 42 _).mono ?_;rintro e w1 ⟨rfl,rfl⟩;rw[hop0];clear hop0;go_wp2_with fail;refine(HL.out _ hF3).mono ?_;rintro e w1 ⟨rfl,hw1⟩;have B1:=(hb3 _ _ _).trans (hw1.mono (by simp;omega));have X1:=X0.l hw1;have cx:w1.cell? ((w:Nat)+1,4)=some (p.regs:Value):=X1.cell 4;have hl1:=X1.lt;clear X0 X1 hw1 hF3 hF;go_wp2;go_loopw [17] (fun y wr=>∃k:Nat,k<=4/\y=k/\Hid (Gw np p n=match k with|0=>(b0&&(b1&&(b2&&(b3&&true))))|1=>(b1&&(b2&&(b3&&true)))|2=>(b2&&(b3&&true))|3=>(b3&&true)|_=>true)/\Below w w wr/\(w:Nat)+1<wr.heap.size/\wr.cell? ((w:Nat)+1,4)=some (p.regs:Value)) (fun y _=>4-(intOf y).toNat);case atStart=>exact⟨0,by omega,rfl,E0.out,B1,hl1,cx⟩
 case round=>
  obtain⟨k,hk,rfl,HQ,hb,hsz,cr⟩:=hrel;clear cx B1 hl1 HL E0;rcases (by omega:k=0∨k=1∨k=2∨k=3∨k=4) with rfl|rfl|rfl|rfl|rfl
  ·have HQ1:Hid (Gw np p n=(b0&&(b1&&(b2&&(b3&&true))))):=HQ.out;rcases d0 with rfl|rfl|rfl|rfl|rfl|rfl|rfl;all_goals
    go_wp2_with fail;refine(S0.out _).mono ?_;rintro e w2 ⟨rfl,hw2⟩;have B2:=hb.trans (hw2.mono hb.size);have cr2:=(Oe hw2).1 _ 4 hsz▸cr;have hsz2:=yF hsz hw2.size;cases b0
    ·go_wp2;go_ret;exact⟨Ab (by rw[HQ1.out];rfl),B2⟩
    ·go_wp2;go_roundw;case rel=>exact⟨1,by omega,rfl,HQ1.out,B2,hsz2,cr2⟩
     case measure=>simp[intOf]
  ·have HQ1:Hid (Gw np p n=(b1&&(b2&&(b3&&true)))):=HQ.out;rcases d1 with rfl|rfl|rfl|rfl|rfl|rfl|rfl;all_goals
    go_wp2_with fail;refine(S1.out _).mono ?_;rintro e w2 ⟨rfl,hw2⟩;have B2:=hb.trans (hw2.mono hb.size);have cr2:=(Oe hw2).1 _ 4 hsz▸cr;have hsz2:=yF hsz hw2.size;cases b1
    ·go_wp2;go_ret;exact⟨Ab (by rw[HQ1.out];rfl),B2⟩
    ·go_wp2;go_roundw;case rel=>exact⟨2,by omega,rfl,HQ1.out,B2,hsz2,cr2⟩
     case measure=>simp[intOf]
  ·have HQ1:Hid (Gw np p n=(b2&&(b3&&true))):=HQ.out;rcases d2 with rfl|rfl|rfl|rfl|rfl|rfl|rfl;all_goals
    go_wp2_with fail;refine(S2.out _).mono ?_;rintro e w2 ⟨rfl,hw2⟩;have B2:=hb.trans (hw2.mono hb.size);have cr2:=(Oe hw2).1 _ 4 hsz▸cr;have hsz2:=yF hsz hw2.size;cases b2
    ·go_wp2;go_ret;exact⟨Ab (by rw[HQ1.out];rfl),B2⟩
    ·go_wp2;go_roundw;case rel=>exact⟨3,by omega,rfl,HQ1.out,B2,hsz2,cr2⟩
     case measure=>simp[intOf]
  ·have HQ1:Hid (Gw np p n=(b3&&true)):=HQ.out;rcases d3 with rfl|rfl|rfl|rfl|rfl|rfl|rfl;all_goals
    go_wp2_with fail;refine(S3.out _).mono ?_;rintro e w2 ⟨rfl,hw2⟩;have B2:=hb.trans (hw2.mono hb.size);have cr2:=(Oe hw2).1 _ 4 hsz▸cr;have hsz2:=yF hsz hw2.size;cases b3
    ·go_wp2;go_ret;exact⟨Ab (by rw[HQ1.out];rfl),B2⟩
    ·go_wp2;go_roundw;case rel=>exact⟨4,by omega,rfl,HQ1.out,B2,hsz2,cr2⟩
     case measure=>simp[intOf]
  ·go_wp2;go_ret;exact⟨Ab HQ.out.symm,hb⟩
end Go.Proofs.YtjbbppblgjhapaaGreatDoor
