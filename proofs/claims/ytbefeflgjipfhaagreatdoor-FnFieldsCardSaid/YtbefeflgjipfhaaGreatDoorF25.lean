import Derived.Test.YtbefeflgjipfhaaGreatDoorF03
import Derived.Test.YtbefeflgjipfhaaGreatDoorF24
set_option maxRecDepth 100000
set_option maxHeartbeats 8000000
namespace Go.Proofs.YtbefeflgjipfhaaGreatDoor
open Go.Deep Go.Proofs.Tryz Go.RowKit
structure NdW (n:Nd):Prop where
 op:I64 n.op
 a:I64 n.a
 b:I64 n.b
 c:I64 n.c
 d:I64 n.d
def Eo (np:Nat) (p:Pd) (n:Nd):Bool:=inR n.op 1 42&&Em np p (Bt n.op.toNat) n.fs
def A7m (np:Nat) (p:Pd) (t:TypeId) (v:Value) (b:Bool):Prop:=
 ∃f:Nat,(∀w:World,(method 644 t v "loop.example/loom/impl.fits").run prog w=.ok (f,v) w)/\np=np/\p=p/\
  (∀(w:World),Calls prog f #[v,.int .i64 p.regs] w fun e w'=>e=.returned (.bool b)/\Below w.heap.size w w')/\
  (f=459∨f=462∨f=461∨f=441∨f=460∨f=457∨f=458)
theorem Mv (np:Nat) (p:Pd) (r:Nat) (x:Int) (hr:r<=23) (hx:I64 x) (hreg:0<=p.regs/\p.regs<=250) (hi:p.ins.length<=1048576) :
  ∃t v,Al np p r x=.iface t v/\A7m np p t v (Bd np p (Bp r) x):=by
 rcases Yg np p r x hr with ⟨ee,HE⟩|⟨lo,hi',ee,HE⟩|⟨ee,HE⟩|⟨tt,ee,HE⟩|⟨kk,tt,ee,h1,h2,HE⟩|⟨tt,ee,HE⟩|⟨ee,HE⟩
 ·exact⟨_,_,ee,_,fun w=>Z9 _ w,rfl,rfl,by rw[←HE];exact fun w=>Ry x _ w,by simp⟩
 ·exact⟨_,_,ee,_,fun w=>Yy _ w,rfl,rfl,by rw[←HE];exact fun w=>Rh x lo hi' _ w,by simp⟩
 ·exact⟨_,_,ee,_,fun w=>Z8 _ w,rfl,rfl,by rw[←HE];exact fun w=>Rx x _ _ hi w,by simp⟩
 ·exact⟨_,_,ee,_,fun w=>Wj _ w,rfl,rfl,by rw[←HE];exact fun w=>Q8 x tt _ hx.1 hx.2 w,by simp⟩
 ·exact⟨_,_,ee,_,fun w=>Yz _ w,rfl,rfl,by rw[←HE];exact fun w=>Rk x kk tt _ hreg.1 hreg.2 h1 h2 w,by simp⟩
 ·exact⟨_,_,ee,_,fun w=>Z7 _ w,rfl,rfl,by rw[←HE];exact fun w=>Rs x tt _ hreg.1 hreg.2 w,by simp⟩
 ·exact⟨_,_,ee,_,fun w=>Wi _ w,rfl,rfl,by rw[←HE];exact fun w=>Q7 x _ hreg.1 hreg.2 w,by simp⟩
theorem Ke (ao:Option Addr) (cap np:Nat) (p:Pd) (h:Ph) (n:Nd) (w:World) (hn:NdW n) (hz:Ny p) (hm:np<=1048576) (hr:0<=p.regs/\p.regs<=250) (hF:Ep w) :
  Kw 311 #[.agg #[.slice ao np cap],.agg (p.cells h),n.val] w (.bool (Eo np p n)):=by
 have hb3:∀o1 o2 o3,Below w.heap.size w (((w.alloc o1).alloc o2).alloc o3):=fun o1 o2 o3=>(((yA _ _).alloc (yB _) o1).alloc (by simp) o2).alloc (by simp;omega) o3;cases hop0:inR n.op 1 42
 ·have E0:Hid (Eo np p n=false):=by show _=_;unfold Eo;rw[hop0];rfl
  unfold Nd.val Pd.cells;(try unfold Kw);go_in;go_wp2_with fail;refine(Bn n.op 1 42 _).mono ?_;rintro e w1 ⟨rfl,rfl⟩;rw[hop0];go_wp2;go_ret;exact⟨Ac E0.out.symm,hb3 _ _ _⟩
 have hop1:1<=n.op/\n.op<=42:=by simpa[inR]using hop0
 obtain⟨op,hop⟩:=yN (by omega:0<=n.op);have hop2:1<=op/\op<=42:=by omega
 obtain⟨f0,f1,f2,f3,hfo,g0,g1,g2,g3⟩:=Ic hop2.2;have hfl:=fun w hF=>Mw ao cap np p h n op f0 f1 f2 f3 w hop hop2.2 hfo g0 g1 g2 g3 hz hm hr hF;have hco:=Iq op hop2.1 hop2.2;rw[hfo]at hco;obtain⟨t0,v0,e0,m0,a0,-,-,s0,d0⟩:=Mv np p f0 n.a g0 hn.a hr hz.ins;obtain⟨t1,v1,e1,m1,a1,-,-,s1,d1⟩:=Mv np p f1 n.b g1 hn.b hr hz.ins;obtain⟨t2,v2,e2,m2,a2,-,-,s2,d2⟩:=Mv np p f2 n.c g2 hn.c hr hz.ins;obtain⟨t3,v3,e3,m3,a3,-,-,s3,d3⟩:=Mv np p f3 n.d g3 hn.d hr hz.ins;rw[e0,e1,e2,e3]at hfl;have E0:Hid (Eo np p n=(Bd np p (Bp f0) n.a&&(Bd np p (Bp f1) n.b&&(Bd np p (Bp f2) n.c&&(Bd np p (Bp f3) n.d&&true))))):=by show _=_;unfold Eo;rw[hop0,hop,Int.toNat_natCast,←hco];rfl
 generalize Bd np p (Bp f0) n.a=b0 at *;generalize Bd np p (Bp f1) n.b=b1 at *;generalize Bd np p (Bp f2) n.c=b2 at *;generalize Bd np p (Bp f3) n.d=b3 at *;have S0:Hid _:=s0;have S1:Hid _:=s1;have S2:Hid _:=s2;have S3:Hid _:=s3;have HL:Hid _:=hfl;clear s0 s1 s2 s3 hfl e0 e1 e2 e3 hco hfo g0 g1 g2 g3 hn hop1 hz hop hop2;have i0:∀w:World,(Instr.index 402 (.agg #[.iface t0 v0,.iface t1 v1,.iface t2 v2,.iface t3 v3]) (.int .i64 0)).run prog w=.ok (.iface t0 v0) w:=fun _=>by kernel_rfl
 have i1:∀w:World,(Instr.index 402 (.agg #[.iface t0 v0,.iface t1 v1,.iface t2 v2,.iface t3 v3]) (.int .i64 1)).run prog w=.ok (.iface t1 v1) w:=fun _=>by kernel_rfl
 have i2:∀w:World,(Instr.index 402 (.agg #[.iface t0 v0,.iface t1 v1,.iface t2 v2,.iface t3 v3]) (.int .i64 2)).run prog w=.ok (.iface t2 v2) w:=fun _=>by kernel_rfl
 have i3:∀w:World,(Instr.index 402 (.agg #[.iface t0 v0,.iface t1 v1,.iface t2 v2,.iface t3 v3]) (.int .i64 3)).run prog w=.ok (.iface t3 v3) w:=fun _=>by kernel_rfl
 have X0:=(Blk.new (w.alloc (.cells #[.slice ao np cap] 26)) (p.cells h) 63).alloc (.cells #[.int .i64 n.op,.int .i64 n.a,.int .i64 n.b,.int .i64 n.c,.int .i64 n.d] 58);rw[nblk_alloc]at X0;have hF3:=hF.l (hb3 (.cells #[.slice ao np cap] 26) (.cells (p.cells h) 63) (.cells #[.int .i64 n.op,.int .i64 n.a,.int .i64 n.b,.int .i64 n.c,.int .i64 n.d] 58));unfold Nd.val Pd.cells at *;(try unfold Kw);go_in;go_wp2_with fail;refine(Bn n.op 1 42 _).mono ?_;rintro e w1 ⟨rfl,rfl⟩;rw[hop0];clear hop0;go_wp2_with fail;refine(HL.out _ hF3).mono ?_;rintro e w1 ⟨rfl,hw1⟩;have B1:=(hb3 _ _ _).trans (hw1.mono (by simp;omega));have X1:=X0.l hw1;have cx:w1.cell? ⟨w.heap.size+1,4,none⟩=some (.int .i64 p.regs):=X1.cell 4;have hl1:=X1.lt;clear X0 X1 hw1 hF3 hF;go_wp2;go_loopw [17] (fun y wr=>∃k:Nat,k<=4/\y=.int .i64 k/\Hid (Eo np p n=match k with|0=>(b0&&(b1&&(b2&&(b3&&true))))|1=>(b1&&(b2&&(b3&&true)))|2=>(b2&&(b3&&true))|3=>(b3&&true)|_=>true)/\Below w.heap.size w wr/\w.heap.size+1<wr.heap.size/\wr.cell? ⟨w.heap.size+1,4,none⟩=some (.int .i64 p.regs)) (fun y _=>4-(intOf y).toNat);case atStart=>exact⟨0,by omega,rfl,E0.out,B1,hl1,cx⟩
 case round=>
  obtain⟨k,hk,rfl,HQ,hb,hsz,cr⟩:=hrel;clear cx B1 hl1 HL E0;rcases (by omega:k=0∨k=1∨k=2∨k=3∨k=4) with rfl|rfl|rfl|rfl|rfl
  ·have HQ1:Hid (Eo np p n=(b0&&(b1&&(b2&&(b3&&true))))):=HQ.out;rcases d0 with rfl|rfl|rfl|rfl|rfl|rfl|rfl;all_goals
    go_wp2_with fail;refine(S0.out _).mono ?_;rintro e w2 ⟨rfl,hw2⟩;have B2:=hb.trans (hw2.mono hb.size);have cr2:=(Xm hw2).1 _ 4 hsz▸cr;have hsz2:=yF hsz hw2.size;cases b0
    ·go_wp2;go_ret;exact⟨Ac (by rw[HQ1.out];rfl),B2⟩
    ·go_wp2;go_roundw;case rel=>exact⟨1,by omega,rfl,HQ1.out,B2,hsz2,cr2⟩
     case measure=>simp[intOf]
  ·have HQ1:Hid (Eo np p n=(b1&&(b2&&(b3&&true)))):=HQ.out;rcases d1 with rfl|rfl|rfl|rfl|rfl|rfl|rfl;all_goals
    go_wp2_with fail;refine(S1.out _).mono ?_;rintro e w2 ⟨rfl,hw2⟩;have B2:=hb.trans (hw2.mono hb.size);have cr2:=(Xm hw2).1 _ 4 hsz▸cr;have hsz2:=yF hsz hw2.size;cases b1
    ·go_wp2;go_ret;exact⟨Ac (by rw[HQ1.out];rfl),B2⟩
    ·go_wp2;go_roundw;case rel=>exact⟨2,by omega,rfl,HQ1.out,B2,hsz2,cr2⟩
     case measure=>simp[intOf]
  ·have HQ1:Hid (Eo np p n=(b2&&(b3&&true))):=HQ.out;rcases d2 with rfl|rfl|rfl|rfl|rfl|rfl|rfl;all_goals
    go_wp2_with fail;refine(S2.out _).mono ?_;rintro e w2 ⟨rfl,hw2⟩;have B2:=hb.trans (hw2.mono hb.size);have cr2:=(Xm hw2).1 _ 4 hsz▸cr;have hsz2:=yF hsz hw2.size;cases b2
    ·go_wp2;go_ret;exact⟨Ac (by rw[HQ1.out];rfl),B2⟩
    ·go_wp2;go_roundw;case rel=>exact⟨3,by omega,rfl,HQ1.out,B2,hsz2,cr2⟩
     case measure=>simp[intOf]
  ·have HQ1:Hid (Eo np p n=(b3&&true)):=HQ.out;rcases d3 with rfl|rfl|rfl|rfl|rfl|rfl|rfl;all_goals
    go_wp2_with fail;refine(S3.out _).mono ?_;rintro e w2 ⟨rfl,hw2⟩;have B2:=hb.trans (hw2.mono hb.size);have cr2:=(Xm hw2).1 _ 4 hsz▸cr;have hsz2:=yF hsz hw2.size;cases b3
    ·go_wp2;go_ret;exact⟨Ac (by rw[HQ1.out];rfl),B2⟩
    ·go_wp2;go_roundw;case rel=>exact⟨4,by omega,rfl,HQ1.out,B2,hsz2,cr2⟩
     case measure=>simp[intOf]
  ·go_wp2;go_ret;exact⟨Ac HQ.out.symm,hb⟩
end Go.Proofs.YtbefeflgjipfhaaGreatDoor
