import Derived.Test.YtjbbppblgjhapaaGreatDoorJ05
import Derived.Test.YtjbbppblgjhapaaGreatDoorJ06
set_option maxRecDepth 100000
set_option maxHeartbeats 4000000
namespace Go.Proofs.YtjbbppblgjhapaaGreatDoor
open Go.Deep Go.Proofs.Tryz Go.RowKit
variable{arr:Array Value}{ts:List Int}{g i:Nat}{row:Option Nat}{t:TypeId}{a b:World}
attribute [local go_sem] Ac
def fz (x:Nat):Bool:=FloatKind.f64.format.order x 0==some .eq
def Fe (v:Vd) (n f s r:Bool):Bool:=(n||v.num==0)&&(f||fz v.flt)&&(s||v.str.toList.isEmpty)&&(r||v.ref==0)
theorem A5r (v:Vd) (n f s r:Bool) (w:World) :
  Kw 288 #[v.val,.bool n,.bool f,.bool s,.bool r] w (.bool (Fe v n f s r)):=by
 obtain⟨x0,x1,x2,x3,x4⟩:=v;dsimp only[Vd.val];unfold Kw;go_in;go_wp2_with fail;all_goals
  go_ret;refine⟨Ab ?_,(yA _ _).alloc (yB _) _⟩
  simp_all [Fe,fz]
def De (v:Vd):Bool:=
 if v.kind=0 then Fe v false false false false
 else if v.kind=1 then Fe v true false false false&&(v.num==0||v.num==1)
 else if v.kind=2 then Fe v true false false false
 else if v.kind=3 then Fe v false true false false
 else if v.kind=4 then Fe v false false true false&&decide ((v.str.size:Int)<=4000)
 else if v.kind=5∨v.kind=6∨v.kind=7 then Fe v false false false true&&decide (0<=v.ref)
 else if v.kind=8 then Fe v true false false false&&(decide (0<=v.num)&&decide (v.num<15))
 else false
theorem A7d (k:Int):k=0∨k=1∨k=2∨k=3∨k=4∨k=5∨k=6∨k=7∨k=8∨(k≠0/\k≠1/\k≠2/\k≠3/\k≠4/\k≠5/\k≠6/\k≠7/\k≠8):=by omega
theorem A1z (v:Vd) (w:World) :
  Kw 241 #[v.val] w (.bool (De v)):=by
 obtain⟨x0,x1,x2,x3,x4⟩:=v;have hl:∀(n f s r:Bool) (w:World),Hid (Kw 288 #[.agg #[x0,x1,.float .f64 x2,x3,x4],.bool n,.bool f,.bool s,.bool r] w (.bool (Fe ⟨x0,x1,x2,x3,x4⟩ n f s r))):=fun n f s r w=>A5r ⟨x0,x1,x2,x3,x4⟩ n f s r w;have hb1:∀o,Below w w (w.alloc o):=fun o=>(yA _ _).alloc (yB _) o;have X0:=Blk.new w #[x0,x1,.float .f64 x2,x3,x4] 210;dsimp only[Vd.val];rcases A7d x0 with rfl|rfl|rfl|rfl|rfl|rfl|rfl|rfl|rfl|hk
 rotate_right
 ·obtain⟨h0,h1,h2,h3,h4,h5,h6,h7,h8⟩:=hk;have k0:(x0==0)=false:=by simpa using h0
  have k1:(x0==1)=false:=by simpa using h1
  have k2:(x0==2)=false:=by simpa using h2
  have k3:(x0==3)=false:=by simpa using h3
  have k4:(x0==4)=false:=by simpa using h4
  have k5:(x0==5)=false:=by simpa using h5
  have k6:(x0==6)=false:=by simpa using h6
  have k7:(x0==7)=false:=by simpa using h7
  have k8:(x0==8)=false:=by simpa using h8
  unfold Kw;go_in;go_wp2;go_ret;exact⟨Ab (by simp[De,h0,h1,h2,h3,h4,h5,h6,h7,h8]),hb1 _⟩
 all_goals
  unfold Kw;go_in;go_wp2_with (go_at_call 288;refine(hl _ _ _ _ _).out.mono ?_;rintro e w1 ⟨rfl,hw1⟩;have y1:=(X0.l hw1).cell);all_goals
   go_ret;refine⟨Ab ?_,(hb1 _).trans (hw1.mono (by simp))⟩;clear y1 X0 hl hb1 hw1;first|(simp_all [De];done)|(simp_all [De];omega)
theorem Cw{c:World} (h:a.grownBy b row) (k:b.grownBy c row):a.grownBy c row:=
 ⟨k.os.trans h.os,k.tape.trans h.tape,k.output.trans h.output,yI h.size k.size,fun i hi hn=>(k.block i (yF hi h.size) hn).trans (h.block i hi hn)⟩
theorem Et (h:Below a a b) (row:Option Nat):a.grownBy b row:=⟨h.os,h.tape,h.output,h.size,fun i hi _=>h.block i hi⟩
theorem Am (h:Blk a g arr t) (hg:a.grownBy b row) (hn:some g≠row):Blk b g arr t:=(hg.block g h.lt hn).trans h
structure Ep (np:Nat) (p:Pd) (n:Nd):Prop where
 lo:1<=n.op
 hi:n.op<=42
 fit:Da np p (Bh n.op.toNat) n.fs=true
def Ey (n:Nd) (ts:List Int):List Int:=
 if n.op=6 then ts.set n.a.toNat 2
 else if n.op=22∨n.op=27∨n.op=28 then ts.set n.a.toNat 3
 else if n.op=40 then ts.set (n.a.toNat+1) 1
 else if n.op=42 then ts.set n.a.toNat 0
 else if n.op=41 then ts.set n.c.toNat 3
 else if (Bh n.op.toNat).getD 0 0=1 then ts.set n.a.toNat 1 else ts
theorem Aal {np:Nat} {p:Pd} {n:Nd} (h:Ep np p n) (h1:(Bh n.op.toNat).getD 0 0=1∨(Bh n.op.toNat).getD 0 0=21):0<=n.a/\n.a<p.regs:=by
 obtain⟨r0,r1,r2,r3,hr,_⟩:=Mh (n:=n.op.toNat) (by have:=h.lo;omega) (by have:=h.hi;omega);have hf:=h.fit;rw[hr]at hf h1;simp only[List.getD_cons_zero]at h1;simp only[Da,Nd.fs,yY]at hf;have h0:=hf.1;rcases h1 with rfl|rfl
 ·simp[Bg,inR]at h0;omega
 ·simp[Bg,inR]at h0;omega
theorem Dx (ts:List Int) (i:Nat) (x:Int):(Az ts).set i x=Az (ts.set i x):=by simp[Az,List.map_set]
theorem Co (h:i<ts.length):(Az ts)[i]?=some (.int .i64 (ts.getD i 0)):=by simp[Az,h]
theorem A3c (np:Nat) (p:Pd) (n:Nd) (v:Value) (base:Nat) (ts:List Int) (w:World) (hn:Ep np p n) (hl:(ts.length:Int)=p.regs) (hr:p.regs<=250) (hown:w.ownsRow base 3 1 v ts.length (Az ts)) :
  Calls prog 89 #[n.val,v] w fun e w'=>e=.returned (.tuple #[])/\w'.ownsRow base 3 1 v ts.length (Az (Ey n ts))/\w.grownBy w' v.ownBlock:=by
 have hf:=hn.fit;have ho1:=hn.lo;have ho2:=hn.hi;obtain⟨ao,cap,rfl⟩:=Aa hown;have hst:∀(i:Nat) (x:Int) (W:World),Below w w W->i<ts.length->∃g,ao=some ⟨g,0,none⟩/\W.cell? ⟨g,i,none⟩=some (.int .i64 (ts.getD i 0))/\W.frozen? ⟨g,i,none⟩=false/\
   (W.setCell (g,i) x).ownsRow base 3 1 (.slice ao ts.length cap) ts.length (Az (ts.set i x))/\w.grownBy (W.setCell (g,i) x) (Value.slice ao ts.length cap).ownBlock:=by
  intro i x W hW hi;rcases Ce hown with ⟨h1,h2⟩|⟨g,cap',h1,h2,h3⟩
  ·omega
  ·simp only[Value.slice.injEq]at h1;obtain⟨rfl,_,rfl⟩:=h1;have ho:=Ai hown hW;obtain⟨s1,s2⟩:=ho.stored i x;rw[Dx]at s1;exact⟨g,rfl,(ho.cellAt i (by omega)).trans (Co hi),ho.frozenAt i,s1,Cw (Et hW _) s2⟩
 have HST:Hid _:=hst;have HGR:Hid (∀W,Below w w W->W.ownsRow base 3 1 (.slice ao ts.length cap) ts.length (Az ts)/\w.grownBy W (Value.slice ao ts.length cap).ownBlock):=fun W hW=>⟨Ai hown hW,Et hW _⟩;have HI:Hid _:=@Aal np p n hn;obtain⟨op,a,b,c,d⟩:=n;dsimp only at *;obtain⟨opN,rfl⟩:∃k:Nat,op=k:=yN (by omega);simp only[Int.toNat_natCast]at *;unfold Nd.val;dsimp only;have hw:∀q:Nat,((opN:Int)=(q:Int)) ↔ opN=q:=fun q=>by omega
 clear hst hown;by_cases h6:opN=6
 ·subst h6;obtain⟨ha1,ha2⟩:=HI.out (by decide);obtain⟨aN,rfl⟩:=yN ha1;obtain⟨g,rfl,c1,f1,S1,S2⟩:=HST.out aN 2 (w.alloc (.cells #[(6:Int),aN,b,c,d] 81)) ((yA _ _).alloc (yB _) _) (by omega);clear HST HGR HI;have k1:(aN:Int)<ts.length:=by omega
  go_in;go_wp2_with fail;go_end0;exact⟨rfl,S1,S2⟩
 by_cases h22:opN=22
 ·subst h22;obtain⟨ha1,ha2⟩:=HI.out (by decide);obtain⟨aN,rfl⟩:=yN ha1;obtain⟨g,rfl,c1,f1,S1,S2⟩:=HST.out aN 3 (w.alloc (.cells #[(22:Int),aN,b,c,d] 81)) ((yA _ _).alloc (yB _) _) (by omega);clear HST HGR HI;have k1:(aN:Int)<ts.length:=by omega
  go_in;go_wp2_with fail;go_end0;exact⟨rfl,S1,S2⟩
 by_cases h27:opN=27
 ·subst h27;obtain⟨ha1,ha2⟩:=HI.out (by decide);obtain⟨aN,rfl⟩:=yN ha1;obtain⟨g,rfl,c1,f1,S1,S2⟩:=HST.out aN 3 (w.alloc (.cells #[(27:Int),aN,b,c,d] 81)) ((yA _ _).alloc (yB _) _) (by omega);clear HST HGR HI;have k1:(aN:Int)<ts.length:=by omega
  go_in;go_wp2_with fail;go_end0;exact⟨rfl,S1,S2⟩
 by_cases h28:opN=28
 ·subst h28;obtain⟨ha1,ha2⟩:=HI.out (by decide);obtain⟨aN,rfl⟩:=yN ha1;obtain⟨g,rfl,c1,f1,S1,S2⟩:=HST.out aN 3 (w.alloc (.cells #[(28:Int),aN,b,c,d] 81)) ((yA _ _).alloc (yB _) _) (by omega);clear HST HGR HI;have k1:(aN:Int)<ts.length:=by omega
  go_in;go_wp2_with fail;go_end0;exact⟨rfl,S1,S2⟩
 by_cases h42:opN=42
 ·subst h42;obtain⟨ha1,ha2⟩:=HI.out (by decide);obtain⟨aN,rfl⟩:=yN ha1;obtain⟨g,rfl,c1,f1,S1,S2⟩:=HST.out aN 0 (w.alloc (.cells #[(42:Int),aN,b,c,d] 81)) ((yA _ _).alloc (yB _) _) (by omega);clear HST HGR HI;have k1:(aN:Int)<ts.length:=by omega
  go_in;go_wp2_with fail;go_end0;exact⟨rfl,S1,S2⟩
 by_cases h40:opN=40
 ·subst h40;simp[Da,Nd.fs,Bh,Ed,Bg,inR]at hf;obtain⟨aN,rfl⟩:=yN hf.1.1;obtain⟨g,rfl,c1,f1,S1,S2⟩:=HST.out (aN+1) 1 (w.alloc (.cells #[(40:Int),aN,b,c,d] 81)) ((yA _ _).alloc (yB _) _) (by omega);clear HST HGR HI;have k1:(aN:Int)+1<ts.length:=by omega
  clear hf;go_in;go_wp2_with fail;go_end0;exact⟨rfl,S1,S2⟩
 by_cases h41:opN=41
 ·subst h41;simp[Da,Nd.fs,Bh,Ed,Bg,inR]at hf;obtain⟨cN,rfl⟩:=yN hf.2.2.1.1;obtain⟨g,rfl,c1,f1,S1,S2⟩:=HST.out cN 3 (w.alloc (.cells #[(41:Int),a,b,cN,d] 81)) ((yA _ _).alloc (yB _) _) (by omega);clear HST HGR HI;have k1:(cN:Int)<ts.length:=by omega
  clear hf;go_in;go_wp2_with fail;go_end0;exact⟨rfl,S1,S2⟩
 have hW:Ey ⟨opN,a,b,c,d⟩ ts=if (Bh opN).getD 0 0=1 then ts.set a.toNat 1 else ts:=by unfold Ey;dsimp only;rw[if_neg (by omega),if_neg (by omega),if_neg (by omega),if_neg (by omega),if_neg (by omega),Int.toNat_natCast]
 have HW:Hid _:=hW;clear hW;obtain⟨r0,r1,r2,r3,hro,_⟩:=Mh (n:=opN) (by omega) (by omega);rw[hro]at HW HI;have HR:Hid _:=fun W=>Nf opN r0 r1 r2 r3 W (by omega) (by omega) hro;have t1:((opN:Int)==6)=false:=by simp;omega
 have t2:((opN:Int)==22)=false:=by simp;omega
 have t3:((opN:Int)==27)=false:=by simp;omega
 have t4:((opN:Int)==28)=false:=by simp;omega
 have t5:((opN:Int)==40)=false:=by simp;omega
 have t6:((opN:Int)==41)=false:=by simp;omega
 have t7:((opN:Int)==42)=false:=by simp;omega
 clear hf hro hw h6 h22 h27 h28 h40 h41 h42;by_cases hr0:r0=1
 ·subst hr0;obtain⟨ha1,ha2⟩:=HI.out (Or.inl rfl);obtain⟨aN,rfl⟩:=yN ha1;have HW2:Hid (Ey ⟨opN,aN,b,c,d⟩ ts=ts.set aN 1):=HW.out;obtain⟨g,rfl,c1,f1,S1,S2⟩:=HST.out aN 1 ((w.alloc (.cells #[opN,aN,b,c,d] 81)).alloc (.cells #[(1:Int),r1,r2,r3] 3)) (((yA _ _).alloc (yB _) _).alloc (by simp) _) (by omega);have k1:(aN:Int)<ts.length:=by omega
  clear HI HW HST HGR;go_in;go_wp2_with fail;refine(HR.out _).mono ?_;rintro e w' ⟨rfl,rfl⟩;go_wp2_with fail;go_end0;refine⟨rfl,?_,S2⟩;rw[HW2.out];exact S1
 ·have HW2:Hid _:=HW.out.trans (if_neg hr0);have k0:((r0:Int)==1)=false:=by simp;omega
  obtain⟨S1,S2⟩:=HGR.out ((w.alloc (.cells #[opN,a,b,c,d] 81)).alloc (.cells #[r0,r1,r2,r3] 3)) (((yA _ _).alloc (yB _) _).alloc (by simp) _);clear HI HW HST HGR hr0;go_in;go_wp2_with fail;refine(HR.out _).mono ?_;rintro e w' ⟨rfl,rfl⟩;go_wp2_with fail;go_end0;refine⟨rfl,?_,S2⟩;rw[HW2.out];exact S1
end Go.Proofs.YtjbbppblgjhapaaGreatDoor
namespace Go.Proofs.YtjbbppblgjhapaaGreatDoor
open Go.Deep Go.Proofs.Tryz Go.RowKit
attribute [local go_sem] Oq Ot
theorem A2n (p1 p2:Option Addr) (d1 d2:Nat) (g1 g2:List Gd) (w:World) (l3:g1.length<=1048576) (h3:Bn 0 w p1 g1) (h4:Bn 0 w p2 g2) :
  Kw 182 #[.slice p1 g1.length d1,.slice p2 g2.length d2] w (.bool (decide (g1=g2))):=by
 unfold Kw;go_in;by_cases e2:g1.length=g2.length;rotate_left
 ·have k2:((g1.length:Int) !=g2.length)=true:=by simp;omega
  have HN:Hid (¬g1=g2):=fun h=>e2 (by rw[h]);clear e2;go_wp2;go_ret;exact⟨Ab (by simp[HN.out]),yA _ _⟩
 ·have k2:((g1.length:Int) !=g2.length)=false:=by simp;omega
  have E2:Hid (g1.length=g2.length):=e2;clear e2;go_wp2;go_loopw [13] (fun y wr=>∃k:Nat,k<=g1.length/\y=k/\Hid ((g1=g2) ↔ (g1.drop k=g2.drop k))/\Below w w wr) (fun y _=>g1.length-(intOf y).toNat);case atStart=>exact⟨0,yE _,rfl,Iff.rfl,yA _ _⟩
  case round=>
   obtain⟨k',hk',rfl,HQ,hb'⟩:=hrel;by_cases hkl2:k'<g1.length
   ·obtain⟨x,hxk⟩:=A8 hkl2;have hkl3:k'<g2.length:=by rw[←E2.out];exact hkl2
    obtain⟨y,hyk⟩:=A8 hkl3;obtain⟨b,off,rfl,_,hbl,q0,q1,q2⟩:=h3.l (A7.o hb') k' x hxk;obtain⟨b',off',rfl,_,hbl',q3,q4,q5⟩:=h4.l (A7.o hb') k' y hyk;have HD:Hid ((g1=g2) ↔ (x=y/\g1.drop (k'+1)=g2.drop (k'+1))):=HQ.out.trans (Jg hxk hyk);have k3:(k':Int)<g2.length:=by omega
    obtain⟨x0,x1,x2'⟩:=x;obtain⟨y0,y1,y2'⟩:=y;dsimp only at *;clear HQ h3 h4 hxk hyk;by_cases hxy:(⟨x0,x1,x2'⟩:Gd)=⟨y0,y1,y2'⟩
    ·have HN:Hid ((g1=g2) ↔ g1.drop (k'+1)=g2.drop (k'+1)):=by show _ ↔ _;rw[HD.out];exact⟨fun h=>h.2,fun h=>⟨hxy,h⟩⟩
     simp only[Gd.mk.injEq]at hxy;obtain⟨rfl,rfl,rfl⟩:=hxy;clear HD;go_wp2_with fail;go_quiet (fail);go_wp2;go_roundw;case rel=>exact⟨k'+1,by omega,by go_num,HN.out,below_drewN hb' _⟩
     case measure=>simp[intOf];omega
    ·have HN:Hid (¬g1=g2):=by intro h;exact hxy (HD.out.1 h).1
     have k4:(¬x0=y0)∨(x0=y0/\¬x1=y1)∨(x0=y0/\x1=y1/\¬x2'=y2'):=by simp only[Gd.mk.injEq]at hxy;by_cases z0:x0=y0<;>by_cases z1:x1=y1<;>by_cases z2:x2'=y2'<;>simp_all
     clear HD hxy;rcases k4 with k4|⟨rfl,k4⟩|⟨rfl,rfl,k4⟩
     ·have k5:(x0==y0)=false:=by simpa using k4
      go_wp2_with fail;go_quiet (fail);go_wp2;go_ret;exact⟨Ab (by simp[HN.out]),below_drewN hb' _⟩
     ·have k5:(x1==y1)=false:=by simpa using k4
      go_wp2_with fail;go_quiet (fail);go_wp2;go_ret;exact⟨Ab (by simp[HN.out]),below_drewN hb' _⟩
     ·have k5:(x2'==y2')=false:=by simpa using k4
      go_wp2_with fail;go_quiet (fail);go_wp2;go_ret;exact⟨Ab (by simp[HN.out]),below_drewN hb' _⟩
   ·have HG:Hid (g1=g2):=by show _=_;rw[HQ.out,yQ (by omega),yQ (by rw[←E2.out];omega)]
    clear HQ;go_wp2;go_ret;exact⟨Ab (by simp[HG.out]),hb'⟩
end Go.Proofs.YtjbbppblgjhapaaGreatDoor
namespace Go.Proofs.YtjbbppblgjhapaaGreatDoor
open Go.Deep Go.Proofs.Tryz Go.RowKit
variable{k t x:Int}{d l:List Bool}{gs:List Gd}{ts:List Int}{ps:List Pd}{at_ i np r:Nat}{n:Nd}{but:Option Nat}{p:Pd}
def Ex (n:Nd):Bool:=n.op !=19&&n.op !=29&&n.op !=30
theorem Na (n:Nd) (w:World) :
  Kw 178 #[n.val] w (.bool (Ex n)):=by
 obtain⟨x0,x1,x2,x3,x4⟩:=n;dsimp only[Nd.val];unfold Kw;go_in;go_wp2_with fail;all_goals
  go_ret;refine⟨Ab ?_,(yA _ _).alloc (yB _) _⟩
  simp_all [Ex]
def Hd (np:Nat) (p:Pd) (_:Nat) (n:Nd):Bool:=Gw np p n
def Ik (np:Nat) (p:Pd):Option Nat:=
 match Ak (Hd np p) 0 p.ins with
 | some i=>some i
 | none=>match p.ins.getLast? with
  | none=>some 0
  | some n=>if Ex n then some (p.ins.length-1) else none
theorem A5n (h:Ak (Hd np p) 0 p.ins=some i):Ik np p=some i:=by unfold Ik;rw[h]
theorem A5o (h:p.ins=[]):Ik np p=some 0:=by unfold Ik;rw[h];rfl
theorem A2w (h:Ak (Hd np p) 0 p.ins=none) (hn:p.ins[p.ins.length-1]?=some n):Ik np p=if Ex n then some (p.ins.length-1) else none:=by unfold Ik;rw[h,List.getLast?_eq_getElem?,hn]
theorem Ml (ao:Option Addr) (cap:Nat) (ps:List Pd) (i:Nat) (p:Pd) (w:World) (hi:ps[i]?=some p) (hz:Ie p) (hm:ps.length<=1048576) (hw:∀n∈p.ins,NdW n) (hr:0<=p.regs/\p.regs<=250) (hF:Hm w) (hv:Ad 0 w ao ps) :
  Calls prog 99 #[.agg #[.slice ao ps.length cap],i] w fun e w'=>(∃at_:Int,e=.returned (.tuple #[at_,.bool (Ik ps.length p).isNone])/\∀k,Ik ps.length p=some k->at_=k)/\Below w w w':=by
 have hlt:=(yD.1 hi).1;have hb2:∀o1 o2,Below w w ((w.alloc o1).alloc o2):=fun o1 o2=>((yA _ _).alloc (yB _) o1).alloc (by simp) o2;obtain⟨b,off,rfl,_,hbl,h,n1,i1⟩:=hv i p hi;have hn:=i1.ins;have hz3:=hz.ins;clear hv hi i1;have C0:=(Blk.new w #[.slice (some ⟨b,off,none⟩) ps.length cap] 31).alloc (.cells (p.cells h) 77);have X0:=Blk.new (w.alloc (.cells #[.slice (some ⟨b,off,none⟩) ps.length cap] 31)) (p.cells h) 77;rw[nblk_alloc]at X0;obtain⟨p0,p1,p2,p3,p4,p5,p6,p7,p8⟩:=n1;have HF:Hid (∀k m,p.ins[k]?=some m->Ak (Hd ps.length p) k (p.ins.drop k)=if Gw ps.length p m then Ak (Hd ps.length p) (k+1) (p.ins.drop (k+1)) else some k):=fun k m hm=>Fy hm;unfold Pd.cells at C0 X0;go_in;go_wp2;go_loopw [18] (fun y wr=>∃k:Nat,k<=p.ins.length/\y=k/\Hid (Ak (Hd ps.length p) k (p.ins.drop k)=Ak (Hd ps.length p) 0 p.ins)/\Below w w wr/\Blk wr (w:Nat) #[.slice (some ⟨b,off,none⟩) ps.length cap] 31/\Blk wr ((w:Nat)+1) #[p.name,p.line,p.params,.bool p.rest,p.regs,.slice h.uo p.ups.length h.uc,.slice h.co p.consts.length h.cc,.slice h.io p.ins.length h.ic,.slice h.no p.named.length h.nc] 77) (fun y _=>p.ins.length-(intOf y).toNat);case atStart=>exact⟨0,yE _,rfl,rfl,hb2 _ _,C0,X0⟩
 case round=>
  obtain⟨k,hk,rfl,HQ,hb,C1,X1⟩:=hrel;clear p0 p1 p2 p3 p4 p5 p6 p7 p8 C0 X0;have HF':Hid _:=hF.l hb;by_cases hkl:k<p.ins.length
  ·obtain⟨m,hmk⟩:=A8 hkl;obtain⟨b',off',e',_,hbl',q0,q1,q2,q3,q4⟩:=hn.l (A7.o hb) k m hmk;have HD:Hid _:=HQ.out.symm.trans (HF.out k m hmk);have hwm:=hw m (yH hmk);have hba:=fun o=>hb.alloc hb.size o;have HFa:Hid _:=fun o=>HF'.out.l ((yA _ _).alloc (yB _) o);have CA:Hid _:=fun o=>C1.alloc o;have XA:Hid _:=fun o=>X1.alloc o;have c1:=fun o=>(C1.alloc o).cell;have x1:=fun o=>(X1.alloc o).cell;have hio:=e';clear e' hn HQ HF hmk hw hF;obtain⟨uo,uc,co,cc,io,ic,no,nc⟩:=h;dsimp only at *;subst hio;go_wp2_with fail;refine(O9 (some ⟨b,off,none⟩) cap ps.length p ⟨uo,uc,co,cc,some ⟨b',off',none⟩,ic,no,nc⟩ m _ hwm hz hm hr (HFa.out _)).mono ?_;rintro e w1 ⟨rfl,hw1⟩;have B1:=(hba _).trans (hw1.mono (hba _).size);have C2:=(CA.out _).l hw1;have X2:=(XA.out _).l hw1;generalize Gw ps.length p m=fb at *;clear c1 x1 CA XA hw1 q0 q1 q2 q3 q4;cases fb
   ·have hib:=A5n (by rw[HD.out];rfl);have HI:Hid _:=hib;clear hib;go_wp2;go_ret2;exact⟨⟨k,by rw[HI.out];rfl,fun j hj=>by rw[HI.out]at hj;cases hj;rfl⟩,B1⟩
   ·go_wp2;go_roundw;case rel=>exact⟨k+1,by omega,by go_num,by show _=_;rw[HD.out];rfl,B1,C2,X2⟩
    case measure=>simp[intOf];omega
  ·have HN:Hid (Ak (Hd ps.length p) 0 p.ins=none):=by have h1:=HQ.out;rw[yQ (by omega)]at h1;exact h1.symm
   have x1:=X1.cell;by_cases h0:p.ins.length=0
   ·have HI:Hid (Ik ps.length p=some 0):=A5o (yW.1 h0);have hl0:(p.ins.length:Int)-1<0:=by omega
    clear hn HQ HF hw hF HF';go_wp2;go_ret2;exact⟨⟨0,by rw[HI.out];rfl,fun j hj=>by rw[HI.out]at hj;cases hj;rfl⟩,hb⟩
   ·obtain⟨m,hmk⟩:=A8 (l:=p.ins) (k:=p.ins.length-1) (by omega);obtain⟨b',off',e',_,hbl',q0,q1,q2,q3,q4⟩:=hn.l (A7.o hb) _ m hmk;have HI:Hid _:=A2w HN.out hmk;obtain⟨L,hL⟩:∃L,p.ins.length=L+1:=⟨p.ins.length-1,by omega⟩;rw[hL,Nat.add_sub_cancel]at q0 q1 q2 q3 q4 HI;have hi1:((p.ins.length:Int)-1)=(L:Int):=by omega
    have hi2:((L:Int)<(p.ins.length:Int)):=by omega
    have HLL:Hid _:=hL;have hio:=e';clear e' hn HQ HF hmk hw hF HF' hL h0;obtain⟨uo,uc,co,cc,io,ic,no,nc⟩:=h;dsimp only at *;subst hio;go_wp2_with fail;refine(Na m _).mono ?_;rintro e w1 ⟨rfl,hw1⟩;have B1:=hb.trans (hw1.mono hb.size);generalize Ex m=nb at *;clear q0 q1 q2 q3 q4 x1 hw1;cases nb
    ·go_wp2;go_ret2;exact⟨⟨L,by rw[HI.out];rfl,fun j hj=>by rw[HI.out]at hj;cases hj⟩,B1⟩
    ·go_wp2;go_ret2;exact⟨⟨L,by rw[HI.out];rfl,fun j hj=>by rw[HI.out]at hj;cases hj;rfl⟩,B1⟩
structure St where
 types:List Int
 guards:List Gd
 deriving DecidableEq
structure Rd where
 types:List Int
 stay:List Int
 taken:List Int
def Ca (ts:List Int) (x:Int):Int:=ts.getD x.toNat 0
def Hu (want x:Int) (s:Rd):Option Rd:=
 if Ca s.types (Bz x)=want then
  if x<0 then (if Bz x∈s.stay then none else some ⟨s.types.set (Bz x).toNat 0,s.stay,s.taken++[Bz x]⟩) else some s
 else none
def Dq (want x:Int) (s:Rd):Option Rd:=if Ca s.types x=want then some ⟨s.types,s.stay++[x],s.taken⟩ else none
def rdS (r:Nat) (x:Int) (s:Rd):Option Rd:=
 match r with
 | 2=>Hu 1 x s
 | 3=>Hu 3 x s
 | 4=>Dq 1 x s
 | 5=>Dq 2 x s
 | 6=>Dq 3 x s
 | 18=>if Ca s.types x=1/\Ca s.types (x+1)=1/\Ca s.types (x+2)=1 then some ⟨s.types,s.stay++[x],s.taken⟩ else none
 | 19=>if Ca s.types x=1/\Ca s.types (x+1)=0 then some ⟨s.types,s.stay++[x],s.taken++[x]⟩ else none
 | 20=>if Ca s.types x=1/\Ca s.types (x+1)=1 then some ⟨s.types,s.stay++[x],s.taken⟩ else none
 | _=>some s
def Ef:List Nat->List Int->Rd->Option Rd
 | r::rs,x::xs,s=>(rdS r x s).bind (Ef rs xs)
 | _,_,s=>some s
def Au (ts:List Int) (us:List Ud):Bool:=us.all fun u=>!(u.loc&&decide (Ca ts u.idx≠2))
def Cy (ps:List Pd) (n:Nd):List Ud:=if n.op=11 then (match ps[n.b.toNat]? with|some q=>q.ups|none=>[]) else []
def Fu (ps:List Pd) (n:Nd) (ts:List Int):Option (List Int×List Int):=
 match Ef (Bh n.op.toNat) n.fs ⟨ts,[],[]⟩ with
 | none=>none
 | some r=>if Au r.types (Cy ps n) then some (r.types,r.taken) else none
def Cz (gs:List Gd):Option Bool:=gs.getLast?.map Gd.tr
def Eu (gs:List Gd) (k:Int):List Gd:=gs.modify (gs.length-1) fun g=>⟨g.tr,k,g.hd⟩
def Aw (n:Nd) (gs:List Gd):Option (List Gd):=
 if n.op=31 then (if decide (gs.length<50)&&Dt gs n.b then some (gs++[⟨true,n.b,n.a⟩]) else none)
 else if n.op=33 then (if decide (gs.length<50)&&Dt gs n.a then some (gs++[⟨false,n.a,0⟩]) else none)
 else if n.op=32 then (if Cz gs=some true then some gs.dropLast else none)
 else if n.op=34 then (if Cz gs=some false/\Dt gs n.a=true then some (Eu gs n.a) else none)
 else if n.op=35 then (if Cz gs=some false then some gs else none)
 else if n.op=36 then (if Cz gs=some false then some gs.dropLast else none)
 else some gs
def Dr (k:Int) (b a:List Int):Bool:=decide (b.take k.toNat=a.take k.toNat)
def Di (k:Int) (taken:List Int):Bool:=taken.all fun x=>!decide (x<k)
def Gs (e:Bool) (taken b a:List Int):List Gd->Bool
 | []=>true
 | g::r=>(!g.tr||(Di g.keep taken&&((e&&r.isEmpty)||Dr g.keep b a)))&&Gs e taken b a r
def Tc (n:Nd) (gs:List Gd) (taken b a:List Int):Bool:=Gs (n.op==32) taken b a gs
def Px (k:Int) (ts:List Int):List Int:=((ts.take k.toNat++List.replicate (ts.length-k.toNat) 0).set k.toNat 1).set (k.toNat+1) 1
def goF (n:Nd) (s:St) (ts:List Int) (gs:List Gd):List (Nat×St):=
 if n.op=19 then [(n.a.toNat,⟨ts,gs⟩)]
 else if n.op=20∨n.op=21∨n.op=38∨n.op=39 then [(n.b.toNat,⟨ts,gs⟩)]
 else if n.op=41 then [(n.b.toNat,⟨ts.set n.c.toNat (Ca s.types n.c),gs⟩)]
 else if n.op=31 then [(n.a.toNat,⟨Px n.b s.types,s.guards⟩)]
 else []
def Fg (n:Nd) (at_:Nat) (s:St) (ts:List Int) (gs:List Gd):List (Nat×St):=(if Ex n then [(at_+1,⟨ts,gs⟩)] else [])++goF n s ts gs
inductive Out where
 | bad (code:Nat)
 | go (l:List (Nat×St))
def Li (ps:List Pd) (n:Nd) (at_:Nat) (s:St):Out:=
 match Fu ps n s.types with
 | none=>.bad 10
 | some (t1,tk)=>match Aw n s.guards with
  | none=>.bad 11
  | some gs=>if Tc n s.guards tk s.types (Ey n t1) then .go (Fg n at_ s (Ey n t1) gs) else .bad 12
structure Cf where
 sts:List (Option St)
 due:List Bool
def Cf.st (c:Cf) (i:Nat):Option St:=c.sts.getD i none
def Cu (c:Cf) (x:Nat) (s:St):Option Cf:=
 match c.st x with
 | none=>some ⟨c.sts.set x (some s),c.due.set x true⟩
 | some t=>if t=s then some c else none
def Al:Cf->List (Nat×St)->Except (Nat×Nat) Cf
 | c,[]=>.ok c
 | c,(x,s)::r=>match Cu c x s with
  | none=>.error (13,x)
  | some c'=>Al c' r
def Dh (due:List Bool):Option Nat:=due.findIdx? id
def He (ps:List Pd) (p:Pd) (c:Cf) (at_:Nat):Except (Nat×Nat) Cf:=
 match p.ins[at_]?,c.st at_ with
 | some n,some s=>match Li ps n at_ s with
  | .bad k=>.error (k,at_)
  | .go l=>Al ⟨c.sts,c.due.set at_ false⟩ l
 | _,_=>.ok ⟨c.sts,c.due.set at_ false⟩
def Gu (ps:List Pd) (p:Pd):Nat->Cf->Except (Nat×Nat) Cf
 | 0,c=>.ok c
 | f+1,c=>match Dh c.due with
  | none=>.ok c
  | some i=>match He ps p c i with
   | .error e=>.error e
   | .ok c'=>Gu ps p f c'
def Dz (p:Pd):List Int:=
 let ts:=List.replicate p.params.toNat 1++List.replicate (p.regs.toNat-p.params.toNat) 0
 if p.rest then ts.set p.params.toNat 3 else ts
def Dc (p:Pd):Cf:=⟨(List.replicate p.ins.length none).set 0 (some ⟨Dz p,[]⟩),(List.replicate p.ins.length false).set 0 true⟩
structure Rp (p:Pd) (s:St):Prop where
 len:(s.types.length:Int)=p.regs
 few:s.guards.length<=50
 keep:∀g∈s.guards,0<=g.keep/\g.keep<=p.regs
def Lh (n:Nd) (at_:Nat):List Nat:=
 if n.op=1∨n.op=3∨n.op=28∨n.op=29∨n.op=30 then []
 else if n.op=18/\n.b=12 then []
 else if n.op=19 then [n.a.toNat]
 else if n.op=41 then [n.b.toNat]
 else if n.op=20∨n.op=21∨n.op=38∨n.op=39 then [n.b.toNat,at_+1]
 else if n.op=31 then [n.a.toNat,at_+1]
 else [at_+1]
structure Oz (np:Nat) (p:Pd):Prop where
 regs:0<=p.regs/\p.regs<=250
 fit:∀(i:Nat) (n:Nd),p.ins[i]?=some n->Ep np p n
 next:∀(i:Nat) (n:Nd),p.ins[i]?=some n->Ex n=true->i+1<p.ins.length
 some:0<p.ins.length
 params:0<=p.params/\p.params<=p.regs/\(p.rest=true->p.params<p.regs)
structure L6 (p:Pd) (c:Cf):Prop where
 lenS:c.sts.length=p.ins.length
 lenD:c.due.length=p.ins.length
 ok:∀i s,c.st i=some s->Rp p s
 due:∀i,c.due.getD i false=true->(c.st i).isSome=true
def Hl (p:Pd) (c:Cf) (but:Option Nat):Prop:=∀i n,p.ins[i]?=some n->(c.st i).isSome=true->c.due.getD i false=false->some i≠but->∀j∈Lh n i,(c.st j).isSome=true
theorem Si (c:Cf) (x i:Nat) (s:St) (d:List Bool):(Cf.mk (c.sts.set x (some s)) d).st i=if x=i/\x<c.sts.length then some s else c.st i:=by
 unfold Cf.st;simp only[yR,List.getElem?_set];by_cases h:x=i
 ·subst h;by_cases h2:x<c.sts.length
  ·simp[h2]
  ·simp[h2]
 ·simp[h]
theorem Ko (d:List Bool) (x i:Nat) (b:Bool):(d.set x b).getD i false=if x=i/\x<d.length then b else d.getD i false:=by
 simp only[yR,List.getElem?_set];by_cases h:x=i
 ·subst h;by_cases h2:x<d.length
  ·simp[h2]
  ·simp[h2]
 ·simp[h]
def Py (l:List (Option St)):Nat:=(l.filter fun o=>o.isNone).length
def Tu (l:List Bool):Nat:=(l.filter id).length
def Cf.meas (c:Cf):Nat:=2*Py c.sts+Tu c.due
theorem A6o {l:List (Option St)} {x:Nat} {s:St} (hx:x<l.length) (hn:l.getD x none=none):Py (l.set x (some s))+1=Py l:=by
 induction l generalizing x with
 | nil=>simp at hx
 | cons a r ih=>
  cases x with
  | zero=>simp at hn;subst hn;simp[Py]
  | succ x=>
   simp at hx hn;have:=ih (x:=x) hx (by simpa using hn);cases a<;>simp[Py]at *<;>omega
theorem Yp {l:List Bool} {x:Nat} : Tu (l.set x true)<=Tu l+1:=by
 induction l generalizing x with
 | nil=>simp[Tu]
 | cons a r ih=>
  cases x with
  | zero=>cases a<;>simp[Tu]
  | succ x=>
   have:=ih (x:=x);cases a<;>simp[Tu]at *<;>omega
theorem A58 {x:Nat} (h:l.getD x false=true):Tu (l.set x false)+1=Tu l:=by
 induction l generalizing x with
 | nil=>simp at h
 | cons a r ih=>
  cases x with
  | zero=>simp at h;subst h;simp[Tu]
  | succ x=>
   have:=ih (x:=x) (by simpa using h);cases a<;>simp[Tu]at *<;>omega
theorem A6c {c c':Cf} {x:Nat} {s:St} (hc:L6 p c) (hx:x<p.ins.length) (h:Cu c x s=some c'):c'.meas<=c.meas:=by
 unfold Cu at h;split at h
 ·rename_i hn;obtain rfl:=yO h;have:=A6o (s:=s) (by rw[hc.lenS];exact hx) hn;have:=@Yp c.due x;unfold Cf.meas;dsimp only;omega
 ·split at h
  ·obtain rfl:=yO h;exact yB _
  ·cases h
theorem Wh {c c':Cf} {x:Nat} {s:St} (hc:L6 p c) (hs:Rp p s) (h:Cu c x s=some c'):L6 p c':=by
 unfold Cu at h;split at h
 ·obtain rfl:=yO h;refine⟨by simp[hc.lenS],by simp[hc.lenD],?_,?_⟩
  ·intro i t hi;rw[Si]at hi;split at hi
   ·obtain rfl:=yO hi;exact hs
   ·exact hc.ok i t hi
  ·intro i hi;rw[Si];rw[Ko]at hi;split
   ·rfl
   ·rename_i hn;rw[if_neg (by rw[hc.lenD,←hc.lenS];exact hn)]at hi;exact hc.due i hi
 ·split at h
  ·obtain rfl:=yO h;exact hc
  ·cases h
theorem A1c {c c':Cf} {x:Nat} {s:St} (hc:L6 p c) (hx:x<p.ins.length) (hk:Hl p c but) (h:Cu c x s=some c') :
  Hl p c' but/\(c'.st x).isSome=true/\∀i,(c.st i).isSome=true->(c'.st i).isSome=true:=by
 unfold Cu at h;split at h
 ·obtain rfl:=yO h;have hx2:x<c.sts.length:=by rw[hc.lenS];exact hx
  have hm:∀i,(c.st i).isSome=true->((Cf.mk (c.sts.set x (some s)) (c.due.set x true)).st i).isSome=true:=by
   intro i hi;rw[Si];split
   ·rfl
   ·exact hi
  refine⟨?_,by rw[Si];simp[hx2],hm⟩;intro i n hn hi hd hb j hj;rw[Ko]at hd;rw[Si]at hi;by_cases hxi:x=i/\x<c.sts.length
  ·rw[if_pos (by rw[hc.lenD];exact⟨hxi.1,hx⟩)]at hd;cases hd
  ·rw[if_neg hxi]at hi;rw[if_neg (by rw[hc.lenD,←hc.lenS];exact hxi)]at hd;exact hm j (hk i n hn hi hd hb j hj)
 ·rename_i t ht;split at h
  ·obtain rfl:=yO h;exact⟨hk,by rw[ht];rfl,fun i hi=>hi⟩
  ·cases h
def A1v (p:Pd) (l:List (Nat×St)):Prop:=∀x∈l,x.1<p.ins.length/\Rp p x.2
theorem Yr : ∀{l:List (Nat×St)} {c c':Cf},L6 p c->A1v p l->Hl p c but->Al c l=.ok c'->
  L6 p c'/\c'.meas<=c.meas/\Hl p c' but/\(∀x∈l,(c'.st x.1).isSome=true)/\∀i,(c.st i).isSome=true->(c'.st i).isSome=true
 | [],c,c',hc,_,hk,h=>by
  unfold Al at h;obtain rfl:=Except.ok.inj h;exact⟨hc,yB _,hk,fun x hx=>by simp at hx,fun i hi=>hi⟩
 | (x,s)::r,c,c',hc,hf,hk,h=>by
  unfold Al at h;cases hr:Cu c x s with
  | none=>rw[hr]at h;cases h
  | some c1=>
   rw[hr]at h;have hx:=hf (x,s) (by simp);obtain⟨k1,k2,k3⟩:=A1c hc hx.1 hk hr;obtain⟨o1,o2,o3,o4,o5⟩:=Yr (Wh hc hx.2 hr) (fun y hy=>hf y (by simp[hy])) k1 h;refine⟨o1,yI o2 (A6c hc hx.1 hr),o3,?_,fun i hi=>o5 i (k3 i hi)⟩;intro y hy;rcases List.mem_cons.1 hy with rfl|hy
   ·exact o5 _ k2
   ·exact o4 y hy
theorem Adk {s s':Rd} (h:rdS r x s=some s'):s'.types.length=s.types.length:=by
 unfold rdS at h;have hop:∀w,Hu w x s=some s'->s'.types.length=s.types.length:=by
  intro w h;unfold Hu at h;split at h
  ·split at h
   ·split at h
    ·cases h
    ·obtain rfl:=yO h;simp
   ·obtain rfl:=yO h;rfl
  ·cases h
 have hpl:∀w,Dq w x s=some s'->s'.types.length=s.types.length:=by
  intro w h;unfold Dq at h;split at h
  ·obtain rfl:=yO h;rfl
  ·cases h
 split at h
 ·exact hop _ h
 ·exact hop _ h
 ·exact hpl _ h
 ·exact hpl _ h
 ·exact hpl _ h
 ·split at h
  ·obtain rfl:=yO h;rfl
  ·cases h
 ·split at h
  ·obtain rfl:=yO h;rfl
  ·cases h
 ·split at h
  ·obtain rfl:=yO h;rfl
  ·cases h
 ·obtain rfl:=yO h;rfl
theorem A44:∀{rs:List Nat} {xs:List Int} {s s':Rd},Ef rs xs s=some s'->s'.types.length=s.types.length
 | [],_,s,s',h=>by unfold Ef at h;obtain rfl:=yO h;rfl
 | _::_,[],s,s',h=>by unfold Ef at h;obtain rfl:=yO h;rfl
 | r::rs,x::xs,s,s',h=>by
  unfold Ef at h;cases h1:rdS r x s with
  | none=>rw[h1]at h;cases h
  | some s1=>
   rw[h1]at h;exact(A44 h).trans (Adk h1)
theorem Za{t1 tk:List Int} (h:Fu ps n ts=some (t1,tk)):t1.length=ts.length:=by
 unfold Fu at h;split at h
 ·cases h
 ·rename_i r hr;split at h
  ·simp at h;rw[←h.1];exact A44 hr
  ·cases h
theorem Wy (n:Nd) (ts:List Int):(Ey n ts).length=ts.length:=by unfold Ey;repeat (first|split|simp)
theorem Hr (h:Ep np p n) :
  (n.op=31->(0<=n.a/\n.a<p.ins.length)/\0<=n.b/\n.b+2<=p.regs)/\(n.op=33∨n.op=34->0<=n.a/\n.a<=p.regs)/\(n.op=19->0<=n.a/\n.a<p.ins.length)/\
  (n.op=20∨n.op=21∨n.op=38∨n.op=39∨n.op=41->0<=n.b/\n.b<p.ins.length)/\(n.op=41->0<=n.c/\n.c<p.regs)/\(n.op=11->0<=n.b/\n.b<np):=by
 have hf:=h.fit;obtain⟨op,a,b,c,d⟩:=n;dsimp only at *;refine⟨?_,?_,?_,?_,?_,?_⟩
 ·rintro rfl;simp[Da,Nd.fs,Bh,Ed,Bg,inR]at hf;omega
 ·rintro(rfl|rfl)<;>(simp[Da,Nd.fs,Bh,Ed,Bg,inR]at hf;omega)
 ·rintro rfl;simp[Da,Nd.fs,Bh,Ed,Bg,inR]at hf;omega
 ·rintro(rfl|rfl|rfl|rfl|rfl)<;>(simp[Da,Nd.fs,Bh,Ed,Bg,inR]at hf;omega)
 ·rintro rfl;simp[Da,Nd.fs,Bh,Ed,Bg,inR]at hf;omega
 ·rintro rfl;simp[Da,Nd.fs,Bh,Ed,Bg,inR]at hf;omega
theorem Uq{gs':List Gd} (hn:Ep np p n) (hl:gs.length<=50) (hk:∀g∈gs,0<=g.keep/\g.keep<=p.regs) (h:Aw n gs=some gs') :
  gs'.length<=50/\∀g∈gs',0<=g.keep/\g.keep<=p.regs:=by
 obtain⟨f1,f2,_⟩:=Hr hn;unfold Aw at h;split at h
 ·rename_i ho;have:=(f1 ho).2;split at h
  ·rename_i hb;simp at hb;obtain rfl:=yO h;refine⟨by simp;omega,?_⟩;intro g hg;rcases yZ.1 hg with hg|hg
   ·exact hk g hg
   ·simp at hg;subst hg;dsimp only;omega
  ·cases h
 split at h
 ·rename_i ho;have:=f2 (.inl ho);split at h
  ·rename_i hb;simp at hb;obtain rfl:=yO h;refine⟨by simp;omega,?_⟩;intro g hg;rcases yZ.1 hg with hg|hg
   ·exact hk g hg
   ·simp at hg;subst hg;dsimp only;omega
  ·cases h
 split at h
 ·split at h
  ·obtain rfl:=yO h;exact⟨by simp;omega,fun g hg=>hk g ((List.dropLast_sublist gs).subset hg)⟩
  ·cases h
 split at h
 ·rename_i ho;have:=f2 (.inr ho);split at h
  ·obtain rfl:=yO h;refine⟨by unfold Eu;simp;omega,?_⟩;intro g hg;unfold Eu at hg;obtain⟨i,hi⟩:=List.getElem?_of_mem hg;rw[List.getElem?_modify]at hi;cases hgi:gs[i]? with
   | none=>rw[hgi]at hi;simp at hi
   | some q=>
    rw[hgi]at hi;simp at hi;split at hi
    ·subst hi;dsimp only;omega
    ·subst hi;exact hk q (yH hgi)
  ·cases h
 split at h
 ·split at h
  ·obtain rfl:=yO h;exact⟨hl,hk⟩
  ·cases h
 split at h
 ·split at h
  ·obtain rfl:=yO h;exact⟨by simp;omega,fun g hg=>hk g ((List.dropLast_sublist gs).subset hg)⟩
  ·cases h
 ·obtain rfl:=yO h;exact⟨hl,hk⟩
theorem A4q (h:k.toNat<=ts.length):(Px k ts).length=ts.length:=by unfold Px;simp;omega
theorem Acz {s:St} (hn:Ep np p n) (hx:Ex n=true->at_+1<p.ins.length) (hs:Rp p s) (hb:Rp p ⟨ts,gs⟩):A1v p (Fg n at_ s ts gs):=by
 obtain⟨f1,_,f3,f4,f5,_⟩:=Hr hn;intro x hm;unfold Fg at hm;rcases yZ.1 hm with hm|hm
 ·split at hm
  ·rename_i h;simp at hm;subst hm;exact⟨hx h,hb⟩
  ·simp at hm
 ·unfold goF at hm;split at hm
  ·rename_i ho;simp at hm;subst hm;have:=f3 ho;exact⟨by dsimp only;omega,hb⟩
  split at hm
  ·rename_i ho;simp at hm;subst hm;have:=f4 (by omega);exact⟨by dsimp only;omega,hb⟩
  split at hm
  ·rename_i ho;simp at hm;subst hm;have:=f4 (by omega);refine⟨by dsimp only;omega,⟨?_,hb.few,hb.keep⟩⟩;have:=hb.len;simpa using this
  split at hm
  ·rename_i ho;simp at hm;subst hm;have:=f1 ho;have:=hs.len;refine⟨by dsimp only;omega,⟨?_,hs.few,hs.keep⟩⟩;dsimp only;rw[A4q (by omega)];exact this
  ·simp at hm
theorem A7q{j:Nat} (s:St) (ts:List Int) (gs:List Gd) (h:j∈Lh n at_):∃x∈Fg n at_ s ts gs,x.1=j:=by
 obtain⟨op,a,b,c,d⟩:=n;unfold Lh at h;unfold Fg goF Ex;dsimp only at *;split at h
 ·simp at h
 split at h
 ·simp at h
 split at h
 ·rename_i ho;subst ho;simp at h;subst h;simp
 split at h
 ·rename_i ho;subst ho;simp at h;subst h;simp
 split at h
 ·rename_i ho;rcases ho with rfl|rfl|rfl|rfl<;>(simp at h;rcases h with rfl|rfl<;>simp)
 split at h
 ·rename_i ho;subst ho;simp at h;rcases h with rfl|rfl<;>simp
 ·rename_i h1 h2 h3 h4 h5 h6;simp at h;subst h;have:(op !=19&&op !=29&&op !=30)=true:=by simp;omega
  rw[this];simp
theorem A7s {s:St} {l:List (Nat×St)} (hn:Ep np p n) (hx:Ex n=true->at_+1<p.ins.length) (hs:Rp p s) (h:Li ps n at_ s=.go l) :
  A1v p l/\∀j∈Lh n at_,∃x∈l,x.1=j:=by
 unfold Li at h;split at h
 ·cases h
 ·rename_i t1 tk hr;split at h
  ·cases h
  ·rename_i gs hg;split at h
   ·obtain rfl:=Out.go.inj h;obtain⟨g1,g2⟩:=Uq hn hs.few hs.keep hg;refine⟨Acz hn hx hs ⟨?_,g1,g2⟩,fun j hj=>A7q _ _ _ hj⟩;have:=Za hr;have:=hs.len;rw[Wy];omega
   ·cases h
theorem Om (h:Dh d=some i):i<d.length/\d.getD i false=true/\∀j,j<i->d.getD j false=false:=by unfold Dh at h;rw[List.findIdx?_eq_some_iff_getElem]at h;obtain⟨h1,h2,h3⟩:=h;refine⟨h1,by simpa[List.getD_eq_getElem?_getD,h1]using h2,?_⟩;intro j hj;have:=h3 j hj;simpa[List.getD_eq_getElem?_getD,show j<d.length by omega]using this
theorem Xx (h:Dh d=none):∀i,d.getD i false=false:=by
 intro i;unfold Dh at h;rw[List.findIdx?_eq_none_iff]at h;rw[yR];cases hi:d[i]? with
 | none=>rfl
 | some b=>
  have:=h b (yH hi);simpa using this
theorem Pf {c:Cf} (hc:L6 p c) (hk:Hl p c none):L6 p ⟨c.sts,c.due.set i false⟩/\Hl p ⟨c.sts,c.due.set i false⟩ (some i):=by
 refine⟨⟨hc.lenS,by simp[hc.lenD],hc.ok,?_⟩,?_⟩
 ·intro j hj;dsimp only at hj;rw[Ko]at hj;split at hj
  ·cases hj
  ·exact hc.due j hj
 ·intro j n hn hi hd hb k hk2;dsimp only at hd;rw[Ko]at hd;rw[if_neg (by intro hh;exact hb (by rw[hh.1]))]at hd;exact hk j n hn hi hd (by simp) k hk2
theorem A48 {c c':Cf} (hp:Oz np p) (hc:L6 p c) (hk:Hl p c none) (hi:Dh c.due=some i) (h:He ps p c i=.ok c') :
  L6 p c'/\Hl p c' none/\c'.meas<c.meas:=by
 obtain⟨h1,h2,_⟩:=Om hi;obtain⟨k1,k2⟩:=Pf (i:=i) hc hk;have hm:(Cf.mk c.sts (c.due.set i false)).meas<c.meas:=by unfold Cf.meas;have:=A58 h2;dsimp only;omega
 unfold He at h;split at h
 ·rename_i n s hn hs;split at h
  ·cases h
  ·rename_i l hl;obtain⟨f1,f2⟩:=A7s (hp.fit i n hn) (hp.next i n hn) (hc.ok i s hs) hl;obtain⟨o1,o2,o3,o4,o5⟩:=Yr k1 f1 k2 h;refine⟨o1,?_,Nat.lt_of_le_of_lt o2 hm⟩;intro j m hj hst hd _ k hkm;by_cases hji:j=i
   ·subst hji;rw[hn]at hj;obtain rfl:=yO hj;obtain⟨x,hx,rfl⟩:=f2 k hkm;exact o4 x hx
   ·exact o3 j m hj hst hd (by simpa using hji) k hkm
 ·rename_i hno;exfalso;have hil:i<p.ins.length:=by rw[←hc.lenD];exact h1
  obtain⟨n,hn⟩:=A8 hil;obtain⟨s,hs⟩:=Option.isSome_iff_exists.1 (hc.due i h2);exact hno n s hn hs
theorem Re {rd:Rd} (h:¬Ca rd.types (Bz x)=t):Hu t x rd=none:=by unfold Hu;rw[if_neg h]
theorem Sb {rd:Rd} (h:Ca rd.types (Bz x)=t) (hx:¬x<0):Hu t x rd=some rd:=by unfold Hu;rw[if_pos h,if_neg hx]
theorem Ps {rd:Rd} (h:Ca rd.types (Bz x)=t) (hx:x<0) (hs:Bz x∈rd.stay):Hu t x rd=none:=by unfold Hu;rw[if_pos h,if_pos hx,if_pos hs]
theorem Pt {rd:Rd} (h:Ca rd.types (Bz x)=t) (hx:x<0) (hs:¬Bz x∈rd.stay):Hu t x rd=some ⟨rd.types.set (Bz x).toNat 0,rd.stay,rd.taken++[Bz x]⟩:=by unfold Hu;rw[if_pos h,if_pos hx,if_neg hs]
theorem A6b {rd:Rd} (h:¬Ca rd.types x=t):Dq t x rd=none:=by unfold Dq;rw[if_neg h]
theorem A43 {rd:Rd} (h:Ca rd.types x=t):Dq t x rd=some ⟨rd.types,rd.stay++[x],rd.taken⟩:=by unfold Dq;rw[if_pos h]
def Sil (ins:List Nd) (a b:Nat):Prop:=∃n,ins[a]?=some n/\b∈Lh n a
end Go.Proofs.YtjbbppblgjhapaaGreatDoor
