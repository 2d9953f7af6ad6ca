import Derived.Deep.LoopGhost
import Derived.Laws.StructEq
import Derived.Lib.SliceRun
import Derived.Lib.Walk
import Derived.Maps.AppendAt
import Derived.Test.YtjbbppblgjhapaaGreatDoorJ02
set_option maxRecDepth 100000
set_option maxHeartbeats 4000000
namespace Go.Proofs.YtjbbppblgjhapaaGreatDoor
open Go.Deep Go.Proofs.Tryz Go.RowKit
variable{x:Int}{xs:List Int}{rs:List Nat}{n np:Nat}{p:Pd}
def Da (np:Nat) (p:Pd):List Nat->List Int->Bool
 | r::rs,x::xs=>Bg np p r x&&Da np p rs xs
 | _,_=>true
def Nd.fs (n:Nd):List Int:=[n.a,n.b,n.c,n.d]
def Qs (p:Pd) (i:Nat) (n:Nd):Bool:=!decide (i+1=p.ins.length)||(n.op==19||n.op==29||n.op==30)
def U8 (np:Nat) (p:Pd) (i:Nat) (n:Nd):Bool:=inR n.op 1 42&&(Da np p (Bh n.op.toNat) n.fs&&Qs p i n)
theorem Mh (h1:1<=n) (h2:n<=42):∃r0 r1 r2 r3,Bh n=[r0,r1,r2,r3]/\r0<=21/\r1<=21/\r2<=21/\r3<=21:=by
 have h:∀k,k<43->1<=k->(Bh k).length=4/\∀r∈Bh k,r<=21:=by decide
 obtain⟨hl,hr⟩:=h n (by omega) h1
 match hm:Bh n,hl,hr with
 | [r0,r1,r2,r3],_,hr=>exact⟨r0,r1,r2,r3,rfl,hr _ (by simp),hr _ (by simp),hr _ (by simp),hr _ (by simp)⟩
theorem A0i (n:Nd) (w:World) :
  Calls prog 169 #[n.val] w fun e w'=>∃g,e=.returned (.slice (some ⟨g,0,none⟩) 4 4)/\Blk w' g #[n.a,n.b,n.c,n.d] 3/\Below w w w':=by
 obtain⟨x0,x1,x2,x3,x4⟩:=n;dsimp only[Nd.val];go_in;go_wp2;go_ret;refine⟨(w:Nat)+1,rfl,?_,((yA _ _).alloc (yB _) _).alloc (by simp) _⟩;have:=Blk.new (w.alloc (.cells #[x0,x1,x2,x3,x4] 81)) #[x1,x2,x3,x4] 3
 rwa [nblk_alloc]at this
theorem A0k (op:Int) (w:World) (h:inR op 1 42=false) :
  Calls prog 168 #[op] w fun e w'=>e=.returned nS/\w'=w:=by
 have hk:∀c:Int,1<=c->c<=42->(op==c)=false:=by intro c h1 h2;simp[inR]at h;simp;rintro rfl;have:=h h1;omega
 clear h;go_in;go_wp2;go_ret;exact⟨rfl,rfl⟩
theorem Aak {k r:Nat} (h1:rs[k]?=some r) (h2:xs[k]?=some x):Da np p (rs.drop k) (xs.drop k)=(Bg np p r x&&Da np p (rs.drop (k+1)) (xs.drop (k+1))):=by rw[Ao h1,Ao h2];rfl
theorem A78 (r0 r1 r2 r3:Nat) (n:Nd) (k:Nat) (hk:k<4) (g0:r0<=21) (g1:r1<=21) (g2:r2<=21) (g3:r3<=21):∃(r:Nat) (x:Int),r<=21/\[r0,r1,r2,r3][k]?=some r/\n.fs[k]?=some x/\
  (#[r0,r1,r2,r3]:Array Value)[k]?=some (r:Value)/\(#[n.a,n.b,n.c,n.d]:Array Value)[k]?=some (x:Value):=by
 rcases (by omega:k=0∨k=1∨k=2∨k=3) with rfl|rfl|rfl|rfl
 ·exact⟨r0,n.a,g0,rfl,rfl,rfl,rfl⟩
 ·exact⟨r1,n.b,g1,rfl,rfl,rfl,rfl⟩
 ·exact⟨r2,n.c,g2,rfl,rfl,rfl,rfl⟩
 ·exact⟨r3,n.d,g3,rfl,rfl,rfl,rfl⟩
theorem A37 (ao:Option Addr) (cap:Nat) (ps:List Pd) (i:Nat) (p:Pd) (j:Nat) (n:Nd) (w:World) (hi:ps[i]?=some p) (hj:p.ins[j]?=some n) (hz:Ie p) (hm:ps.length<=1048576) (hr:0<=p.regs/\p.regs<=250) (hv:Ad 0 w ao ps) :
  Kw 165 #[.agg #[.slice ao ps.length cap],i,j] w (.bool (U8 ps.length p j n)):=by
 have hlt:=(yD.1 hi).1;have hltj:=(yD.1 hj).1;have hb2:∀o1 o2,Below w w ((w.alloc o1).alloc o2):=fun o1 o2=>((yA _ _).alloc (yB _) o1).alloc (by simp) o2;have hb1:∀o,Below w w (w.alloc o):=fun o=>(yA _ _).alloc (yB _) o;obtain⟨b,off,e0,_,hbl,h,n1,i1⟩:=hv i p hi;obtain⟨b',off',e1,_,hbl',q0,q1,q2,q3,q4⟩:=i1.ins j n hj;have hzl:=hz.ins;subst e0;obtain⟨p0,p1,p2,p3,p4,p5,p6,p7,p8⟩:=n1;rw[e1]at p7;have hp7:=fun o=>((Oe (hb1 o)).1 b (off+i*9+7) hbl).trans p7;clear p0 p1 p2 p3 p4 p5 p6 p8 e1 i1;cases hop:inR n.op 1 42
 ·have E0:Hid (U8 ps.length p j n=false):=by show _=_;unfold U8;rw[hop];rfl
  unfold Kw;go_in;go_wp2_with fail;refine(A0k n.op _ hop).mono ?_;rintro e w1 ⟨rfl,rfl⟩;go_wp2;go_ret;exact⟨Ab E0.out.symm,hb2 _ _⟩
 ·have hop2:1<=n.op/\n.op<=42:=by simpa[inR]using hop
  obtain⟨op,hopn⟩:=yN (by omega:0<=n.op);obtain⟨r0,r1,r2,r3,hrs,g0,g1,g2,g3⟩:=Mh (n:=op) (by omega) (by omega);have E0:Hid (U8 ps.length p j n=(Da ps.length p [r0,r1,r2,r3] n.fs&&Qs p j n)):=by show _=_;unfold U8;rw[hop,hopn,Int.toNat_natCast,hrs];rfl
  rw[hopn]at q0;unfold Kw;go_in;go_wp2_with fail;refine(Nf op r0 r1 r2 r3 _ (by omega) (by omega) hrs).mono ?_;rintro e w1 ⟨rfl,rfl⟩;have hb3:=fun o1 o2 o3=>(hb2 o1 o2).alloc (by simp;omega) o3;have C0:=((Blk.new w #[.slice (some ⟨b,off,none⟩) ps.length cap] 31).alloc (.cells #[op,n.a,n.b,n.c,n.d] 81)).alloc (.cells #[r0,r1,r2,r3] 3);have N0:=(Blk.new (w.alloc (.cells #[.slice (some ⟨b,off,none⟩) ps.length cap] 31)) #[op,n.a,n.b,n.c,n.d] 81).alloc (.cells #[r0,r1,r2,r3] 3);rw[nblk_alloc]at N0;have R0:=Blk.new ((w.alloc (.cells #[.slice (some ⟨b,off,none⟩) ps.length cap] 31)).alloc (.cells #[op,n.a,n.b,n.c,n.d] 81)) #[r0,r1,r2,r3] 3;rw[nblk_alloc,nblk_alloc]at R0;go_wp2_with fail;refine(A0i ⟨op,n.a,n.b,n.c,n.d⟩ _).mono ?_;rintro e w1 ⟨g,rfl,G1,hw1⟩;have B1:=(hb3 _ _ _).trans (hw1.mono (by simp;omega));have C1:=C0.l hw1;have N1:=N0.l hw1;have R1:=R0.l hw1;clear C0 N0 R0 hw1;go_wp2;go_loopw [30] (fun y wr=>∃k:Nat,k<=4/\y=k/\Hid (Da ps.length p ([r0,r1,r2,r3].drop k) (n.fs.drop k)=Da ps.length p [r0,r1,r2,r3] n.fs)/\Below w w wr/\Blk wr (w:Nat) #[.slice (some ⟨b,off,none⟩) ps.length cap] 31/\Blk wr ((w:Nat)+1) #[op,n.a,n.b,n.c,n.d] 81/\Blk wr ((w:Nat)+1+1) #[r0,r1,r2,r3] 3/\Blk wr g #[n.a,n.b,n.c,n.d] 3) (fun y _=>4-(intOf y).toNat);case atStart=>exact⟨0,yE _,rfl,rfl,B1,C1,N1,R1,G1⟩
  case round=>
   obtain⟨k,hk,rfl,HQ,hb,C2,N2,R2,G2⟩:=hrel;clear B1 C1 N1 R1 G1 q0 q1 q2 q3 q4 hb1 hb2 hb3 p7 hp7;by_cases hk4:k<4
   ·obtain⟨r,x,hr21,hrk,hxk,ar,ax⟩:=A78 r0 r1 r2 r3 n k hk4 g0 g1 g2 g3;have HD:Hid _:=HQ.out.symm.trans (Aak hrk hxk);have c0:=C2.cell 0;have cr:=(R2.cell k).trans ar;have cx:=(G2.cell k).trans ax;have hvr:=hv.l (A7.o hb);have hvd:=hvr.l (A7.o (yA _ _).drew);have Cd:=C2.l (yA _ _).drew;have Rd:=R2.l (yA _ _).drew;have hb':=hb;clear ar ax HQ hrk hxk g0 g1 g2 g3 hrs hop hopn hop2;go_wp2_with fail;go_region_held3 (fun w'=>w'.cell? ⟨w.heap.size,0,none⟩=some (.slice (some ⟨b,off,none⟩) ps.length cap)/\w'.cell? ⟨w.heap.size+1+1,k,none⟩=some (r:Value)) (go_keep)
     (first|(go_at_call 242;refine(A5s (some ⟨b,off,none⟩) cap ps i p r x wr.drew hi hz hm hr hvd hr21).mono ?_;rintro e w2 ⟨rfl,hw2⟩;have d0:=(hw2.cell (p:=⟨w.heap.size,0,none⟩) Cd.lt).trans c0;have d1:=(hw2.cell (p:=⟨w.heap.size+1+1,k,none⟩) Rd.lt).trans cr))
    have B2:=hb'.drew.trans (hw2.mono hb'.size);have C3:=Cd.l hw2;have R3:=Rd.l hw2;have N3:=(N2.l (yA _ _).drew).l hw2;have G3:=(G2.l (yA _ _).drew).l hw2;clear hw2 Cd Rd hvr hvd C2 R2 N2 G2 hb hb' d0 d1 c0 cr cx hv hi hj;generalize Bg ps.length p r x=fb at *;cases fb
    ·go_wp2;go_ret;exact⟨Ab (by rw[E0.out,HD.out];rfl),B2⟩
    ·go_wp2;go_roundw;case rel=>exact⟨k+1,by omega,by go_num,by show _=_;rw[HD.out];rfl,B2,C3,N3,R3,G3⟩
     case measure=>simp[intOf];omega
   ·have E1:Hid (U8 ps.length p j n=Qs p j n):=by
     have h1:=HQ.out;obtain rfl:k=4:=by omega
     show _=_;rw[E0.out,←h1];rfl
    have EL:Hid (Qs p j n=(!decide (j+1=p.ins.length)||((op:Int)==19||(op:Int)==29||(op:Int)==30))):=by show _=_;unfold Qs;rw[hopn]
    obtain⟨b2,off2,e2,_,hbl2,h2,n2,_⟩:=hv.l (A7.o hb) i p hi;obtain⟨rfl,rfl⟩:b=b2/\off=off2:=by simpa using e2
    obtain⟨_,_,_,_,_,_,_,p7,_⟩:=n2;have c0:=C2.cell 0;have cn:=N2.cell;clear HQ E0 e2 hv hi hj hopn hop hop2 hrs R2 G2;by_cases hl:j+1=p.ins.length
    ·have hl':((j:Int)==(p.ins.length:Int)-1)=true:=by simp;omega
     have HL:Hid _:=hl;clear hl;go_wp2_with fail;all_goals
      go_ret;refine⟨Ab ?_,hb⟩;rw[E1.out,EL.out,decide_eq_true HL.out];clear c0 cn p7 E1 EL HL
      simp_all
    ·have hl':((j:Int)==(p.ins.length:Int)-1)=false:=by simp;omega
     have HL:Hid (¬j+1=p.ins.length):=hl;clear hl;go_wp2_with fail;all_goals
      go_ret;refine⟨Ab ?_,hb⟩;rw[E1.out,EL.out,decide_eq_false HL.out];rfl
theorem Ws (x r:Int) (w:World) :
  Kw 374 #[x,r] w (.bool (x==0)):=by
 unfold Kw;go_in;go_wp2;go_ret;exact⟨rfl,yA _ _⟩
theorem Vw (x lo hi r:Int) (w:World) :
  Kw 377 #[.agg #[x,lo,hi],r] w (.bool (inR x lo hi)):=by
 unfold Kw;go_in;go_wp2_with (go_at_call 133;refine(Cq _ _ _ _).mono ?_;rintro e w' ⟨rfl,rfl⟩);go_ret;exact⟨rfl,(yA _ _).alloc (yB _) _⟩
theorem Wq (x r:Int) (c:Nat) (hc:c<=1048576) (w:World) :
  Kw 376 #[.agg #[x,c],r] w (.bool (inR x 0 (c-1))):=by
 unfold Kw;go_in;go_wp2_with (go_at_call 133;refine(Cq _ _ _ _).mono ?_;rintro e w' ⟨rfl,rfl⟩);go_ret;exact⟨rfl,(yA _ _).alloc (yB _) _⟩
theorem Vz (x k t r:Int) (h1:0<=r) (h2:r<=250) (h3:0<=k) (h4:k<=3) (w:World) :
  Kw 375 #[.agg #[x,k,t],r] w (.bool (inR x 0 (r-k))):=by
 unfold Kw;go_in;go_wp2_with (go_at_call 133;refine(Cq _ _ _ _).mono ?_;rintro e w' ⟨rfl,rfl⟩);go_ret;exact⟨rfl,(yA _ _).alloc (yB _) _⟩
theorem Wi (x t r:Int) (h1:0<=r) (h2:r<=250) (w:World) :
  Kw 371 #[.agg #[x,t],r] w (.bool (inR x 0 (r-1))):=by
 unfold Kw;go_in;go_wp2_with (go_at_call 133;refine(Cq _ _ _ _).mono ?_;rintro e w' ⟨rfl,rfl⟩);go_ret;exact⟨rfl,(yA _ _).alloc (yB _) _⟩
theorem Ub (x r:Int) (h1:0<=r) (h2:r<=250) (w:World) :
  Kw 372 #[.agg #[x],r] w (.bool (inR x 0 (r-2))):=by
 unfold Kw;go_in;go_wp2_with (go_at_call 133;refine(Cq _ _ _ _).mono ?_;rintro e w' ⟨rfl,rfl⟩);go_ret;exact⟨rfl,(yA _ _).alloc (yB _) _⟩
theorem Sk (x t:Int) (w:World) :
  Kw 259 #[.agg #[x,t]] w (.bool (decide (x<0))):=by
 unfold Kw;go_in;go_wp2;go_ret;exact⟨rfl,(yA _ _).alloc (yB _) _⟩
def Bz (x:Int):Int:=if x<0 then -1-x else x
theorem Mg (x t:Int) (hx1 : -9223372036854775808<=x) (hx2:x<=9223372036854775807) (w:World) :
  Kw 260 #[.agg #[x,t]] w (Bz x:Int):=by
 have hb1:∀o,Below w w (w.alloc o):=fun o=>(yA _ _).alloc (yB _) o;have X0:=Blk.new w #[x,t] 404;unfold Kw;go_in;go_wp2_with fail;refine(Sk x t _).mono ?_;rintro e w1 ⟨rfl,hw1⟩;have c1:=(X0.l hw1).cell;by_cases h:x<0
 ·go_wp2;go_ret;exact⟨Ar (by rw[Bz,if_pos h]),(hb1 _).trans (hw1.mono (by simp))⟩
 ·go_wp2;go_ret;exact⟨Ar (by rw[Bz,if_neg (by omega)]),(hb1 _).trans (hw1.mono (by simp))⟩
theorem Uc (x t r:Int) (hx1 : -9223372036854775808<=x) (hx2:x<=9223372036854775807) (w:World) :
  Kw 373 #[.agg #[x,t],r] w (.bool (inR x (-r) (r-1))):=by
 have hb1:∀o,Below w w (w.alloc o):=fun o=>(yA _ _).alloc (yB _) o;unfold Kw;go_in;go_wp2_with fail;refine(Mg x t hx1 hx2 _).mono ?_;rintro e w1 ⟨rfl,hw1⟩;have HE:Hid (decide (Bz x<r)=inR x (-r) (r-1)):=by show _=_;rw[Bool.eq_iff_iff];unfold Bz;split<;>simp[inR]<;>omega
 generalize Bz x=q at *;go_wp2;go_ret;exact⟨Ab HE.out,(hb1 _).trans (hw1.mono (by simp))⟩
end Go.Proofs.YtjbbppblgjhapaaGreatDoor
namespace Go.Proofs.YtjbbppblgjhapaaGreatDoor
open Go.Proofs.Tryz
theorem A9c:FloatKind.f64.format.read 0=.number false 0 (FloatKind.f64.format.leastPlace):=by decide +kernel
theorem A4a {s:Bool} {m k:Nat} (h:Ieee.signed s m k=0):m=0:=by
 unfold Ieee.signed at h;rw[Nat.shiftLeft_eq]at h;have hp:0<2 ^ k:=Nat.two_pow_pos k;have h2:m*2 ^ k=0:=by split at h<;>omega
 rcases Nat.mul_eq_zero.1 h2 with h3|h3
 ·exact h3
 ·omega
theorem Sm (x:Nat) (hx:x<18446744073709551616) (h:(FloatKind.f64.format.order x 0==some .eq)=true):x=0∨x=9223372036854775808:=by
 have h:FloatKind.f64.format.order x 0=some .eq:=by simpa using h
 unfold Ieee.Format.order at h;rw[A9c]at h;have num:∀s m i,(Ieee.Datum.number s m i).order (.number false 0 (FloatKind.f64.format.leastPlace))=some .eq->m=0:=by
  intro s m i h;simp only[Ieee.Datum.order,Option.some.injEq]at h;have h2:=Std.LawfulEqOrd.eq_of_compare h;have h3:∀k,Ieee.signed false 0 k=0:=by intro k;simp[Ieee.signed]
  rw[h3]at h2;exact A4a h2
 have e1:FloatKind.f64.format.signWeight=9223372036854775808:=by decide +kernel
 have e2:FloatKind.f64.format.binade=4503599627370496:=by decide +kernel
 unfold Ieee.Format.read at h;simp only[e1,e2]at h;split at h
 ·have:=num _ _ _ h;omega
 ·split at h
  ·have:=num _ _ _ h;omega
  ·split at h
   ·simp only[Ieee.Datum.order,Option.some.injEq]at h;split at h<;>cases h
   ·simp[Ieee.Datum.order]at h
theorem A2c:floatBits .quo .f64 4607182418800017408 0=some 9218868437227405312:=by decide +kernel
theorem Yo:floatBits .quo .f64 4607182418800017408 9223372036854775808=some 18442240474082181120:=by decide +kernel
theorem Adh:(FloatKind.f64.format.order 9218868437227405312 0==some .gt)=true:=by decide +kernel
theorem Ad6:(FloatKind.f64.format.order 18442240474082181120 0==some .gt)=false:=by decide +kernel
end Go.Proofs.YtjbbppblgjhapaaGreatDoor
namespace Go.Proofs.YtjbbppblgjhapaaGreatDoor
open Go.Deep Go.Proofs.Tryz Go.RowKit
variable{xs:List Value}{base c size:Nat}{ao:Option Addr}{v:Value}{w:World}
theorem Qy{e n:Nat} (h:w.ownsRow base e size v n xs):∀ao c,v=.slice ao n c->n<=c:=by
 intro ao c hv;obtain⟨_,⟨h1,h2⟩|⟨g,cap,cur,rfl,_,_,hc,_⟩⟩:=h
 ·omega
 ·simp at hv;omega
def RTag (w:World) (ao:Option Addr) (t:TypeId):Prop:=∀x,ao=some x->∃b,x=⟨b,0,none⟩/\∃arr,w.heap[b]?=some (.cells arr t (0,0))
theorem A3z{e n:Nat} (h:w.ownsRow base e size (.slice ao n c) n xs):RTag w ao e:=by
 obtain⟨_,⟨h1,h2⟩|⟨g,cap,cur,h3,hg,hh,_⟩⟩:=h
 ·rintro x rfl;simp at h1
 ·rintro x rfl;simp at h3;exact⟨g,h3.1,cur,hh⟩
end Go.Proofs.YtjbbppblgjhapaaGreatDoor
