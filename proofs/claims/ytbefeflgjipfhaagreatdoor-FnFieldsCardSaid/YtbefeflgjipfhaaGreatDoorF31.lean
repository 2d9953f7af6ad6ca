import Derived.Test.YtbefeflgjipfhaaGreatDoorF04
import Derived.Test.YtbefeflgjipfhaaGreatDoorF28
import Derived.Test.YtbefeflgjipfhaaGreatDoorF30
set_option maxRecDepth 100000
set_option maxHeartbeats 2000000
namespace Go.Proofs.YtbefeflgjipfhaaGreatDoor
open Go.Deep Go.Proofs.Tryz Go.RowKit
variable{i:Nat}{o:Option Nat}
attribute [local go_sem] A7
def A58:Option Nat->Value
  | none=>.tuple #[.int .i64 0,.bool true]
  | some i=>.tuple #[.int .i64 i,.bool false]
theorem Tu (h:o=none):Ending.returned (.tuple #[.int .i64 0,.bool true])=.returned (A58 o):=by rw[h];rfl
theorem Tv (h:o=some i):Ending.returned (.tuple #[.int .i64 i,.bool false])=.returned (A58 o):=by rw[h];rfl
theorem Qj (ao:Option Addr) (cap:Nat) (ps:List Pd) (i:Nat) (p:Pd) (w:World) (hi:ps[i]?=some p) (hz:Ny p) (hr:0<=p.regs/\p.regs<=250) (hv:Az 0 w ao ps) :
    Kw 255 #[.agg #[.slice ao ps.length cap],.int .i64 i] w (A58 (Aq (Lj p) 0 p.named)):=by
  have hlt:i<ps.length:=(yD.1 hi).1
  have hb2:∀o1 o2,Below w.heap.size w ((w.alloc o1).alloc o2):=fun o1 o2=>((yA _ _).alloc (yB _) o1).alloc (by simp) o2
  obtain⟨b,off,rfl,_,hbl,h,n1,i1⟩:=hv i p hi
  have hn:=i1.named
  clear hv hi i1
  obtain⟨z1,z2,z3,z4⟩:=hz
  have E0:Hid (∀i m,Lj p i m=(decide ((i:Int)<500)&&inR m.name.size 1 40&&inR m.reg 0 (p.regs-1)&&decide (0<=m.fr)&&decide (m.fr<=m.to)&&decide (m.to<=p.ins.length))):=fun _ _=>rfl
  have HF:Hid (∀k m,p.named[k]?=some m->Aq (Lj p) k (p.named.drop k)=if Lj p k m then Aq (Lj p) (k+1) (p.named.drop (k+1)) else some k):=fun k m hm=>I6 hm
  generalize Lj p=nb at *
  obtain⟨nm,ln,pa,re,rg,us,cs,is,ms⟩:=p
  obtain⟨uo,uc,co,cc,io,ic,no,nc⟩:=h
  obtain⟨p0,p1,p2,p3,p4,p5,p6,p7,p8⟩:=n1
  dsimp only at *
  obtain⟨hr1,hr2⟩:=hr
  have X0:=Blk.new (w.alloc (.cells #[.slice (some ⟨b,off,none⟩) ps.length cap] 26)) #[.string nm,.int .i64 ln,.int .i64 pa,.bool re,.int .i64 rg,.slice uo us.length uc,.slice co cs.length cc,.slice io is.length ic,.slice no ms.length nc] 63
  rw[nblk_alloc]at X0
  (try unfold Kw);go_in
  go_wp2
  go_loopw [18] (fun x wr=>∃k:Nat,k<=ms.length/\k<=500/\x=.int .i64 k/\Hid (Aq nb k (ms.drop k)=Aq nb 0 ms)/\Below w.heap.size w wr/\Blk wr (w.heap.size+1) #[.string nm,.int .i64 ln,.int .i64 pa,.bool re,.int .i64 rg,.slice uo us.length uc,.slice co cs.length cc,.slice io is.length ic,.slice no ms.length nc] 63) (fun x _=>ms.length-(intOf x).toNat)
  case atStart=>exact⟨0,yE _,by omega,rfl,rfl,hb2 _ _,X0⟩
  case round=>
    obtain⟨k,hk,hk5,rfl,HQ,hb,X1⟩:=hrel
    clear X0 p0 p1 p2 p3 p4 p5 p6 p7 p8
    by_cases hkl:k<ms.length
    · obtain⟨m,hmk⟩:=Ah hkl
      obtain⟨b',off',rfl,_,hbl',q0,q1,q2,q3⟩:=hn.l (Ad.o hb) k m hmk
      have HD:Hid (Aq nb 0 ms=if nb k m then Aq nb (k+1) (ms.drop (k+1)) else some k):=HQ.out.symm.trans (HF.out k m hmk)
      have HN:Hid (nb k m=_):=E0.out k m
      have x1:=fun o=>(X1.alloc o).cell
      have hba:∀o,Below w.heap.size w (wr.alloc o):=fun o=>hb.alloc hb.size o
      have hXa:∀o,Blk (wr.alloc o) (w.heap.size+1) _ _:=fun o=>X1.alloc o
      obtain⟨m0,m1,m2,m3⟩:=m
      dsimp only at *
      clear hn HF E0 HQ hb2 hmk
      go_wp2_with (go_at_call 30;refine(Bn _ _ _ _).mono ?_;rintro e w' ⟨rfl,rfl⟩)
      all_goals first
        | (go_ret2
           exact⟨Tv (by rw[HD.out,HN.out];clear x1 hba hXa HD HN q0 q1 q2 q3;first|(simp_all;done)|(simp_all;omega)),hba _⟩)
        | (have h5:¬(k:Int)=500:=by simpa using (by assumption:((k:Int)==500)=false)
           go_roundw
           case rel=>exact⟨k+1,by omega,by omega,by go_num,by
             show _=_
             rw[HD.out,HN.out,if_pos]
             clear x1 hba hXa HD HN q0 q1 q2 q3
             first|(simp_all;done)|(simp_all;omega),hba _,hXa _⟩
           case measure=>simp[intOf];omega)
    · go_wp2
      go_ret2
      have h:=HQ.out
      rw[yQ (by omega)]at h
      exact⟨Tu h.symm,hb⟩
theorem A3w (x:Nat) (w:World) :
  Calls prog 149 #[.float .f64 x] w fun e w'=>e=.returned (.bool (FloatKind.f64.format.order x x !=some .eq))/\w'=w:=by
 go_in;go_wp2;go_ret;exact⟨rfl,rfl⟩
theorem A6q (x:Nat) (w:World):(callFunc 344 #[.float .f64 x]).run prog w=.ok (.value (.int .u64 x)) w:=by rw[run_callFunc_extern (e:=Extern.MathFloatBits.float64bits) func344 (by kernel_rfl) (by kernel_rfl) (by kernel_rfl) (by kernel_rfl)];rfl
theorem A04 (x:Nat) (w:World) :
  Calls prog 282 #[.float .f64 x] w fun e w'=>e=.returned (.bool (decide (wrap64 x<0)))/\w'=w:=by
 have hb:=A6q;go_in;go_wp2;go_ret;exact⟨rfl,rfl⟩
def Og (v:Vd):Bool:=Bl v&&(!decide (v.kind=5∨v.kind=6∨v.kind=7)&&(if v.kind=3 then FloatKind.f64.format.order v.flt v.flt==some .eq else decide (v.flt=0)))
theorem A7c {v:Vd} (h:Bl v=true) (hk:v.kind≠3):fz v.flt=true:=by unfold Bl at h;rcases A9m v.kind with e|e|e|e|e|e|e|e|e|e<;>simp_all [Ee]
theorem A6x {x:Nat} (hx:x<18446744073709551616) (h:fz x=true):decide (wrap64 x<0) = !decide (x=0):=by rcases A50 x hx h with rfl|rfl<;>decide +kernel
theorem Sj (v:Vd) (hf:v.flt<18446744073709551616) (w:World) :
  Kw 310 #[v.val] w (.bool (Og v)):=by
 have hv:=Dz v;have hz:=@A7c v;have hq:=@A6x v.flt hf;clear hf;have HC:Hid (Og v=(Bl v&&(!decide (v.kind=5∨v.kind=6∨v.kind=7)&&(if v.kind=3 then FloatKind.f64.format.order v.flt v.flt==some .eq else decide (v.flt=0))))):=rfl;obtain⟨x0,x1,x2,x3,x4⟩:=v;dsimp only[Vd.val]at *;generalize Og ⟨x0,x1,x2,x3,x4⟩=cb at *;generalize Bl ⟨x0,x1,x2,x3,x4⟩=vb at *;have hb1:∀o,Below w.heap.size w (w.alloc o):=fun o=>(yA _ _).alloc (yB _) o;have X0:=Blk.new w #[.int .i64 x0,.int .i64 x1,.float .f64 x2,.string x3,.int .i64 x4] 52;have HV:Hid (∀w,Kw 212 #[.agg #[.int .i64 x0,.int .i64 x1,.float .f64 x2,.string x3,.int .i64 x4]] w (.bool vb)):=hv;clear hv;by_cases h5:x0=5∨x0=6∨x0=7
 ·rcases h5 with rfl|rfl|rfl;all_goals
   clear hz hq HV;(try unfold Kw);go_in;go_wp2;go_ret;exact⟨Ac (by rw[HC.out];simp),hb1 _⟩
 ·have e5:(x0==5)=false:=by simp;omega
  have e6:(x0==6)=false:=by simp;omega
  have e7:(x0==7)=false:=by simp;omega
  have H5:Hid (¬(x0=5∨x0=6∨x0=7)):=h5;clear h5;by_cases h3:x0=3
  ·subst h3;clear hz hq;cases vb
   ·(try unfold Kw);go_in;go_wp2_with (go_at_call 212;refine(HV.out _).mono ?_;rintro e w1 ⟨rfl,hw1⟩;have y1:=(X0.l hw1).cell);go_ret;exact⟨Ac (by rw[HC.out];simp),(hb1 _).trans (hw1.mono (by simp))⟩
   ·(try unfold Kw);go_in;go_wp2_with (first|(go_at_call 212;refine(HV.out _).mono ?_;rintro e w1 ⟨rfl,hw1⟩;have y1:=(X0.l hw1).cell)|(go_at_call 149;refine(A3w x2 _).mono ?_;rintro e w2 ⟨rfl,rfl⟩));go_ret;exact⟨Ac (by rw[HC.out];simp;first|done|rfl),(hb1 _).trans (hw1.mono (by simp))⟩
  ·have k3:(x0==3)=false:=by simpa using h3
   have H3:Hid (¬x0=3):=h3;cases vb
   ·clear hz hq h3;(try unfold Kw);go_in;go_wp2_with (go_at_call 212;refine(HV.out _).mono ?_;rintro e w1 ⟨rfl,hw1⟩;have y1:=(X0.l hw1).cell);go_ret;exact⟨Ac (by rw[HC.out];simp),(hb1 _).trans (hw1.mono (by simp))⟩
   ·have HR:Hid (decide (wrap64 x2<0) = !decide (x2=0)):=hq (hz rfl h3);clear hz hq h3;(try unfold Kw);go_in;go_wp2_with (first|(go_at_call 212;refine(HV.out _).mono ?_;rintro e w1 ⟨rfl,hw1⟩;have y1:=(X0.l hw1).cell)|(go_at_call 282;refine(A04 x2 _).mono ?_;rintro e w2 ⟨rfl,rfl⟩));all_goals
     go_ret;exact⟨Ac (by rw[HC.out,decide_eq_false H5.out,if_neg H3.out];have h:=HR.out;simp at h ⊢;first|exact h|(by_cases hh:x2=0<;>simp_all<;>omega)),(hb1 _).trans (hw1.mono (by simp))⟩
def Ip (_:Nat) (v:Vd):Bool:=Og v
theorem Pp (ao:Option Addr) (cap:Nat) (ps:List Pd) (i:Nat) (p:Pd) (w:World) (hi:ps[i]?=some p) (hz:Ny p) (hf:Flts p.consts) (hv:Az 0 w ao ps) :
  Kw 254 #[.agg #[.slice ao ps.length cap],.int .i64 i] w (A58 (Aq Ip 0 p.consts)):=by
 have hlt:i<ps.length:=(yD.1 hi).1;have hb1:∀o,Below w.heap.size w (w.alloc o):=fun o=>(yA _ _).alloc (yB _) o;obtain⟨b,off,rfl,_,hbl,h,n1,i1⟩:=hv i p hi;have hn:=i1.consts;clear hv hi i1;obtain⟨z1,z2,z3,z4⟩:=hz;obtain⟨nm,ln,pa,re,rg,us,cs,is,ms⟩:=p;obtain⟨uo,uc,co,cc,io,ic,no,nc⟩:=h;obtain⟨p0,p1,p2,p3,p4,p5,p6,p7,p8⟩:=n1;dsimp only at *;have HF:Hid (∀k m,cs[k]?=some m->Aq Ip k (cs.drop k)=if Ip k m then Aq Ip (k+1) (cs.drop (k+1)) else some k):=fun k m hm=>I6 hm;(try unfold Kw);go_in;go_wp2;go_loopw [15] (fun x wr=>∃k:Nat,k<=cs.length/\x=.int .i64 k/\Hid (Aq Ip k (cs.drop k)=Aq Ip 0 cs)/\Below w.heap.size w wr) (fun x _=>cs.length-(intOf x).toNat);case atStart=>exact⟨0,yE _,rfl,rfl,hb1 _⟩
 case round=>
  obtain⟨k,hk,rfl,HQ,hb⟩:=hrel;clear p0 p1 p2 p3 p4 p5 p6 p7 p8;by_cases hkl:k<cs.length
  ·obtain⟨m,hmk⟩:=Ah hkl;obtain⟨b',off',rfl,_,hbl',q0,q1,q2,q3,q4⟩:=hn.l (Ad.o hb) k m hmk;have hfm:=hf m (yH hmk);have HD:Hid (Aq Ip 0 cs=if Og m then Aq Ip (k+1) (cs.drop (k+1)) else some k):=HQ.out.symm.trans (HF.out k m hmk);have hba:∀o,Below w.heap.size w (wr.alloc o):=fun o=>hb.alloc hb.size o;clear hn HF HQ hb1 hmk hf;have HM:Hid (m.flt<18446744073709551616):=hfm;clear hfm;go_wp2_with fail;refine(Sj m HM.out _).mono ?_;rintro e w1 ⟨rfl,hw1⟩;have hb2:=(hba _).trans (hw1.mono (hba _).size);generalize Og m=cb at *;cases cb
   ·go_wp2;go_ret2;exact⟨Tv (by rw[HD.out];rfl),hb2⟩
   ·go_wp2;go_roundw;case rel=>exact⟨k+1,by omega,by go_num,by show _=_;rw[HD.out];rfl,hb2⟩
    case measure=>simp[intOf];omega
  ·go_wp2;go_ret2;have h:=HQ.out;rw[yQ (by omega)]at h;exact⟨Tu h.symm,hb⟩
end Go.Proofs.YtbefeflgjipfhaaGreatDoor
namespace Go.Proofs.YtbefeflgjipfhaaGreatDoor
open Go.Deep Go.Proofs.Tryz Go.RowKit
def Ho {α:Type} (f:α->Nat):List α->Nat
 | []=>0
 | x::r=>f x+Ho f r
theorem A73 {α:Type} {f:α->Nat} {l:List α} {x:α} (h:x∈l):f x<=Ho f l:=by
 induction l with
 | nil=>cases h
 | cons y r ih=>
  rw[List.mem_cons]at h;rcases h with rfl|h
  ·simp only[Ho];omega
  ·have:=ih h;simp only[Ho];omega
def A9t (vs:List Vd):Nat:=vs.length+Ho (fun v=>v.str.size) vs
def A9s (ms:List Md):Nat:=ms.length+Ho (fun m=>m.name.size) ms
def Xp (p:Pd):Nat:=p.name.size+p.ups.length+A9t p.consts+p.ins.length+A9s p.named
def Jf (ps:List Pd):Nat:=ps.length+Ho Xp ps
def A5s (ps:List Pd):Nat:=Ho (fun p=>p.ins.length) ps
def Nt (ps:List Pd):Bool:=inR ps.length 1 200&&decide ((A5s ps:Int)<=6000)
theorem Yo {l:List Pd} {k:Nat} {p:Pd} (h:l[k]?=some p):Ho (fun p=>p.ins.length) (l.take (k+1))=Ho (fun p=>p.ins.length) (l.take k)+p.ins.length:=by
 induction l generalizing k with
 | nil=>simp at h
 | cons x r ih=>
  cases k with
  | zero=>simp at h;subst h;simp[Ho]
  | succ k=>
   simp at h;have:=ih h;simp only[List.take_succ_cons,Ho];omega
theorem Oy (l:List Pd) (k:Nat):Ho (fun p=>p.ins.length) (l.take k)<=Ho Xp l:=by
 induction l generalizing k with
 | nil=>simp[Ho]
 | cons x r ih=>
  cases k with
  | zero=>simp[Ho]
  | succ k=>
   have:=ih k;simp only[List.take_succ_cons,Ho];have:x.ins.length<=Xp x:=by unfold Xp;omega
   omega
theorem Xc (ao:Option Addr) (cap:Nat) (ps:List Pd) (w:World) (hm:Jf ps<=1048576) (hv:Az 0 w ao ps) :
  Kw 252 #[.agg #[.slice ao ps.length cap]] w (.bool (Nt ps)):=by
 have hl:ps.length<=1048576:=by unfold Jf at hm;omega
 have hsum:Ho Xp ps<=1048576:=by unfold Jf at hm;omega
 have hb1:∀o,Below w.heap.size w (w.alloc o):=fun o=>(yA _ _).alloc (yB _) o;have C0:=Blk.new w #[.slice ao ps.length cap] 26;clear hm;(try unfold Kw);go_in;go_wp2;go_loopw [3,9] (fun s y wr=>∃k:Nat,k<=ps.length/\y=.int .i64 k/\s=.int .i64 (Ho (fun p=>p.ins.length) (ps.take k):Nat)/\Below w.heap.size w wr/\Blk wr w.heap.size #[.slice ao ps.length cap] 26) (fun _ y _=>ps.length-(intOf y).toNat);case atStart=>exact⟨0,yE _,rfl,rfl,hb1 _,C0⟩
 case round=>
  obtain⟨k,hk,rfl,rfl,hb,C1⟩:=hrel;clear C0;by_cases hkl:k<ps.length
  ·obtain⟨p,hpk⟩:=Ah hkl;obtain⟨b,off,rfl,_,hbl,h,⟨p0,p1,p2,p3,p4,p5,p6,p7,p8⟩,_⟩:=hv.l (Ad.o hb) k p hpk;have HT:Hid _:=Yo hpk;have h1:=Oy ps k;have h2:=Oy ps (k+1);rw[HT.out]at h2;have hba:∀o,Below w.heap.size w (wr.alloc o):=fun o=>hb.alloc hb.size o;have CA:Hid (∀o,Blk (wr.alloc o) w.heap.size #[.slice (some ⟨b,off,none⟩) ps.length cap] 26):=fun o=>C1.alloc o;generalize hq:Ho (fun p=>p.ins.length) (ps.take k)=q at *;clear hv hq;go_wp2;go_roundw;case rel=>exact⟨k+1,by omega,by go_num,by rw[HT.out];go_num,hba _,CA.out _⟩
   case measure=>simp[intOf];omega
  ·have hall:ps.take k=ps:=List.take_of_length_le (by omega);rw[hall];have E0:Hid (Nt ps=(inR ps.length 1 200&&decide (((Ho (fun p=>p.ins.length) ps:Nat):Int)<=6000))):=rfl;have hle:=Oy ps ps.length;rw[List.take_length]at hle;have c1:=C1.cell;generalize Ho (fun p=>p.ins.length) ps=q at *;clear hv hall;go_wp2_with (go_at_call 30;refine(Bn _ _ _ _).mono ?_;rintro e w' ⟨rfl,rfl⟩);all_goals
    go_ret;exact⟨Ac (by rw[E0.out];simp_all),hb⟩
def Av (g:Nat->Pd->Option Nat):Nat->List Pd->Option (Nat×Nat)
 | _,[]=>none
 | k,p::r=>match g k p with
  | some i=>some (k,i)
  | none=>Av g (k+1) r
theorem Hr {g:Nat->Pd->Option Nat} {l:List Pd} {k:Nat} {p:Pd} (h:l[k]?=some p):Av g k (l.drop k)=match g k p with
  | some i=>some (k,i)
  | none=>Av g (k+1) (l.drop (k+1)):=by
 rw[Bg h];rfl
def Fq (k:Nat) (p:Pd):Option Nat:=if Jl p k then none else some 0
def Fw (_:Nat) (p:Pd):Option Nat:=Aq Ip 0 p.consts
def G6 (_:Nat) (p:Pd):Option Nat:=Aq (Lj p) 0 p.named
def Kc (np:Nat) (_:Nat) (p:Pd):Option Nat:=Ff np p
def Ce (ps:List Pd):Int×Int×Int:=
 if Nt ps then
  match Av Fq 0 ps with
  | some (p,i)=>(2,p,i)
  | none=>match Av Fw 0 ps with
   | some (p,i)=>(3,p,i)
   | none=>match Av G6 0 ps with
    | some (p,i)=>(4,p,i)
    | none=>match Av (Kc ps.length) 0 ps with
     | some (p,i)=>(5,p,i)
     | none=>Eh ps
 else (1,0,0)
structure Pm (ps:List Pd):Prop where
 bulk:Jf ps<=1048576
 few:∀p∈ps,Ny p
 flts:∀p∈ps,Flts p.consts
 nds:∀p∈ps,∀n∈p.ins,NdW n
theorem Gh {g:Nat->Pd->Option Nat} : ∀{l:List Pd} {s:Nat},Av g s l=none->∀k p,l[k]?=some p->g (s+k) p=none
 | [],_,_,k,p,h=>by simp at h
 | x::r,s,h,k,p,hk=>by
  unfold Av at h;cases hx:g s x with
  | some i=>rw[hx]at h;cases h
  | none=>
   rw[hx]at h;cases k with
   | zero=>simp at hk;subst hk;exact hx
   | succ k=>
    simp at hk;have:=Gh (g:=g) (l:=r) (s:=s+1) h k p hk
    rwa [show s+(k+1)=s+1+k by omega]
theorem Gc {ps:List Pd} (h:Av Fq 0 ps=none):∀p∈ps,0<=p.regs/\p.regs<=250:=by
 intro p hp;obtain⟨k,hk⟩:=List.getElem?_of_mem hp;have:=Gh h k p hk;unfold Fq at this;split at this
 ·rename_i hh;unfold Jl at hh;simp[inR]at hh;omega
 ·cases this
theorem I7 {α:Type} {f:Nat->α->Bool} : ∀{l:List α} {s:Nat},Aq f s l=none->∀k x,l[k]?=some x->f (s+k) x=true
 | [],_,_,k,p,h=>by simp at h
 | x::r,s,h,k,p,hk=>by
  unfold Aq at h;split at h
  ·cases k with
   | zero=>simp at hk;subst hk;assumption
   | succ k=>
    simp at hk;have:=I7 h k p hk
    rwa [show s+(k+1)=s+1+k by omega]
  ·cases h
theorem A0v {ps:List Pd} (h:Av (Kc ps.length) 0 ps=none):A9a ps:=by
 intro p hp n hn hop;obtain⟨k,hk⟩:=List.getElem?_of_mem hp;obtain⟨j,hj⟩:=List.getElem?_of_mem hn;have h1:=Gh h k p hk;unfold Kc Ff at h1;cases hb:Aq (Fa ps.length p) 0 p.ins with
 | some i=>rw[hb]at h1;cases h1
 | none=>
  have h2:=I7 hb j n hj;unfold Fa Eo at h2;rw[hop]at h2;have h3:Bt (11:Int).toNat=[1,9,0,0]:=by decide
  rw[h3]at h2;simp[Nd.fs,Em,Bd,inR]at h2;omega
inductive Pth (E:Nat->Nat->Prop):Nat->Nat->Prop
 | refl (a:Nat):Pth E a a
 | step {a b c:Nat} (h:E a b) (k:Pth E b c):Pth E a c
theorem Pth.trans {E:Nat->Nat->Prop} {a b c:Nat} (h:Pth E a b) (k:Pth E b c):Pth E a c:=by
 induction h with
 | refl=>exact k
 | step h _ ih=>exact .step h (ih k)
theorem Pth.one {E:Nat->Nat->Prop} {a b:Nat} (h:E a b):Pth E a b:=.step h (.refl _)
def OnC (E:Nat->Nat->Prop) (i:Nat):Prop:=∃b,E i b/\Pth E b i
theorem A69 {E:Nat->Nat->Prop} {a b:Nat} (hn:a≠b) (h:Pth E a b) (k:Pth E b a):OnC E a:=by
 cases h with
 | refl=>exact absurd rfl hn
 | step h1 h2=>exact⟨_,h1,h2.trans k⟩
structure Tj where
 count:Nat
 order:List Nat
 path:List Nat
 least:Nat
def Tj.ord (T:Tj) (v:Nat):Nat:=T.order.getD v 0
structure Jt (E:Nat->Nat->Prop) (N:Nat) (T:Tj) (gray:Nat->Prop):Prop where
 lenO:T.order.length=N
 sorted:T.path.Pairwise fun x y=>T.ord x<T.ord y
 vis:∀v∈T.path,T.ord v≠0
 le:∀v,T.ord v<=T.count
 fwd:T.path.Pairwise fun x y=>Pth E x y
 gry:∀x,gray x->x∈T.path
 back:∀y∈T.path,∃x,gray x/\Pth E y x
 black:∀y,T.ord y≠0->¬gray y->∀z,E y z->T.ord z≠0
 clo:∀y,T.ord y≠0->y∉T.path->∀z,E y z->T.ord z≠0/\z∉T.path
 sound:T.least=N∨(T.least<N/\OnC E T.least)
 comp:∀i,T.ord i≠0->i∉T.path->OnC E i->T.least<=i
structure Vt (E:Nat->Nat->Prop) (N:Nat) (T T':Tj) (gray:Nat->Prop) (at_ low:Nat):Prop where
 j:Jt E N T' gray
 path:∃ext,T'.path=T.path++ext/\(∀y∈ext,∀z∈T.path,E y z->low<=T.ord z)/\((ext=[]/\T.count<low)∨∃z∈T.path,T.ord z=low/\Pth E at_ z)
 same:∀v,T.ord v≠0->T'.ord v=T.ord v
 seen:T'.ord at_≠0
 more:T.count<=T'.count
structure Lt (E:Nat->Nat->Prop) (N:Nat) (T0 T:Tj) (gray:Nat->Prop) (at_ low:Nat) (D:List Nat):Prop where
 j:Jt E N T fun x=>gray x∨x=at_
 path:∃ext,T.path=T0.path++at_::ext/\∀y∈ext,∀z∈T0.path,E y z->low<=T.ord z
 o:T.ord at_=T0.count+1
 lowLe:low<=T0.count+1
 lows:∃z∈T.path,T.ord z=low/\Pth E at_ z
 done:∀b∈D,T.ord b≠0/\(b∈T0.path->low<=T.ord b)
 same:∀v,T0.ord v≠0->T.ord v=T0.ord v
 more:T0.count+1<=T.count
theorem A8h {T:Tj} {N at_ c:Nat} {p:List Nat} {l k:Nat} (h:T.order.length=N) (ha:at_<N) (v:Nat):(Tj.mk c (T.order.set at_ k) p l).ord v=if v=at_ then k else T.ord v:=by
 unfold Tj.ord;simp only[yR,List.getElem?_set];by_cases hv:at_=v
 ·subst hv;simp[h,ha]
 ·simp[hv,Ne.symm hv]
theorem A5y {E:Nat->Nat->Prop} {N:Nat} {T:Tj} {gray:Nat->Prop} {at_:Nat} (hj:Jt E N T gray) (ha:at_<N) (hw:T.ord at_=0)
  (hreach:∀x∈T.path,Pth E x at_):Lt E N T ⟨T.count+1,T.order.set at_ (T.count+1),T.path++[at_],T.least⟩ gray at_ (T.count+1) []:=by
 have ho:=fun v=>A8h (T:=T) (c:=T.count+1) (p:=T.path++[at_]) (l:=T.least) (k:=T.count+1) hj.lenO ha v;have hne:∀v,T.ord v≠0->v≠at_:=fun v h e=>h (e▸hw);have hin:∀v,v∈T.path->v≠at_:=fun v h=>hne v (hj.vis v h);refine⟨⟨by simp[hj.lenO],?_,?_,?_,?_,?_,?_,?_,?_,hj.sound,?_⟩,⟨[],rfl,by simp⟩,by rw[ho];simp,yB _,⟨at_,by simp,by rw[ho];simp,.refl _⟩,by simp,?_,yB _⟩
 ·refine List.pairwise_append.2 ⟨?_,by simp,?_⟩
  ·refine hj.sorted.imp_of_mem ?_;intro a b h1 h2 h3;rw[ho,ho,if_neg (hin a h1),if_neg (hin b h2)];exact h3
  ·intro a h1 b hb;simp at hb;subst hb;rw[ho,ho,if_neg (hin a h1),if_pos rfl];have:=hj.le a;omega
 ·intro v hv;rw[ho];split
  ·omega
  ·rename_i hn;simp[hn]at hv;exact hj.vis v hv
 ·intro v;rw[ho];have:=hj.le v;dsimp only;split<;>omega
 ·refine List.pairwise_append.2 ⟨hj.fwd,by simp,?_⟩;intro a h1 b hb;simp at hb;subst hb;exact hreach a h1
 ·intro x hx;rcases hx with hx|rfl
  ·simp[hj.gry x hx]
  ·simp
 ·intro y hy;by_cases h:y=at_
  ·subst h;exact⟨y,.inr rfl,.refl _⟩
  ·simp[h]at hy;obtain⟨x,h1,h2⟩:=hj.back y hy;exact⟨x,.inl h1,h2⟩
 ·intro y hy hg z hz;have hya:y≠at_:=fun e=>hg (.inr e);rw[ho,if_neg hya]at hy;have:=hj.black y hy (fun h=>hg (.inl h)) z hz;rw[ho];split
  ·omega
  ·exact this
 ·intro y hy hp z hz;simp at hp;rw[ho,if_neg hp.2]at hy;obtain⟨h1,h2⟩:=hj.clo y hy hp.1 z hz;have:=hne z h1;rw[ho,if_neg this];exact⟨h1,by simp[h2,this]⟩
 ·intro i hi hp hc;simp at hp;rw[ho,if_neg hp.2]at hi;exact hj.comp i hi hp.1 hc
 ·intro v hv;rw[ho,if_neg (hne v hv)]
theorem A89 {E:Nat->Nat->Prop} {N:Nat} {T0 T:Tj} {gray:Nat->Prop} {at_ low b:Nat} {D:List Nat} (h:Lt E N T0 T gray at_ low D) (hb:T.ord b≠0) (hE:E at_ b) :
  (b∈T.path->Lt E N T0 T gray at_ (min low (T.ord b)) (D++[b]))/\(b∉T.path->Lt E N T0 T gray at_ low (D++[b])):=by
 obtain⟨ext,e1,e2⟩:=h.path;constructor
 ·intro hp;refine⟨h.j,⟨ext,e1,fun y hy z hz he=>yI (Nat.min_le_left _ _) (e2 y hy z hz he)⟩,h.o,yI (Nat.min_le_left _ _) h.lowLe,?_,?_,h.same,h.more⟩
  ·by_cases hl:low<=T.ord b
   ·rw[Nat.min_eq_left hl];exact h.lows
   ·rw[Nat.min_eq_right (by omega)];exact⟨b,hp,rfl,.one hE⟩
  ·intro x hx;rcases yZ.1 hx with hx|hx
   ·obtain⟨h1,h2⟩:=h.done x hx;exact⟨h1,fun hz=>yI (Nat.min_le_left _ _) (h2 hz)⟩
   ·simp at hx;subst hx;exact⟨hb,fun _=>Nat.min_le_right _ _⟩
 ·intro hp;refine⟨h.j,⟨ext,e1,e2⟩,h.o,h.lowLe,h.lows,?_,h.same,h.more⟩;intro x hx;rcases yZ.1 hx with hx|hx
  ·exact h.done x hx
  ·simp at hx;subst hx;refine⟨hb,fun hz=>absurd ?_ hp⟩;rw[e1];simp[hz]
theorem A5z {E:Nat->Nat->Prop} {N:Nat} {T0 T T':Tj} {gray:Nat->Prop} {at_ low b l:Nat} {D:List Nat} (h:Lt E N T0 T gray at_ low D) (hw:T.ord b=0) (hE:E at_ b)
  (hv:Vt E N T T' (fun x=>gray x∨x=at_) b l):Lt E N T0 T' gray at_ (min low l) (D++[b]):=by
 obtain⟨ext,e1,e2⟩:=h.path;obtain⟨ext',p1,p2,p3⟩:=hv.path;have hsm:∀v∈T.path,T'.ord v=T.ord v:=fun v hm=>hv.same v (h.j.vis v hm);have hin0:∀v∈T0.path,v∈T.path:=fun v hm=>by rw[e1];simp[hm]
 have hat:at_∈T.path:=by rw[e1];simp
 refine⟨hv.j,⟨ext++ext',by rw[p1,e1];simp,?_⟩,by rw[hsm at_ hat];exact h.o,yI (Nat.min_le_left _ _) h.lowLe,?_,?_,?_,yI h.more hv.more⟩
 ·intro y hy z hz he;rw[hsm z (hin0 z hz)];rcases yZ.1 hy with hy|hy
  ·have:=e2 y hy z hz he;have:=Nat.min_le_left low l;omega
  ·have:=p2 y hy z (hin0 z hz) he;have:=Nat.min_le_right low l;omega
 ·obtain⟨z,z1,z2,z3⟩:=h.lows;have hzk:∃z∈T'.path,T'.ord z=low/\Pth E at_ z:=⟨z,by rw[p1];simp[z1],by rw[hsm z z1];exact z2,z3⟩;rcases p3 with ⟨_,p4⟩|⟨y,y1,y2,y3⟩
  ·have h1:=h.lowLe;have h2:=h.more;rw[Nat.min_eq_left (by omega)];exact hzk
  ·by_cases hl:low<=l
   ·rw[Nat.min_eq_left hl];exact hzk
   ·rw[Nat.min_eq_right (by omega)];exact⟨y,by rw[p1];simp[y1],by rw[hsm y y1];exact y2,.step hE y3⟩
 ·intro x hx;rcases yZ.1 hx with hx|hx
  ·obtain⟨h1,h2⟩:=h.done x hx;have:=hv.same x h1;rw[this];exact⟨h1,fun hz=>yI (Nat.min_le_left _ _) (h2 hz)⟩
  ·simp at hx;subst hx;refine⟨hv.seen,fun hz=>?_⟩;exact absurd hw (h.j.vis x (hin0 x hz))
 ·intro v hn;have h1:=h.same v hn;rw[hv.same v (by rw[h1];exact hn),h1]
theorem Rb {E:Nat->Nat->Prop} {N:Nat} {T0 T:Tj} {gray:Nat->Prop} {at_ low:Nat} {D ext:List Nat} (h:Lt E N T0 T gray at_ low D) (hg0:∀x,gray x->x∈T0.path) (e1:T.path=T0.path++at_::ext) :
  ∀y∈at_::ext,Pth E y at_/\Pth E at_ y:=by
 have hf:=h.j.fwd;rw[e1]at hf;obtain⟨_,f2,f3⟩:=List.pairwise_append.1 hf;intro y hy;constructor
 ·obtain⟨x,hx,hp⟩:=h.j.back y (by rw[e1];exact yZ.2 (.inr hy));rcases hx with hx|rfl
  ·exact hp.trans (f3 x (hg0 x hx) at_ (by simp))
  ·exact hp
 ·rcases List.mem_cons.1 hy with rfl|hy
  ·exact .refl _
  ·exact(List.pairwise_cons.1 f2).1 y hy
theorem Uf {E:Nat->Nat->Prop} {N:Nat} {T0 T:Tj} {gray:Nat->Prop} {at_ low:Nat} {D ext:List Nat} (h:Lt E N T0 T gray at_ low D) (e1:T.path=T0.path++at_::ext) :
  (∀z∈T0.path,T.ord z<T0.count+1)/\(∀y∈ext,T0.count+1<T.ord y)/\at_∉T0.path/\(∀y∈ext,y∉T0.path):=by
 have hs:=h.j.sorted;rw[e1]at hs;obtain⟨_,s2,s3⟩:=List.pairwise_append.1 hs;have o:=h.o;have k1:∀z∈T0.path,T.ord z<T0.count+1:=fun z hz=>by have:=s3 z hz at_ (by simp);omega
 have k2:∀y∈ext,T0.count+1<T.ord y:=fun y hy=>by have:=(List.pairwise_cons.1 s2).1 y hy;omega
 refine⟨k1,k2,fun hz=>by have:=k1 _ hz;omega,fun y hy hz=>by have:=k1 _ hz;have:=k2 _ hy;omega⟩
theorem A7f {E:Nat->Nat->Prop} {N:Nat} {T0 T:Tj} {gray:Nat->Prop} {at_:Nat} {D ext:List Nat} {least:Nat} (hj:Jt E N T0 gray) (h:Lt E N T0 T gray at_ (T0.count+1) D) (e1:T.path=T0.path++at_::ext) (hD:∀b,E at_ b->b∈D)
  (hN:∀y∈at_::ext,y<N)
  (hl:((ext≠[]∨E at_ at_)/\∃m∈at_::ext,(∀y∈at_::ext,m<=y)/\least=min T.least m)∨(¬(ext≠[]∨E at_ at_)/\least=T.least)) :
  Vt E N T0 ⟨T.count,T.order,T0.path,least⟩ gray at_ (T0.count+1):=by
 obtain⟨k1,k2,k3,k4⟩:=Uf h e1;have hgr:=Rb h hj.gry e1;have hs0:∀z∈T0.path,T.ord z=T0.ord z:=fun z hz=>h.same z (hj.vis z hz);obtain⟨ext2,e1',e2⟩:=h.path;obtain rfl:ext=ext2:=by rw[e1]at e1';simpa using e1'
 have hcirc:(ext≠[]∨E at_ at_)->∀y∈at_::ext,OnC E y:=by
  intro hc y hy;by_cases hya:y=at_
  ·subst hya;by_cases hx:ext=[]
   ·rcases hc with hc|hc
    ·exact absurd hx hc
    ·exact⟨y,hc,.refl _⟩
   ·obtain⟨u,hu⟩:=List.exists_mem_of_ne_nil ext hx;have hne:y≠u:=by intro e;subst e;have:=k2 _ hu;have:=h.o;omega
    have:=hgr u (by simp[hu]);exact A69 hne this.2 this.1
  ·have:=hgr y hy;exact A69 hya this.1 this.2
 have hle:least<=T.least:=by
  rcases hl with ⟨_,m,_,_,rfl⟩|⟨_,rfl⟩
  ·exact Nat.min_le_left _ _
  ·exact yB _
 refine⟨⟨h.j.lenO,?_,?_,h.j.le,?_,hj.gry,hj.back,?_,?_,?_,?_⟩,⟨[],by simp,by simp,.inl ⟨rfl,by omega⟩⟩,h.same,?_,by have:=h.more;dsimp only;omega⟩
 ·exact(List.pairwise_append.1 (e1▸h.j.sorted)).1
 ·intro v hv;exact h.j.vis v (by rw[e1];simp[hv])
 ·exact(List.pairwise_append.1 (e1▸h.j.fwd)).1
 ·intro y hy hg z hz;by_cases hya:y=at_
  ·subst hya;exact(h.done z (hD z hz)).1
  ·exact h.j.black y hy (by rintro(h1|h1);exact hg h1;exact hya h1) z hz
 ·intro y hy hp z hz;dsimp only at hp;have hvz:T.ord z≠0:=by
   by_cases hya:y=at_
   ·subst hya;exact(h.done z (hD z hz)).1
   ·exact h.j.black y hy (by rintro(h1|h1);exact hp (hj.gry y h1);exact hya h1) z hz
  refine⟨hvz,?_⟩;dsimp only;intro hz0;have hk:=k1 z hz0;by_cases hyp:y∈T.path
  ·rw[e1]at hyp;rcases yZ.1 hyp with h1|h1
   ·exact hp h1
   ·rcases List.mem_cons.1 h1 with rfl|h1
    ·have:=(h.done z (hD z hz)).2 hz0;omega
    ·have:=e2 y h1 z hz0 hz;omega
  ·exact(h.j.clo y hy hyp z hz).2 (by rw[e1];simp[hz0])
 ·dsimp only;rcases hl with ⟨hc,m,m1,m2,rfl⟩|⟨_,rfl⟩
  ·have hm:=hN m m1;rcases h.j.sound with hs|hs
   ·exact .inr ⟨by omega,by rw[Nat.min_eq_right (by omega)];exact hcirc hc m m1⟩
   ·by_cases hml:T.least<=m
    ·rw[Nat.min_eq_left hml];exact .inr hs
    ·rw[Nat.min_eq_right (by omega)];exact .inr ⟨hm,hcirc hc m m1⟩
  ·exact h.j.sound
 ·intro i hi hp hc;dsimp only at hp ⊢;by_cases hip:i∈T.path
  ·rw[e1]at hip;have hig:i∈at_::ext:=(yZ.1 hip).resolve_left hp;rcases hl with ⟨_,m,m1,m2,rfl⟩|⟨hn,_⟩
   ·exact yI (Nat.min_le_right _ _) (m2 i hig)
   ·exfalso;have hx:ext=[]:=Classical.byContradiction fun hx=>hn (.inl hx);subst hx;simp at hig;subst hig;obtain⟨b,hb1,hb2⟩:=hc;obtain⟨d1,d2⟩:=h.done b (hD b hb1);by_cases hbp:b∈T.path
    ·rw[e1]at hbp;rcases yZ.1 hbp with h1|h1
     ·have:=d2 h1;have:=k1 b h1;omega
     ·simp at h1;subst h1;exact hn (.inr hb1)
    ·have:∀{u v:Nat},Pth E u v->T.ord u≠0->u∉T.path->v∉T.path:=by
      intro u v hp
      induction hp with
      | refl=>exact fun _ h2=>h2
      | step h1 _ ih=>intro h2 h3;obtain⟨c1,c2⟩:=h.j.clo _ h2 h3 _ h1;exact ih c1 c2
     exact this hb2 d1 hbp (by rw[e1];simp)
  ·exact yI hle (h.j.comp i hi hip hc)
 ·show T.ord at_≠0;have:=h.o;omega
theorem A97 {E:Nat->Nat->Prop} {N:Nat} {T0 T:Tj} {gray:Nat->Prop} {at_ low:Nat} {D:List Nat} (hj:Jt E N T0 gray) (h:Lt E N T0 T gray at_ low D) (hD:∀b,E at_ b->b∈D) (hlow:low≠T0.count+1):Vt E N T0 T gray at_ low:=by
 obtain⟨ext,e1,e2⟩:=h.path;obtain⟨k1,k2,k3,k4⟩:=Uf h e1;have hgr:=Rb h hj.gry e1;have hs0:∀z∈T0.path,T.ord z=T0.ord z:=fun z hz=>h.same z (hj.vis z hz);have hl2:=h.lowLe;obtain⟨z,z1,z2,z3⟩:=h.lows;have hz0:z∈T0.path:=by
  rw[e1]at z1;rcases yZ.1 z1 with h1|h1
  ·exact h1
  ·exfalso;rcases List.mem_cons.1 h1 with rfl|h1
   ·have:=h.o;omega
   ·have:=k2 z h1;omega
 have hb:∀y,E at_ y->T.ord y≠0:=fun y hy=>(h.done y (hD y hy)).1;refine⟨⟨h.j.lenO,h.j.sorted,h.j.vis,h.j.le,h.j.fwd,fun x hx=>h.j.gry x (.inl hx),?_,?_,h.j.clo,h.j.sound,h.j.comp⟩,⟨at_::ext,e1,?_,.inr ⟨z,hz0,by rw[←hs0 z hz0];exact z2,z3⟩⟩,h.same,by have:=h.o;omega,by have:=h.more;omega⟩
 ·intro y hy;rw[e1]at hy;rcases yZ.1 hy with h1|h1
  ·exact hj.back y h1
  ·obtain⟨x,hx,hp⟩:=hj.back z hz0;exact⟨x,hx,((hgr y h1).1.trans z3).trans hp⟩
 ·intro y hy hg u hu;by_cases hya:y=at_
  ·subst hya;exact hb u hu
  ·exact h.j.black y hy (by rintro(h1|h1);exact hg h1;exact hya h1) u hu
 ·intro y hy u hu he;rw[←hs0 u hu];rcases List.mem_cons.1 hy with rfl|hy
  ·exact(h.done u (hD u he)).2 hu
  ·exact e2 y hy u hu he
theorem A5x {E:Nat->Nat->Prop} {N:Nat} {T0 T:Tj} {gray:Nat->Prop} {at_ low b:Nat} {D:List Nat} (h:Lt E N T0 T gray at_ low D) (hg0:∀x,gray x->x∈T0.path) (hE:E at_ b):∀x∈T.path,Pth E x b:=by
 obtain⟨ext,e1,_⟩:=h.path;have hgr:=Rb h hg0 e1;have hf:=h.j.fwd;rw[e1]at hf;obtain⟨_,_,f3⟩:=List.pairwise_append.1 hf;intro x hx;rw[e1]at hx;rcases yZ.1 hx with h1|h1
 ·exact(f3 x h1 at_ (by simp)).trans (.one hE)
 ·exact(hgr x h1).1.trans (.one hE)
theorem Aa8 {E:Nat->Nat->Prop} {N:Nat} {T:Tj} {gray:Nat->Prop} (h:Jt E N T gray) {v:Nat} (hv:T.ord v≠0):v<N:=by refine Classical.byContradiction fun hn=>hv ?_;unfold Tj.ord;rw[yR,List.getElem?_eq_none (by rw[h.lenO];omega)];rfl
theorem Zq {E:Nat->Nat->Prop} {N:Nat} {T:Tj} (h:Jt E N T fun _=>False):T.path=[]:=by refine Classical.byContradiction fun hn=>?_;obtain⟨y,hy⟩:=List.exists_mem_of_ne_nil _ hn;obtain⟨x,hx,_⟩:=h.back y hy;exact hx
theorem A5u (E:Nat->Nat->Prop) (N:Nat):Jt E N ⟨0,List.replicate N 0,[],N⟩ fun _=>False:=by
 have ho:∀v,(Tj.mk 0 (List.replicate N 0) [] N).ord v=0:=by intro v;unfold Tj.ord;simp[List.getD_eq_getElem?_getD,List.getElem?_replicate];split<;>rfl
 refine⟨by simp,by simp,by simp,fun v=>by rw[ho];simp,by simp,by simp,by simp,fun y hy=>absurd (ho y) hy,fun y hy=>absurd (ho y) hy,.inl rfl,fun y hy=>absurd (ho y) hy⟩
def Ik (E:Nat->Nat->Prop) (N m:Nat):Prop:=(m=N∨(m<N/\OnC E m))/\∀i,i<N->OnC E i->m<=i
theorem A5w {E:Nat->Nat->Prop} {N:Nat} {T:Tj} (h:Jt E N T fun _=>False) (hv:∀i,i<N->T.ord i≠0):Ik E N T.least:=
 ⟨h.sound,fun i hi hc=>h.comp i (hv i hi) (by rw[Zq h];simp) hc⟩
def stT (o:Option St):List Int:=match o with|none=>[]|some s=>s.types
def stG (o:Option St):List Gd:=match o with|none=>[]|some s=>s.guards
theorem Br {w:World} {b i j:Nat} {v:Value} (h:i≠j):(w.setCell ⟨b,i,none⟩ v).cell? ⟨b,j,none⟩=w.cell? ⟨b,j,none⟩:=by
 simp[World.cell?,World.setCell,Array.getElem?_modify];cases hb:w.heap[b]? with
 | none=>simp
 | some o=>cases o<;>simp[h]
theorem Gw {w:World} {b n i:Nat} {t:TypeId} {v:Value} (h:Own w b t n) (hi:i<n):(w.setCell ⟨b,i,none⟩ v).cell? ⟨b,i,none⟩=some v:=by obtain⟨c,hc,rfl⟩:=h;simp[World.cell?,World.setCell,Array.getElem?_modify,hc,hi]
theorem Tryz.info_State:(prog.info? 344).map (fun i=>(i.zero,i.size,i.bytes))=some (some (.agg #[.bool false,.slice none 0 0,.slice none 0 0]),3,56):=by kernel_rfl
theorem Ot {z:Array Value} {n j i:Nat} (hi:i<z.size) (hj:j*z.size+i<n):(madeCells z n)[j*z.size+i]?=z[i]?:=by
 have hm:(j*z.size+i)%z.size=i:=by rw[Nat.add_comm,Nat.add_mul_mod_self_right,Nat.mod_eq_of_lt hi]
 unfold madeCells;simp[hj,hm,hi]
open Classical in
noncomputable def A15 (P:Nat->Prop) (N:Nat):Nat:=((List.range N).find? fun i=>decide (P i)).getD N
open Classical in
theorem Uc {E:Nat->Nat->Prop} {N m:Nat} (h:Ik E N m):A15 (OnC E) N=m:=by
 unfold A15;obtain⟨h1,h2⟩:=h;rcases h1 with rfl|⟨h3,h4⟩
 ·rw[List.find?_eq_none.2]
  ·rfl
  ·intro i hi;simp at hi ⊢;intro hc;have:=h2 i hi hc;omega
 ·have:(List.range N).find? (fun i=>decide (OnC E i))=some m:=by rw[List.find?_range_eq_some];refine⟨by simpa using h4,by simpa using h3,?_⟩;intro j hj;simp;intro hc;have:=h2 j (by omega) hc;omega
  rw[this];rfl
def Cf.E (c:Cf) (p:Pd) (a b:Nat):Prop:=(c.st a).isSome=true/\Sil p.ins a b
noncomputable def A2b (p:Pd) (c:Cf):Nat:=A15 (OnC (c.E p)) p.ins.length
noncomputable def J7 (ps:List Pd) (p:Pd) (pi:Nat):Int×Int×Int:=
 match Ej ps p (2*p.ins.length+2) (Ch p) with
 | .error (k,x)=>(k,pi,x)
 | .ok c=>if A2b p c<p.ins.length then (14,pi,A2b p c) else (0,0,0)
theorem A1y {ps:List Pd} {p:Pd} {pi k x:Nat} (h:Ej ps p (2*p.ins.length+2) (Ch p)=.error (k,x)):J7 ps p pi=((k:Int),(pi:Int),(x:Int)):=by unfold J7;rw[h]
theorem A4w {ps:List Pd} {p:Pd} {pi m:Nat} {c:Cf} (h:Ej ps p (2*p.ins.length+2) (Ch p)=.ok c) (hm:Ik (c.E p) p.ins.length m) (hl:m<p.ins.length):J7 ps p pi=(14,(pi:Int),(m:Int)):=by unfold J7 A2b;rw[h];dsimp only;rw[Uc hm,if_pos hl]
theorem Un {ps:List Pd} {p:Pd} {pi:Nat} {c:Cf} (h:Ej ps p (2*p.ins.length+2) (Ch p)=.ok c) (hm:Ik (c.E p) p.ins.length p.ins.length):J7 ps p pi=(0,0,0):=by unfold J7 A2b;rw[h];dsimp only;rw[Uc hm,if_neg (Nat.lt_irrefl _)]
theorem Qu {np:Nat} {p:Pd} (hp:Uu np p):((Ev p).length:Int)=p.regs:=by have h1:=hp.regs;have h2:=hp.params;unfold Ev;dsimp only;split<;>simp<;>omega
theorem A71 {np:Nat} {p:Pd} (hp:Uu np p):Kb p (Ch p)/\I4 p (Ch p) none/\(Ch p).meas<2*p.ins.length+2:=by
 have hs:=hp.some;have hst:∀i,(Ch p).st i=if 0=i then some ⟨Ev p,[]⟩ else none:=by
  intro i;have:=Ow ⟨List.replicate p.ins.length none,[]⟩ 0 i ⟨Ev p,[]⟩ ((List.replicate p.ins.length false).set 0 true);unfold Ch;rw[this];unfold Cf.st;simp only[List.length_replicate,yR,List.getElem?_replicate];by_cases h0:0=i
  ·rw[if_pos ⟨h0,hs⟩,if_pos h0]
  ·rw[if_neg (fun h=>h0 h.1),if_neg h0];split<;>rfl
 have hdu:∀i,(Ch p).due.getD i false=if 0=i then true else false:=by
  intro i;unfold Ch;rw[Ir];simp only[List.length_replicate,yR,List.getElem?_replicate];by_cases h0:0=i
  ·rw[if_pos ⟨h0,hs⟩,if_pos h0]
  ·rw[if_neg (fun h=>h0 h.1),if_neg h0];split<;>rfl
 refine⟨⟨by simp[Ch],by simp[Ch],?_,?_⟩,?_,?_⟩
 ·intro i s hi;rw[hst]at hi;split at hi
  ·obtain rfl:=yO hi;exact⟨Qu hp,by simp,by simp⟩
  ·cases hi
 ·intro i hi;rw[hdu]at hi;rw[hst];split at hi
  ·rename_i h;rw[if_pos h];rfl
  ·cases hi
 ·intro i n hn hi hd;rw[hst]at hi;rw[hdu]at hd;split at hi
  ·rename_i h;rw[if_pos h]at hd;cases hd
  ·cases hi
 ·unfold Cf.meas Ch;dsimp only;have h1:Ls ((List.replicate p.ins.length none).set 0 (some ⟨Ev p,[]⟩))<=p.ins.length:=by unfold Ls;exact yI (List.length_filter_le _ _) (by simp)
  have h2:=@U1 (List.replicate p.ins.length false) 0;have h3:Ps (List.replicate p.ins.length false)=0:=by unfold Ps;simp
  omega
theorem Rc {ps:List Pd} {pi:Nat} {p:Pd} : ∀{l:List Nd} {k:Nat} {m m':List Bool},Ex ps pi p k l m=(none,m')->∀n∈l,n.op=11->Nw p ((ps[n.b.toNat]?.map Pd.ups).getD [])=true
 | [],_,_,_,_,n,hn,_=>by simp at hn
 | x::r,k,m,m',h,n,hn,ho=>by
  unfold Ex at h;by_cases hx:x.op=11
  ·rw[if_pos (by simpa using hx)]at h;cases hb:Mx ps pi p m x with
   | true=>rw[hb]at h;simp at h
   | false=>
    rw[hb]at h;rcases List.mem_cons.1 hn with rfl|hn
    ·unfold Mx at hb;simp only[Bool.or_eq_false_iff,Bool.not_eq_false']at hb;exact hb.2.2
    ·exact Rc (by simpa using h) n hn ho
  ·rw[if_neg (by simpa using hx)]at h;rcases List.mem_cons.1 hn with rfl|hn
   ·exact absurd ho hx
   ·exact Rc h n hn ho
theorem Zb {ps:List Pd} : ∀{l:List Pd} {pi:Nat} {m m':List Bool},Ie ps pi l m=(none,m')->∀p∈l,∀n∈p.ins,n.op=11->Nw p ((ps[n.b.toNat]?.map Pd.ups).getD [])=true
 | [],_,_,_,_,p,hp=>by simp at hp
 | x::r,pi,m,m',h,p,hp=>by
  unfold Ie at h;cases hi:Ex ps pi x 0 x.ins m with
  | mk o m2=>
   rw[hi]at h;cases o with
   | some k=>simp at h
   | none=>
    dsimp only at h;rcases List.mem_cons.1 hp with rfl|hp
    ·exact Rc hi
    ·exact Zb h p hp
structure Fits (ps:List Pd) (p:Pd):Prop where
 fit:Uu ps.length p
 few:p.ins.length<=6000
 ups:∀n∈p.ins,∀u∈Du ps n,u.loc=true->0<=u.idx/\u.idx<p.regs
theorem A03 {ps:List Pd} (h:(Ce ps).1=0):Nt ps=true/\Av Fq 0 ps=none/\Av (Kc ps.length) 0 ps=none/\∃m,Ie ps 0 ps (List.replicate ps.length false)=(none,m):=by
 unfold Ce at h;cases hs:Nt ps with
 | false=>rw[hs]at h;simp at h
 | true=>
  rw[hs,if_pos rfl]at h;cases h1:Av Fq 0 ps with
  | some x=>rw[h1]at h;simp at h
  | none=>
   rw[h1]at h;dsimp only at h;cases h2:Av Fw 0 ps with
   | some x=>rw[h2]at h;simp at h
   | none=>
    rw[h2]at h;dsimp only at h;cases h3:Av G6 0 ps with
    | some x=>rw[h3]at h;simp at h
    | none=>
     rw[h3]at h;dsimp only at h;cases h4:Av (Kc ps.length) 0 ps with
     | some x=>rw[h4]at h;simp at h
     | none=>
      rw[h4]at h;dsimp only at h;refine⟨rfl,rfl,rfl,?_⟩;unfold Eh at h;cases h5:Ie ps 0 ps (List.replicate ps.length false) with
      | mk o m=>
       rw[h5]at h;cases o with
       | some x=>simp at h
       | none=>exact⟨m,rfl⟩
theorem Ru {ps:List Pd} (h:(Ce ps).1=0):∀p∈ps,Fits ps p:=by
 obtain⟨hs,hh,hi,m,hm⟩:=A03 h;intro p hp;obtain⟨k,hk⟩:=List.getElem?_of_mem hp;have h1:=Gh hh k p hk;have h2:=Gh hi k p hk;have hreg:=Gc hh p hp;have hhead:Jl p (0+k)=true:=by
  unfold Fq at h1;split at h1
  ·assumption
  ·cases h1
 unfold Kc Ff at h2;cases h3:Aq (Fa ps.length p) 0 p.ins with
 | some x=>rw[h3]at h2;cases h2
 | none=>
  rw[h3]at h2;dsimp only at h2;cases hl:p.ins.getLast? with
  | none=>rw[hl]at h2;cases h2
  | some n=>
   rw[hl]at h2;dsimp only at h2;have hnx:Ea n=false:=by
    cases hb:Ea n with
    | true=>rw[hb]at h2;simp at h2
    | false=>rfl
   have hpos:0<p.ins.length:=by
    cases hh2:p.ins with
    | nil=>rw[hh2]at hl;simp at hl
    | cons a r=>simp
   rw[List.getLast?_eq_getElem?]at hl;refine⟨⟨hreg,?_,?_,hpos,?_⟩,?_,?_⟩
   ·intro i x hx;have:=I7 h3 i x hx;unfold Fa Eo inR at this;simp only[yY,decide_eq_true_iff]at this;exact⟨this.1.1,this.1.2,this.2⟩
   ·intro i x hx hb;have hil:=(yD.1 hx).1;refine Classical.byContradiction fun hn=>?_;have:i=p.ins.length-1:=by omega
    subst this;rw[hx]at hl;obtain rfl:=yO hl;rw[hb]at hnx;cases hnx
   ·unfold Jl at hhead;simp only[yY,decide_eq_true_iff]at hhead;have hpar:=hhead.1.1.1.2;unfold inR most wrap64 at hpar;cases hre:p.rest with
    | false=>rw[hre]at hpar;simp at hpar;exact⟨by omega,by omega,by simp⟩
    | true=>rw[hre]at hpar;simp at hpar;exact⟨by omega,by omega,fun _=>by omega⟩
   ·unfold Nt at hs;simp only[yY,decide_eq_true_iff]at hs;have h1:=A73 (f:=fun p:Pd=>p.ins.length) hp;have h2:=hs.2;unfold A5s at h2;omega
   ·intro x hx u hu hloc;unfold Du at hu;split at hu
    ·rename_i ho;have:=Zb hm p hp x hx ho;cases hq:ps[x.b.toNat]? with
     | none=>rw[hq]at hu;simp at hu
     | some q=>
      rw[hq]at hu this;simp at this;unfold Nw at this;have:=List.all_eq_true.1 this u hu;unfold upB inR at this;rw[hloc]at this;simp at this;omega
    ·simp at hu
theorem U5 {ps:List Pd} (hfi:∀p∈ps,Ny p) (n:Nd):(Du ps n).length<=1048576:=by
 unfold Du;split
 ·split
  ·rename_i q hq;exact(hfi q (yH hq)).ups
  ·simp
 ·simp
noncomputable def P8 (ps:List Pd):Nat->List Pd->Int×Int×Int
 | _,[]=>(0,0,0)
 | k,p::r=>if (J7 ps p k).1=0 then P8 ps (k+1) r else J7 ps p k
theorem A4x {ps l:List Pd} {k:Nat} {p:Pd} (h:l[k]?=some p):P8 ps k (l.drop k)=if (J7 ps p k).1=0 then P8 ps (k+1) (l.drop (k+1)) else J7 ps p k:=by rw[Bg h];rfl
noncomputable def F8 (ps:List Pd):Int×Int×Int:=if (Ce ps).1=0 then P8 ps 0 ps else Ce ps
structure QFit (p:Pd) (n:Nd):Prop where
 lo:1<=n.op
 hi:n.op<=42
 drop:n.op=42->(0<=n.a/\n.a<=250)/\n.b=0/\n.c=0/\n.d=0
 cst:n.op=4->(0<=n.a/\n.a<=250)/\0<=n.b/\n.b<p.consts.length
 bin:n.op=18->(0<=n.a/\n.a<=250)
theorem qfit {np:Nat} {p:Pd} {n:Nd} (hr:0<=p.regs/\p.regs<=250) (h:El np p n):QFit p n:=by
 obtain⟨lo,hi,hf⟩:=h;refine⟨lo,hi,fun e=>?_,fun e=>?_,fun e=>?_⟩
 ·rw[e]at hf;simp[Bt,Dr,Nd.fs,Em,Bd,inR]at hf;omega
 ·rw[e]at hf;simp[Bt,Dr,Nd.fs,Em,Bd,inR]at hf;omega
 ·rw[e]at hf;simp[Bt,Dr,Nd.fs,Em,Bd,inR]at hf;omega
theorem A8r {ps:List Pd} (h:(F8 ps).1=0):∀p∈ps,∀n∈p.ins,QFit p n:=by
 have hs:(Ce ps).1=0:=by
  unfold F8 at h;split at h
  ·assumption
  ·exact h
 intro p hp n hn;have hf:=(Ru hs p hp).fit;obtain⟨i,hi⟩:=List.getElem?_of_mem hn;exact qfit hf.regs (hf.fit i n hi)
def Bo (cs:List Vd) (c:Nat):List Nd->Nat->Option Qd
 | n::x::r,0=>if n.op=42/\x.op=42/\1<Cn n.a 0 (n::x::r) then some ⟨46,n.a,Cn n.a 0 (n::x::r),0,0,0,0⟩ else none
 | n::x::_,1=>if n.op=18/\x.op=20/\13<=n.b/\x.a = -1-n.a then some ⟨43,n.a,n.b,n.c,n.d,x.b,1⟩ else none
 | n::x::_,2=>if n.op=18/\x.op=21/\13<=n.b/\x.a = -1-n.a then some ⟨43,n.a,n.b,n.c,n.d,x.b,0⟩ else none
 | n::x::_,3=>if n.op=4/\x.op=18/\x.c = -1-n.a/\x.d≠n.a/\x.d≠-1-n.a then some ⟨44,x.a,x.b,x.d,n.b,1,n.a⟩
   else if n.op=4/\x.op=18/\x.d = -1-n.a/\x.c≠n.a/\x.c≠-1-n.a then some ⟨44,x.a,x.b,x.c,n.b,0,n.a⟩ else none
 | n::x::_,4=>if n.op=4/\x.op=15/\x.c = -1-n.a/\x.b≠n.a/\x.b≠-1-n.a/\Oq cs n.b=4 then some ⟨45,x.a,x.b,n.b,c,0,n.a⟩ else none
 | _,_=>none
theorem A3q {n x:Nd} {r:List Nd} (h:¬(n.op=42/\x.op=42)):¬1<Cn n.a 0 (n::x::r):=by
 unfold Cn;split
 ·rename_i h1;unfold Cn;rw[if_neg (fun h2=>h ⟨h1.1,h2.1⟩)];omega
 ·omega
theorem A3p {n:Nd} : ¬1<Cn n.a 0 [n]:=by have:=Oh n.a 0 [n];simp at this;omega
theorem Nr {cs:List Vd} {c:Nat} {n:Nd} {r:List Nd} : Ck cs c (n::r)=(((((Bo cs c (n::r) 0).or (Bo cs c (n::r) 1)).or (Bo cs c (n::r) 2)).or (Bo cs c (n::r) 3)).or (Bo cs c (n::r) 4)).getD (Rl n):=by
 match r with
 | []=>simp[Ck,twoL,Bo,A3p]
 | x::r=>
  by_cases h:n.op=42/\x.op=42
  ·by_cases hd:1<Cn n.a 0 (n::x::r)
   ·simp[Ck,Bo,h.1,h.2,hd]
   ·simp[Ck,Bo,twoL,Nv,h.1,h.2,hd]
  ·have hd:=A3q (r:=r) h;simp only[Ck,if_neg hd,twoL];have h0:Bo cs c (n::x::r) 0=none:=by simp[Bo,hd]
   rw[h0];clear h hd h0;by_cases a18:n.op=18
   ·by_cases x20:x.op=20
    ·by_cases hc:13<=n.b/\x.a = -1-n.a
     ·simp[Bo,Nv,a18,x20,hc.1,hc.2]
     ·have:¬(13<=n.b/\x.a = -1-n.a):=hc;simp[Bo,Nv,a18,x20,this]
    ·by_cases x21:x.op=21
     ·by_cases hc:13<=n.b/\x.a = -1-n.a
      ·simp[Bo,Nv,a18,x21,hc.1,hc.2]
      ·simp[Bo,Nv,a18,x21,hc]
     ·simp[Bo,Nv,a18,x20,x21]
   ·by_cases a4:n.op=4
    ·by_cases x18:x.op=18
     ·by_cases hc:x.c = -1-n.a/\x.d≠n.a/\x.d≠-1-n.a
      ·simp[Bo,Nv,a4,x18,hc.1,hc.2.1,hc.2.2]
      ·by_cases he:x.d = -1-n.a/\x.c≠n.a/\x.c≠-1-n.a
       ·simp only[Bo,Nv,a4,x18,if_neg hc,if_pos he,true_and];simp
       ·simp only[Bo,Nv,a4,x18,if_neg hc,if_neg he,true_and];simp
     ·by_cases x15:x.op=15
      ·by_cases hc:x.c = -1-n.a/\x.b≠n.a/\x.b≠-1-n.a/\Oq cs n.b=4
       ·simp only[Bo,Nv,a4,x15,if_pos hc,true_and];simp
       ·simp only[Bo,Nv,a4,x15,if_neg hc,true_and];simp
      ·simp[Bo,Nv,a4,x18,x15]
    ·simp[Bo,Nv,a18,a4]
theorem A95 {cs:List Vd} {c:Nat} {n:Nd} {r:List Nd} {k:Nat} {q:Qd} (hk:k<5) (h:∀j,j<k->Bo cs c (n::r) j=none) (hq:Bo cs c (n::r) k=some q):Ck cs c (n::r)=q:=by
 rw[Nr];rcases (show k=0∨k=1∨k=2∨k=3∨k=4 by omega) with rfl|rfl|rfl|rfl|rfl
 ·simp[hq]
 ·simp[hq,h 0]
 ·simp[hq,h 0,h 1]
 ·simp[hq,h 0,h 1,h 2]
 ·simp[hq,h 0,h 1,h 2,h 3]
theorem A7a {cs:List Vd} {c:Nat} {n:Nd} {r:List Nd} (h:∀j,j<5->Bo cs c (n::r) j=none):Ck cs c (n::r)=Rl n:=by rw[Nr];simp[h]
theorem Ii {cs:List Vd} {c k:Nat} {n:Nd} {x y:Int} {l:List Nd} (hs:stands x y (n::l)=false) (hk:(k=0/\x=42/\y=42)∨(k=1/\x=18/\y=20)∨(k=2/\x=18/\y=21)∨(k=3/\x=4/\y=18)∨(k=4/\x=4/\y=15)):Bo cs c (n::l) k=none:=by
 match l with
 | []=>rcases hk with ⟨rfl,_⟩|⟨rfl,_⟩|⟨rfl,_⟩|⟨rfl,_⟩|⟨rfl,_⟩<;>rfl
 | z::l=>
  simp only[stands,Bool.and_eq_false_iff,beq_eq_false_iff_ne]at hs;rcases hk with ⟨rfl,rfl,rfl⟩|⟨rfl,rfl,rfl⟩|⟨rfl,rfl,rfl⟩|⟨rfl,rfl,rfl⟩|⟨rfl,rfl,rfl⟩<;>simp only[Bo]<;>grind
theorem Gy {x a:Int} (ha:0<=a):(decide (x<0)&&(Be x==a))=decide (x = -1-a):=by unfold Be;rw[Bool.eq_iff_iff];split<;>simp<;>omega
theorem Ug {x a:Int} (ha:0<=a):(Be x==a)=decide (x=a∨x = -1-a):=by unfold Be;rw[Bool.eq_iff_iff];split<;>simp<;>omega
def Qc (f k:Nat) (io co:Option Addr) (ic cc c:Nat) (l:List Nd) (cs:List Vd) (w:World):Prop:=
 ∃(q:Qd) (ok:Bool),(∀W,Below w.heap.size w W->Calls prog f #[.agg #[.slice io l.length ic,.slice co cs.length cc,.int .i64 c]] W fun e w'=>e=.returned (.tuple #[q.val,.bool ok])/\Below W.heap.size W w')/\
  (ok=true->Bo cs c l k=some q)/\(ok=false->Bo cs c l k=none)
theorem Hg {x y:Int} {l:List Nd} (h:stands x y l=true):∃n m r,l=n::m::r/\n.op=x/\m.op=y:=by
 match l with
 | []=>simp[stands]at h
 | [_]=>simp[stands]at h
 | n::m::r=>simp[stands]at h;exact⟨n,m,r,rfl,h.1,h.2⟩
structure Lv (n:Nd) (r:List Nd) (cs:List Vd):Prop where
 few:(n::r).length<=1048576
 dr:∀z∈n::r,z.op=42->(0<=z.a/\z.a<=250)/\z.b=0/\z.c=0/\z.d=0
 c4:n.op=4->(0<=n.a/\n.a<=250)/\0<=n.b/\n.b<cs.length
 c18:n.op=18->(0<=n.a/\n.a<=250)
 w:∀z∈n::r,NdW z
section
variable {io co:Option Addr} {ic cc c:Nat} {n:Nd} {r:List Nd} {cs:List Vd} {w:World}
theorem Vr (hq:Lv n r cs) (hin:E5 0 w io (n::r)) (hs:stands 42 42 (n::r)=true):Qc 196 0 io co ic cc c (n::r) cs w:=by
 obtain⟨n',x,r',e,h1,h2⟩:=Hg hs;simp only[List.cons.injEq]at e;obtain⟨rfl,rfl⟩:=e;refine⟨_,_,fun W hb=>Sy io co ic cs.length cc c _ n W hq.few (hin.l (Ad.o hb)) rfl h1 hq.dr,?_,?_⟩
 ·intro h;simp only[decide_eq_true_eq]at h;simp[Bo,h1,h2,h]
 ·intro h;simp only[decide_eq_false_iff_not]at h;simp[Bo,h]
theorem Vu (hq:Lv n r cs) (hin:E5 0 w io (n::r)) (hs:stands 18 20 (n::r)=true):Qc 197 1 io co ic cc c (n::r) cs w:=by
 obtain⟨n',x,r',e,h1,h2⟩:=Hg hs;simp only[List.cons.injEq]at e;obtain⟨rfl,rfl⟩:=e;have hx:=hq.w x (by simp);have ha:=hq.c18 h1;refine⟨_,_,fun W hb=>Nh io co ic cs.length cc c _ n x W hq.few (hin.l (Ad.o hb)) rfl rfl hx.a,?_,?_⟩
 ·intro h;rw[Gy ha.1]at h;simp only[yY,decide_eq_true_eq]at h;simp[Bo,h1,h2,h.1,h.2]
 ·intro h;rw[Gy ha.1]at h;have:¬(13<=n.b/\x.a = -1-n.a):=by intro h3;simp[h3.1,h3.2]at h
  simp[Bo,h1,h2,this]
theorem Vv (hq:Lv n r cs) (hin:E5 0 w io (n::r)) (hs:stands 18 21 (n::r)=true):Qc 197 2 io co ic cc c (n::r) cs w:=by
 obtain⟨n',x,r',e,h1,h2⟩:=Hg hs;simp only[List.cons.injEq]at e;obtain⟨rfl,rfl⟩:=e;have hx:=hq.w x (by simp);have ha:=hq.c18 h1;refine⟨_,_,fun W hb=>Nh io co ic cs.length cc c _ n x W hq.few (hin.l (Ad.o hb)) rfl rfl hx.a,?_,?_⟩
 ·intro h;rw[Gy ha.1]at h;simp only[yY,decide_eq_true_eq]at h;simp[Bo,h1,h2,h.1,h.2]
 ·intro h;rw[Gy ha.1]at h;have:¬(13<=n.b/\x.a = -1-n.a):=by intro h3;simp[h3.1,h3.2]at h
  simp[Bo,h1,h2,this]
theorem Yq (hq:Lv n r cs) (hin:E5 0 w io (n::r)) (hs:stands 4 18 (n::r)=true):Qc 198 3 io co ic cc c (n::r) cs w:=by
 obtain⟨n',x,r',e,h1,h2⟩:=Hg hs;simp only[List.cons.injEq]at e;obtain⟨rfl,rfl⟩:=e;have hx:=hq.w x (by simp);have ha:=(hq.c4 h1).1.1;have hc:=fun W hb=>Vw io co ic cs.length cc c (n::x::r') n x W hq.few (hin.l (Ad.o (w:=w) (w':=W) hb)) rfl rfl hx.c hx.d;simp only[Gy ha]at hc;simp only[Ug ha]at hc;by_cases k1:x.c = -1-n.a/\x.d≠n.a/\x.d≠-1-n.a
 ·refine⟨⟨44,x.a,x.b,x.d,n.b,1,n.a⟩,true,fun W hb=>?_,fun _=>?_,fun h=>by cases h⟩
  ·have:=hc W hb;rw[Hd,if_pos (by simp[k1.1,k1.2.1,k1.2.2])]at this;exact this
  ·simp only[Bo,h1,h2,true_and,if_pos k1]
 ·have e1:(decide (x.c = -1-n.a)&&!decide (x.d=n.a∨x.d = -1-n.a))=false:=by rw[←Bool.not_eq_true];intro h;simp at h;exact k1 ⟨h.1,h.2.1,h.2.2⟩
  by_cases k2:x.d = -1-n.a/\x.c≠n.a/\x.c≠-1-n.a
  ·refine⟨⟨44,x.a,x.b,x.c,n.b,0,n.a⟩,true,fun W hb=>?_,fun _=>?_,fun h=>by cases h⟩
   ·have:=hc W hb;rw[Hd,e1,if_neg (by simp),if_pos (by simp[k2.1,k2.2.1,k2.2.2])]at this;exact this
   ·simp only[Bo,h1,h2,true_and,if_neg k1,if_pos k2]
  ·have e2:(decide (x.d = -1-n.a)&&!decide (x.c=n.a∨x.c = -1-n.a))=false:=by rw[←Bool.not_eq_true];intro h;simp at h;exact k2 ⟨h.1,h.2.1,h.2.2⟩
   refine⟨⟨0,0,0,0,0,0,0⟩,false,fun W hb=>?_,fun h=>(by cases h),fun _=>?_⟩
   ·have:=hc W hb;rw[Hd,e1,e2,if_neg (by simp),if_neg (by simp)]at this;exact this
   ·simp only[Bo,h1,h2,true_and,if_neg k1,if_neg k2]
theorem Vs (hq:Lv n r cs) (hin:E5 0 w io (n::r)) (hcs:Jd 0 w co cs) (hs:stands 4 15 (n::r)=true):Qc 199 4 io co ic cc c (n::r) cs w:=by
 obtain⟨n',x,r',e,h1,h2⟩:=Hg hs;simp only[List.cons.injEq]at e;obtain⟨rfl,rfl⟩:=e;have hx:=hq.w x (by simp);obtain⟨⟨ha,_⟩,hb1,hb2⟩:=hq.c4 h1;obtain⟨v,hv⟩:=Ah (show n.b.toNat<cs.length by omega);have hk:Oq cs n.b=v.kind:=by simp[Oq,hv]
 have hc:=fun W hb=>Sz io co ic cc c (n::x::r') cs n x n.b.toNat v W hq.few (hin.l (Ad.o (w:=w) (w':=W) hb)) (hcs.l (Ad.o hb)) rfl rfl (by omega) hv hx.c hx.b;simp only[Gy ha]at hc;simp only[Ug ha]at hc;refine⟨_,_,hc,?_,?_⟩
 ·intro h;simp at h;simp[Bo,h1,h2,hk,h.1.1,h.1.2,h.2.1,h.2.2]
 ·intro h;have:¬(x.c = -1-n.a/\x.b≠n.a/\x.b≠-1-n.a/\Oq cs n.b=4):=by rintro⟨h3,h4,h5,h6⟩;rw[hk]at h6;simp[h3,h4,h5,h6]at h
  simp only[Bo,h1,h2,true_and,if_neg this]
end
end Go.Proofs.YtbefeflgjipfhaaGreatDoor
