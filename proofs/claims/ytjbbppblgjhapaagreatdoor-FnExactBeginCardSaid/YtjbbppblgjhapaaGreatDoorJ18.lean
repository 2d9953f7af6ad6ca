import Derived.Laws.EntriesVeiled
import Derived.Test.YtjbbppblgjhapaaGreatDoorJ17
set_option maxRecDepth 1000000
set_option maxHeartbeats 16000000
namespace Go.Proofs.YtjbbppblgjhapaaGreatDoor
open Go.Deep Go.Proofs.Tryz Go.RowKit
variable{l ps:List Pd}{k np op:Nat}{n:Nd}{p:Pd}{α:Type}
def Aax (ps:List Pd):Nat:=E5 (fun p=>p.ins.length) ps
def Kv (ps:List Pd):Bool:=inR ps.length 1 200&&decide ((Aax ps:Int)<=6000)
theorem Sz (h:l[k]?=some p):E5 (fun p=>p.ins.length) (l.take (k+1))=E5 (fun p=>p.ins.length) (l.take k)+p.ins.length:=by
 induction l generalizing k with
 | nil=>simp at h
 | cons x r ih=>
  cases k with
  | zero=>simp at h;subst h;simp[E5]
  | succ k=>
   simp at h;have:=ih h;simp only[List.take_succ_cons,E5];omega
theorem Ji (l:List Pd) (k:Nat):E5 (fun p=>p.ins.length) (l.take k)<=E5 Fa l:=by
 induction l generalizing k with
 | nil=>simp[E5]
 | cons x r ih=>
  cases k with
  | zero=>simp[E5]
  | succ k=>
   have:=ih k;simp only[List.take_succ_cons,E5];have:x.ins.length<=Fa x:=by unfold Fa;omega
   omega
theorem A1g (ao:Option Addr) (cap:Nat) (ps:List Pd) (w:World) (hm:Dj ps<=1048576) (hv:Ad 0 w ao ps) :
  Kw 95 #[.agg #[.slice ao ps.length cap]] w (.bool (Kv ps)):=by
 have hl:ps.length<=1048576:=by unfold Dj at hm;omega
 have hsum:E5 Fa ps<=1048576:=by unfold Dj at hm;omega
 have hb1:∀o,Below w w (w.alloc o):=fun o=>(yA _ _).alloc (yB _) o;have C0:=Blk.new w #[.slice ao ps.length cap] 31;clear hm;unfold Kw;go_in;go_wp2;go_loopw [3,9] (fun s y wr=>∃k:Nat,k<=ps.length/\y=k/\s=.int .i64 (E5 (fun p=>p.ins.length) (ps.take k):Nat)/\Below w w wr/\Blk wr (w:Nat) #[.slice ao ps.length cap] 31) (fun _ y _=>ps.length-(intOf y).toNat);case atStart=>exact⟨0,yE _,rfl,rfl,hb1 _,C0⟩
 case round=>
  obtain⟨k,hk,rfl,rfl,hb,C1⟩:=hrel;clear C0;by_cases hkl:k<ps.length
  ·obtain⟨p,hpk⟩:=A8 hkl;obtain⟨b,off,rfl,_,hbl,h,⟨p0,p1,p2,p3,p4,p5,p6,p7,p8⟩,_⟩:=hv.l (A7.o hb) k p hpk;have HT:Hid _:=Sz hpk;have h1:=Ji ps k;have h2:=Ji ps (k+1);rw[HT.out]at h2;have hba:=fun o=>hb.alloc hb.size o;have CA:Hid _:=fun o=>C1.alloc o;generalize hq:E5 (fun p=>p.ins.length) (ps.take k)=q at *;clear hv hq;go_wp2;go_roundw;case rel=>exact⟨k+1,by omega,by go_num,by rw[HT.out];go_num,hba _,CA.out _⟩
   case measure=>simp[intOf];omega
  ·have hall:ps.take k=ps:=List.take_of_length_le (by omega);rw[hall];have E0:Hid (Kv ps=(inR ps.length 1 200&&decide (((E5 (fun p=>p.ins.length) ps:Nat):Int)<=6000))):=rfl;have hle:=Ji ps ps.length;rw[List.take_length]at hle;have c1:=C1.cell;generalize E5 (fun p=>p.ins.length) ps=q at *;clear hv hall;go_wp2_with (go_at_call 133;refine(Cq _ _ _ _).mono ?_;rintro e w' ⟨rfl,rfl⟩);all_goals
    go_ret;exact⟨Ab (by rw[E0.out];simp_all),hb⟩
def Ag (g:Nat->Pd->Option Nat):Nat->List Pd->Option (Nat×Nat)
 | _,[]=>none
 | k,p::r=>match g k p with
  | some i=>some (k,i)
  | none=>Ag g (k+1) r
theorem Fb {g:Nat->Pd->Option Nat} (h:l[k]?=some p):Ag g k (l.drop k)=match g k p with
  | some i=>some (k,i)
  | none=>Ag g (k+1) (l.drop (k+1)):=by
 rw[Ao h];rfl
def Ea (k:Nat) (p:Pd):Option Nat:=if Ja p k then none else some 0
def Du (_:Nat) (p:Pd):Option Nat:=Ak Ii 0 p.consts
def Dv (_:Nat) (p:Pd):Option Nat:=Ak (Io p) 0 p.named
def Lv (np:Nat) (_:Nat) (p:Pd):Option Nat:=Ik np p
def Bu (ps:List Pd):Int×Int×Int:=
 if Kv ps then
  match Ag Ea 0 ps with
  | some (p,i)=>(2,p,i)
  | none=>match Ag Du 0 ps with
   | some (p,i)=>(3,p,i)
   | none=>match Ag Dv 0 ps with
    | some (p,i)=>(4,p,i)
    | none=>match Ag (Lv ps.length) 0 ps with
     | some (p,i)=>(5,p,i)
     | none=>Gq ps
 else (1,0,0)
structure Kh (ps:List Pd):Prop where
 bulk:Dj ps<=1048576
 few:∀p∈ps,Ie p
 flts:∀p∈ps,A4w p.consts
 nds:∀p∈ps,∀n∈p.ins,NdW n
theorem Iz {g:Nat->Pd->Option Nat} : ∀{l:List Pd} {s:Nat},Ag g s l=none->∀k p,l[k]?=some p->g (s+k) p=none
 | [],_,_,k,p,h=>by simp at h
 | x::r,s,h,k,p,hk=>by
  unfold Ag at h;cases hx:g s x with
  | some i=>rw[hx]at h;cases h
  | none=>
   rw[hx]at h;cases k with
   | zero=>simp at hk;subst hk;exact hx
   | succ k=>
    simp at hk;have:=Iz (g:=g) (l:=r) (s:=s+1) h k p hk
    rwa [show s+(k+1)=s+1+k by omega]
theorem Gc (h:Ag Ea 0 ps=none):∀p∈ps,0<=p.regs/\p.regs<=250:=by
 intro p hp;obtain⟨k,hk⟩:=List.getElem?_of_mem hp;have:=Iz h k p hk;unfold Ea at this;split at this
 ·rename_i hh;unfold Ja at hh;simp[inR]at hh;omega
 ·cases this
theorem La {f:Nat->α->Bool} : ∀{l:List α} {s:Nat},Ak f s l=none->∀k x,l[k]?=some x->f (s+k) x=true
 | [],_,_,k,p,h=>by simp at h
 | x::r,s,h,k,p,hk=>by
  unfold Ak at h;split at h
  ·cases k with
   | zero=>simp at hk;subst hk;assumption
   | succ k=>
    simp at hk;have:=La h k p hk
    rwa [show s+(k+1)=s+1+k by omega]
  ·cases h
theorem V7 (h:Ag (Lv ps.length) 0 ps=none):A9y ps:=by
 intro p hp n hn hop;obtain⟨k,hk⟩:=List.getElem?_of_mem hp;obtain⟨j,hj⟩:=List.getElem?_of_mem hn;have h1:=Iz h k p hk;unfold Lv Ik at h1;cases hb:Ak (Hd ps.length p) 0 p.ins with
 | some i=>rw[hb]at h1;cases h1
 | none=>
  have h2:=La hb j n hj;unfold Hd Gw at h2;rw[hop]at h2;have h3:Bh (11:Int).toNat=[1,9,0,0]:=by decide
  rw[h3]at h2;simp[Nd.fs,Da,Bg,inR]at h2;omega
def tgL:List Nat->List Int->Int
 | r::rs,x::xs=>if r=11 then x else tgL rs xs
 | _,_=>-1
def tgV (n:Nd):Int:=match Np n with|some t=>(t:Int)|none=>-1
theorem Aex (hn:Ep np p n) (ho:n.op=op):tgL (Ci op) n.fs=tgV n:=by
 obtain⟨f1,f2,f3,f4,f5,f6⟩:=Hr hn;have h1:=hn.lo;have h2:=hn.hi;obtain⟨o,a,b,c,d⟩:=n;dsimp only at *;subst ho;rcases A15 op (by omega) (by omega) with rfl|rfl|rfl|rfl|rfl|rfl|rfl|rfl|rfl|rfl|rfl|rfl|rfl|rfl|rfl|rfl|rfl|rfl|rfl|rfl|rfl|rfl|rfl|rfl|rfl|rfl|rfl|rfl|rfl|rfl|rfl|rfl|rfl|rfl|rfl|rfl|rfl|rfl|rfl|rfl|rfl|rfl;all_goals first
  | rfl
  | (have:=(f1 rfl).1;simp[tgL,Ci,Gz,Nd.fs,tgV,Np];omega)
  | (have:=f3 rfl;simp[tgL,Ci,Gz,Nd.fs,tgV,Np];omega)
  | (have:=f4 (by simp);simp[tgL,Ci,Gz,Nd.fs,tgV,Np];omega)
theorem Aey{f0 f1 f2 f3:Nat} (hn:Ep np p n) (ho:n.op=op) (hfo:Ci op=[f0,f1,f2,f3]):tgV n=if f0=11 then n.a else if f1=11 then n.b else -1:=by
 have h:∀k,k<43->(Ci k).getD 2 0≠11/\(Ci k).getD 3 0≠11:=by decide
 have h0:=h op (by have:=hn.hi;omega);rw[←Aex hn ho,hfo];rw[hfo]at h0;simp at h0;simp[tgL,Nd.fs,h0.1,h0.2]
theorem Ht (np:Nat) (p:Pd) (n:Nd) (w:World) (hn:Ep np p n) (hF:Hm w) :
  Kw 195 #[n.val] w (tgV n:Int):=by
 have h1:=hn.lo;have h2:=hn.hi;obtain⟨op,hop⟩:=yN (by omega:0<=n.op);have h42:op<=42:=by omega
 obtain⟨f0,f1,f2,f3,hfo,-,-,-,-⟩:=Lf h42;have HV:Hid _:=Aey hn hop hfo;have HW:∀o1,Below w w (w.alloc o1):=fun o1=>(yA _ _).alloc (yB _) o1;have HW2:=fun o1 o2=>(HW o1).alloc (by simp) o2;have c0:=fun o1=>(hF.l (HW o1)).at_ op 0 f0 (by rw[hfo];rfl);have c1:=fun o1=>(hF.l (HW o1)).at_ op 1 f1 (by rw[hfo];rfl);have c2:=fun o1=>(hF.l (HW o1)).at_ op 2 f2 (by rw[hfo];rfl);have c3:=fun o1=>(hF.l (HW o1)).at_ op 3 f3 (by rw[hfo];rfl);simp only[Nat.add_zero]at c0;obtain⟨x0,x1,x2,x3,x4⟩:=n;dsimp only[Nd.val]at *;subst hop;clear hF hfo hn h1 h2 HW;by_cases ha:f0=11
 ·subst ha;unfold Kw;go_in;go_wp2;go_ret;exact⟨Ar (by rw[HV.out];simp),HW2 _ _⟩
 have ea:((f0:Int)==11)=false:=by simp;omega
 by_cases hb:f1=11
 ·subst hb;unfold Kw;go_in;go_wp2;go_ret;exact⟨Ar (by rw[HV.out];simp[ha]),HW2 _ _⟩
 have eb:((f1:Int)==11)=false:=by simp;omega
 unfold Kw;go_in;go_wp2;go_ret;exact⟨Ar (by rw[HV.out];simp[ha,hb]),HW2 _ _⟩
end Go.Proofs.YtjbbppblgjhapaaGreatDoor
namespace Go.Proofs.YtjbbppblgjhapaaGreatDoor
open Go.Proofs.Tryz
theorem Oh {α:Type} {f g:Nat->α->Bool} {L:Nat} : ∀(l:List α) (s:Nat),s+l.length=L->(∀i x,i+1≠L->g i x=true)->
  Ak (fun i x=>f i x&&g i x) s l=match Ak f s l with
   | some i=>some i
   | none=>match l.getLast? with
    | none=>none
    | some x=>if g (L-1) x then none else some (L-1)
 | [],_,_,_=>rfl
 | [x],s,hs,_=>by
  have h1:L-1=s:=by simp at hs;omega
  have e1:∀h:Nat->α->Bool,Ak h s [x]=if h s x then none else some s:=fun _=>rfl;rw[e1,e1,List.getLast?_singleton,h1];cases hf:f s x<;>cases hg:g s x<;>simp[hg]
 | x::y::r,s,hs,hg=>by
  have ih:=Oh (f:=f) (g:=g) (y::r) (s+1) (by simp at hs ⊢;omega) hg;have h1:g s x=true:=hg s x (by simp at hs;omega);have e1:∀h:Nat->α->Bool,Ak h s (x::y::r)=if h s x then Ak h (s+1) (y::r) else some s:=fun _=>rfl;rw[e1,e1,h1,Bool.and_true,List.getLast?_cons_cons,ih];cases f s x<;>rfl
def Nz (np:Nat) (_:Nat) (p:Pd):Option Nat:=if p.ins.length=0 then some 0 else Ak (U8 np p) 0 p.ins
theorem A7b (np k:Nat) (p:Pd):Nz np k p=Lv np k p:=by
 unfold Nz Lv Ik;by_cases h0:p.ins.length=0
 ·rw[if_pos h0];have:p.ins=[]:=yW.1 h0;rw[this];rfl
 ·rw[if_neg h0];have hb:U8 np p=fun i n=>Hd np p i n&&Qs p i n:=by funext i n;unfold U8 Hd Gw;rw[Bool.and_assoc]
  rw[hb,Oh (L:=p.ins.length) p.ins 0 (by omega) (by intro i x hi;unfold Qs;simp[hi])];cases Ak (Hd np p) 0 p.ins with
  | some i=>rfl
  | none=>
   cases hl:p.ins.getLast? with
   | none=>simp at hl;rw[hl]at h0;simp at h0
   | some n=>
    have h1:Qs p (p.ins.length-1) n = !Ex n:=by
     have:p.ins.length-1+1=p.ins.length:=by omega
     have hd:decide (p.ins.length-1+1=p.ins.length)=true:=decide_eq_true this;unfold Qs Ex bne;rw[hd];cases (n.op==19)<;>cases (n.op==29)<;>cases (n.op==30)<;>rfl
    simp only[h1];cases Ex n<;>rfl
theorem Qn {g h:Nat->Pd->Option Nat} (e:∀k p,g k p=h k p):g=h:=funext fun k=>funext fun p=>e k p
end Go.Proofs.YtjbbppblgjhapaaGreatDoor
namespace Go.Proofs.YtjbbppblgjhapaaGreatDoor
open Go.Deep Go.Proofs.Tryz Go.RowKit
variable{A Bb N:Array Value}{c:Cf}{ps:List Pd}{B L b ccap g k pi:Nat}{cao:Option Addr}{p:Pd}{h:Ph}{w w':World}
theorem Vu : ∀{l:List Nd} {k:Nat} {m m':List Bool},Eg ps pi p k l m=(none,m')->∀n∈l,n.op=11->Mm p ((ps[n.b.toNat]?.map Pd.ups).getD [])=true
 | [],_,_,_,_,n,hn,_=>by simp at hn
 | x::r,k,m,m',h,n,hn,ho=>by
  unfold Eg at h;by_cases hx:x.op=11
  ·rw[if_pos (by simpa using hx)]at h;cases hb:Kr ps pi p m x with
   | true=>rw[hb]at h;simp at h
   | false=>
    rw[hb]at h;rcases List.mem_cons.1 hn with rfl|hn
    ·unfold Kr at hb;simp only[Bool.or_eq_false_iff,Bool.not_eq_false']at hb;exact hb.2.2
    ·exact Vu (by simpa using h) n hn ho
  ·rw[if_neg (by simpa using hx)]at h;rcases List.mem_cons.1 hn with rfl|hn
   ·exact absurd ho hx
   ·exact Vu h n hn ho
theorem A3r : ∀{l:List Pd} {pi:Nat} {m m':List Bool},J4 ps pi l m=(none,m')->∀p∈l,∀n∈p.ins,n.op=11->Mm p ((ps[n.b.toNat]?.map Pd.ups).getD [])=true
 | [],_,_,_,_,p,hp=>by simp at hp
 | x::r,pi,m,m',h,p,hp=>by
  unfold J4 at h;cases hi:Eg ps pi x 0 x.ins m with
  | mk o m2=>
   rw[hi]at h;cases o with
   | some k=>simp at h
   | none=>
    dsimp only at h;rcases List.mem_cons.1 hp with rfl|hp
    ·exact Vu hi
    ·exact A3r h p hp
structure Fits (ps:List Pd) (p:Pd):Prop where
 fit:Oz ps.length p
 few:p.ins.length<=6000
 ups:∀n∈p.ins,∀u∈Cy ps n,u.loc=true->0<=u.idx/\u.idx<p.regs
theorem Ti (h:(Bu ps).1=0):Kv ps=true/\Ag Ea 0 ps=none/\Ag (Lv ps.length) 0 ps=none/\∃m,J4 ps 0 ps (List.replicate ps.length false)=(none,m):=by
 unfold Bu at h;cases hs:Kv ps with
 | false=>rw[hs]at h;simp at h
 | true=>
  rw[hs,if_pos rfl]at h;cases h1:Ag Ea 0 ps with
  | some x=>rw[h1]at h;simp at h
  | none=>
   rw[h1]at h;dsimp only at h;cases h2:Ag Du 0 ps with
   | some x=>rw[h2]at h;simp at h
   | none=>
    rw[h2]at h;dsimp only at h;cases h3:Ag Dv 0 ps with
    | some x=>rw[h3]at h;simp at h
    | none=>
     rw[h3]at h;dsimp only at h;cases h4:Ag (Lv ps.length) 0 ps with
     | some x=>rw[h4]at h;simp at h
     | none=>
      rw[h4]at h;dsimp only at h;refine⟨rfl,rfl,rfl,?_⟩;unfold Gq at h;cases h5:J4 ps 0 ps (List.replicate ps.length false) with
      | mk o m=>
       rw[h5]at h;cases o with
       | some x=>simp at h
       | none=>exact⟨m,rfl⟩
theorem Mi (h:(Bu ps).1=0):∀p∈ps,Fits ps p:=by
 obtain⟨hs,hh,hi,m,hm⟩:=Ti h;intro p hp;obtain⟨k,hk⟩:=List.getElem?_of_mem hp;have h1:=Iz hh k p hk;have h2:=Iz hi k p hk;have hreg:=Gc hh p hp;have hhead:Ja p (0+k)=true:=by
  unfold Ea at h1;split at h1
  ·assumption
  ·cases h1
 unfold Lv Ik at h2;cases h3:Ak (Hd ps.length p) 0 p.ins with
 | some x=>rw[h3]at h2;cases h2
 | none=>
  rw[h3]at h2;dsimp only at h2;cases hl:p.ins.getLast? with
  | none=>rw[hl]at h2;cases h2
  | some n=>
   rw[hl]at h2;dsimp only at h2;have hnx:Ex n=false:=by
    cases hb:Ex n with
    | true=>rw[hb]at h2;simp at h2
    | false=>rfl
   have hpos:0<p.ins.length:=by
    cases hh2:p.ins with
    | nil=>rw[hh2]at hl;simp at hl
    | cons a r=>simp
   rw[List.getLast?_eq_getElem?]at hl;refine⟨⟨hreg,?_,?_,hpos,?_⟩,?_,?_⟩
   ·intro i x hx;have:=La h3 i x hx;unfold Hd Gw inR at this;simp only[yY,decide_eq_true_iff]at this;exact⟨this.1.1,this.1.2,this.2⟩
   ·intro i x hx hb;have hil:=(yD.1 hx).1;refine Classical.byContradiction fun hn=>?_;have:i=p.ins.length-1:=by omega
    subst this;rw[hx]at hl;obtain rfl:=yO hl;rw[hb]at hnx;cases hnx
   ·unfold Ja at hhead;simp only[yY,decide_eq_true_iff]at hhead;have hpar:=hhead.1.1.1.2;unfold inR A63 wrap64 at hpar;cases hre:p.rest with
    | false=>rw[hre]at hpar;simp at hpar;exact⟨by omega,by omega,by simp⟩
    | true=>rw[hre]at hpar;simp at hpar;exact⟨by omega,by omega,fun _=>by omega⟩
   ·unfold Kv at hs;simp only[yY,decide_eq_true_iff]at hs;have h1:=A4f (f:=fun p:Pd=>p.ins.length) hp;have h2:=hs.2;unfold Aax at h2;omega
   ·intro x hx u hu hloc;unfold Cy at hu;split at hu
    ·rename_i ho;have:=A3r hm p hp x hx ho;cases hq:ps[x.b.toNat]? with
     | none=>rw[hq]at hu;simp at hu
     | some q=>
      rw[hq]at hu this;simp at this;unfold Mm at this;have:=List.all_eq_true.1 this u hu;unfold upB inR at this;rw[hloc]at this;simp at this;omega
    ·simp at hu
theorem Ry (hfi:∀p∈ps,Ie p) (n:Nd):(Cy ps n).length<=1048576:=by
 unfold Cy;split
 ·split
  ·rename_i q hq;exact(hfi q (yH hq)).ups
  ·simp
 ·simp
noncomputable def Oc (ps:List Pd):Nat->List Pd->Int×Int×Int
 | _,[]=>(0,0,0)
 | k,p::r=>if (Hw ps p k).1=0 then Oc ps (k+1) r else Hw ps p k
theorem Zh{l:List Pd} (h:l[k]?=some p):Oc ps k (l.drop k)=if (Hw ps p k).1=0 then Oc ps (k+1) (l.drop (k+1)) else Hw ps p k:=by rw[Ao h];rfl
noncomputable def Cj (ps:List Pd):Int×Int×Int:=if (Bu ps).1=0 then Oc ps 0 ps else Bu ps
theorem Aet (x5 x6 x7 x8 L m:Nat) (ro ago:Option Addr) (rc agc:Nat) (op na nb nc nd:Int) (s:St) (ts2:List Int) (gs2:List Gd) (w:World) (c0 c1 c2 c3 c4 c9 c10 c11 c12 c13 c14 c15 c16 c17 c18 c19 c20 c21 c22 c23 c24 c25 c26 c27 c28 c29 c30 c31 c32 c33 c34 c35 c36 c37 c38 c39 c40 c41 c42 c43 c44 c45 c46 c47 c48 c49 c50 c51 c52 c53 c54 c55 c56 c57 c58 c59 c60 c61 c62 c63 c64 c65 c66 c67 c68 c69 c70 c71 c72 c73 c74 c75 c76 c77 c78 c79 c80 c81 c82 c83 c84 c85 c86 c87 c88 c89 c90 c91 c92 c93 c94 c95 c96 c97 c98 c99 c100:Value) (Q:Exit->Act->World->Prop)
  (hq:∀(u76 u77 u78 u79 u80 u81 u82:Value) (x9:Nat) (wx:World) (bgo:Option Addr) (bgc:Nat),(w:Nat)<=x9->Blk wx x9 #[false,.slice ro m rc,.slice bgo gs2.length bgc] 146->Gp L wx ro rc ts2->Dl L wx bgo bgc gs2->Below w w wx->Q .normal ⟨List.toArray (c0::c1::c2::c3::c4::.pointer x5::.pointer x6::.pointer x7::.pointer x8::.pointer x9::c10::c11::c12::c13::c14::c15::c16::c17::c18::c19::c20::c21::c22::c23::c24::c25::c26::c27::c28::c29::c30::c31::c32::c33::c34::c35::c36::c37::c38::c39::c40::c41::c42::c43::c44::c45::c46::c47::c48::c49::c50::c51::c52::c53::c54::c55::c56::c57::c58::c59::c60::c61::c62::c63::c64::c65::c66::c67::c68::c69::c70::c71::c72::c73::c74::c75::u76::u77::u78::u79::u80::u81::u82::c83::c84::c85::c86::c87::c88::c89::c90::c91::c92::c93::c94::c95::c96::c97::c98::c99::c100::[]),[]⟩ wx)
  (hrt:Gp L w ro rc ts2) (hLw:L<=(w:Nat))
  (hgb:∀W,Below w w W->Calls prog 189 #[.agg #[op,na,nb,nc,nd],.slice ago s.guards.length agc] W fun e w'=>(∃bgo bgc,e=.returned (.slice bgo gs2.length bgc)/\Dl L w' bgo bgc gs2)/\Below w w w'/\Below W.heap.size W w')
  (hS:∀w',Below w w w'->w'.cell? (x8,0)=some (.slice ro m rc)/\w'.cell? (x5,0)=some (op:Value)/\w'.cell? (x5,1)=some (na:Value)/\w'.cell? (x5,2)=some (nb:Value)/\w'.cell? (x5,3)=some (nc:Value)/\w'.cell? (x5,4)=some (nd:Value)/\w'.cell? (x6,2)=some (.slice ago s.guards.length agc)) :
  Code.wp prog pcS8 Q ⟨List.toArray (c0::c1::c2::c3::c4::.pointer x5::.pointer x6::.pointer x7::.pointer x8::c9::c10::c11::c12::c13::c14::c15::c16::c17::c18::c19::c20::c21::c22::c23::c24::c25::c26::c27::c28::c29::c30::c31::c32::c33::c34::c35::c36::c37::c38::c39::c40::c41::c42::c43::c44::c45::c46::c47::c48::c49::c50::c51::c52::c53::c54::c55::c56::c57::c58::c59::c60::c61::c62::c63::c64::c65::c66::c67::c68::c69::c70::c71::c72::c73::c74::c75::c76::c77::c78::c79::c80::c81::c82::c83::c84::c85::c86::c87::c88::c89::c90::c91::c92::c93::c94::c95::c96::c97::c98::c99::c100::[]),[]⟩ w:=by
 conv=>arg 2;whnf
 have HQ:Hid _:=hq;have HGB:Hid _:=hgb;have HS:Hid _:=hS;have HRT:Hid _:=hrt;have HLw:Hid _:=hLw;obtain⟨e0,e1,e2,e3,e4,e5,e6⟩:=hS w (yA _ _);clear hq hgb hS hrt hLw;go_region_held3 (fun w'=>w'.cell? (x8,0)=some (.slice ro m rc)/\w'.cell? (x5,0)=some (op:Value)/\w'.cell? (x5,1)=some (na:Value)/\w'.cell? (x5,2)=some (nb:Value)/\w'.cell? (x5,3)=some (nc:Value)/\w'.cell? (x5,4)=some (nd:Value)/\w'.cell? (x6,2)=some (.slice ago s.guards.length agc)) (first|(refine HS.out _ ?_;(repeat (first|assumption|exact HB3.out|exact yA _ _|refine Below.drew ?_|refine Af ?_ _|refine Dw ?_ (by dsimp only;omega) _))))
  (first
   | (go_at_call 189;refine(HGB.out _ (by (repeat (first|assumption|exact HB3.out|exact yA _ _|refine Below.drew ?_|refine Af ?_ _|refine Dw ?_ (by dsimp only;omega) _)))).mono ?_;rintro e w3 ⟨⟨bgo,bgc,rfl,RG3⟩,hw3,hw3b⟩;have HB3:Hid (Below w w w3):=hw3;have HRG3:Hid (Dl L w3 bgo bgc gs2):=RG3;have hs3:(w:Nat)<=(w3:Nat):=hw3.size;have zz:Blk w3 w #[false,nS,nS] 146:=Blk.l (w:=(w.alloc (.cells #[false,nS,nS] 146)).drew) (Blk.new w #[false,nS,nS] 146) hw3b;have z0:=zz.cell;have zf:=zz.frozen)
   | (go_at_call 189;refine(HGB.out _ (by (repeat (first|assumption|exact HB3.out|exact yA _ _|refine Below.drew ?_|refine Af ?_ _|refine Dw ?_ (by dsimp only;omega) _)))).mono ?_;rintro e w3 ⟨⟨bgo,bgc,rfl,RG3⟩,hw3,hw3b⟩;have HB3:Hid (Below w w w3):=hw3;have HRG3:Hid (Dl L w3 bgo bgc gs2):=RG3;have hs3:(w:Nat)<=(w3:Nat):=hw3.size))
 ·have hB:Below w w (w3.alloc (.cells #[false,.slice ro m rc,.slice bgo gs2.length bgc] 146)):=Af HB3.out _;exact HQ.out _ _ _ _ _ _ _ (w3:Nat) _ bgo bgc hs3 (Blk.new w3 #[false,.slice ro m rc,.slice bgo gs2.length bgc] 146) (HRT.out.l (A7.o hB)) (HRG3.out.l (A7.o ((yA _ _).alloc (yB _) _))) hB
 ·have hB:=Dw (Dw (Dw HB3.out (p:=((w:Nat),0)) (yB _) (false)) (p:=((w:Nat),1)) (yB _) (.slice ro m rc)) (p:=((w:Nat),2)) (yB _) (.slice bgo gs2.length bgc);exact HQ.out _ _ _ _ _ _ _ (w:Nat) _ bgo bgc (yB _) (zz.three) (HRT.out.l (A7.o hB)) (((HRG3.out.store zz (by decide) 0 _).store (zz.set 0 _) (by decide) 1 _).store ((zz.set 0 _).set 1 _) (by decide) 2 _) hB
def Gn (B L vb sb db:Nat) (cao:Option Addr) (ccap:Nat) (ps:List Pd) (p:Pd) (h:Ph) (w:World) (o:Option Cf) (e:Ending) (w':World):Prop:=
 (match o with|none=>e=.returned (false)|some c'=>e=.returned (true)/\∃l',l'<=p.ins.length/\Es L vb sb db cao ccap ps p h w' c' l')/\Off B L w w'
theorem Nu (B L vb sb db:Nat) (cao:Option Addr) (ccap:Nat) (ps:List Pd) (p:Pd) (h:Ph) (c:Cf) (l:Nat) (w:World) (x:Nat) (rb:Bool) (s:St) (to go:Option Addr) (tc gc:Nat) (V:Zo B L vb sb db) (_hz:p.ins.length<=6000) (H0:Es L vb sb db cao ccap ps p h w c l) (hl:l<=p.ins.length) (hL:L<=(w:Nat)) (hx:x<p.ins.length) (ht:Gp L w to tc s.types) (hg:Dl L w go gc s.guards) (hB:B<=L) (hold:∀t,c.st x=some t->t.types.length<=250/\t.guards.length<=50) :
  Calls prog 101 #[.pointer vb,x,.agg #[.bool rb,.slice to s.types.length tc,.slice go s.guards.length gc]] w (Gn B L vb sb db cao ccap ps p h w (Cu c x s)):=by
 have HVI:Hid _:=V;have A0:=fun o=>(yA (w:Nat) w).alloc (yB _) o;have hxS:x<c.sts.length:=by rw[H0.lenS];exact hx
 obtain⟨o,ho⟩:=A8 hxS;have HO:Hid (c.st x=o):=by show _=_;unfold Cf.st;rw[yR,ho];rfl
 have k1:(x:Int)<p.ins.length:=by omega
 have H1:=H0.below (A0 (.cells #[.bool rb,.slice to s.types.length tc,.slice go s.guards.length gc] 146));have T1:=ht.l (A7.o (A0 (.cells #[.bool rb,.slice to s.types.length tc,.slice go s.guards.length gc] 146)));have G1:=hg.l (A7.o (A0 (.cells #[.bool rb,.slice to s.types.length tc,.slice go s.guards.length gc] 146)));have S1:=Blk.new w #[.bool rb,.slice to s.types.length tc,.slice go s.guards.length gc] 146;obtain⟨to2,tc2,go2,gc2,z0,z1,z2,RT,RG⟩:=H1.sts.at_ x o ho;have O1:Off B L w (w.alloc (.cells #[.bool rb,.slice to s.types.length tc,.slice go s.guards.length gc] 146)):=Off.o (A0 _) (yI hB hL);have v1:=H1.blk.cell;have hwl:=hL;have HOLD:Hid _:=hold;have HH0:Hid _:=H0;have HT0:Hid _:=ht;have HG0:Hid _:=hg;have HSX:Hid _:=ho;have HB1:Hid (Below w w (w.alloc (.cells #[.bool rb,.slice to s.types.length tc,.slice go s.guards.length gc] 146))):=A0 _;clear H0 ht hg V hold ho A0;generalize hw1:w.alloc (.cells #[.bool rb,.slice to s.types.length tc,.slice go s.guards.length gc] 146)=w1 at *;have hw1s:(w1:Nat)=(w:Nat)+1:=by rw[←hw1];simp
 cases o with
 | none=>
  dsimp only[stT,stG,Option.isSome,List.length_nil]at z0 z1 z2;have BZ:Below w w ((w.alloc (.cells #[true,.slice to s.types.length tc,.slice go s.guards.length gc] 146)).alloc (.cells #[false,.slice to2 0 tc2,.slice go2 0 gc2] 146)):=((yA _ _).alloc (yB _) _).alloc (by simp) _;have H2:=HH0.out.below BZ;have T2:=HT0.out.l (A7.o BZ);have G2:=HG0.out.l (A7.o BZ);have S2:=(Blk.new w #[true,.slice to s.types.length tc,.slice go s.guards.length gc] 146).alloc (.cells #[false,.slice to2 0 tc2,.slice go2 0 gc2] 146);have O2:Off B L w _:=Off.o BZ (yI hB hL);have HRE:Hid (Cu c x s=some ⟨c.sts.set x (some s),c.due.set x true⟩):=Sc HO.out;have hneS2:¬sb=(w:Nat):=by have:=HVI.out.s2;omega
  have hsv:¬sb=vb:=fun e=>HVI.out.vs e.symm;clear H1 T1 G1 S1 O1 BZ;subst hw1;go_in;go_wp2_with fail;generalize hwz:(w.alloc (.cells #[true,.slice to s.types.length tc,.slice go s.guards.length gc] 146)).alloc (.cells #[false,.slice to2 0 tc2,.slice go2 0 gc2] 146)=w2 at *;have hB2:=yI (yI hB hL) O2.size;clear hwz v1 z0 z1 z2;have v210:=H2.blk.cell 10;have s20:=S2.cell 0;have s21:=S2.cell 1;have s22:=S2.cell 2;obtain⟨to3,tc3,go3,gc3,y0,y1,y2,_,_⟩:=H2.sts.at_ x none HSX.out;have fz:=H2.sts.own.frozen;have HKP:Hid ((((w2.setCell ⟨sb,x*3,none⟩ (.bool true)).setCell ⟨sb,x*3+1,none⟩ (.slice to s.types.length tc)).setCell ⟨sb,x*3+2,none⟩ (.slice go s.guards.length gc)).drew.cell? ⟨vb,10,none⟩=some (.slice (some ⟨sb,0,none⟩) p.ins.length p.ins.length)/\(((w2.setCell ⟨sb,x*3,none⟩ (.bool true)).setCell ⟨sb,x*3+1,none⟩ (.slice to s.types.length tc)).setCell ⟨sb,x*3+2,none⟩ (.slice go s.guards.length gc)).drew.cell? ⟨w.heap.size,0,none⟩=some (.bool true)/\(((w2.setCell ⟨sb,x*3,none⟩ (.bool true)).setCell ⟨sb,x*3+1,none⟩ (.slice to s.types.length tc)).setCell ⟨sb,x*3+2,none⟩ (.slice go s.guards.length gc)).drew.cell? ⟨w.heap.size,1,none⟩=some (.slice to s.types.length tc)/\(((w2.setCell ⟨sb,x*3,none⟩ (.bool true)).setCell ⟨sb,x*3+1,none⟩ (.slice to s.types.length tc)).setCell ⟨sb,x*3+2,none⟩ (.slice go s.guards.length gc)).drew.cell? ⟨w.heap.size,2,none⟩=some (.slice go s.guards.length gc)):=
   ⟨((yG _ _ _ _ hsv).trans ((yG _ _ _ _ hsv).trans (yG _ _ _ _ hsv))).trans v210,((yG _ _ _ _ hneS2).trans ((yG _ _ _ _ hneS2).trans (yG _ _ _ _ hneS2))).trans s20,((yG _ _ _ _ hneS2).trans ((yG _ _ _ _ hneS2).trans (yG _ _ _ _ hneS2))).trans s21,((yG _ _ _ _ hneS2).trans ((yG _ _ _ _ hneS2).trans (yG _ _ _ _ hneS2))).trans s22⟩
  have hD:Below w2 w2 w2.drew:=(yA _ _).drew;have H3:=(H2.below hD).put HVI.out hx (T2.l (A7.o hD)) (G2.l (A7.o hD));have O3:=(((O2.trans (Off.o (L:=L) hD hB2)).set (true) (p:=(sb,x*3)) HVI.out.s1 HVI.out.s2).set (.slice to s.types.length tc) (p:=(sb,x*3+1)) HVI.out.s1 HVI.out.s2).set (.slice go s.guards.length gc) (p:=(sb,x*3+2)) HVI.out.s1 HVI.out.s2;have HH3:Hid (Es L vb sb db cao ccap ps p h (((w2.setCell ⟨sb,x*3,none⟩ (.bool true)).setCell ⟨sb,x*3+1,none⟩ (.slice to s.types.length tc)).setCell ⟨sb,x*3+2,none⟩ (.slice go s.guards.length gc)).drew ⟨c.sts.set x (some s),c.due⟩ l):=H3;have HO3:Hid (Off B L w (((w2.setCell ⟨sb,x*3,none⟩ (.bool true)).setCell ⟨sb,x*3+1,none⟩ (.slice to s.types.length tc)).setCell ⟨sb,x*3+2,none⟩ (.slice go s.guards.length gc)).drew):=O3;clear H3 O3 hD T2 G2 H2 O2 S2 hneS2 hsv;go_wp2_with fail;go_region_held3 (fun w'=>w'.cell? (vb,10)=some (.slice sb p.ins.length p.ins.length)/\w'.cell? ((w:Nat),0)=some (.bool true)/\w'.cell? ((w:Nat),1)=some (.slice to s.types.length tc)/\w'.cell? ((w:Nat),2)=some (.slice go s.guards.length gc)) (first|exact⟨v210,s20,s21,s22⟩|exact HKP.out|(go_keep;done)) (fail);clear v210 s20 s21 s22 y0 y1 y2 fz HKP;generalize (((w2.setCell ⟨sb,x*3,none⟩ (.bool true)).setCell ⟨sb,x*3+1,none⟩ (.slice to s.types.length tc)).setCell ⟨sb,x*3+2,none⟩ (.slice go s.guards.length gc)).drew=w3 at *;have v3:=HH3.out.blk.cell;have f3:=HH3.out.blk.frozen 12;have d3:=(HH3.out.due.cell x).trans (Bo (by rw[HH3.out.lenD];exact hx));have g3:=HH3.out.due.frozen x;have hdv:¬db=vb:=fun e=>HVI.out.vd e.symm;have hvd:¬vb=db:=HVI.out.vd;have hmn:min (l:Int) (x:Int)=((min l x:Nat):Int):=by omega
  have HMN:Hid _:=hmn;clear hmn;go_wp2;go_ret;unfold Gn;rw[HRE.out,HMN.out];exact⟨⟨rfl,min l x,by omega,HH3.out.setDue HVI.out x (min l x) (by omega) (by omega)⟩,(HO3.out.set _ HVI.out.d1 HVI.out.d2).set _ HVI.out.v1 HVI.out.v2⟩
 | some t=>
  dsimp only[stT,stG,Option.isSome]at z0 z1 z2;have hots:=HOLD.out t HO.out;have BZ:Below w w ((w.alloc (.cells #[.bool rb,.slice to s.types.length tc,.slice go s.guards.length gc] 146)).alloc (.cells #[true,.slice to2 t.types.length tc2,.slice go2 t.guards.length gc2] 146)):=((yA _ _).alloc (yB _) _).alloc (by simp) _;have H2:=HH0.out.below BZ;obtain⟨to3,tc3,go3,gc3,y0,y1,y2,RT0,RG0⟩:=HH0.out.sts.at_ x (some t) HSX.out;have e1:to3=to2/\tc3=tc2:=by have:=(HB1.out.cell HH0.out.sts.own.lt).trans y1;rw[z1]at this;simpa[stT]using this.symm
  have e2:go3=go2/\gc3=gc2:=by have:=(HB1.out.cell HH0.out.sts.own.lt).trans y2;rw[z2]at this;simpa[stG]using this.symm
  obtain⟨rfl,rfl⟩:=e1;obtain⟨rfl,rfl⟩:=e2;dsimp only[stT,stG]at RT0 RG0;have HE1:Hid (∀W,Below w w W->Kw 181 #[.slice to3 t.types.length tc3,.slice to s.types.length tc] W (.bool (decide (t.types=s.types)))):=fun W hb=>Qj _ _ _ _ _ _ W (by omega) (Ah.w (RT0.l (A7.o hb)).at_ (yE _)) (Ah.w (HT0.out.l (A7.o hb)).at_ (yE _));have HE2:Hid (∀W,Below w w W->Kw 182 #[.slice go3 t.guards.length gc3,.slice go s.guards.length gc] W (.bool (decide (t.guards=s.guards)))):=fun W hb=>A2n _ _ _ _ _ _ W (by omega) (Ah.w (RG0.l (A7.o hb)).at_ (yE _)) (Ah.w (HG0.out.l (A7.o hb)).at_ (yE _));have S2:=(Blk.new w #[.bool rb,.slice to s.types.length tc,.slice go s.guards.length gc] 146).alloc (.cells #[true,.slice to3 t.types.length tc3,.slice go3 t.guards.length gc3] 146);have P2:=Blk.new (w.alloc (.cells #[.bool rb,.slice to s.types.length tc,.slice go s.guards.length gc] 146)) #[true,.slice to3 t.types.length tc3,.slice go3 t.guards.length gc3] 146;simp only[nblk_alloc]at P2;have HRE:Hid (Cu c x s=if t=s then some c else none):=Z9 HO.out;have HST:Hid ((decide (t.types=s.types)&&decide (t.guards=s.guards))=decide (t=s)):=A7r;have HBZ:Hid _:=BZ;clear H1 T1 G1 S1 O1 BZ RT0 RG0 RT RG y0 y1 y2 HOLD hots;subst hw1;go_in;go_wp2_with fail;generalize hwz:(w.alloc (.cells #[.bool rb,.slice to s.types.length tc,.slice go s.guards.length gc] 146)).alloc (.cells #[true,.slice to3 t.types.length tc3,.slice go3 t.guards.length gc3] 146)=w2 at *;clear hwz v1 z0 z1 z2;refine(HE1.out w2 HBZ.out).mono ?_;rintro e w3 ⟨rfl,hw3⟩;have HB3:Hid _:=HBZ.out.trans (hw3.mono HBZ.out.size);have H3:=H2.below hw3;have s3:=(S2.l hw3).cell;have p3:=(P2.l hw3).cell;clear hw3 H2 S2 P2 HE1;cases hte:decide (t.types=s.types)
  ·have HR2:Hid (Cu c x s=none):=by have h1:=HST.out;rw[hte]at h1;show _=_;rw[HRE.out,if_neg (by simpa using h1.symm)]
   clear hte HST HRE;go_wp2;go_ret;unfold Gn;rw[HR2.out];exact⟨rfl,Off.o HB3.out (yI hB hL)⟩
  ·have HST2:Hid (decide (t.guards=s.guards)=decide (t=s)):=by have h1:=HST.out;rw[hte,Bool.true_and]at h1;exact h1
   clear hte HST;go_wp2_with fail;refine(HE2.out w3 HB3.out).mono ?_;rintro e w4 ⟨rfl,hw4⟩;have HB4:Hid _:=HB3.out.trans (hw4.mono HB3.out.size);have H4:=H3.below hw4;rw[HST2.out];clear hw4 H3 s3 p3 HE2 HST2;by_cases hts:t=s
   ·have HR2:Hid (Cu c x s=some c):=by show _=_;rw[HRE.out,if_pos hts]
    rw[decide_eq_true hts];clear hts HRE;go_wp2;go_ret;unfold Gn;rw[HR2.out];exact⟨⟨rfl,l,hl,H4⟩,Off.o HB4.out (yI hB hL)⟩
   ·have HR2:Hid (Cu c x s=none):=by show _=_;rw[HRE.out,if_neg hts]
    rw[decide_eq_false hts];clear hts HRE;go_wp2;go_ret;unfold Gn;rw[HR2.out];exact⟨rfl,Off.o HB4.out (yI hB hL)⟩
structure Zn (w0:World) (B L vb sb db:Nat) (ps:List Pd) (p:Pd) (h:Ph):Prop where
 V:Zo B L vb sb db
 hB:B=(w0:Nat)
 hBL:B<=L
 hz:p.ins.length<=6000
 fit:Oz ps.length p
 few:Ie p
 hpl:ps.length<=1048576
 ins:Ck 0 w0 h.io p.ins
 forms:Hm w0
def Ox (B L vb sb db:Nat) (cao:Option Addr) (ccap:Nat) (ps:List Pd) (p:Pd) (h:Ph) (w:World) (r:Except (Nat×Nat) Cf) (e:Ending) (w':World):Prop:=
 (match r with|.error (k,x)=>e=.returned (.agg #[k,(),x])|.ok c'=>e=.returned (.agg #[(),(),()])/\∃l',l'<=p.ins.length/\Es L vb sb db cao ccap ps p h w' c' l')/\Off B L w w'
theorem Es.fault{vb sb db:Nat} {l:Nat} (V:Zo B L vb sb db) (x:Es L vb sb db cao ccap ps p h w c l) {a1 a2 a3:Value} (hg:Blk w g #[a1,a2,a3] 27) (hL:L<=g) (v1 v2 v3:Value):Es L vb sb db cao ccap ps p h (((w.setCell ⟨g,0,none⟩ v1).setCell ⟨g,1,none⟩ v2).setCell ⟨g,2,none⟩ v3) c l:=
 ((x.store V hg hL (by decide) (by decide) 0 v1).store V (hg.set 0 v1) hL (by decide) (by decide) 1 v2).store V ((hg.set 0 v1).set 1 v2) hL (by decide) (by decide) 2 v3
theorem Off.fault {a b:World} (h:Off B L a b) (hB:B<=a.heap.size) (v1 v2 v3:Value):Off B L a (((b.setCell ⟨a.heap.size+1+1,0,none⟩ v1).setCell ⟨a.heap.size+1+1,1,none⟩ v2).setCell ⟨a.heap.size+1+1,2,none⟩ v3):=
 ((h.setNew hB v1 (by dsimp only;omega)).setNew hB v2 (by dsimp only;omega)).setNew hB v3 (by dsimp only;omega)
def A4x (w:World) (b:Nat) (A Bb N:Array Value):Prop:=Blk w b A 146/\Blk w (b+1) Bb 146/\Blk w (b+1+1) #[(),(),()] 27/\Blk w (b+1+1+1) N 81
theorem A4x.l (h:A4x w b A Bb N) (hb:Below w w w'):A4x w' b A Bb N:=⟨h.1.l hb,h.2.1.l hb,h.2.2.1.l hb,h.2.2.2.l hb⟩
theorem A4x.off (h:A4x w b A Bb N) (hb:Off B L w w') (hL:L<=b):A4x w' b A Bb N:=⟨hb.blk h.1 hL,hb.blk h.2.1 (by omega),hb.blk h.2.2.1 (by omega),hb.blk h.2.2.2 (by omega)⟩
theorem A5j (w0:World) (B L vb sb db:Nat) (cao:Option Addr) (ccap:Nat) (ps:List Pd) (p:Pd) (h:Ph) (c:Cf) (l:Nat) (w:World) (i m:Nat) (n:Nd) (ab bb:Bool) (ao ago bo bgo:Option Addr) (ac agc bc bgc:Nat) (s:St) (ts:List Int) (gs:List Gd)
  (X:Zn w0 B L vb sb db ps p h) (H0:Es L vb sb db cao ccap ps p h w c l) (hl:l<=p.ins.length) (hL:L<=(w:Nat)) (hb0:Below w0 w0 w) (hok:L6 p c) (hi:p.ins[i]?=some n) (hso:Rp p ⟨ts,gs⟩) (hfk:∀y∈goF n s ts gs,y.1<p.ins.length)
  (hm:s.types.length=m) (ht:ts.length=m) (hm2:m<=250) (hmr:(m:Int)=p.regs) (R1:Gp L w ao ac s.types) (R2:Dl L w ago agc s.guards) (R3:Gp L w bo bc ts) (R4:Dl L w bgo bgc gs) :
  Calls prog 192 #[.pointer vb,i,.agg #[.bool ab,.slice ao s.types.length ac,.slice ago s.guards.length agc],.agg #[.bool bb,.slice bo ts.length bc,.slice bgo gs.length bgc]] w (Ox B L vb sb db cao ccap ps p h w (Al c (Fg n i s ts gs))):=by
 have HNF:Hid _:=X.fit.fit i n hi;have HNX:Hid _:=X.fit.next i n hi;have HBW:Hid _:=yI X.hBL hL;have HLW:Hid (L<=(w:Nat)+1+1):=by show _<=_;omega
 have HB0:Hid (∀W,Off B L w W->Below w0 w0 W):=fun W hO=>hb0.trans (by have:=hO.below;rw[X.hB]at this;exact this);have HFK:Hid (∀t,(t,Iq n s ts gs)∈goF n s ts gs->t<p.ins.length):=fun t hm=>hfk _ hm;have HM0:Hid _:=hm;have HT0:Hid _:=ht;have HMR:Hid _:=hmr;clear hm ht hmr;have BZ:Below w w (((w.alloc (.cells #[.bool ab,.slice ao s.types.length ac,.slice ago s.guards.length agc] 146)).alloc (.cells #[.bool bb,.slice bo ts.length bc,.slice bgo gs.length bgc] 146)).alloc (.cells #[(),(),()] 27)):=(((yA _ _).alloc (yB _) _).alloc (by simp) _).alloc (by simp;omega) _;obtain⟨ib,iof,hio,_,_,_⟩:=X.ins i n hi;obtain⟨ib',iof',hio',_,hibl,q0,q1,q2,q3,q4⟩:=(X.ins.l (A7.o (HB0.out _ (Off.o BZ HBW.out)))) i n hi;rw[hio]at hio';obtain⟨rfl,rfl⟩:ib=ib'/\iof=iof':=by simpa using hio'
 have hil:=(yD.1 hi).1;have k1:(i:Int)<p.ins.length:=by omega
 have v8:=(H0.below BZ).blk.cell 8;simp only[List.getElem?_toArray,List.getElem?_cons_succ,List.getElem?_cons_zero]at v8;rw[hio]at v8;obtain⟨op,na,nb,nc,nd⟩:=n;dsimp only at q0 q1 q2 q3 q4;have BY:Below w w ((((w.alloc (.cells #[.bool ab,.slice ao s.types.length ac,.slice ago s.guards.length agc] 146)).alloc (.cells #[.bool bb,.slice bo ts.length bc,.slice bgo gs.length bgc] 146)).alloc (.cells #[(),(),()] 27)).alloc (.cells #[op,na,nb,nc,nd] 81)):=BZ.alloc BZ.size _;have H4:=H0.below BY;have C4:A4x ((((w.alloc (.cells #[.bool ab,.slice ao s.types.length ac,.slice ago s.guards.length agc] 146)).alloc (.cells #[.bool bb,.slice bo ts.length bc,.slice bgo gs.length bgc] 146)).alloc (.cells #[(),(),()] 27)).alloc (.cells #[op,na,nb,nc,nd] 81)) (w:Nat) #[.bool ab,.slice ao s.types.length ac,.slice ago s.guards.length agc] #[.bool bb,.slice bo ts.length bc,.slice bgo gs.length bgc] #[op,na,nb,nc,nd]:=by have a1:=(((Blk.new w #[.bool ab,.slice ao s.types.length ac,.slice ago s.guards.length agc] 146).alloc (.cells #[.bool bb,.slice bo ts.length bc,.slice bgo gs.length bgc] 146)).alloc (.cells #[(),(),()] 27)).alloc (.cells #[op,na,nb,nc,nd] 81);have a2:=((Blk.new (w.alloc (.cells #[.bool ab,.slice ao s.types.length ac,.slice ago s.guards.length agc] 146)) #[.bool bb,.slice bo ts.length bc,.slice bgo gs.length bgc] 146).alloc (.cells #[(),(),()] 27)).alloc (.cells #[op,na,nb,nc,nd] 81);have a3:=(Blk.new ((w.alloc (.cells #[.bool ab,.slice ao s.types.length ac,.slice ago s.guards.length agc] 146)).alloc (.cells #[.bool bb,.slice bo ts.length bc,.slice bgo gs.length bgc] 146)) #[(),(),()] 27).alloc (.cells #[op,na,nb,nc,nd] 81);have a4:=Blk.new (((w.alloc (.cells #[.bool ab,.slice ao s.types.length ac,.slice ago s.guards.length agc] 146)).alloc (.cells #[.bool bb,.slice bo ts.length bc,.slice bgo gs.length bgc] 146)).alloc (.cells #[(),(),()] 27)) #[op,na,nb,nc,nd] 81;simp only[nblk_alloc]at a2 a3 a4;exact⟨a1,a2,a3,a4⟩
 have O4:Off B L w ((((w.alloc (.cells #[.bool ab,.slice ao s.types.length ac,.slice ago s.guards.length agc] 146)).alloc (.cells #[.bool bb,.slice bo ts.length bc,.slice bgo gs.length bgc] 146)).alloc (.cells #[(),(),()] 27)).alloc (.cells #[op,na,nb,nc,nd] 81)):=Off.o BY HBW.out;have HHN:Hid (∀W,Kw 178 #[.agg #[op,na,nb,nc,nd]] W (.bool (Ex ⟨op,na,nb,nc,nd⟩))):=fun W=>Na ⟨op,na,nb,nc,nd⟩ W;clear H0 BZ BY hio hio' hi hfk hb0;go_in;go_wp2_with fail;generalize ((((w.alloc (.cells #[.bool ab,.slice ao s.types.length ac,.slice ago s.guards.length agc] 146)).alloc (.cells #[.bool bb,.slice bo ts.length bc,.slice bgo gs.length bgc] 146)).alloc (.cells #[(),(),()] 27)).alloc (.cells #[op,na,nb,nc,nd] 81))=w4 at *;clear q0 q1 q2 q3 q4 v8 hibl;refine(HHN.out w4).mono ?_;rintro e w5 ⟨rfl,hw5⟩;have H5:=H4.below hw5;have C5:=C4.l hw5;have O5:=O4.trans (Off.o hw5 (yI HBW.out O4.size));clear H4 C4 O4 hw5 HHN;cases hnx:Ex ⟨op,na,nb,nc,nd⟩
 ·have HFO:Hid (Al c (Fg ⟨op,na,nb,nc,nd⟩ i s ts gs)=Al c (goF ⟨op,na,nb,nc,nd⟩ s ts gs)):=by show _=_;unfold Fg;rw[hnx];rfl
  clear hnx;have HGA:Hid (∀_:Unit,_):=fun _=>Ht ps.length p ⟨op,na,nb,nc,nd⟩ w5 HNF.out (X.forms.l (HB0.out _ (O5)));have c5:=(C5).2.2.2.cell;go_wp2_with fail;refine(HGA.out ()).mono ?_;rintro e w6 ⟨rfl,hw6⟩;have H6:=(H5).below hw6;have C6:=(C5).l hw6;have O6:=(O5).trans (Off.o hw6 (yI HBW.out (O5).size));clear c5 HGA;cases htg:Np ⟨op,na,nb,nc,nd⟩ with
  | none=>
   have HTV:Hid (tgV ⟨op,na,nb,nc,nd⟩ = -1):=by show _=_;unfold tgV;rw[htg]
   have HRE:Hid (Al c (Fg ⟨op,na,nb,nc,nd⟩ i s ts gs)=.ok c):=by show _=_;rw[HFO.out,Yu,htg];rfl
   have HL9:Hid _:=hl;rw[HTV.out];clear htg HTV;have r9:=(C6.2.2.1).cell;have f9:=(C6.2.2.1).frozen;have HC9:Hid (Blk w6 ((w:Nat)+1+1) #[(),(),()] 27):=C6.2.2.1;have HH9:Hid _:=H6;have HO9:Hid _:=O6;go_wp2_with fail;have c9:=(HC9.out.three (x':=()) (y':=()) (z':=())).cell;refine bodyPost_ret (v:=.agg #[(),(),()]) ?_ rfl ⟨?_,HO9.out.fault HBW.out _ _ _⟩
   ·simp[results,results192,go_sem,c9]
   ·rw[HRE.out];exact⟨rfl,_,HL9.out,HH9.out.fault X.V HC9.out HLW.out _ _ _⟩
  | some t=>
   have HTV:Hid (tgV ⟨op,na,nb,nc,nd⟩=(t:Int)):=by show _=_;unfold tgV;rw[htg]
   have HFO2:Hid (Al c (Fg ⟨op,na,nb,nc,nd⟩ i s ts gs)=match Cu c t (Iq ⟨op,na,nb,nc,nd⟩ s ts gs) with|none=>.error (13,t)|some c'=>.ok c'):=by show _=_;rw[HFO.out,Yu,htg];dsimp only[Al];cases Cu c t (Iq ⟨op,na,nb,nc,nd⟩ s ts gs)<;>rfl
   have htn:=HFK.out t (by rw[Yu,htg];simp);rw[HTV.out];clear htg HTV;have HST:Hid (∀_:Unit,_):=fun _=>Nl ps.length p ⟨op,na,nb,nc,nd⟩ ab bb ao ago bo bgo ac agc bc bgc L m s ts gs w6 (yI hL O6.size) HM0.out HT0.out hm2 (R1.l O6.keeps) (R2.l O6.keeps) (R3.l O6.keeps) (R4.l O6.keeps) HNF.out HMR.out;have k6:¬(t:Int)<0:=by omega
   have a6:=C6.1.cell;have d6:=C6.2.1.cell;have n6:=C6.2.2.2.cell;unfold Nd.val at HST;go_wp2_with fail;refine(HST.out ()).mono ?_;rintro e w7 ⟨⟨rb,to7,tc7,go7,gc7,rfl,RT7,RG7⟩,hw7⟩;have H7:=H6.below hw7;have C7:=C6.l hw7;have O7:=O6.trans (Off.o hw7 (yI HBW.out O6.size));have HRC:Hid (∀_:Unit,_):=fun _=>Nu B L vb sb db cao ccap ps p h c l w7 t rb (Iq ⟨op,na,nb,nc,nd⟩ s ts gs) to7 go7 tc7 gc7 X.V X.hz H7 hl (yI hL O7.size) htn RT7 RG7 X.hBL (fun u hu=>by have h1:=(hok).ok t u hu;have h2:=h1.len;have h3:=X.fit.regs;exact⟨by omega,h1.few⟩);clear a6 d6 n6 HST;go_wp2_with fail;refine(HRC.out ()).mono ?_;unfold Gn;have C8:=C7;cases hre:Cu c t (Iq ⟨op,na,nb,nc,nd⟩ s ts gs) with
   | none=>
    rintro e w8 ⟨rfl,hO8⟩;have HRE:Hid (Al c (Fg ⟨op,na,nb,nc,nd⟩ i s ts gs)=.error (13,t)):=by show _=_;rw[HFO2.out,hre]
    have O8:=O7.trans hO8;have C9:=C7.off hO8 hL;clear hre HRC;have r9:=(C9.2.2.1).cell;have f9:=(C9.2.2.1).frozen;have HC9:Hid (Blk w8 ((w:Nat)+1+1) #[(),(),()] 27):=C9.2.2.1;have HO9:Hid _:=O8;go_wp2_with fail;have c9:=(HC9.out.three (x':=(13:Int)) (y':=()) (z':=t)).cell;refine bodyPost_ret (v:=.agg #[(13:Int),(),t]) ?_ rfl ⟨?_,HO9.out.fault HBW.out _ _ _⟩
    ·simp[results,results192,go_sem,c9]
    ·rw[HRE.out];rfl
   | some c2=>
    rintro e w8 ⟨⟨rfl,l2,hl2,H8⟩,hO8⟩;have HRE:Hid (Al c (Fg ⟨op,na,nb,nc,nd⟩ i s ts gs)=.ok c2):=by show _=_;rw[HFO2.out,hre]
    have O8:=O7.trans hO8;have C9:=C7.off hO8 hL;have HL9:Hid _:=hl2;clear hre HRC;have r9:=(C9.2.2.1).cell;have f9:=(C9.2.2.1).frozen;have HC9:Hid (Blk w8 ((w:Nat)+1+1) #[(),(),()] 27):=C9.2.2.1;have HH9:Hid _:=H8;have HO9:Hid _:=O8;go_wp2_with fail;have c9:=(HC9.out.three (x':=()) (y':=()) (z':=())).cell;refine bodyPost_ret (v:=.agg #[(),(),()]) ?_ rfl ⟨?_,HO9.out.fault HBW.out _ _ _⟩
    ·simp[results,results192,go_sem,c9]
    ·rw[HRE.out];exact⟨rfl,_,HL9.out,HH9.out.fault X.V HC9.out HLW.out _ _ _⟩
 ·have HFO:Hid (Al c (Fg ⟨op,na,nb,nc,nd⟩ i s ts gs)=Al c ((i+1,⟨ts,gs⟩)::goF ⟨op,na,nb,nc,nd⟩ s ts gs)):=by show _=_;unfold Fg;rw[hnx];rfl
  have hi1:=HNX.out hnx;have hz:=X.hz;have k2:(i:Int)<6000:=by omega
  have k3:IntKind.i64.wrap ((i:Int)+1)=(i:Int)+1:=by unfold IntKind.wrap;simp[IntKind.signed,IntKind.bits];omega
  have HRC:Hid (∀_:Unit,_):=fun _=>Nu B L vb sb db cao ccap ps p h c l w5 (i+1) bb ⟨ts,gs⟩ bo bgo bc bgc X.V X.hz H5 hl (yI hL O5.size) hi1 (R3.l O5.keeps) (R4.l O5.keeps) X.hBL (fun u hu=>by have h1:=hok.ok (i+1) u hu;have h2:=h1.len;have h3:=X.fit.regs;exact⟨by omega,h1.few⟩);have d5:=C5.2.1.cell;have kw:((i+1:Nat):Int)=(i:Int)+1:=by omega
  rw[kw]at HRC;clear hnx kw;go_wp2_with fail;refine(HRC.out ()).mono ?_;unfold Gn;have HRK:Hid (∀c',Cu c (i+1) ⟨ts,gs⟩=some c'->L6 p c'):=fun c' hr=>Wh hok hso hr;cases hre:Cu c (i+1) ⟨ts,gs⟩ with
  | none=>
   rintro e w6 ⟨rfl,hO6⟩;have HRE:Hid (Al c (Fg ⟨op,na,nb,nc,nd⟩ i s ts gs)=.error (13,i+1)):=by show _=_;rw[HFO.out,Kt,hre]
   have O6:=O5.trans hO6;have C6:=C5.off hO6 hL;clear hre HRC d5;have r9:=(C6.2.2.1).cell;have f9:=(C6.2.2.1).frozen;have HC9:Hid (Blk w6 ((w:Nat)+1+1) #[(),(),()] 27):=C6.2.2.1;have HO9:Hid _:=O6;go_wp2_with fail;have c9:=(HC9.out.three (x':=(13:Int)) (y':=()) (z':=((i:Int)+1:Int))).cell;refine bodyPost_ret (v:=.agg #[(13:Int),(),((i:Int)+1:Int)]) ?_ rfl ⟨?_,HO9.out.fault HBW.out _ _ _⟩
   ·simp[results,results192,go_sem,c9]
   ·rw[HRE.out];rfl
  | some c1=>
   rintro e w6' ⟨⟨rfl,l1,hl1,H6'⟩,hO6⟩;have HFO1:Hid (Al c (Fg ⟨op,na,nb,nc,nd⟩ i s ts gs)=Al c1 (goF ⟨op,na,nb,nc,nd⟩ s ts gs)):=by show _=_;rw[HFO.out,Kt,hre]
   have hok1:=HRK.out c1 hre;have O6':=O5.trans hO6;have C6':=C5.off hO6 hL;clear hre HRC d5 HFO HRK;have HGA:Hid (∀_:Unit,_):=fun _=>Ht ps.length p ⟨op,na,nb,nc,nd⟩ w6' HNF.out (X.forms.l (HB0.out _ (O6')));have c5:=(C6').2.2.2.cell;go_wp2_with fail;refine(HGA.out ()).mono ?_;rintro e w6 ⟨rfl,hw6⟩;have H6:=(H6').below hw6;have C6:=(C6').l hw6;have O6:=(O6').trans (Off.o hw6 (yI HBW.out (O6').size));clear c5 HGA;cases htg:Np ⟨op,na,nb,nc,nd⟩ with
   | none=>
    have HTV:Hid (tgV ⟨op,na,nb,nc,nd⟩ = -1):=by show _=_;unfold tgV;rw[htg]
    have HRE:Hid (Al c (Fg ⟨op,na,nb,nc,nd⟩ i s ts gs)=.ok c1):=by show _=_;rw[HFO1.out,Yu,htg];rfl
    have HL9:Hid _:=hl1;rw[HTV.out];clear htg HTV;have r9:=(C6.2.2.1).cell;have f9:=(C6.2.2.1).frozen;have HC9:Hid (Blk w6 ((w:Nat)+1+1) #[(),(),()] 27):=C6.2.2.1;have HH9:Hid _:=H6;have HO9:Hid _:=O6;go_wp2_with fail;have c9:=(HC9.out.three (x':=()) (y':=()) (z':=())).cell;refine bodyPost_ret (v:=.agg #[(),(),()]) ?_ rfl ⟨?_,HO9.out.fault HBW.out _ _ _⟩
    ·simp[results,results192,go_sem,c9]
    ·rw[HRE.out];exact⟨rfl,_,HL9.out,HH9.out.fault X.V HC9.out HLW.out _ _ _⟩
   | some t=>
    have HTV:Hid (tgV ⟨op,na,nb,nc,nd⟩=(t:Int)):=by show _=_;unfold tgV;rw[htg]
    have HFO2:Hid (Al c (Fg ⟨op,na,nb,nc,nd⟩ i s ts gs)=match Cu c1 t (Iq ⟨op,na,nb,nc,nd⟩ s ts gs) with|none=>.error (13,t)|some c'=>.ok c'):=by show _=_;rw[HFO1.out,Yu,htg];dsimp only[Al];cases Cu c1 t (Iq ⟨op,na,nb,nc,nd⟩ s ts gs)<;>rfl
    have htn:=HFK.out t (by rw[Yu,htg];simp);rw[HTV.out];clear htg HTV;have HST:Hid (∀_:Unit,_):=fun _=>Nl ps.length p ⟨op,na,nb,nc,nd⟩ ab bb ao ago bo bgo ac agc bc bgc L m s ts gs w6 (yI hL O6.size) HM0.out HT0.out hm2 (R1.l O6.keeps) (R2.l O6.keeps) (R3.l O6.keeps) (R4.l O6.keeps) HNF.out HMR.out;have k6:¬(t:Int)<0:=by omega
    have a6:=C6.1.cell;have d6:=C6.2.1.cell;have n6:=C6.2.2.2.cell;unfold Nd.val at HST;go_wp2_with fail;refine(HST.out ()).mono ?_;rintro e w7 ⟨⟨rb,to7,tc7,go7,gc7,rfl,RT7,RG7⟩,hw7⟩;have H7:=H6.below hw7;have C7:=C6.l hw7;have O7:=O6.trans (Off.o hw7 (yI HBW.out O6.size));have HRC:Hid (∀_:Unit,_):=fun _=>Nu B L vb sb db cao ccap ps p h c1 l1 w7 t rb (Iq ⟨op,na,nb,nc,nd⟩ s ts gs) to7 go7 tc7 gc7 X.V X.hz H7 hl1 (yI hL O7.size) htn RT7 RG7 X.hBL (fun u hu=>by have h1:=(hok1).ok t u hu;have h2:=h1.len;have h3:=X.fit.regs;exact⟨by omega,h1.few⟩);clear a6 d6 n6 HST;go_wp2_with fail;refine(HRC.out ()).mono ?_;unfold Gn;have C8:=C7;cases hre:Cu c1 t (Iq ⟨op,na,nb,nc,nd⟩ s ts gs) with
    | none=>
     rintro e w8 ⟨rfl,hO8⟩;have HRE:Hid (Al c (Fg ⟨op,na,nb,nc,nd⟩ i s ts gs)=.error (13,t)):=by show _=_;rw[HFO2.out,hre]
     have O8:=O7.trans hO8;have C9:=C7.off hO8 hL;clear hre HRC;have r9:=(C9.2.2.1).cell;have f9:=(C9.2.2.1).frozen;have HC9:Hid (Blk w8 ((w:Nat)+1+1) #[(),(),()] 27):=C9.2.2.1;have HO9:Hid _:=O8;go_wp2_with fail;have c9:=(HC9.out.three (x':=(13:Int)) (y':=()) (z':=t)).cell;refine bodyPost_ret (v:=.agg #[(13:Int),(),t]) ?_ rfl ⟨?_,HO9.out.fault HBW.out _ _ _⟩
     ·simp[results,results192,go_sem,c9]
     ·rw[HRE.out];rfl
    | some c2=>
     rintro e w8 ⟨⟨rfl,l2,hl2,H8⟩,hO8⟩;have HRE:Hid (Al c (Fg ⟨op,na,nb,nc,nd⟩ i s ts gs)=.ok c2):=by show _=_;rw[HFO2.out,hre]
     have O8:=O7.trans hO8;have C9:=C7.off hO8 hL;have HL9:Hid _:=hl2;clear hre HRC;have r9:=(C9.2.2.1).cell;have f9:=(C9.2.2.1).frozen;have HC9:Hid (Blk w8 ((w:Nat)+1+1) #[(),(),()] 27):=C9.2.2.1;have HH9:Hid _:=H8;have HO9:Hid _:=O8;go_wp2_with fail;have c9:=(HC9.out.three (x':=()) (y':=()) (z':=())).cell;refine bodyPost_ret (v:=.agg #[(),(),()]) ?_ rfl ⟨?_,HO9.out.fault HBW.out _ _ _⟩
     ·simp[results,results192,go_sem,c9]
     ·rw[HRE.out];exact⟨rfl,_,HL9.out,HH9.out.fault X.V HC9.out HLW.out _ _ _⟩
end Go.Proofs.YtjbbppblgjhapaaGreatDoor
