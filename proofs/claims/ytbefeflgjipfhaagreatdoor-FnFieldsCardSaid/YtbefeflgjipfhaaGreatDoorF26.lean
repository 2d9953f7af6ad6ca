import Derived.Laws.EntriesVeiled
import Derived.Test.YtbefeflgjipfhaaGreatDoorF25
set_option maxRecDepth 100000
set_option maxHeartbeats 4000000
namespace Go.Proofs.YtbefeflgjipfhaaGreatDoor
open Go.Deep Go.Proofs.Tryz Go.RowKit
attribute [local go_sem] A7
def Aq {α:Type} (f:Nat->α->Bool):Nat->List α->Option Nat
 | _,[]=>none
 | k,x::r=>if f k x then Aq f (k+1) r else some k
theorem I6 {α:Type} {f:Nat->α->Bool} {l:List α} {k:Nat} {x:α} (h:l[k]?=some x):Aq f k (l.drop k)=if f k x then Aq f (k+1) (l.drop (k+1)) else some k:=by rw[Bg h];rfl
def Lj (p:Pd) (i:Nat) (m:Md):Bool:=decide ((i:Int)<500)&&inR m.name.size 1 40&&inR m.reg 0 (p.regs-1)&&decide (0<=m.fr)&&decide (m.fr<=m.to)&&decide (m.to<=p.ins.length)
end Go.Proofs.YtbefeflgjipfhaaGreatDoor
namespace Go.Proofs.YtbefeflgjipfhaaGreatDoor
open Go.Deep Go.Proofs.Tryz Go.RowKit
def Ea (n:Nd):Bool:=n.op !=19&&n.op !=29&&n.op !=30
theorem Jk (n:Nd) (w:World) :
  Kw 312 #[n.val] w (.bool (Ea n)):=by
 obtain⟨x0,x1,x2,x3,x4⟩:=n;dsimp only[Nd.val];(try unfold Kw);go_in;go_wp2_with fail;all_goals
  go_ret;refine⟨Ac ?_,(yA _ _).alloc (yB _) _⟩
  simp_all [Ea]
def Fa (np:Nat) (p:Pd) (_:Nat) (n:Nd):Bool:=Eo np p n
def Ff (np:Nat) (p:Pd):Option Nat:=
 match Aq (Fa np p) 0 p.ins with
 | some i=>some i
 | none=>match p.ins.getLast? with
  | none=>some 0
  | some n=>if Ea n then some (p.ins.length-1) else none
theorem A0z {np:Nat} {p:Pd} {i:Nat} (h:Aq (Fa np p) 0 p.ins=some i):Ff np p=some i:=by unfold Ff;rw[h]
theorem A10 {np:Nat} {p:Pd} (h:p.ins=[]):Ff np p=some 0:=by unfold Ff;rw[h];rfl
theorem Yn {np:Nat} {p:Pd} {n:Nd} (h:Aq (Fa np p) 0 p.ins=none) (hn:p.ins[p.ins.length-1]?=some n):Ff np p=if Ea n then some (p.ins.length-1) else none:=by unfold Ff;rw[h,List.getLast?_eq_getElem?,hn]
theorem Ja (ao:Option Addr) (cap:Nat) (ps:List Pd) (i:Nat) (p:Pd) (w:World) (hi:ps[i]?=some p) (hz:Ny p) (hm:ps.length<=1048576) (hw:∀n∈p.ins,NdW n) (hr:0<=p.regs/\p.regs<=250) (hF:Ep w) (hv:Az 0 w ao ps) :
  Calls prog 256 #[.agg #[.slice ao ps.length cap],.int .i64 i] w fun e w'=>(∃at_:Int,e=.returned (.tuple #[.int .i64 at_,.bool (Ff ps.length p).isNone])/\∀k,Ff ps.length p=some k->at_=k)/\Below w.heap.size w w':=by
 have hlt:i<ps.length:=(yD.1 hi).1;have hb2:∀o1 o2,Below w.heap.size w ((w.alloc o1).alloc o2):=fun o1 o2=>((yA _ _).alloc (yB _) o1).alloc (by simp) o2;obtain⟨b,off,rfl,_,hbl,h,n1,i1⟩:=hv i p hi;have hn:=i1.ins;have hz3:=hz.ins;clear hv hi i1;have C0:=(Blk.new w #[.slice (some ⟨b,off,none⟩) ps.length cap] 26).alloc (.cells (p.cells h) 63);have X0:=Blk.new (w.alloc (.cells #[.slice (some ⟨b,off,none⟩) ps.length cap] 26)) (p.cells h) 63;rw[nblk_alloc]at X0;obtain⟨p0,p1,p2,p3,p4,p5,p6,p7,p8⟩:=n1;have HF:Hid (∀k m,p.ins[k]?=some m->Aq (Fa ps.length p) k (p.ins.drop k)=if Eo ps.length p m then Aq (Fa ps.length p) (k+1) (p.ins.drop (k+1)) else some k):=fun k m hm=>I6 hm;unfold Pd.cells at C0 X0;go_in;go_wp2;go_loopw [18] (fun y wr=>∃k:Nat,k<=p.ins.length/\y=.int .i64 k/\Hid (Aq (Fa ps.length p) k (p.ins.drop k)=Aq (Fa ps.length p) 0 p.ins)/\Below w.heap.size w wr/\Blk wr w.heap.size #[.slice (some ⟨b,off,none⟩) ps.length cap] 26/\Blk wr (w.heap.size+1) #[.string p.name,.int .i64 p.line,.int .i64 p.params,.bool p.rest,.int .i64 p.regs,.slice h.uo p.ups.length h.uc,.slice h.co p.consts.length h.cc,.slice h.io p.ins.length h.ic,.slice h.no p.named.length h.nc] 63) (fun y _=>p.ins.length-(intOf y).toNat);case atStart=>exact⟨0,yE _,rfl,rfl,hb2 _ _,C0,X0⟩
 case round=>
  obtain⟨k,hk,rfl,HQ,hb,C1,X1⟩:=hrel;clear p0 p1 p2 p3 p4 p5 p6 p7 p8 C0 X0;have HF':Hid (Ep wr):=hF.l hb;by_cases hkl:k<p.ins.length
  ·obtain⟨m,hmk⟩:=Ah hkl;obtain⟨b',off',e',_,hbl',q0,q1,q2,q3,q4⟩:=hn.l (Ad.o hb) k m hmk;have HD:Hid (Aq (Fa ps.length p) 0 p.ins=if Eo ps.length p m then Aq (Fa ps.length p) (k+1) (p.ins.drop (k+1)) else some k):=HQ.out.symm.trans (HF.out k m hmk);have hwm:=hw m (yH hmk);have hba:∀o,Below w.heap.size w (wr.alloc o):=fun o=>hb.alloc hb.size o;have HFa:Hid (∀o,Ep (wr.alloc o)):=fun o=>HF'.out.l ((yA _ _).alloc (yB _) o);have CA:Hid (∀o,Blk (wr.alloc o) w.heap.size #[.slice (some ⟨b,off,none⟩) ps.length cap] 26):=fun o=>C1.alloc o;have XA:Hid (∀o,Blk (wr.alloc o) (w.heap.size+1) #[.string p.name,.int .i64 p.line,.int .i64 p.params,.bool p.rest,.int .i64 p.regs,.slice h.uo p.ups.length h.uc,.slice h.co p.consts.length h.cc,.slice h.io p.ins.length h.ic,.slice h.no p.named.length h.nc] 63):=fun o=>X1.alloc o;have c1:=fun o=>(C1.alloc o).cell;have x1:=fun o=>(X1.alloc o).cell;have hio:h.io=some ⟨b',off',none⟩:=e';clear e' hn HQ HF hmk hw hF;obtain⟨uo,uc,co,cc,io,ic,no,nc⟩:=h;dsimp only at *;subst hio;go_wp2_with fail;refine(Ke (some ⟨b,off,none⟩) cap ps.length p ⟨uo,uc,co,cc,some ⟨b',off',none⟩,ic,no,nc⟩ m _ hwm hz hm hr (HFa.out _)).mono ?_;rintro e w1 ⟨rfl,hw1⟩;have B1:=(hba _).trans (hw1.mono (hba _).size);have C2:=(CA.out _).l hw1;have X2:=(XA.out _).l hw1;generalize Eo ps.length p m=fb at *;clear c1 x1 CA XA hw1 q0 q1 q2 q3 q4;cases fb
   ·have hib:=A0z (p:=p) (np:=ps.length) (i:=k) (by rw[HD.out];rfl);have HI:Hid (Ff ps.length p=some k):=hib;clear hib;go_wp2;go_ret2;exact⟨⟨k,by rw[HI.out];rfl,fun j hj=>by rw[HI.out]at hj;cases hj;rfl⟩,B1⟩
   ·go_wp2;go_roundw;case rel=>exact⟨k+1,by omega,by go_num,by show _=_;rw[HD.out];rfl,B1,C2,X2⟩
    case measure=>simp[intOf];omega
  ·have HN:Hid (Aq (Fa ps.length p) 0 p.ins=none):=by have h1:=HQ.out;rw[yQ (by omega)]at h1;exact h1.symm
   have x1:=X1.cell;by_cases h0:p.ins.length=0
   ·have HI:Hid (Ff ps.length p=some 0):=A10 (yW.1 h0);have hl0:(p.ins.length:Int)-1<0:=by omega
    clear hn HQ HF hw hF HF';go_wp2;go_ret2;exact⟨⟨0,by rw[HI.out];rfl,fun j hj=>by rw[HI.out]at hj;cases hj;rfl⟩,hb⟩
   ·obtain⟨m,hmk⟩:=Ah (l:=p.ins) (k:=p.ins.length-1) (by omega);obtain⟨b',off',e',_,hbl',q0,q1,q2,q3,q4⟩:=hn.l (Ad.o hb) _ m hmk;have HI:Hid (Ff ps.length p=if Ea m then some (p.ins.length-1) else none):=Yn HN.out hmk;obtain⟨L,hL⟩:∃L,p.ins.length=L+1:=⟨p.ins.length-1,by omega⟩;rw[hL,Nat.add_sub_cancel]at q0 q1 q2 q3 q4 HI;have hi1:((p.ins.length:Int)-1)=(L:Int):=by omega
    have hi2:((L:Int)<(p.ins.length:Int)):=by omega
    have HLL:Hid (p.ins.length=L+1):=hL;have hio:h.io=some ⟨b',off',none⟩:=e';clear e' hn HQ HF hmk hw hF HF' hL h0;obtain⟨uo,uc,co,cc,io,ic,no,nc⟩:=h;dsimp only at *;subst hio;go_wp2_with fail;refine(Jk m _).mono ?_;rintro e w1 ⟨rfl,hw1⟩;have B1:=hb.trans (hw1.mono hb.size);generalize Ea m=nb at *;clear q0 q1 q2 q3 q4 x1 hw1;cases nb
    ·go_wp2;go_ret2;exact⟨⟨L,by rw[HI.out];rfl,fun j hj=>by rw[HI.out]at hj;cases hj⟩,B1⟩
    ·go_wp2;go_ret2;exact⟨⟨L,by rw[HI.out];rfl,fun j hj=>by rw[HI.out]at hj;cases hj;rfl⟩,B1⟩
def Qf (gs:List Gd) (keep:Int):Bool:=gs.all fun g=>!(g.tr&&decide (keep<g.keep))
structure St where
 types:List Int
 guards:List Gd
 deriving DecidableEq
structure Rd where
 types:List Int
 stay:List Int
 taken:List Int
def D7 (ts:List Int) (x:Int):Int:=ts.getD x.toNat 0
def Fj (want x:Int) (s:Rd):Option Rd:=
 if D7 s.types (Be x)=want then
  if x<0 then (if Be x∈s.stay then none else some ⟨s.types.set (Be x).toNat 0,s.stay,s.taken++[Be x]⟩) else some s
 else none
def Dq (want x:Int) (s:Rd):Option Rd:=if D7 s.types x=want then some ⟨s.types,s.stay++[x],s.taken⟩ else none
def rdS (r:Nat) (x:Int) (s:Rd):Option Rd:=
 match r with
 | 2=>Fj 1 x s
 | 3=>Fj 3 x s
 | 4=>Dq 1 x s
 | 5=>Dq 2 x s
 | 6=>Dq 3 x s
 | 18=>if D7 s.types x=1/\D7 s.types (x+1)=1/\D7 s.types (x+2)=1 then some ⟨s.types,s.stay++[x],s.taken⟩ else none
 | 19=>if D7 s.types x=1/\D7 s.types (x+1)=0 then some ⟨s.types,s.stay++[x],s.taken++[x]⟩ else none
 | 20=>if D7 s.types x=1/\D7 s.types (x+1)=1 then some ⟨s.types,s.stay++[x],s.taken⟩ else none
 | _=>some s
def Kg:List Nat->List Int->Rd->Option Rd
 | r::rs,x::xs,s=>(rdS r x s).bind (Kg rs xs)
 | _,_,s=>some s
def Bh (ts:List Int) (us:List Ud):Bool:=us.all fun u=>!(u.loc&&decide (D7 ts u.idx≠2))
def Du (ps:List Pd) (n:Nd):List Ud:=if n.op=11 then (match ps[n.b.toNat]? with|some q=>q.ups|none=>[]) else []
def A2u (ps:List Pd) (n:Nd) (ts:List Int):Option (List Int×List Int):=
 match Kg (Bt n.op.toNat) n.fs ⟨ts,[],[]⟩ with
 | none=>none
 | some r=>if Bh r.types (Du ps n) then some (r.types,r.taken) else none
def Cb (gs:List Gd):Option Bool:=gs.getLast?.map Gd.tr
def Gi (gs:List Gd) (k:Int):List Gd:=gs.modify (gs.length-1) fun g=>⟨g.tr,k,g.hd⟩
def Ml (n:Nd) (gs:List Gd):Option (List Gd):=
 if n.op=31 then (if decide (gs.length<50)&&Qf gs n.b then some (gs++[⟨true,n.b,n.a⟩]) else none)
 else if n.op=33 then (if decide (gs.length<50)&&Qf gs n.a then some (gs++[⟨false,n.a,0⟩]) else none)
 else if n.op=32 then (if Cb gs=some true then some gs.dropLast else none)
 else if n.op=34 then (if Cb gs=some false/\Qf gs n.a=true then some (Gi gs n.a) else none)
 else if n.op=35 then (if Cb gs=some false then some gs else none)
 else if n.op=36 then (if Cb gs=some false then some gs.dropLast else none)
 else some gs
def Ey (k:Int) (b a:List Int):Bool:=decide (b.take k.toNat=a.take k.toNat)
def Dv (k:Int) (taken:List Int):Bool:=taken.all fun x=>!decide (x<k)
def Qz (e:Bool) (taken b a:List Int):List Gd->Bool
 | []=>true
 | g::r=>(!g.tr||(Dv g.keep taken&&((e&&r.isEmpty)||Ey g.keep b a)))&&Qz e taken b a r
def A2h (n:Nd) (gs:List Gd) (taken b a:List Int):Bool:=Qz (n.op==32) taken b a gs
def Xf (k:Int) (ts:List Int):List Int:=((ts.take k.toNat++List.replicate (ts.length-k.toNat) 0).set k.toNat 1).set (k.toNat+1) 1
def goF (n:Nd) (s:St) (ts:List Int) (gs:List Gd):List (Nat×St):=
 if n.op=19 then [(n.a.toNat,⟨ts,gs⟩)]
 else if n.op=20∨n.op=21∨n.op=38∨n.op=39 then [(n.b.toNat,⟨ts,gs⟩)]
 else if n.op=41 then [(n.b.toNat,⟨ts.set n.c.toNat (D7 s.types n.c),gs⟩)]
 else if n.op=31 then [(n.a.toNat,⟨Xf n.b s.types,s.guards⟩)]
 else []
def En (n:Nd) (at_:Nat) (s:St) (ts:List Int) (gs:List Gd):List (Nat×St):=(if Ea n then [(at_+1,⟨ts,gs⟩)] else [])++goF n s ts gs
inductive Out where
 | bad (code:Nat)
 | go (l:List (Nat×St))
def Ul (ps:List Pd) (n:Nd) (at_:Nat) (s:St):Out:=
 match A2u ps n s.types with
 | none=>.bad 10
 | some (t1,tk)=>match Ml n s.guards with
  | none=>.bad 11
  | some gs=>if A2h n s.guards tk s.types (J8 n t1) then .go (En n at_ s (J8 n t1) gs) else .bad 12
structure Cf where
 sts:List (Option St)
 due:List Bool
def Cf.st (c:Cf) (i:Nat):Option St:=c.sts.getD i none
def Bv (c:Cf) (x:Nat) (s:St):Option Cf:=
 match c.st x with
 | none=>some ⟨c.sts.set x (some s),c.due.set x true⟩
 | some t=>if t=s then some c else none
def Au:Cf->List (Nat×St)->Except (Nat×Nat) Cf
 | c,[]=>.ok c
 | c,(x,s)::r=>match Bv c x s with
  | none=>.error (13,x)
  | some c'=>Au c' r
def Cg (due:List Bool):Option Nat:=due.findIdx? id
def J4 (ps:List Pd) (p:Pd) (c:Cf) (at_:Nat):Except (Nat×Nat) Cf:=
 match p.ins[at_]?,c.st at_ with
 | some n,some s=>match Ul ps n at_ s with
  | .bad k=>.error (k,at_)
  | .go l=>Au ⟨c.sts,c.due.set at_ false⟩ l
 | _,_=>.ok ⟨c.sts,c.due.set at_ false⟩
def Ej (ps:List Pd) (p:Pd):Nat->Cf->Except (Nat×Nat) Cf
 | 0,c=>.ok c
 | f+1,c=>match Cg c.due with
  | none=>.ok c
  | some i=>match J4 ps p c i with
   | .error e=>.error e
   | .ok c'=>Ej ps p f c'
def Ev (p:Pd):List Int:=
 let ts:=List.replicate p.params.toNat 1++List.replicate (p.regs.toNat-p.params.toNat) 0
 if p.rest then ts.set p.params.toNat 3 else ts
def Ch (p:Pd):Cf:=⟨(List.replicate p.ins.length none).set 0 (some ⟨Ev p,[]⟩),(List.replicate p.ins.length false).set 0 true⟩
structure Sa (p:Pd) (s:St):Prop where
 len:(s.types.length:Int)=p.regs
 few:s.guards.length<=50
 keep:∀g∈s.guards,0<=g.keep/\g.keep<=p.regs
def Tp (n:Nd) (at_:Nat):List Nat:=
 if n.op=1∨n.op=3∨n.op=28∨n.op=29∨n.op=30 then []
 else if n.op=18/\n.b=12 then []
 else if n.op=19 then [n.a.toNat]
 else if n.op=41 then [n.b.toNat]
 else if n.op=20∨n.op=21∨n.op=38∨n.op=39 then [n.b.toNat,at_+1]
 else if n.op=31 then [n.a.toNat,at_+1]
 else [at_+1]
structure Uu (np:Nat) (p:Pd):Prop where
 regs:0<=p.regs/\p.regs<=250
 fit:∀(i:Nat) (n:Nd),p.ins[i]?=some n->El np p n
 next:∀(i:Nat) (n:Nd),p.ins[i]?=some n->Ea n=true->i+1<p.ins.length
 some:0<p.ins.length
 params:0<=p.params/\p.params<=p.regs/\(p.rest=true->p.params<p.regs)
structure Kb (p:Pd) (c:Cf):Prop where
 lenS:c.sts.length=p.ins.length
 lenD:c.due.length=p.ins.length
 ok:∀i s,c.st i=some s->Sa p s
 due:∀i,c.due.getD i false=true->(c.st i).isSome=true
def I4 (p:Pd) (c:Cf) (but:Option Nat):Prop:=∀i n,p.ins[i]?=some n->(c.st i).isSome=true->c.due.getD i false=false->some i≠but->∀j∈Tp n i,(c.st j).isSome=true
theorem Ow (c:Cf) (x i:Nat) (s:St) (d:List Bool):(Cf.mk (c.sts.set x (some s)) d).st i=if x=i/\x<c.sts.length then some s else c.st i:=by
 unfold Cf.st;simp only[yR,List.getElem?_set];by_cases h:x=i
 ·subst h;by_cases h2:x<c.sts.length
  ·simp[h2]
  ·simp[h2]
 ·simp[h]
theorem Ir (d:List Bool) (x i:Nat) (b:Bool):(d.set x b).getD i false=if x=i/\x<d.length then b else d.getD i false:=by
 simp only[yR,List.getElem?_set];by_cases h:x=i
 ·subst h;by_cases h2:x<d.length
  ·simp[h2]
  ·simp[h2]
 ·simp[h]
def Ls (l:List (Option St)):Nat:=(l.filter fun o=>o.isNone).length
def Ps (l:List Bool):Nat:=(l.filter id).length
def Cf.meas (c:Cf):Nat:=2*Ls c.sts+Ps c.due
theorem A1v {l:List (Option St)} {x:Nat} {s:St} (hx:x<l.length) (hn:l.getD x none=none):Ls (l.set x (some s))+1=Ls l:=by
 induction l generalizing x with
 | nil=>simp at hx
 | cons a r ih=>
  cases x with
  | zero=>simp at hn;subst hn;simp[Ls]
  | succ x=>
   simp at hx hn;have:=ih (x:=x) hx (by simpa using hn);cases a<;>simp[Ls]at *<;>omega
theorem U1 {l:List Bool} {x:Nat} : Ps (l.set x true)<=Ps l+1:=by
 induction l generalizing x with
 | nil=>simp[Ps]
 | cons a r ih=>
  cases x with
  | zero=>cases a<;>simp[Ps]
  | succ x=>
   have:=ih (x:=x);cases a<;>simp[Ps]at *<;>omega
theorem A0s {l:List Bool} {x:Nat} (h:l.getD x false=true):Ps (l.set x false)+1=Ps l:=by
 induction l generalizing x with
 | nil=>simp at h
 | cons a r ih=>
  cases x with
  | zero=>simp at h;subst h;simp[Ps]
  | succ x=>
   have:=ih (x:=x) (by simpa using h);cases a<;>simp[Ps]at *<;>omega
theorem A1m {p:Pd} {c c':Cf} {x:Nat} {s:St} (hc:Kb p c) (hx:x<p.ins.length) (h:Bv c x s=some c'):c'.meas<=c.meas:=by
 unfold Bv at h;split at h
 ·rename_i hn;obtain rfl:=yO h;have:=A1v (s:=s) (by rw[hc.lenS];exact hx) hn;have:=@U1 c.due x;unfold Cf.meas;dsimp only;omega
 ·split at h
  ·obtain rfl:=yO h;exact yB _
  ·cases h
theorem Zy {p:Pd} {c c':Cf} {x:Nat} {s:St} (hc:Kb p c) (hs:Sa p s) (h:Bv c x s=some c'):Kb p c':=by
 unfold Bv at h;split at h
 ·obtain rfl:=yO h;refine⟨by simp[hc.lenS],by simp[hc.lenD],?_,?_⟩
  ·intro i t hi;rw[Ow]at hi;split at hi
   ·obtain rfl:=yO hi;exact hs
   ·exact hc.ok i t hi
  ·intro i hi;rw[Ow];rw[Ir]at hi;split
   ·rfl
   ·rename_i hn;rw[if_neg (by rw[hc.lenD,←hc.lenS];exact hn)]at hi;exact hc.due i hi
 ·split at h
  ·obtain rfl:=yO h;exact hc
  ·cases h
theorem Wx {p:Pd} {c c':Cf} {x:Nat} {s:St} {but:Option Nat} (hc:Kb p c) (hx:x<p.ins.length) (hk:I4 p c but) (h:Bv c x s=some c') :
  I4 p c' but/\(c'.st x).isSome=true/\∀i,(c.st i).isSome=true->(c'.st i).isSome=true:=by
 unfold Bv at h;split at h
 ·obtain rfl:=yO h;have hx2:x<c.sts.length:=by rw[hc.lenS];exact hx
  have hm:∀i,(c.st i).isSome=true->((Cf.mk (c.sts.set x (some s)) (c.due.set x true)).st i).isSome=true:=by
   intro i hi;rw[Ow];split
   ·rfl
   ·exact hi
  refine⟨?_,by rw[Ow];simp[hx2],hm⟩;intro i n hn hi hd hb j hj;rw[Ir]at hd;rw[Ow]at hi;by_cases hxi:x=i/\x<c.sts.length
  ·rw[if_pos (by rw[hc.lenD];exact⟨hxi.1,hx⟩)]at hd;cases hd
  ·rw[if_neg hxi]at hi;rw[if_neg (by rw[hc.lenD,←hc.lenS];exact hxi)]at hd;exact hm j (hk i n hn hi hd hb j hj)
 ·rename_i t ht;split at h
  ·obtain rfl:=yO h;exact⟨hk,by rw[ht];rfl,fun i hi=>hi⟩
  ·cases h
def A51 (p:Pd) (l:List (Nat×St)):Prop:=∀x∈l,x.1<p.ins.length/\Sa p x.2
theorem U6 {p:Pd} {but:Option Nat} : ∀{l:List (Nat×St)} {c c':Cf},Kb p c->A51 p l->I4 p c but->Au c l=.ok c'->
  Kb p c'/\c'.meas<=c.meas/\I4 p c' but/\(∀x∈l,(c'.st x.1).isSome=true)/\∀i,(c.st i).isSome=true->(c'.st i).isSome=true
 | [],c,c',hc,_,hk,h=>by
  unfold Au at h;obtain rfl:=Except.ok.inj h;exact⟨hc,yB _,hk,fun x hx=>by simp at hx,fun i hi=>hi⟩
 | (x,s)::r,c,c',hc,hf,hk,h=>by
  unfold Au at h;cases hr:Bv c x s with
  | none=>rw[hr]at h;cases h
  | some c1=>
   rw[hr]at h;have hx:=hf (x,s) (by simp);obtain⟨k1,k2,k3⟩:=Wx hc hx.1 hk hr;obtain⟨o1,o2,o3,o4,o5⟩:=U6 (Zy hc hx.2 hr) (fun y hy=>hf y (by simp[hy])) k1 h;refine⟨o1,yI o2 (A1m hc hx.1 hr),o3,?_,fun i hi=>o5 i (k3 i hi)⟩;intro y hy;rcases List.mem_cons.1 hy with rfl|hy
   ·exact o5 _ k2
   ·exact o4 y hy
theorem A8o {r:Nat} {x:Int} {s s':Rd} (h:rdS r x s=some s'):s'.types.length=s.types.length:=by
 unfold rdS at h;have hop:∀w,Fj w x s=some s'->s'.types.length=s.types.length:=by
  intro w h;unfold Fj at h;split at h
  ·split at h
   ·split at h
    ·cases h
    ·obtain rfl:=yO h;simp
   ·obtain rfl:=yO h;rfl
  ·cases h
 have hpl:∀w,Dq w x s=some s'->s'.types.length=s.types.length:=by
  intro w h;unfold Dq at h;split at h
  ·obtain rfl:=yO h;rfl
  ·cases h
 split at h
 ·exact hop _ h
 ·exact hop _ h
 ·exact hpl _ h
 ·exact hpl _ h
 ·exact hpl _ h
 ·split at h
  ·obtain rfl:=yO h;rfl
  ·cases h
 ·split at h
  ·obtain rfl:=yO h;rfl
  ·cases h
 ·split at h
  ·obtain rfl:=yO h;rfl
  ·cases h
 ·obtain rfl:=yO h;rfl
theorem Zx:∀{rs:List Nat} {xs:List Int} {s s':Rd},Kg rs xs s=some s'->s'.types.length=s.types.length
 | [],_,s,s',h=>by unfold Kg at h;obtain rfl:=yO h;rfl
 | _::_,[],s,s',h=>by unfold Kg at h;obtain rfl:=yO h;rfl
 | r::rs,x::xs,s,s',h=>by
  unfold Kg at h;cases h1:rdS r x s with
  | none=>rw[h1]at h;cases h
  | some s1=>
   rw[h1]at h;exact(Zx h).trans (A8o h1)
theorem A4g {ps:List Pd} {n:Nd} {ts t1 tk:List Int} (h:A2u ps n ts=some (t1,tk)):t1.length=ts.length:=by
 unfold A2u at h;split at h
 ·cases h
 ·rename_i r hr;split at h
  ·simp at h;rw[←h.1];exact Zx hr
  ·cases h
theorem A20 (n:Nd) (ts:List Int):(J8 n ts).length=ts.length:=by unfold J8;repeat (first|split|simp)
theorem Ht {np:Nat} {p:Pd} {n:Nd} (h:El np p n) :
  (n.op=31->(0<=n.a/\n.a<p.ins.length)/\0<=n.b/\n.b+2<=p.regs)/\(n.op=33∨n.op=34->0<=n.a/\n.a<=p.regs)/\(n.op=19->0<=n.a/\n.a<p.ins.length)/\
  (n.op=20∨n.op=21∨n.op=38∨n.op=39∨n.op=41->0<=n.b/\n.b<p.ins.length)/\(n.op=41->0<=n.c/\n.c<p.regs)/\(n.op=11->0<=n.b/\n.b<np):=by
 have hf:=h.fit;obtain⟨op,a,b,c,d⟩:=n;dsimp only at *;refine⟨?_,?_,?_,?_,?_,?_⟩
 ·rintro rfl;simp[Em,Nd.fs,Bt,Dr,Bd,inR]at hf;omega
 ·rintro(rfl|rfl)<;>(simp[Em,Nd.fs,Bt,Dr,Bd,inR]at hf;omega)
 ·rintro rfl;simp[Em,Nd.fs,Bt,Dr,Bd,inR]at hf;omega
 ·rintro(rfl|rfl|rfl|rfl|rfl)<;>(simp[Em,Nd.fs,Bt,Dr,Bd,inR]at hf;omega)
 ·rintro rfl;simp[Em,Nd.fs,Bt,Dr,Bd,inR]at hf;omega
 ·rintro rfl;simp[Em,Nd.fs,Bt,Dr,Bd,inR]at hf;omega
theorem Qi {np:Nat} {p:Pd} {n:Nd} {gs gs':List Gd} (hn:El np p n) (hl:gs.length<=50) (hk:∀g∈gs,0<=g.keep/\g.keep<=p.regs) (h:Ml n gs=some gs') :
  gs'.length<=50/\∀g∈gs',0<=g.keep/\g.keep<=p.regs:=by
 obtain⟨f1,f2,_⟩:=Ht hn;unfold Ml at h;split at h
 ·rename_i ho;have:=(f1 ho).2;split at h
  ·rename_i hb;simp at hb;obtain rfl:=yO h;refine⟨by simp;omega,?_⟩;intro g hg;rcases yZ.1 hg with hg|hg
   ·exact hk g hg
   ·simp at hg;subst hg;dsimp only;omega
  ·cases h
 split at h
 ·rename_i ho;have:=f2 (.inl ho);split at h
  ·rename_i hb;simp at hb;obtain rfl:=yO h;refine⟨by simp;omega,?_⟩;intro g hg;rcases yZ.1 hg with hg|hg
   ·exact hk g hg
   ·simp at hg;subst hg;dsimp only;omega
  ·cases h
 split at h
 ·split at h
  ·obtain rfl:=yO h;exact⟨by simp;omega,fun g hg=>hk g ((List.dropLast_sublist gs).subset hg)⟩
  ·cases h
 split at h
 ·rename_i ho;have:=f2 (.inr ho);split at h
  ·obtain rfl:=yO h;refine⟨by unfold Gi;simp;omega,?_⟩;intro g hg;unfold Gi at hg;obtain⟨i,hi⟩:=List.getElem?_of_mem hg;rw[List.getElem?_modify]at hi;cases hgi:gs[i]? with
   | none=>rw[hgi]at hi;simp at hi
   | some q=>
    rw[hgi]at hi;simp at hi;split at hi
    ·subst hi;dsimp only;omega
    ·subst hi;exact hk q (yH hgi)
  ·cases h
 split at h
 ·split at h
  ·obtain rfl:=yO h;exact⟨hl,hk⟩
  ·cases h
 split at h
 ·split at h
  ·obtain rfl:=yO h;exact⟨by simp;omega,fun g hg=>hk g ((List.dropLast_sublist gs).subset hg)⟩
  ·cases h
 ·obtain rfl:=yO h;exact⟨hl,hk⟩
theorem A79 {k:Int} {ts:List Int} (h:k.toNat<=ts.length):(Xf k ts).length=ts.length:=by unfold Xf;simp;omega
theorem A81 {np:Nat} {p:Pd} {n:Nd} {at_:Nat} {s:St} {ts:List Int} {gs:List Gd} (hn:El np p n) (hx:Ea n=true->at_+1<p.ins.length) (hs:Sa p s) (hb:Sa p ⟨ts,gs⟩):A51 p (En n at_ s ts gs):=by
 obtain⟨f1,_,f3,f4,f5,_⟩:=Ht hn;intro x hm;unfold En at hm;rcases yZ.1 hm with hm|hm
 ·split at hm
  ·rename_i h;simp at hm;subst hm;exact⟨hx h,hb⟩
  ·simp at hm
 ·unfold goF at hm;split at hm
  ·rename_i ho;simp at hm;subst hm;have:=f3 ho;exact⟨by dsimp only;omega,hb⟩
  split at hm
  ·rename_i ho;simp at hm;subst hm;have:=f4 (by omega);exact⟨by dsimp only;omega,hb⟩
  split at hm
  ·rename_i ho;simp at hm;subst hm;have:=f4 (by omega);refine⟨by dsimp only;omega,⟨?_,hb.few,hb.keep⟩⟩;have:=hb.len;simpa using this
  split at hm
  ·rename_i ho;simp at hm;subst hm;have:=f1 ho;have:=hs.len;refine⟨by dsimp only;omega,⟨?_,hs.few,hs.keep⟩⟩;dsimp only;rw[A79 (by omega)];exact this
  ·simp at hm
theorem A2z {n:Nd} {at_ j:Nat} (s:St) (ts:List Int) (gs:List Gd) (h:j∈Tp n at_):∃x∈En n at_ s ts gs,x.1=j:=by
 obtain⟨op,a,b,c,d⟩:=n;unfold Tp at h;unfold En goF Ea;dsimp only at *;split at h
 ·simp at h
 split at h
 ·simp at h
 split at h
 ·rename_i ho;subst ho;simp at h;subst h;simp
 split at h
 ·rename_i ho;subst ho;simp at h;subst h;simp
 split at h
 ·rename_i ho;rcases ho with rfl|rfl|rfl|rfl<;>(simp at h;rcases h with rfl|rfl<;>simp)
 split at h
 ·rename_i ho;subst ho;simp at h;rcases h with rfl|rfl<;>simp
 ·rename_i h1 h2 h3 h4 h5 h6;simp at h;subst h;have:(op !=19&&op !=29&&op !=30)=true:=by simp;omega
  rw[this];simp
theorem A8v {ps:List Pd} {np:Nat} {p:Pd} {n:Nd} {at_:Nat} {s:St} {l:List (Nat×St)} (hn:El np p n) (hx:Ea n=true->at_+1<p.ins.length) (hs:Sa p s) (h:Ul ps n at_ s=.go l) :
  A51 p l/\∀j∈Tp n at_,∃x∈l,x.1=j:=by
 unfold Ul at h;split at h
 ·cases h
 ·rename_i t1 tk hr;split at h
  ·cases h
  ·rename_i gs hg;split at h
   ·obtain rfl:=Out.go.inj h;obtain⟨g1,g2⟩:=Qi hn hs.few hs.keep hg;refine⟨A81 hn hx hs ⟨?_,g1,g2⟩,fun j hj=>A2z _ _ _ hj⟩;have:=A4g hr;have:=hs.len;rw[A20];omega
   ·cases h
theorem Km {d:List Bool} {i:Nat} (h:Cg d=some i):i<d.length/\d.getD i false=true/\∀j,j<i->d.getD j false=false:=by unfold Cg at h;rw[List.findIdx?_eq_some_iff_getElem]at h;obtain⟨h1,h2,h3⟩:=h;refine⟨h1,by simpa[List.getD_eq_getElem?_getD,h1]using h2,?_⟩;intro j hj;have:=h3 j hj;simpa[List.getD_eq_getElem?_getD,show j<d.length by omega]using this
theorem Qm {p:Pd} {c:Cf} {i:Nat} (hc:Kb p c) (hk:I4 p c none):Kb p ⟨c.sts,c.due.set i false⟩/\I4 p ⟨c.sts,c.due.set i false⟩ (some i):=by
 refine⟨⟨hc.lenS,by simp[hc.lenD],hc.ok,?_⟩,?_⟩
 ·intro j hj;dsimp only at hj;rw[Ir]at hj;split at hj
  ·cases hj
  ·exact hc.due j hj
 ·intro j n hn hi hd hb k hk2;dsimp only at hd;rw[Ir]at hd;rw[if_neg (by intro hh;exact hb (by rw[hh.1]))]at hd;exact hk j n hn hi hd (by simp) k hk2
theorem A6p {ps:List Pd} {np:Nat} {p:Pd} {c c':Cf} {i:Nat} (hp:Uu np p) (hc:Kb p c) (hk:I4 p c none) (hi:Cg c.due=some i) (h:J4 ps p c i=.ok c') :
  Kb p c'/\I4 p c' none/\c'.meas<c.meas:=by
 obtain⟨h1,h2,_⟩:=Km hi;obtain⟨k1,k2⟩:=Qm (i:=i) hc hk;have hm:(Cf.mk c.sts (c.due.set i false)).meas<c.meas:=by unfold Cf.meas;have:=A0s h2;dsimp only;omega
 unfold J4 at h;split at h
 ·rename_i n s hn hs;split at h
  ·cases h
  ·rename_i l hl;obtain⟨f1,f2⟩:=A8v (hp.fit i n hn) (hp.next i n hn) (hc.ok i s hs) hl;obtain⟨o1,o2,o3,o4,o5⟩:=U6 k1 f1 k2 h;refine⟨o1,?_,Nat.lt_of_le_of_lt o2 hm⟩;intro j m hj hst hd _ k hkm;by_cases hji:j=i
   ·subst hji;rw[hn]at hj;obtain rfl:=yO hj;obtain⟨x,hx,rfl⟩:=f2 k hkm;exact o4 x hx
   ·exact o3 j m hj hst hd (by simpa using hji) k hkm
 ·rename_i hno;exfalso;have hil:i<p.ins.length:=by rw[←hc.lenD];exact h1
  obtain⟨n,hn⟩:=Ah hil;obtain⟨s,hs⟩:=Option.isSome_iff_exists.1 (hc.due i h2);exact hno n s hn hs
theorem Ww {t x:Int} {rd:Rd} (h:¬D7 rd.types (Be x)=t):Fj t x rd=none:=by unfold Fj;rw[if_neg h]
theorem Ui {t x:Int} {rd:Rd} (h:D7 rd.types (Be x)=t) (hx:¬x<0):Fj t x rd=some rd:=by unfold Fj;rw[if_pos h,if_neg hx]
theorem Rp {t x:Int} {rd:Rd} (h:D7 rd.types (Be x)=t) (hx:x<0) (hs:Be x∈rd.stay):Fj t x rd=none:=by unfold Fj;rw[if_pos h,if_pos hx,if_pos hs]
theorem Rq {t x:Int} {rd:Rd} (h:D7 rd.types (Be x)=t) (hx:x<0) (hs:¬Be x∈rd.stay):Fj t x rd=some ⟨rd.types.set (Be x).toNat 0,rd.stay,rd.taken++[Be x]⟩:=by unfold Fj;rw[if_pos h,if_pos hx,if_neg hs]
def Sil (ins:List Nd) (a b:Nat):Prop:=∃n,ins[a]?=some n/\b∈Tp n a
section
variable {w:World} {ops:Array Oper} {rest:List Oper} {o:Oper} {a:Act} {Q:Exit→Act→World→Prop}
theorem Il (hgd:o.guard=none) (s x:Operand) (ho:o.op=.call {callee:=.builtin .append,args:=#[s,x],argTypes:=#[64,64]})
  (base:Nat) (v:Value) (n:Nat) (xs:List Int) (u:Int) (B:Nat) (hs:a.eval s=v) (hown:w.ownsRow base 3 1 v n (Bj xs)) (hx:a.eval x=.slice (some ⟨B,0,none⟩) 1 1) (hB:w.cell? ⟨B,0,none⟩=some (.int .i64 u))
  (hn:n<=1048576) (hbase:base<=w.heap.size)
  (h:∀v' w',w'.ownsRow base 3 1 v' (n+1) (Bj (xs++[u]))->w.grownBy w' v.ownBlock->(v'.ownBlock=v.ownBlock∨v'.ownBlock=some w.heap.size)->wpList prog ops Q rest (a.put o.dst v') w'):wpList prog ops Q (o::rest) a w:=by
 obtain⟨i0,hi,hz0,hz1,hz2⟩:=info_parts Tryz.info_int;refine wpList_append_own_at w hgd s x 64 ho base 3 i0 (.int .i64 0) 1 8 underlying64 hi hz0 hz1 hz2 rfl (by decide) v n (Bj xs) hs hown ⟨B,0,none⟩ 1 1 [.int .i64 u] hx rfl ?_ ?_ (by unfold maxLen;omega) (by omega) hbase ?_
 ·intro j q hj
  match j,hj with
  | 0,hj=>simp at hj;subst hj;simpa[Addr.add]using hB
 ·intro q hq;simp at hq;subst hq;rfl
 ·intro v' w' h1 h2 _ h4;refine h v' w' ?_ h2 h4;rw[Yp];exact h1
end
theorem Ay.dropLast {α:Type} {lo:Nat} {w:World} {ao:Option Addr} {k:Nat} {at1:Nat->Nat->α->Prop} {xs:List α} (h:Ay lo w ao k at1 xs):Ay lo w ao k at1 xs.dropLast:=by
 intro i x hx;refine h i x ?_;rw[List.dropLast_eq_take,List.getElem?_take]at hx;split at hx
 ·exact hx
 ·cases hx
theorem Ay.take {α:Type} {lo:Nat} {w:World} {ao:Option Addr} {k:Nat} {at1:Nat->Nat->α->Prop} {xs:List α} (h:Ay lo w ao k at1 xs) (n:Nat):Ay lo w ao k at1 (xs.take n):=by
 intro i x hx;refine h i x ?_;rw[List.getElem?_take]at hx;split at hx
 ·exact hx
 ·cases hx
theorem A49 {w:World} {base k:Nat} {v:Value} {gs:List Gd} (h:w.ownsRow base 399 3 v (k+1) (gds gs)) (hm:gs.length=k+1) :
  ∃g cap q,v=.slice (some ⟨g,0,none⟩) (k+1) cap/\base<=g/\g<w.heap.size/\k+1<=cap/\gs[k]?=some q/\GdAt w g (k*3) q/\(∀i,w.frozen? ⟨g,i,none⟩=false)/\Er base w (some ⟨g,0,none⟩) gs/\
   (∀x,(w.setCell ⟨g,k*3+1,none⟩ (.int .i64 x)).ownsRow base 399 3 v (k+1) ((gds gs).set (k*3+1) (.int .i64 x))):=by
 obtain⟨q,hq⟩:=Ah (show k<gs.length by omega);rcases Aj h with ⟨h1,h2⟩|⟨g,cap,rfl,h2,h3⟩
 ·omega
 ·obtain⟨G1,G2⟩:=Zo h;have hcap:k+1<=cap:=by
   obtain⟨_,hh|⟨g',cap',cur,e1,_,_,hc,_⟩⟩:=h
   ·obtain⟨hh,_⟩:=hh;cases hh
   ·simp only[Value.slice.injEq]at e1;omega
  refine⟨g,cap,q,rfl,h2,h3,hcap,hq,?_,fun i=>h.frozenAt i,G1,?_⟩
  ·obtain⟨b,off,e,_,_,hg⟩:=G1 k q hq;simp at e;obtain⟨rfl,rfl⟩:=e;simpa using hg
  ·intro x;exact(h.stored (k*3+1) (.int .i64 x)).1
theorem Te (ys:List Gd) (q:Gd) (f:Gd->Gd):(ys++[q]).modify ys.length f=ys++[f q]:=by
 induction ys with
 | nil=>rfl
 | cons a r ih=>
  show a::(r++[q]).modify r.length f=_;rw[ih];rfl
theorem A82 {gs:List Gd} {k:Nat} (hm:gs.length=k+1) (x:Int):(gds gs).set (k*3+1) (.int .i64 x)=gds (Gi gs x):=by obtain⟨ys,q,rfl⟩:∃ys q,gs=ys++[q]:=⟨gs.dropLast,gs.getLast (by intro h;subst h;simp at hm),(List.dropLast_concat_getLast _).symm⟩;simp at hm;subst hm;unfold Gi;rw[Le,List.set_append_right _ _ (by rw[Fx];omega),Fx];rw[show (ys++[q]).length-1=ys.length by simp];rw[Te,Le];congr 1;simp[gds,Gd.vals]
theorem Fz {gs:List Gd} {k:Nat} {q:Gd} (hm:gs.length=k+1) (hq:gs[k]?=some q):Cb gs=some q.tr:=by unfold Cb;rw[List.getLast?_eq_getElem?,hm];simp[hq]
structure Qd where
 op:Int
 a:Int
 b:Int
 c:Int
 d:Int
 e:Int
 f:Int
def Qd.val (q:Qd):Value:=.agg #[.int .i64 q.op,.int .i64 q.a,.int .i64 q.b,.int .i64 q.c,.int .i64 q.d,.int .i64 q.e,.int .i64 q.f]
def Qd.vals (q:Qd):List Value:=[.int .i64 q.op,.int .i64 q.a,.int .i64 q.b,.int .i64 q.c,.int .i64 q.d,.int .i64 q.e,.int .i64 q.f]
def Cn (a:Int):Nat->List Nd->Nat
 | _,[]=>0
 | k,n::r=>if n.op=42/\n.a=a+k then Cn a (k+1) r+1 else 0
def Oq (cs:List Vd) (i:Int):Int:=match cs[i.toNat]? with
 | some v=>v.kind
 | none=>0
def Nv (cs:List Vd) (c:Nat) (n x:Nd):Option Qd:=
 if n.op=18/\13<=n.b/\(x.op=20∨x.op=21)/\x.a = -1-n.a then some ⟨43,n.a,n.b,n.c,n.d,x.b,if x.op=20 then 1 else 0⟩
 else if n.op≠4 then none
 else if x.op=18/\x.c = -1-n.a/\x.d≠n.a/\x.d≠-1-n.a then some ⟨44,x.a,x.b,x.d,n.b,1,n.a⟩
 else if x.op=18/\x.d = -1-n.a/\x.c≠n.a/\x.c≠-1-n.a then some ⟨44,x.a,x.b,x.c,n.b,0,n.a⟩
 else if x.op=15/\x.c = -1-n.a/\x.b≠n.a/\x.b≠-1-n.a/\Oq cs n.b=4 then some ⟨45,x.a,x.b,n.b,c,0,n.a⟩
 else none
def twoL (cs:List Vd) (c:Nat):List Nd->Option Qd
 | n::x::_=>Nv cs c n x
 | _=>none
def Rl (n:Nd):Qd:=⟨n.op,n.a,n.b,n.c,n.d,0,0⟩
def Ck (cs:List Vd) (c:Nat) (l:List Nd):Qd:=
 match l with
 | []=>⟨0,0,0,0,0,0,0⟩
 | n::r=>if 1<Cn n.a 0 (n::r) then ⟨46,n.a,Cn n.a 0 (n::r),0,0,0,0⟩ else match twoL cs c (n::r) with
  | some q=>q
  | none=>Rl n
def Fv (cs:List Vd) (ins:List Nd) (c0:Nat):Nat->Nat
 | 0=>c0
 | k+1=>if (Ck cs (Fv cs ins c0 k) (ins.drop k)).op=45 then Fv cs ins c0 k+1 else Fv cs ins c0 k
def Qa (cs:List Vd) (ins:List Nd) (c0:Nat):List Qd:=(List.range ins.length).map fun k=>Ck cs (Fv cs ins c0 k) (ins.drop k)
def Dn (ps:List Pd):Nat->Nat
 | 0=>0
 | j+1=>match ps[j]? with
  | some p=>Fv p.consts p.ins (Dn ps j) p.ins.length
  | none=>Dn ps j
def Zu (ps:List Pd):List (List Qd):=(List.range ps.length).map fun j=>match ps[j]? with
 | some p=>Qa p.consts p.ins (Dn ps j)
 | none=>[]
theorem Rn (cs:List Vd) (ins:List Nd) (c0:Nat):(Qa cs ins c0).length=ins.length:=by simp[Qa]
theorem A8n {cs:List Vd} {ins:List Nd} {c0 k:Nat} (h:k<ins.length):(Qa cs ins c0)[k]?=some (Ck cs (Fv cs ins c0 k) (ins.drop k)):=by simp[Qa,h]
theorem Nq (ps:List Pd):(Zu ps).length=ps.length:=by simp[Zu]
theorem A8m {ps:List Pd} {j:Nat} {p:Pd} (h:ps[j]?=some p):(Zu ps)[j]?=some (Qa p.consts p.ins (Dn ps j)):=by have hj:=(yD.1 h).1;simp[Zu,hj,(List.getElem?_eq_some_iff.1 h).2]
theorem A3g {ps:List Pd} {j:Nat} {p:Pd} (h:ps[j]?=some p):Dn ps (j+1)=Fv p.consts p.ins (Dn ps j) p.ins.length:=by simp[Dn,h]
theorem V8 (cs:List Vd) (ins:List Nd) (c0:Nat):∀k,Fv cs ins c0 k<=c0+k
 | 0=>yB _
 | k+1=>by
  have:=V8 cs ins c0 k;unfold Fv;split<;>omega
theorem A7s {ps:List Pd} (h:∀p∈ps,p.ins.length<=1048576) (j:Nat):Dn ps j<=j*1048576:=by
 induction j with
 | zero=>exact yE _
 | succ j h1=>
  rw[Nat.add_mul,Nat.one_mul];rw[Dn];split
  ·rename_i p hp;have h2:=V8 p.consts p.ins (Dn ps j) p.ins.length;have h3:=h p (yH hp);exact yI h2 (Nat.add_le_add h1 h3)
  ·exact yI h1 (Nat.le_add_right _ _)
theorem Oh (a:Int):∀(k:Nat) (l:List Nd),Cn a k l<=l.length
 | _,[]=>yB _
 | k,n::r=>by
  have:=Oh a (k+1) r;unfold Cn;split<;>simp<;>omega
structure A53 (w:World) (g:Nat) (gs:Nat->Nat) (qss:List (List Qd)):Prop where
 own:Own w g 166 qss.length
 hdr:∀j qs,qss[j]?=some qs->w.cell? ⟨g,j,none⟩=some (.slice (some ⟨gs j,0,none⟩) qs.length qs.length)
 up:∀j,j<qss.length->g<gs j
 apart:∀j k,j<k->k<qss.length->gs j<gs k
 row:∀j qs,qss[j]?=some qs->Own w (gs j) 161 (qs.length*7)/\Lu w (gs j) 7 Qd.vals qs qs.length
theorem A53.l {w w':World} {g:Nat} {gs:Nat->Nat} {qss:List (List Qd)} (h:A53 w g gs qss) (hk:Ad g w w'):A53 w' g gs qss:=by
 refine⟨h.own.of_block (hk.block g (yB _) h.own.lt),fun j qs hj=>?_,h.up,h.apart,fun j qs hj=>?_⟩
 ·rw[hk.cell (yB _) h.own.lt];exact h.hdr j qs hj
 ·have hlt:=(yD.1 hj).1;obtain⟨h1,h2⟩:=h.row j qs hj;have hg:=Nat.le_of_lt (h.up j hlt);refine⟨h1.of_block (hk.block _ hg h1.lt),fun i y hi hy a v hv=>?_⟩;rw[hk.cell hg h1.lt];exact h2 i y hi hy a v hv
theorem Gz.other {g b:Nat} {w w':World} (h:Gz g w w') (hb:w.heap.size<=b) (i:Nat) (v:Value):Gz g w (w'.setCell ⟨b,i,none⟩ v):=by refine⟨h.os,h.tape,h.output,by simpa using h.size,fun k hk hl=>?_⟩;rw[yL _ _ _ _ (by show k≠b;omega),h.block k hk hl]
theorem Ar {N:Nat} {w w1:World} (h:Below N w w1) (hn:N<=w1.heap.size) (o:Obj):Below N w (w1.alloc o):=h.alloc hn o
theorem Ay.dropAt {α:Type} {lo:Nat} {w:World} {b off k:Nat} {at1:Nat->Nat->α->Prop} {xs:List α} (h:Ay lo w (some ⟨b,off,none⟩) k at1 xs) (i:Nat):Ay lo w (some ⟨b,off+i*k,none⟩) k at1 (xs.drop i):=by intro j x hx;rw[List.getElem?_drop]at hx;obtain⟨b',off',e,hl,hs,ha⟩:=h (i+j) x hx;simp only[Option.some.injEq,Addr.mk.injEq,and_true]at e;obtain⟨rfl,rfl⟩:=e;refine⟨b,off+i*k,rfl,hl,hs,?_⟩;rw[Nat.add_assoc,←Nat.add_mul];exact ha
def Pe (w:World) (b o f:Nat) (x y:Int):Prop:=∃g,w.cell? ⟨b,o,none⟩=some (.func (.func f) #[] #[])/\w.cell? ⟨b,o+1,none⟩=some (.slice (some ⟨g,0,none⟩) 2 2)/\g<w.heap.size/\w.cell? ⟨g,0,none⟩=some (.int .i64 x)/\w.cell? ⟨g,1,none⟩=some (.int .i64 y)
theorem Pe.l {w w':World} {b o f:Nat} {x y:Int} (h:Pe w b o f x y) (hb:b<w.heap.size) (hw:Below w.heap.size w w'):Pe w' b o f x y:=by obtain⟨g,h1,h2,h3,h4,h5⟩:=h;exact⟨g,(hw.cell (p:=⟨b,o,none⟩) hb).trans h1,(hw.cell (p:=⟨b,o+1,none⟩) hb).trans h2,yF h3 hw.size,(hw.cell (p:=⟨g,0,none⟩) h3).trans h4,(hw.cell (p:=⟨g,1,none⟩) h3).trans h5⟩
structure Nz (w:World) (g:Nat):Prop where
 lt:g<w.heap.size
 p0:Pe w g 0 196 42 42
 p1:Pe w g 2 197 18 20
 p2:Pe w g 4 197 18 21
 p3:Pe w g 6 198 4 18
 p4:Pe w g 8 199 4 15
theorem Nz.l {w w':World} {g:Nat} (h:Nz w g) (hw:Below w.heap.size w w'):Nz w' g:=
 ⟨yF h.lt hw.size,h.p0.l h.lt hw,h.p1.l h.lt hw,h.p2.l h.lt hw,h.p3.l h.lt hw,h.p4.l h.lt hw⟩
theorem Gn (f:Fn) (ao:Option Addr) (n c:Nat) (w:World) :
  Kw 195 #[.func f #[] #[],.slice ao n c] w (.agg #[.func f #[] #[],.slice ao n c]):=by
 (try unfold Kw);go_in;go_wp2_with fail;refine bodyPost_ret (v:=.agg #[.func f #[] #[],.slice ao n c]) (by simp[results,results195,go_sem]) rfl ⟨rfl,?_⟩;repeat (first|exact yA _ _|refine Below.alloc ?_ (by simp;try omega) _|refine yP ?_ (by simp;try omega) _)
theorem Wv (w:World):Calls prog 116 #[] w fun e w'=>∃g,e=.returned (.slice (some ⟨g,0,none⟩) 5 5)/\Nz w' g/\w.heap.size<=g/\Below w.heap.size w w':=by
 go_in;go_wp2_with fail;refine(Gn _ _ _ _ _).mono ?_;rintro e w1 ⟨rfl,hw1⟩;have X0:=(Blk.new w #[.int .i64 42,.int .i64 42] 3).l hw1;have B0:=(Ar (yA w.heap.size w) (yB _) (.cells #[.int .i64 42,.int .i64 42] 3)).trans (hw1.mono (by simp));clear hw1;go_wp2_with fail;refine(Gn _ _ _ _ _).mono ?_;rintro e w2 ⟨rfl,hw2⟩;have X1:=(Blk.new w1 #[.int .i64 18,.int .i64 20] 3).l hw2;have B1:=(Ar (yA w1.heap.size w1) (yB _) (.cells #[.int .i64 18,.int .i64 20] 3)).trans (hw2.mono (by simp));replace X0:=X0.l B1;clear hw2;go_wp2_with fail;refine(Gn _ _ _ _ _).mono ?_;rintro e w3 ⟨rfl,hw3⟩;have X2:=(Blk.new w2 #[.int .i64 18,.int .i64 21] 3).l hw3;have B2:=(Ar (yA w2.heap.size w2) (yB _) (.cells #[.int .i64 18,.int .i64 21] 3)).trans (hw3.mono (by simp));replace X0:=X0.l B2;replace X1:=X1.l B2;clear hw3;go_wp2_with fail;refine(Gn _ _ _ _ _).mono ?_;rintro e w4 ⟨rfl,hw4⟩;have X3:=(Blk.new w3 #[.int .i64 4,.int .i64 18] 3).l hw4;have B3:=(Ar (yA w3.heap.size w3) (yB _) (.cells #[.int .i64 4,.int .i64 18] 3)).trans (hw4.mono (by simp));replace X0:=X0.l B3;replace X1:=X1.l B3;replace X2:=X2.l B3;clear hw4;go_wp2_with fail;refine(Gn _ _ _ _ _).mono ?_;rintro e w5 ⟨rfl,hw5⟩;have X4:=(Blk.new w4 #[.int .i64 4,.int .i64 15] 3).l hw5;have B4:=(Ar (yA w4.heap.size w4) (yB _) (.cells #[.int .i64 4,.int .i64 15] 3)).trans (hw5.mono (by simp));replace X0:=X0.l B4;replace X1:=X1.l B4;replace X2:=X2.l B4;replace X3:=X3.l B4;clear hw5;go_wp2;go_ret;have hz1:=B1.size;have hz2:=B2.size;have hz3:=B3.size;have hz4:=B4.size;have hz0:=B0.size;have BB:=(((B0.trans (B1.mono hz0)).trans (B2.mono (by omega))).trans (B3.mono (by omega))).trans (B4.mono (by omega));have hbn:∀o,Below w5.heap.size w5 (w5.alloc o):=fun o=>Ar (yA _ _) (yB _) o;have G:=Blk.new w5 #[.func (.func 196) #[] #[],.slice (some ⟨w.heap.size,0,none⟩) 2 2,.func (.func 197) #[] #[],.slice (some ⟨w1.heap.size,0,none⟩) 2 2,.func (.func 197) #[] #[],.slice (some ⟨w2.heap.size,0,none⟩) 2 2,.func (.func 198) #[] #[],.slice (some ⟨w3.heap.size,0,none⟩) 2 2,.func (.func 199) #[] #[],.slice (some ⟨w4.heap.size,0,none⟩) 2 2] 280;have gc:=G.cell;refine⟨_,rfl,⟨G.lt,?_,?_,?_,?_,?_⟩,by omega,BB.trans ((hbn _).mono (by omega))⟩
 ·exact⟨w.heap.size,(gc 0).trans rfl,(gc 1).trans rfl,(X0.l (hbn _)).lt,((X0.l (hbn _)).cell 0).trans rfl,((X0.l (hbn _)).cell 1).trans rfl⟩
 ·exact⟨w1.heap.size,(gc 2).trans rfl,(gc 3).trans rfl,(X1.l (hbn _)).lt,((X1.l (hbn _)).cell 0).trans rfl,((X1.l (hbn _)).cell 1).trans rfl⟩
 ·exact⟨w2.heap.size,(gc 4).trans rfl,(gc 5).trans rfl,(X2.l (hbn _)).lt,((X2.l (hbn _)).cell 0).trans rfl,((X2.l (hbn _)).cell 1).trans rfl⟩
 ·exact⟨w3.heap.size,(gc 6).trans rfl,(gc 7).trans rfl,(X3.l (hbn _)).lt,((X3.l (hbn _)).cell 0).trans rfl,((X3.l (hbn _)).cell 1).trans rfl⟩
 ·exact⟨w4.heap.size,(gc 8).trans rfl,(gc 9).trans rfl,(X4.l (hbn _)).lt,((X4.l (hbn _)).cell 0).trans rfl,((X4.l (hbn _)).cell 1).trans rfl⟩
def stands (x y:Int):List Nd->Bool
 | n::m::_=>n.op==x&&m.op==y
 | _=>false
theorem Ao {w:World} {b o:Nat} {v:Value} (hb:b<w.heap.size) (h:w.cell? ⟨b,o,none⟩=some v) (o1 o2:Obj):((w.alloc o1).alloc o2).cell? ⟨b,o,none⟩=some v:=
 (Below.cell (p:=⟨b,o,none⟩) (((yA w.heap.size w).alloc (yB _) o1).alloc (by simp) o2) hb).trans h
theorem Xd (f:Fn) (g:Nat) (x y:Int) (io co:Option Addr) (ic m cc:Nat) (c:Int) (l:List Nd) (w:World) (hl:l.length<=1048576) (hg:g<w.heap.size) (hx:w.cell? ⟨g,0,none⟩=some (.int .i64 x)) (hy:w.cell? ⟨g,1,none⟩=some (.int .i64 y)) (hin:E5 0 w io l) :
  Kw 200 #[.agg #[.func f #[] #[],.slice (some ⟨g,0,none⟩) 2 2],.agg #[.slice io l.length ic,.slice co m cc,.int .i64 c]] w (.bool (stands x y l)):=by
 have hb2:∀o1 o2,Below w.heap.size w ((w.alloc o1).alloc o2):=fun o1 o2=>((yA _ _).alloc (yB _) o1).alloc (by simp) o2
 match l with
 | []=>
  clear hx hy hin hg;dsimp only[List.length_nil]at *;(try unfold Kw);go_in;go_wp2;go_ret;exact⟨rfl,hb2 _ _⟩
 | [n]=>
  clear hx hy hin hg;dsimp only[List.length_nil,List.length_cons]at *;(try unfold Kw);go_in;go_wp2;go_ret;exact⟨rfl,hb2 _ _⟩
 | n::k::r=>
  obtain⟨b,off,rfl,_,hbl,q0,_⟩:=hin 0 n rfl;obtain⟨b',off',e',_,hbl',r0,_⟩:=hin 1 k rfl;simp only[Option.some.injEq,Addr.mk.injEq,and_true]at e';obtain⟨rfl,rfl⟩:=e';simp only[Nat.zero_mul,Nat.add_zero,Nat.one_mul]at q0 r0;replace q0:=Ao hbl q0;replace r0:=Ao hbl r0;replace hx:=Ao hg hx;replace hy:=Ao hg hy;have hz3:2<=(n::k::r).length:=by simp
  generalize (n::k::r).length=z at *;have hz2:¬(z:Int)<2:=by omega
  have k0:(0:Int)<z:=by omega
  have k1:(1:Int)<z:=by omega
  have HS:Hid (stands x y (n::k::r)=(n.op==x&&k.op==y)):=rfl;generalize stands x y (n::k::r)=R at *;obtain⟨n0,n1,n2,n3,n4⟩:=n;obtain⟨m0,m1,m2,m3,m4⟩:=k;dsimp only at *;clear hin hl;by_cases h0:n0=x
  ·have g0:(n0 !=x)=false:=by simpa using h0
   have HS0:Hid (n0==x):=by simpa[Hid]using h0
   clear h0;by_cases h1:m0=y
   ·have g1:(m0 !=y)=false:=by simpa using h1
    have HS1:Hid (m0==y):=by simpa[Hid]using h1
    clear h1;(try unfold Kw);go_in;go_wp2_with fail;refine wp_loop_rounds 3 ?_;rw[rounds_succ];go_wp2_with fail;rw[rounds_succ];go_wp2_with fail;rw[rounds_succ];go_wp2;go_ret;exact⟨Ac (by rw[HS.out,HS0.out,HS1.out];rfl),hb2 _ _⟩
   ·have g1:(m0 !=y)=true:=by simpa using h1
    have HS1:Hid ((m0==y)=false):=by simpa[Hid]using h1
    clear h1;(try unfold Kw);go_in;go_wp2_with fail;refine wp_loop_rounds 2 ?_;rw[rounds_succ];go_wp2_with fail;rw[rounds_succ];go_wp2;go_ret;exact⟨Ac (by rw[HS.out,HS1.out];simp),hb2 _ _⟩
  ·have g0:(n0 !=x)=true:=by simpa using h0
   have HS0:Hid ((n0==x)=false):=by simpa[Hid]using h0
   clear h0;(try unfold Kw);go_in;go_wp2_with fail;refine wp_loop_rounds 1 ?_;rw[rounds_succ];go_wp2;go_ret;exact⟨Ac (by rw[HS.out,HS0.out];simp),hb2 _ _⟩
theorem A3o {a:Int} {l:List Nd} {k:Nat} {n:Nd} (h:l[k]?=some n):Cn a k (l.drop k)=if n.op=42/\n.a=a+k then Cn a (k+1) (l.drop (k+1))+1 else 0:=by rw[Bg h];rfl
theorem Sy (io co:Option Addr) (ic m cc:Nat) (c:Int) (l:List Nd) (n0:Nd) (w:World) (hl:l.length<=1048576) (hin:E5 0 w io l) (h0:l[0]?=some n0) (hop:n0.op=42) (hd:∀n∈l,n.op=42->(0<=n.a/\n.a<=250)/\n.b=0/\n.c=0/\n.d=0) :
  Kw 196 #[.agg #[.slice io l.length ic,.slice co m cc,.int .i64 c]] w (.tuple #[Qd.val ⟨46,n0.a,Cn n0.a 0 l,0,0,0,0⟩,.bool (decide (1<Cn n0.a 0 l))]):=by
 have HS:Hid (∀(k:Nat) n,l[k]?=some n->Cn n0.a k (l.drop k)=if n.op=42/\n.a=n0.a+k then Cn n0.a (k+1) (l.drop (k+1))+1 else 0):=fun k n hn=>A3o hn;obtain⟨D,hD⟩:∃D,D=Cn n0.a 0 l:=⟨_,rfl⟩;have hD1:Cn n0.a 1 (l.drop 1)+1=D:=by have:=HS.out 0 n0 h0;rw[if_pos ⟨hop,by simp⟩]at this;rw[hD];exact this.symm
 have HDL:Hid (D<=l.length):=by rw[hD];exact Oh _ _ _
 have HD:Hid (D=Cn n0.a 0 l):=hD;rw[←hD];clear hD;have hlt:=(yD.1 h0).1;obtain⟨⟨ha1,ha2⟩,_⟩:=hd n0 (yH h0) hop;have HDR:Hid (∀n∈l,n.op=42->(0<=n.a/\n.a<=250)/\n.b=0/\n.c=0/\n.d=0):=hd;obtain⟨b,off,rfl,_,hbl,q0,q1,q2,q3,q4⟩:=hin 0 n0 h0;simp only[Nat.zero_mul,Nat.add_zero]at q0 q1 q2 q3 q4;replace q1:=Ao hbl q1;have hb2:∀o1 o2,Below w.heap.size w ((w.alloc o1).alloc o2):=fun o1 o2=>((yA _ _).alloc (yB _) o1).alloc (by simp) o2;have X0:=(Blk.new w #[.slice (some ⟨b,off,none⟩) l.length ic,.slice co m cc,.int .i64 c] 164).alloc (.cells #[.int .i64 0,.int .i64 0,.int .i64 0,.int .i64 0,.int .i64 0,.int .i64 0,.int .i64 0] 161);have Y0:=Blk.new (w.alloc (.cells #[.slice (some ⟨b,off,none⟩) l.length ic,.slice co m cc,.int .i64 c] 164)) #[.int .i64 0,.int .i64 0,.int .i64 0,.int .i64 0,.int .i64 0,.int .i64 0,.int .i64 0] 161;rw[nblk_alloc]at Y0;obtain⟨z0,A,z2,z3,z4⟩:=n0;dsimp only at *;clear hd hop q0 q2 q3 q4 h0;have k0:(0:Int)<l.length:=by omega
 (try unfold Kw);go_in;go_wp2;go_loopw [5] (fun y wr=>∃k:Nat,1<=k/\k<=l.length/\y=.int .i64 k/\Hid (Cn A k (l.drop k)+k=D)/\Below w.heap.size w wr/\Blk wr w.heap.size #[.slice (some ⟨b,off,none⟩) l.length ic,.slice co m cc,.int .i64 c] 164/\Blk wr (w.heap.size+1) #[.int .i64 0,.int .i64 0,.int .i64 0,.int .i64 0,.int .i64 0,.int .i64 0,.int .i64 0] 161) (fun y _=>l.length-(intOf y).toNat);case atStart=>exact⟨1,by omega,by omega,rfl,hD1,hb2 _ _,X0,Y0⟩
 case round=>
  obtain⟨k,hk1,hk,rfl,HQ,hb,X1,Y1⟩:=hrel;clear X0 Y0 q1 hD1;have x1:=X1.cell;by_cases hlt2:k<l.length
  ·obtain⟨n,hn⟩:=Ah hlt2;obtain⟨b',off',e',_,hbl',r0,r1,r2,r3,r4⟩:=hin.l (Ad.o hb) k n hn;simp only[Option.some.injEq,Addr.mk.injEq,and_true]at e';obtain⟨rfl,rfl⟩:=e';have HE:=HS.out k n hn;have HN:=HDR.out n (yH hn);have g0:(k:Int)<l.length:=by omega
   obtain⟨n0',n1,n2,n3,n4⟩:=n;dsimp only at *;by_cases hc:n0'=42/\n1=A+k
   ·have HQ1:Hid (Cn A (k+1) (l.drop (k+1))+(k+1)=D):=by have h1:=HQ.out;rw[HE,if_pos hc]at h1;show _=_;omega
    obtain⟨rfl,rfl⟩:=hc;obtain⟨_,rfl,rfl,rfl⟩:=HN rfl;clear HQ HE HS HN HDR hn;go_wp2;go_roundw;case rel=>exact⟨k+1,by omega,by omega,by go_num,HQ1.out,hb,X1,Y1⟩
    case measure=>simp[intOf];omega
   ·have HQ1:Hid (k=D):=by have h1:=HQ.out;rw[HE,if_neg hc]at h1;show _=_;omega
    have y1:=Y1.cell;have yf:=Y1.frozen;by_cases h42:n0'=42
    ·obtain⟨_,rfl,rfl,rfl⟩:=HN h42;have ga:(n1==A+(k:Int))=false:=by have:¬n1=A+(k:Int):=fun h=>hc ⟨h42,h⟩;simpa using this
     subst h42;clear HQ HE HS HN HDR hn hc;go_wp2_with fail;refine bodyPost_ret (v:=.tuple #[.agg #[.int .i64 46,.int .i64 A,.int .i64 k,.int .i64 0,.int .i64 0,.int .i64 0,.int .i64 0],.bool (decide (1<(k:Int)))]) ?_ rfl ⟨?_,?_⟩
     ·simp[results,results196,go_sem,y1]
     ·obtain rfl:=HQ1.out;have:decide (1<(k:Int))=decide (1<k):=by rw[decide_eq_decide];omega
      rw[this];rfl
     ·iterate 7 (refine yP ?_ (by simp;try omega) _)
      exact hb
    ·have go:(n0'==42)=false:=by simpa using h42
     clear HQ HE HS HN HDR hn hc h42;go_wp2_with fail;refine bodyPost_ret (v:=.tuple #[.agg #[.int .i64 46,.int .i64 A,.int .i64 k,.int .i64 0,.int .i64 0,.int .i64 0,.int .i64 0],.bool (decide (1<(k:Int)))]) ?_ rfl ⟨?_,?_⟩
     ·simp[results,results196,go_sem,y1]
     ·obtain rfl:=HQ1.out;have:decide (1<(k:Int))=decide (1<k):=by rw[decide_eq_decide];omega
      rw[this];rfl
     ·iterate 7 (refine yP ?_ (by simp;try omega) _)
      exact hb
  ·have k0:¬(k:Int)<l.length:=by omega
   have HQ1:Hid (k=D):=by have h1:=HQ.out;rw[yQ (by omega)]at h1;simp only[Cn]at h1;show _=_;omega
   have y1:=Y1.cell;have yf:=Y1.frozen;clear HQ HS HDR hlt2;go_wp2_with fail;refine bodyPost_ret (v:=.tuple #[.agg #[.int .i64 46,.int .i64 A,.int .i64 k,.int .i64 0,.int .i64 0,.int .i64 0,.int .i64 0],.bool (decide (1<(k:Int)))]) ?_ rfl ⟨?_,?_⟩
   ·simp[results,results196,go_sem,y1]
   ·obtain rfl:=HQ1.out;have:decide (1<(k:Int))=decide (1<k):=by rw[decide_eq_decide];omega
    rw[this];rfl
   ·iterate 7 (refine yP ?_ (by simp;try omega) _)
    exact hb
theorem K7 (x r:Int) (hx1 : -9223372036854775808<=x) (hx2:x<=9223372036854775807) (w:World) :
  Kw 265 #[.int .i64 x,.int .i64 r] w (.bool (Be x==r)):=by
 (try unfold Kw);go_in;go_wp2_with fail;refine(Gx x 0 hx1 hx2 _).mono ?_;rintro e w1 ⟨rfl,hw1⟩;go_wp2;go_ret;exact⟨rfl,hw1⟩
theorem Ih (x r:Int) (hx1 : -9223372036854775808<=x) (hx2:x<=9223372036854775807) (w:World) :
  Kw 264 #[.int .i64 x,.int .i64 r] w (.bool (decide (x<0)&&(Be x==r))):=by
 (try unfold Kw);go_in;go_wp2_with fail;refine(Ig x 0 _).mono ?_;rintro e w1 ⟨rfl,hw1⟩;by_cases h:x<0
 ·go_wp2_with fail;refine(K7 x r hx1 hx2 _).mono ?_;rintro e w2 ⟨rfl,hw2⟩;go_wp2;go_ret;exact⟨Ac (by simp[h]),hw1.trans (hw2.mono hw1.size)⟩
 ·go_wp2;go_ret;exact⟨Ac (by rw[decide_eq_false (by omega)];rfl),hw1⟩
end Go.Proofs.YtbefeflgjipfhaaGreatDoor
