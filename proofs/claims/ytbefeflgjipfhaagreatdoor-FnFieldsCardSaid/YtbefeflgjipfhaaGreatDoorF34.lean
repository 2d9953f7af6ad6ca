import Derived.Lib.SliceRun
import Derived.Lib.Walk
import Derived.ArgAppend
import Derived.Test.YtbefeflgjipfhaaGreatDoorF31
set_option maxRecDepth 1000000
set_option maxHeartbeats 8000000
namespace Go.Proofs.YtbefeflgjipfhaaGreatDoor
open Go.Deep Go.Proofs.Tryz Go.RowKit
variable{arr:Array Value}{c:Cf}{S d:List Bool}{gs:List Gd}{taken ts xs:List Int}{ext pre:List Nat}{ins:List Nd}{ps:List Pd}{B L N a base cap ccap db e g gc i j k lo lo' n np r sb tc vb x y:Nat}{ao cao go to:Option Addr}{p:Pd}{h:Ph}{s':Rd}{s:St}{t:TypeId}{v:Value}{b w':World}
structure Bf (ins:List Nd) (i:Nat) (L:List Nat) (k:Nat) (S:List Bool):Prop where
 len:S.length=ins.length
 lt:∀x∈L,x<ins.length
 src:∀x∈L,∃c,Sil ins i c/\Pth (Sil ins) c x
 first:∀y,Sil ins i y->y∈L
 past:∀j x,j<k->L[j]?=some x->x≠i
 past2:∀j x,j<k->L[j]?=some x->S.getD x false=true
 clo:∀x,S.getD x false=true->∀y,Sil ins x y->y∈L
theorem Bf.seen {L:List Nat} (h:Bf ins i L k S) (hx:L[k]?=some x) (hn:x≠i) (hs:S.getD x false=true):Bf ins i L (k+1) S:=by
 refine⟨h.len,h.lt,h.src,h.first,?_,?_,h.clo⟩
 ·intro j y hj hy;by_cases hjk:j=k
  ·subst hjk;rw[hx]at hy;obtain rfl:=yO hy;exact hn
  ·exact h.past j y (by omega) hy
 ·intro j y hj hy;by_cases hjk:j=k
  ·subst hjk;rw[hx]at hy;obtain rfl:=yO hy;exact hs
  ·exact h.past2 j y (by omega) hy
theorem Aad (hp:Uu np p) {n:Nd} (hn:p.ins[x]?=some n) (hy:y∈Tp n x):y<p.ins.length:=by
 obtain⟨z,hz,rfl⟩:=A2z ⟨[],[]⟩ [] [] hy;obtain⟨f1,_,f3,f4,f5,_⟩:=Ht (hp.fit x n hn);unfold En at hz;rcases yZ.1 hz with hz|hz
 ·split at hz
  ·rename_i h;simp at hz;subst hz;exact hp.next x n hn h
  ·simp at hz
 ·unfold goF at hz;split at hz
  ·rename_i ho;simp at hz;subst hz;have:=f3 ho;dsimp only;omega
  split at hz
  ·rename_i ho;simp at hz;subst hz;have:=f4 (by omega);dsimp only;omega
  split at hz
  ·rename_i ho;simp at hz;subst hz;have:=f4 (by omega);dsimp only;omega
  split at hz
  ·rename_i ho;simp at hz;subst hz;have:=f1 ho;dsimp only;omega
  ·simp at hz
theorem Wd (h:∀j,j<d.length->d.getD j false=false):Cg d=none:=by unfold Cg;rw[List.findIdx?_eq_none_iff];intro b hb;obtain⟨j,hj⟩:=List.getElem?_of_mem hb;have hl:=(yD.1 hj).1;have:=h j hl;rw[yR,hj]at this;simpa using this
theorem Yv (h:∀j,j<a->d.getD j false=false) (ha:d.getD a false=true):Cg d=some a:=by
 have hl:a<d.length:=by refine Classical.byContradiction fun hn=>?_;rw[yR,List.getElem?_eq_none (by omega)]at ha;cases ha
 unfold Cg;rw[List.findIdx?_eq_some_iff_getElem];refine⟨hl,by simpa[List.getD_eq_getElem?_getD,hl]using ha,?_⟩;intro j hj;have:=h j hj;simpa[List.getD_eq_getElem?_getD,show j<d.length by omega]using this
theorem A7h (hg:0<g) (h:Cg c.due=none):Ej ps p g c=.ok c:=by obtain⟨f,rfl⟩:∃f,g=f+1:=⟨g-1,by omega⟩;unfold Ej;rw[h]
theorem A7g {e:Nat×Nat} (hg:0<g) (h:Cg c.due=some a) (hr:J4 ps p c a=.error e):Ej ps p g c=.error e:=by obtain⟨f,rfl⟩:∃f,g=f+1:=⟨g-1,by omega⟩;unfold Ej;rw[h];dsimp only;rw[hr]
theorem A98{c':Cf} (hg:0<g) (h:Cg c.due=some a) (hr:J4 ps p c a=.ok c'):Ej ps p g c=Ej ps p (g-1) c':=by
 obtain⟨f,rfl⟩:∃f,g=f+1:=⟨g-1,by omega⟩;rw[Nat.add_sub_cancel]
 conv=>lhs;unfold Ej
 rw[h];dsimp only;rw[hr]
def Fu:List Nat->Code->Code
 | [],c=>c
 | 0::p,.seq a _=>Fu p a
 | 1::p,.seq _ b=>Fu p b
 | 0::p,.cond _ a _=>Fu p a
 | 1::p,.cond _ _ b=>Fu p b
 | 0::p,.loop c=>Fu p c
 | 0::p,.block _ c=>Fu p c
 | _,_=>.skip
def Qe (w:World) (ps:List Pd) (p:Pd) (pi:Nat) (e:Ending) (w':World):Prop:=(∃v,e=.returned (.tuple #[v,Oi (J7 ps p pi)]))/\Below w.heap.size w w'
theorem Jj {r:List (Nat×St)} : Au c ((x,s)::r)=match Bv c x s with|none=>.error (13,x)|some c'=>Au c' r:=rfl
theorem A4e (h:c.st x=none):Bv c x s=some ⟨c.sts.set x (some s),c.due.set x true⟩:=by unfold Bv;rw[h]
theorem A4f{t:St} (h:c.st x=some t):Bv c x s=if t=s then some c else none:=by unfold Bv;rw[h]
theorem A8t{t:St} : (decide (t.types=s.types)&&decide (t.guards=s.guards))=decide (t=s):=by obtain⟨a,b⟩:=t;obtain⟨a2,b2⟩:=s;rw[Bool.eq_iff_iff];simp
@[go_sem] theorem A0g (v:Value) (w:World):(Instr.typeAssert (.iface 286 v) 401 286 true).run prog w=.ok (.tuple #[v,.bool true]) w:=by kernel_rfl
@[go_sem] theorem A27 (v:Value) (w:World):(Instr.typeAssert (.iface 489 v) 401 286 true).run prog w=.ok (.tuple #[.agg #[.int .i64 0,.int .i64 0],.bool false]) w:=by kernel_rfl
@[go_sem] theorem A0f (v:Value) (w:World):(Instr.typeAssert (.iface 465 v) 401 286 true).run prog w=.ok (.tuple #[.agg #[.int .i64 0,.int .i64 0],.bool false]) w:=by kernel_rfl
@[go_sem] theorem A28 (v:Value) (w:World):(Instr.typeAssert (.iface 463 v) 401 286 true).run prog w=.ok (.tuple #[.agg #[.int .i64 0,.int .i64 0],.bool false]) w:=by kernel_rfl
@[go_sem] theorem A29 (v:Value) (w:World):(Instr.typeAssert (.iface 491 v) 401 286 true).run prog w=.ok (.tuple #[.agg #[.int .i64 0,.int .i64 0],.bool false]) w:=by kernel_rfl
@[go_sem] theorem A24 (v:Value) (w:World):(Instr.typeAssert (.iface 493 v) 401 286 true).run prog w=.ok (.tuple #[.agg #[.int .i64 0,.int .i64 0],.bool false]) w:=by kernel_rfl
@[go_sem] theorem A26 (v:Value) (w:World):(Instr.typeAssert (.iface 286 v) 401 489 true).run prog w=.ok (.tuple #[.agg #[.int .i64 0,.int .i64 0,.int .i64 0],.bool false]) w:=by kernel_rfl
@[go_sem] theorem A3a (v:Value) (w:World):(Instr.typeAssert (.iface 489 v) 401 489 true).run prog w=.ok (.tuple #[v,.bool true]) w:=by kernel_rfl
@[go_sem] theorem A25 (v:Value) (w:World):(Instr.typeAssert (.iface 465 v) 401 489 true).run prog w=.ok (.tuple #[.agg #[.int .i64 0,.int .i64 0,.int .i64 0],.bool false]) w:=by kernel_rfl
@[go_sem] theorem A3b (v:Value) (w:World):(Instr.typeAssert (.iface 463 v) 401 489 true).run prog w=.ok (.tuple #[.agg #[.int .i64 0,.int .i64 0,.int .i64 0],.bool false]) w:=by kernel_rfl
@[go_sem] theorem A3c (v:Value) (w:World):(Instr.typeAssert (.iface 491 v) 401 489 true).run prog w=.ok (.tuple #[.agg #[.int .i64 0,.int .i64 0,.int .i64 0],.bool false]) w:=by kernel_rfl
@[go_sem] theorem A39 (v:Value) (w:World):(Instr.typeAssert (.iface 493 v) 401 489 true).run prog w=.ok (.tuple #[.agg #[.int .i64 0,.int .i64 0,.int .i64 0],.bool false]) w:=by kernel_rfl
@[go_sem] theorem L9 (v:Value) (w:World):(Instr.typeAssert (.iface 286 v) 401 465 true).run prog w=.ok (.tuple #[.agg #[.int .i64 0],.bool false]) w:=by kernel_rfl
@[go_sem] theorem Mh (v:Value) (w:World):(Instr.typeAssert (.iface 489 v) 401 465 true).run prog w=.ok (.tuple #[.agg #[.int .i64 0],.bool false]) w:=by kernel_rfl
@[go_sem] theorem L8 (v:Value) (w:World):(Instr.typeAssert (.iface 465 v) 401 465 true).run prog w=.ok (.tuple #[v,.bool true]) w:=by kernel_rfl
@[go_sem] theorem Mi (v:Value) (w:World):(Instr.typeAssert (.iface 463 v) 401 465 true).run prog w=.ok (.tuple #[.agg #[.int .i64 0],.bool false]) w:=by kernel_rfl
@[go_sem] theorem Mj (v:Value) (w:World):(Instr.typeAssert (.iface 491 v) 401 465 true).run prog w=.ok (.tuple #[.agg #[.int .i64 0],.bool false]) w:=by kernel_rfl
@[go_sem] theorem Me (v:Value) (w:World):(Instr.typeAssert (.iface 493 v) 401 465 true).run prog w=.ok (.tuple #[.agg #[.int .i64 0],.bool false]) w:=by kernel_rfl
@[go_sem] theorem Mg (v:Value) (w:World):(Instr.typeAssert (.iface 286 v) 401 463 true).run prog w=.ok (.tuple #[.agg #[.int .i64 0,.int .i64 0],.bool false]) w:=by kernel_rfl
@[go_sem] theorem Oa (v:Value) (w:World):(Instr.typeAssert (.iface 489 v) 401 463 true).run prog w=.ok (.tuple #[.agg #[.int .i64 0,.int .i64 0],.bool false]) w:=by kernel_rfl
@[go_sem] theorem Mf (v:Value) (w:World):(Instr.typeAssert (.iface 465 v) 401 463 true).run prog w=.ok (.tuple #[.agg #[.int .i64 0,.int .i64 0],.bool false]) w:=by kernel_rfl
@[go_sem] theorem Ob (v:Value) (w:World):(Instr.typeAssert (.iface 463 v) 401 463 true).run prog w=.ok (.tuple #[v,.bool true]) w:=by kernel_rfl
@[go_sem] theorem Oc (v:Value) (w:World):(Instr.typeAssert (.iface 491 v) 401 463 true).run prog w=.ok (.tuple #[.agg #[.int .i64 0,.int .i64 0],.bool false]) w:=by kernel_rfl
@[go_sem] theorem O9 (v:Value) (w:World):(Instr.typeAssert (.iface 493 v) 401 463 true).run prog w=.ok (.tuple #[.agg #[.int .i64 0,.int .i64 0],.bool false]) w:=by kernel_rfl
@[go_sem] theorem A2a (v:Value) (w:World):(Instr.typeAssert (.iface 487 v) 401 286 true).run prog w=.ok (.tuple #[.agg #[.int .i64 0,.int .i64 0],.bool false]) w:=by kernel_rfl
@[go_sem] theorem A3d (v:Value) (w:World):(Instr.typeAssert (.iface 487 v) 401 489 true).run prog w=.ok (.tuple #[.agg #[.int .i64 0,.int .i64 0,.int .i64 0],.bool false]) w:=by kernel_rfl
@[go_sem] theorem Mk (v:Value) (w:World):(Instr.typeAssert (.iface 487 v) 401 465 true).run prog w=.ok (.tuple #[.agg #[.int .i64 0],.bool false]) w:=by kernel_rfl
@[go_sem] theorem Od (v:Value) (w:World):(Instr.typeAssert (.iface 487 v) 401 463 true).run prog w=.ok (.tuple #[.agg #[.int .i64 0,.int .i64 0],.bool false]) w:=by kernel_rfl
def rdI (r:Nat) (x:Int) (s:Rd):Option Rd:=
 match r with
 | 12=>Fj 1 x s
 | 13=>Fj 3 x s
 | 14=>Dq 1 x s
 | 15=>Dq 2 x s
 | 16=>Dq 3 x s
 | 17=>if D7 s.types x=1/\D7 s.types (x+1)=1 then some ⟨s.types,s.stay++[x,x+1],s.taken⟩ else none
 | 18=>if D7 s.types x=1/\D7 s.types (x+1)=1/\D7 s.types (x+2)=1 then some ⟨s.types,s.stay++[x,x+1,x+2],s.taken⟩ else none
 | 23=>if D7 s.types x=1/\D7 s.types (x+1)=0 then some ⟨s.types,s.stay,s.taken++[x]⟩ else none
 | _=>some s
def Fp:List Nat->List Int->Rd->Option Rd
 | r::rs,x::xs,s=>(rdI r x s).bind (Fp rs xs)
 | _,_,s=>some s
def Rd.two (s:Rd):List Int×List Int:=(s.types,s.taken)
theorem Aaa (hr:r<=23) (h:r≠17/\r≠18/\r≠23) (x:Int) (s:Rd):rdI r x s=rdS (Bp r) x s:=by rcases (by omega:r=0∨r=1∨r=2∨r=3∨r=4∨r=5∨r=6∨r=7∨r=8∨r=9∨r=10∨r=11∨r=12∨r=13∨r=14∨r=15∨r=16∨r=17∨r=18∨r=19∨r=20∨r=21∨r=22∨r=23) with rfl|rfl|rfl|rfl|rfl|rfl|rfl|rfl|rfl|rfl|rfl|rfl|rfl|rfl|rfl|rfl|rfl|rfl|rfl|rfl|rfl|rfl|rfl|rfl<;>first|rfl|(exfalso;omega)
theorem A2s:∀(rs:List Nat) (xs:List Int) (s:Rd),(∀r∈rs,r<=23/\r≠17/\r≠18/\r≠23)->Fp rs xs s=Kg (rs.map Bp) xs s
 | [],_,_,_=>rfl
 | _::_,[],_,_=>rfl
 | r::rs,x::xs,s,h=>by
  have h1:=h r (by simp);simp only[Fp,Kg,List.map_cons];rw[Aaa h1.1 h1.2];congr 1;funext s';exact A2s rs xs s' fun r hr=>h r (by simp[hr])
theorem A6n (op:Nat) (h1:1<=op) (h2:op<=42) (a b c d:Int) (ts:List Int):(Fp (Bi op) [a,b,c,d] ⟨ts,[],[]⟩).map Rd.two=(Kg (Bt op) [a,b,c,d] ⟨ts,[],[]⟩).map Rd.two:=by
 by_cases hs:op=37∨op=38∨op=39∨op=40∨op=41
 ·rcases hs with rfl|rfl|rfl|rfl|rfl;all_goals
   simp[Bi,Et,Bt,Dr,Fp,Kg,rdI,rdS];split<;>simp[Rd.two]
 ·rw[←Iq op h1 h2,A2s];have h:∀k,k<43->(k<37∨k=42)->∀r∈Bi k,r<=23/\r≠17/\r≠18/\r≠23:=by decide
  exact h op (by omega) (by omega)
def wrI (r:Nat) (x:Int) (ts:List Int):List Int:=
 match r with
 | 19=>ts.set x.toNat 0
 | 20=>ts.set x.toNat 1
 | 21=>ts.set x.toNat 2
 | 22=>ts.set x.toNat 3
 | 23=>(ts.set x.toNat 1).set (x.toNat+1) 1
 | _=>ts
def Ez:List Nat->List Int->List Int->List Int
 | r::rs,x::xs,ts=>Ez rs xs (wrI r x ts)
 | _,_,ts=>ts
theorem A6w (h:ts.getD i 0=1):ts.set i 1=ts:=by
 by_cases hi:i<ts.length
 ·apply List.ext_getElem?;intro j;rw[List.getElem?_set];by_cases hj:i=j
  ·subst hj;simp[List.getD_eq_getElem?_getD,hi]at h;simp[hi,h]
  ·simp[hj]
 ·exact List.set_eq_of_length_le (by omega)
theorem A7i (n:Nd) (op:Nat) (ho:n.op=op) (h1:1<=op) (h2:op<=42) (ts:List Int) (h40:op=40->D7 ts n.a=1):Ez (Bi op) n.fs ts=J8 n ts:=by
 obtain⟨o,a,b,c,d⟩:=n;dsimp only at *;subst ho;by_cases h:op=40
 ·subst h;have:=A6w (h40 rfl);simp[Bi,Et,Nd.fs,Ez,wrI,J8,this]
 ·clear h40;rcases A2m op h1 h2 with rfl|rfl|rfl|rfl|rfl|rfl|rfl|rfl|rfl|rfl|rfl|rfl|rfl|rfl|rfl|rfl|rfl|rfl|rfl|rfl|rfl|rfl|rfl|rfl|rfl|rfl|rfl|rfl|rfl|rfl|rfl|rfl|rfl|rfl|rfl|rfl|rfl|rfl|rfl|rfl|rfl|rfl;all_goals first|rfl|(exfalso;omega)
theorem Zz {a b c d:Int}{t1 tk:List Int} (h:(Kg (Bt 40) [a,b,c,d] ⟨ts,[],[]⟩).map Rd.two=some (t1,tk)):D7 t1 a=1:=by
 by_cases hc:D7 ts a=1/\D7 ts (a+1)=0
 ·simp[Bt,Dr,Kg,rdS,hc,Rd.two]at h;rw[←h.1];exact hc.1
 ·simp[Bt,Dr,Kg,rdS,hc]at h
def Ap (gs:List Gd):Int:=gs.foldl (fun k g=>if g.tr then max k g.keep else k) 0
theorem Nk (gs:List Gd) (k0 k:Int):gs.foldl (fun k g=>if g.tr then max k g.keep else k) k0<=k ↔ k0<=k/\∀g∈gs,g.tr=true->g.keep<=k:=by
 induction gs generalizing k0 with
 | nil=>simp
 | cons g r ih=>
  simp only[List.foldl_cons,ih,List.mem_cons,forall_eq_or_imp];split
  ·rename_i h;rw[Int.max_le];constructor
   ·rintro⟨h1,h2⟩;exact⟨h1.1,fun _=>h1.2,h2⟩
   ·rintro⟨h1,h2,h3⟩;exact⟨⟨h1,h2 h⟩,h3⟩
  ·rename_i h;constructor
   ·rintro⟨h1,h2⟩;exact⟨h1,fun h'=>absurd h' h,h2⟩
   ·rintro⟨h1,h2,h3⟩;exact⟨h1,h3⟩
theorem Li {k:Int} (hk:0<=k):decide (Ap gs<=k)=Qf gs k:=by
 rw[Bool.eq_iff_iff];unfold Ap Qf;rw[decide_eq_true_iff,Nk];simp only[List.all_eq_true,Bool.not_eq_true',Bool.and_eq_false_iff,decide_eq_false_iff_not];constructor
 ·rintro⟨_,h⟩ g hg;cases ht:g.tr
  ·exact .inl rfl
  ·exact .inr (by have:=h g hg ht;omega)
 ·intro h;refine⟨hk,fun g hg ht=>?_⟩;rcases h g hg with h1|h1
  ·rw[ht]at h1;cases h1
  ·omega
theorem Lh (gs:List Gd):0<=Ap gs/\(Ap gs=0∨∃g∈gs,g.tr=true/\g.keep=Ap gs):=by
 unfold Ap;have:∀(gs:List Gd) (k0:Int),k0<=gs.foldl (fun k g=>if g.tr then max k g.keep else k) k0/\(gs.foldl (fun k g=>if g.tr then max k g.keep else k) k0=k0∨∃g∈gs,g.tr=true/\g.keep=gs.foldl (fun k g=>if g.tr then max k g.keep else k) k0):=by
  intro gs
  induction gs with
  | nil=>intro k0;simp
  | cons g r ih=>
   intro k0;simp only[List.foldl_cons];obtain⟨h1,h2⟩:=ih (if g.tr then max k0 g.keep else k0);generalize hF:List.foldl (fun k g=>if g.tr then max k g.keep else k) (if g.tr then max k0 g.keep else k0) r=F at *;by_cases ht:g.tr=true
   ·rw[if_pos ht]at h1 h2;have m1:=Int.le_max_left k0 g.keep;have m2:=Int.le_max_right k0 g.keep;refine⟨by omega,?_⟩;rcases h2 with h2|⟨q,hq,h3,h4⟩
    ·by_cases hk:k0<=g.keep
     ·exact .inr ⟨g,by simp,ht,by rw[h2,Int.max_eq_right hk]⟩
     ·exact .inl (by rw[h2,Int.max_eq_left (by omega)])
    ·exact .inr ⟨q,by simp[hq],h3,h4⟩
   ·rw[if_neg ht]at h1 h2;refine⟨h1,?_⟩;rcases h2 with h2|⟨q,hq,h3,h4⟩
    ·exact .inl h2
    ·exact .inr ⟨q,by simp[hq],h3,h4⟩
 exact this gs 0
def Dl (k:Int) (taken b a:List Int):Bool:=Dv k taken&&Ey k b a
theorem A94 {a b:List Int}{m:Nat} (h:m<=n) (e:a.take n=b.take n):a.take m=b.take m:=by rw[show a.take m=(a.take n).take m by rw[List.take_take,Nat.min_eq_left h],e,List.take_take,Nat.min_eq_left h]
theorem A4p {k k':Int}{b a:List Int} (hk:k'<=k) (h:Dl k taken b a=true):Dl k' taken b a=true:=by unfold Dl Dv Ey at *;simp only[yY,List.all_eq_true,Bool.not_eq_true',decide_eq_false_iff_not,decide_eq_true_iff]at *;exact⟨fun x hx=>by have:=h.1 x hx;omega,A94 (by omega) h.2⟩
theorem A3y (taken b a:List Int) (gs:List Gd):Qz false taken b a gs=true ↔ ∀g∈gs,g.tr=true->Dl g.keep taken b a=true:=by
 induction gs with
 | nil=>simp[Qz]
 | cons g r ih=>
  simp only[Qz,yY,ih,List.mem_cons,forall_eq_or_imp,Bool.false_and,Bool.false_or];unfold Dl;cases g.tr<;>simp
theorem A13{b:List Int} (h:taken=[]) (gs:List Gd) (e:Bool):Qz e taken b b gs=true:=by
 subst h
 induction gs with
 | nil=>rfl
 | cons g r ih=>simp[Qz,ih,Dv,Ey]
theorem A86 {n:Nd}{b a:List Int} (h32:n.op=32->taken=[]/\b=a) (ht:∀x∈taken,0<=x):A2h n gs taken b a=Dl (Ap gs) taken b a:=by
 unfold A2h;obtain⟨m1,m2⟩:=Lh gs;by_cases ho:n.op=32
 ·obtain⟨rfl,rfl⟩:=h32 ho;rw[A13 rfl];simp[Dl,Dv,Ey]
 ·rw[show (n.op==32)=false by simpa using ho];rw[Bool.eq_iff_iff,A3y];constructor
  ·intro h;rcases m2 with m2|⟨g,hg,h1,h2⟩
   ·rw[m2];simp only[Dl,Dv,Ey,yY,List.all_eq_true,Bool.not_eq_true',decide_eq_false_iff_not];exact⟨fun x hx=>by have:=ht x hx;omega,by simp⟩
   ·rw[←h2];exact h g hg h1
  ·intro h g hg h1;exact A4p ((Nk gs 0 (Ap gs)).1 (Int.le_refl _) |>.2 g hg h1) h
def Ct (n:Nd) (gs:List Gd):Bool:=
 if n.op=31 then decide (gs.length<50)&&decide (Ap gs<=n.b)
 else if n.op=33 then decide (gs.length<50)&&decide (Ap gs<=n.a)
 else if n.op=32 then decide (Cb gs=some true)
 else if n.op=34 then decide (Cb gs=some false)&&decide (Ap gs<=n.a)
 else if n.op=35∨n.op=36 then decide (Cb gs=some false)
 else true
def Dc (n:Nd) (gs:List Gd):List Gd:=
 if n.op=31 then gs++[⟨true,n.b,n.a⟩]
 else if n.op=33 then gs++[⟨false,n.a,0⟩]
 else if n.op=32∨n.op=36 then gs.dropLast
 else if n.op=34 then Gi gs n.a
 else gs
theorem Ty {n:Nd} (hn:El np p n) (gs:List Gd):Ml n gs=if Ct n gs then some (Dc n gs) else none:=by
 obtain⟨f1,f2,_⟩:=Ht hn;unfold Ml Ct Dc;by_cases h31:n.op=31
 ·have:=(f1 h31).2;rw[if_pos h31,if_pos h31,if_pos h31,Li (by omega)]
 by_cases h33:n.op=33
 ·have:=f2 (.inl h33);rw[if_neg h31,if_neg h31,if_neg h31,if_pos h33,if_pos h33,if_pos h33,Li (by omega)]
 by_cases h32:n.op=32
 ·simp[h32]
 by_cases h34:n.op=34
 ·have:=f2 (.inr h34);simp only[h34,Li this.1];simp
 by_cases h35:n.op=35
 ·simp[h35]
 by_cases h36:n.op=36
 ·simp[h36]
 ·simp[h31,h32,h33,h34,h35,h36]
def Jw (n:Nd):Option Nat:=
 if n.op=19∨n.op=31 then some n.a.toNat
 else if n.op=20∨n.op=21∨n.op=38∨n.op=39∨n.op=41 then some n.b.toNat
 else none
def Ga (n:Nd) (s:St) (ts:List Int) (gs:List Gd):St:=
 if n.op=41 then ⟨ts.set n.c.toNat (D7 s.types n.c),gs⟩
 else if n.op=31 then ⟨Xf n.b s.types,s.guards⟩
 else ⟨ts,gs⟩
theorem U8 (n:Nd) (s:St) (ts:List Int) (gs:List Gd):goF n s ts gs=match Jw n with|some t=>[(t,Ga n s ts gs)]|none=>[]:=by
 obtain⟨op,a,b,c,d⟩:=n;unfold goF Jw Ga;dsimp only;by_cases h19:op=19
 ·subst h19;simp
 by_cases h20:op=20∨op=21∨op=38∨op=39
 ·rcases h20 with rfl|rfl|rfl|rfl<;>simp
 by_cases h41:op=41
 ·subst h41;simp
 by_cases h31:op=31
 ·subst h31;simp
 ·rw[if_neg h19,if_neg h20,if_neg h41,if_neg h31,if_neg (by omega),if_neg (by omega)]
def Oz (n:Nd):Bool:=n.op==1||n.op==3||n.op==28||(n.op==18&&n.b==12)
def Xb (n:Nd) (at_:Nat):List Nat:=if Oz n then [] else (if Ea n&&n.op !=41 then [at_+1] else [])++(Jw n).toList
theorem A70 (n:Nd) (at_ j:Nat):j∈Xb n at_ ↔ j∈Tp n at_:=by
 obtain⟨op,a,b,c,d⟩:=n;unfold Xb Tp Oz Jw Ea;dsimp only;by_cases h1:op=1
 ·subst h1;simp
 by_cases h3:op=3
 ·subst h3;simp
 by_cases h28:op=28
 ·subst h28;simp
 by_cases h29:op=29
 ·subst h29;simp
 by_cases h30:op=30
 ·subst h30;simp
 by_cases h18:op=18
 ·subst h18;by_cases hb:b=12<;>simp[hb]
 by_cases h19:op=19
 ·subst h19;simp
 by_cases h41:op=41
 ·subst h41;simp
 by_cases h20:op=20∨op=21∨op=38∨op=39
 ·rcases h20 with rfl|rfl|rfl|rfl<;>(simp;exact Or.comm)
 by_cases h31:op=31
 ·subst h31;simp;exact Or.comm
 ·have h2:¬op=20:=by omega
  have h4:¬op=21:=by omega
  have h5:¬op=38:=by omega
  have h6:¬op=39:=by omega
  simp[h1,h3,h28,h29,h30,h18,h19,h41,h31,h2,h4,h5,h6]
def Kt (ps:List Pd) (n:Nd) (at_:Nat) (s:St):Out:=
 match (Fp (Bi n.op.toNat) n.fs ⟨s.types,[],[]⟩).map Rd.two with
 | none=>.bad 10
 | some (t1,tk)=>
  if Bh s.types (Du ps n) then
   if Ct n s.guards then
    if Dl (Ap s.guards) tk s.types (Ez (Bi n.op.toNat) n.fs t1) then .go (En n at_ s (Ez (Bi n.op.toNat) n.fs t1) (Dc n s.guards)) else .bad 12
   else .bad 11
  else .bad 10
theorem A2r {w x:Int}{s:Rd} (h:Fj w x s=some s') (hs:∀y∈s.taken,0<=y):∀y∈s'.taken,0<=y:=by
 unfold Fj at h;split at h
 ·split at h
  ·rename_i hx;split at h
   ·cases h
   ·obtain rfl:=yO h;intro y hy;rcases yZ.1 hy with hy|hy
    ·exact hs y hy
    ·simp at hy;subst hy;unfold Be;rw[if_pos hx];omega
  ·obtain rfl:=yO h;exact hs
 ·cases h
theorem Aab {x:Int}{s:Rd} (hr:r<=23) (hf:Bd np p (Bp r) x=true) (h:rdI r x s=some s') (hs:∀y∈s.taken,0<=y):∀y∈s'.taken,0<=y:=by
 unfold rdI at h;have hpl:∀w,Dq w x s=some s'->∀y∈s'.taken,0<=y:=by
  intro w h;unfold Dq at h;split at h
  ·obtain rfl:=yO h;exact hs
  ·cases h
 split at h
 ·exact A2r h hs
 ·exact A2r h hs
 ·exact hpl _ h
 ·exact hpl _ h
 ·exact hpl _ h
 ·split at h
  ·obtain rfl:=yO h;exact hs
  ·cases h
 ·split at h
  ·obtain rfl:=yO h;exact hs
  ·cases h
 ·split at h
  ·obtain rfl:=yO h;intro y hy;rcases yZ.1 hy with hy|hy
   ·exact hs y hy
   ·simp at hy;subst hy;simp[Bp,A2c,Bd,inR]at hf;exact hf.1
  ·cases h
 ·obtain rfl:=yO h;exact hs
theorem A2t {np:Nat} {p:Pd} : ∀{rs:List Nat} {xs:List Int} {s s':Rd},(∀r∈rs,r<=23)->Em np p (rs.map Bp) xs=true->Fp rs xs s=some s'->(∀y∈s.taken,0<=y)->∀y∈s'.taken,0<=y
 | [],_,s,s',_,_,h,hs=>by unfold Fp at h;obtain rfl:=yO h;exact hs
 | _::_,[],s,s',_,_,h,hs=>by unfold Fp at h;obtain rfl:=yO h;exact hs
 | r::rs,x::xs,s,s',hr,hf,h,hs=>by
  unfold Fp at h;simp only[List.map_cons,Em,yY]at hf;cases h1:rdI r x s with
  | none=>rw[h1]at h;cases h
  | some s1=>
   rw[h1]at h;exact A2t (fun q hq=>hr q (by simp[hq])) hf.2 h (Aab (hr r (by simp)) hf.1 h1 hs)
theorem A8u {n:Nd} (hn:El np p n) (at_:Nat) (s:St):Kt ps n at_ s=Ul ps n at_ s:=by
 have hlo:=hn.lo;have hhi:=hn.hi;obtain⟨op,hop⟩:∃k:Nat,n.op=k:=yN (by omega);have h1:1<=op:=by omega
 have h2:op<=42:=by omega
 have hT:n.op.toNat=op:=by rw[hop];rfl
 have hr:=A6n op h1 h2 n.a n.b n.c n.d s.types;have hfit:=hn.fit;rw[hT]at hfit;unfold Kt Ul A2u;rw[hT];have hnn:=@A2t np p (Bi op) n.fs ⟨s.types,[],[]⟩;rw[Iq op h1 h2]at hnn;unfold Nd.fs at *;cases hs:Kg (Bt op) [n.a,n.b,n.c,n.d] ⟨s.types,[],[]⟩ with
 | none=>
  rw[hs]at hr;rw[hr];rfl
 | some r=>
  rw[hs]at hr;rw[hr];cases hi:Fp (Bi op) [n.a,n.b,n.c,n.d] ⟨s.types,[],[]⟩ with
  | none=>rw[hi]at hr;cases hr
  | some r'=>
  rw[hi]at hr;simp only[Option.map_some,Option.some.injEq,Rd.two,Prod.mk.injEq]at hr;have htk:=hnn (s':=r') (by
   intro q hq;obtain⟨r0,r1,r2,r3,e,g0,g1,g2,g3⟩:=Ic h2;rw[e]at hq;simp at hq;omega) hfit hi (by simp)
  have hups:Bh s.types (Du ps n)=Bh r.types (Du ps n):=by
   unfold Du;split
   ·rename_i h11;have:op=11:=by omega
    subst this;simp[Bt,Dr,Kg,rdS]at hs;rw[←hs]
   ·rfl
  have hw:Ez (Bi op) [n.a,n.b,n.c,n.d] r.types=J8 n r.types:=by refine A7i n op hop h1 h2 r.types ?_;intro h40;subst h40;refine Zz (tk:=r.taken) (a:=n.a) (b:=n.b) (c:=n.c) (d:=n.d) (ts:=s.types) ?_;rw[hs];rfl
  rw[Option.map_some];dsimp only[Rd.two];rw[hups,hw,Ty hn];cases Bh r.types (Du ps n)
  ·rfl
  ·simp only[if_true];cases Ct n s.guards
   ·rfl
   ·simp only[if_true];have hk:A2h n s.guards r.taken s.types (J8 n r.types)=Dl (Ap s.guards) r.taken s.types (J8 n r.types):=by
     refine A86 ?_ ?_
     ·intro h32;have:op=32:=by omega
      subst this;simp[Bt,Dr,Kg,rdS]at hs;rw[←hs];refine⟨rfl,?_⟩;obtain⟨o,a,b,c,d⟩:=n;dsimp only at hop;subst hop;rfl
     ·rw[←hr.2];exact htk
    rw[hk]
theorem A0w {g:Gd} (h:gs[k]?=some g) (k0:Int):(gs.drop k).foldl (fun k g=>if g.tr then max k g.keep else k) k0=(gs.drop (k+1)).foldl (fun k g=>if g.tr then max k g.keep else k) (if g.tr then max k0 g.keep else k0):=by rw[Bg h];rfl
theorem Aa5 (m x:Int):(if m<x then x else m)=max m x:=by
 split
 ·rw[Int.max_eq_right (by omega)]
 ·rw[Int.max_eq_left (by omega)]
theorem Aa6 (m x:Int):(if x<m then x else m)=min m x:=by
 split
 ·rw[Int.min_eq_right (by omega)]
 ·rw[Int.min_eq_left (by omega)]
theorem Kl (ao:Option Addr) (cap:Nat) (gs:List Gd) (w:World) (hm:gs.length<=1048576) (hx:Er 0 w ao gs) :
  Kw 325 #[.slice ao gs.length cap] w (.int .i64 (Ap gs)):=by
 (try unfold Kw);go_in;go_wp2;go_loopw [3,8] (fun v y wr=>∃(k:Nat) (m:Int),k<=gs.length/\v=.int .i64 m/\y=.int .i64 k/\Hid ((gs.drop k).foldl (fun k g=>if g.tr then max k g.keep else k) m=Ap gs)/\Below w.heap.size w wr) (fun _ y _=>gs.length-(intOf y).toNat);case atStart=>exact⟨0,0,yE _,rfl,rfl,rfl,yA _ _⟩
 case round=>
  obtain⟨k,m,hk,rfl,rfl,HQ,hb⟩:=hrel;by_cases hkl:k<gs.length
  ·obtain⟨x,hxk⟩:=Ah hkl;obtain⟨b,off,rfl,_,hbl,q0,q1,q2⟩:=hx.l (Ad.o hb) k x hxk;have HD:Hid (_=Ap gs):=(A0w hxk m).symm.trans HQ.out;have hba:∀o,Below w.heap.size w (wr.alloc o):=fun o=>hb.alloc hb.size o;obtain⟨x0,x1,x2⟩:=x;dsimp only at *;clear hxk HQ;cases x0
   ·have HN:Hid ((gs.drop (k+1)).foldl (fun k g=>if g.tr then max k g.keep else k) m=Ap gs):=HD.out;clear HD;go_wp2;go_roundw;case rel=>exact⟨k+1,m,by omega,rfl,by go_num,HN.out,hba _⟩
    case measure=>simp[intOf];omega
   ·have HN:Hid ((gs.drop (k+1)).foldl (fun k g=>if g.tr then max k g.keep else k) (max m x1)=Ap gs):=HD.out;clear HD;go_wp2;go_roundw;case rel=>first|exact⟨k+1,if m<x1 then x1 else m,by omega,rfl,by go_num,by show _=_;rw[Aa5];exact HN.out,hba _⟩|exact⟨k+1,max m x1,by omega,rfl,by go_num,HN.out,hba _⟩
    case measure=>simp[intOf];omega
  ·have HN:Hid (m=Ap gs):=by have h:=HQ.out;rw[yQ (by omega)]at h;exact h
   clear HQ;go_wp2;go_ret;exact⟨Cr HN.out,hb⟩
def Nl (x:Int) (xs:List Int):Int:=xs.foldl min x
theorem A17 (o:Option Addr) (c:Nat) (x:Int) (xs:List Int) (w:World) (hl:xs.length<=1048576) (hx:Cv 0 w o (x::xs)) :
  Kw 394 #[.slice o (xs.length+1) c] w (.int .i64 (Nl x xs)):=by
 obtain⟨b,off,rfl,_,hbl,q0⟩:=hx 0 x rfl;unfold Jb at q0;rw[Nat.zero_mul,Nat.add_zero]at q0;have k0:¬((xs.length:Int)+1<1):=by omega
 have k1:(0:Int)<(xs.length:Int)+1:=by omega
 (try unfold Kw);go_in;go_wp2;go_loopw [3,4] (fun v y wr=>∃(k:Nat) (m:Int),k<=xs.length/\v=.int .i64 m/\y=.int .i64 ((k:Int)+1)/\Hid ((xs.drop k).foldl min m=Nl x xs)/\Below w.heap.size w wr) (fun _ y _=>xs.length+1-(intOf y).toNat);case atStart=>exact⟨0,x,yE _,rfl,rfl,rfl,yA _ _⟩
 case round=>
  obtain⟨k,m,hk,rfl,rfl,HQ,hb⟩:=hrel;by_cases hkl:k<xs.length
  ·obtain⟨y,hyk⟩:=Ah hkl;obtain⟨b',off',e1,_,hbl',p0⟩:=hx.l (Ad.o hb) (k+1) y (by simpa using hyk);simp at e1;obtain⟨rfl,rfl⟩:=e1;unfold Jb at p0;rw[Nat.mul_one]at p0;have HN:Hid ((xs.drop (k+1)).foldl min (min m y)=Nl x xs):=by show _=_;rw[←HQ.out,Bg hyk];rfl
   have k2:(k:Int)+1<(xs.length:Int)+1:=by omega
   clear hyk HQ q0;go_wp2;go_roundw;case rel=>first|exact⟨k+1,if y<m then y else m,by omega,rfl,by simp,by show _=_;rw[Aa6];exact HN.out,hb⟩|exact⟨k+1,min m y,by omega,rfl,by simp,HN.out,hb⟩
   case measure=>simp[intOf];omega
  ·have HN:Hid (m=Nl x xs):=by have h:=HQ.out;rw[yQ (by omega)]at h;exact h
   have k2:¬(k:Int)+1<(xs.length:Int)+1:=by omega
   clear HQ;go_wp2;go_ret;exact⟨Cr HN.out,hb⟩
theorem Np {w:World}{size:Nat} {xs:List Value} (h:w.ownsRow base e size v n xs):∀ao c,v=.slice ao n c->n<=c:=by
 intro ao c hv;obtain⟨_,⟨h1,h2⟩|⟨g,cap,cur,rfl,_,_,hc,_⟩⟩:=h
 ·omega
 ·simp at hv;omega
def RTag (w:World) (ao:Option Addr) (t:TypeId):Prop:=∀x,ao=some x->∃b,x=⟨b,0,none⟩/\∃arr,w.heap[b]?=some (.cells arr t (0,0))
theorem Zp {w:World}{size:Nat} {c:Nat} {xs:List Value} (h:w.ownsRow base e size (.slice ao n c) n xs):RTag w ao e:=by
 obtain⟨_,⟨h1,h2⟩|⟨g,cap,cur,h3,hg,hh,_⟩⟩:=h
 ·rintro x rfl;simp at h1
 ·rintro x rfl;simp at h3;exact⟨g,h3.1,cur,hh⟩
structure Ed (lo:Nat) (w:World) (ao:Option Addr) (cap:Nat) (xs:List Int):Prop where
 cap:xs.length<=cap
 nil:ao=none->xs.length=0
 form:∀a,ao=some a->∃b o,a=⟨b,o,none⟩
 at_:Cv lo w ao xs
 tag:∀b o,ao=some ⟨b,o,none⟩->0<xs.length->∃arr,w.heap[b]?=some (.cells arr 3 (0,0))
structure Bu (lo:Nat) (w:World) (ao:Option Addr) (cap:Nat) (xs:List Gd):Prop where
 cap:xs.length<=cap
 nil:ao=none->xs.length=0
 form:∀a,ao=some a->∃b o,a=⟨b,o,none⟩
 at_:Er lo w ao xs
 tag:∀b o,ao=some ⟨b,o,none⟩->0<xs.length->∃arr,w.heap[b]?=some (.cells arr 399 (0,0))
theorem A2v {α:Type} {w:World} {at1:Nat->Nat->α->Prop} {xs:List α} (h:Ay lo w ao k at1 xs) {b o:Nat} (ha:ao=some ⟨b,o,none⟩) (hl:0<xs.length):lo<=b/\b<w.heap.size:=by obtain⟨x,hx⟩:=Ah hl;obtain⟨b',o',e,h1,h2,_⟩:=h 0 x hx;rw[ha]at e;simp at e;obtain⟨rfl,_⟩:=e;exact⟨h1,h2⟩
theorem Ed.l{w:World} (h:Ed lo w ao cap xs) (hk:Ad lo w w'):Ed lo w' ao cap xs:=⟨h.cap,h.nil,h.form,h.at_.l hk,fun b o e hl=>by obtain⟨arr,ha⟩:=h.tag b o e hl;have hb:=A2v h.at_ e hl;exact⟨arr,(hk.block b hb.1 hb.2).trans ha⟩⟩
theorem Bu.l{w:World} {xs:List Gd} (h:Bu lo w ao cap xs) (hk:Ad lo w w'):Bu lo w' ao cap xs:=⟨h.cap,h.nil,h.form,h.at_.l hk,fun b o e hl=>by obtain⟨arr,ha⟩:=h.tag b o e hl;have hb:=A2v h.at_ e hl;exact⟨arr,(hk.block b hb.1 hb.2).trans ha⟩⟩
theorem Ed.w {w:World} (h:Ed lo w ao cap xs) (hl:lo'<=lo):Ed lo' w ao cap xs:=⟨h.cap,h.nil,h.form,Ay.w h.at_ hl,h.tag⟩
theorem Bu.w {w:World} {xs:List Gd} (h:Bu lo w ao cap xs) (hl:lo'<=lo):Bu lo' w ao cap xs:=⟨h.cap,h.nil,h.form,Ay.w h.at_ hl,h.tag⟩
theorem Ed.of_owns {w:World} (h:w.ownsRow base 3 1 (.slice ao n cap) n (Bj xs)):Ed base w ao cap xs:=by
 obtain⟨h1,rfl⟩:=K8 h;refine⟨Np h ao cap rfl,?_,?_,h1,?_⟩
 ·rintro rfl;rcases Aj h with ⟨_,h0⟩|⟨g,c,h2,_⟩
  ·exact h0
  ·simp at h2
 ·rintro a rfl;rcases Aj h with ⟨h2,_⟩|⟨g,c,h2,_⟩
  ·simp at h2
  ·simp at h2;exact⟨g,0,h2.1⟩
 ·rintro b o rfl _;obtain⟨b',e,ht⟩:=Zp h _ rfl;simp at e;rw[e.1];exact ht
theorem Ed.store {w:World} (h:Ed lo w ao cap xs) (hg:Blk w g arr t) (ht:t≠3) (o:Nat) (v:Value):Ed lo (w.setCell ⟨g,o,none⟩ v) ao cap xs:=by
 have hne:∀b o',ao=some ⟨b,o',none⟩->0<xs.length->b≠g:=by rintro b o' e hl rfl;obtain⟨a2,h2⟩:=h.tag b o' e hl;unfold Blk at hg;rw[hg]at h2;simp at h2;exact ht h2.2
 refine⟨h.cap,h.nil,h.form,?_,?_⟩
 ·intro i x hx;obtain⟨b,off,e,h1,h2,h3⟩:=h.at_ i x hx;have hl:0<xs.length:=by have:=(yD.1 hx).1;omega
  exact⟨b,off,e,h1,by rw[Gm];exact h2,(yG _ _ _ _ (fun e2=>hne b off e hl e2.symm)).trans h3⟩
 ·intro b o' e hl;obtain⟨a2,h2⟩:=h.tag b o' e hl;exact⟨a2,(yL _ _ _ _ (hne b o' e hl)).trans h2⟩
theorem Bu.store {w:World} {xs:List Gd} (h:Bu lo w ao cap xs) (hg:Blk w g arr t) (ht:t≠399) (o:Nat) (v:Value):Bu lo (w.setCell ⟨g,o,none⟩ v) ao cap xs:=by
 have hne:∀b o',ao=some ⟨b,o',none⟩->0<xs.length->b≠g:=by rintro b o' e hl rfl;obtain⟨a2,h2⟩:=h.tag b o' e hl;unfold Blk at hg;rw[hg]at h2;simp at h2;exact ht h2.2
 refine⟨h.cap,h.nil,h.form,?_,?_⟩
 ·intro i x hx;obtain⟨b,off,e,h1,h2,h3,h4,h5⟩:=h.at_ i x hx;have hl:0<xs.length:=by have:=(yD.1 hx).1;omega
  have hf:=fun e2=>hne b off e hl e2;exact⟨b,off,e,h1,by rw[Gm];exact h2,(yG _ _ _ _ (fun e2=>hf e2.symm)).trans h3,(yG _ _ _ _ (fun e2=>hf e2.symm)).trans h4,(yG _ _ _ _ (fun e2=>hf e2.symm)).trans h5⟩
 ·intro b o' e hl;obtain⟨a2,h2⟩:=h.tag b o' e hl;exact⟨a2,(yL _ _ _ _ (hne b o' e hl)).trans h2⟩
theorem Bu.of_post {l:List Gd} (h1:l.length<=cap) (h2:Er lo w' ao l) (h3:RTag w' ao 399):Bu lo w' ao cap l:=by
 refine⟨h1,?_,?_,h2,?_⟩
 ·rintro rfl;cases l with
  | nil=>rfl
  | cons a r=>obtain⟨b,o,e,_⟩:=h2 0 a rfl;cases e
 ·rintro a rfl;obtain⟨b,e,_⟩:=h3 a rfl;exact⟨b,0,e⟩
 ·rintro b o rfl _;obtain⟨b',e,ht⟩:=h3 _ rfl;simp at e;rw[e.1];exact ht
def StI (lo:Nat) (w:World) (sb j:Nat) (o:Option St):Prop:=
 ∃to tc go gc,w.cell? ⟨sb,j*3,none⟩=some (.bool o.isSome)/\w.cell? ⟨sb,j*3+1,none⟩=some (.slice to (stT o).length tc)/\w.cell? ⟨sb,j*3+2,none⟩=some (.slice go (stG o).length gc)/\Ed lo w to tc (stT o)/\Bu lo w go gc (stG o)
structure Sb (lo:Nat) (w:World) (sb:Nat) (sts:List (Option St)):Prop where
 own:Own w sb 344 (sts.length*3)
 at_:∀j o,sts[j]?=some o->StI lo w sb j o
theorem StI.l{w:World} {o:Option St} (h:StI lo w sb j o) (hk:Ad lo w w') (hb:w'.heap[sb]?=w.heap[sb]?):StI lo w' sb j o:=by obtain⟨to,tc,go,gc,h1,h2,h3,h4,h5⟩:=h;have hc:∀i,w'.cell? ⟨sb,i,none⟩=w.cell? ⟨sb,i,none⟩:=fun i=>yX (w:=w) (a:=⟨sb,i,none⟩) hb;exact⟨to,tc,go,gc,(hc _).trans h1,(hc _).trans h2,(hc _).trans h3,h4.l hk,h5.l hk⟩
theorem Sb.l{w:World} {sts:List (Option St)} (h:Sb lo w sb sts) (hk:Ad lo w w') (hb:w'.heap[sb]?=w.heap[sb]?):Sb lo w' sb sts:=
 ⟨h.own.of_block hb,fun j o ho=>(h.at_ j o ho).l hk hb⟩
theorem Sb.put {w:World} {sts:List (Option St)} (h:Sb lo w sb sts) (hx:x<sts.length) (hsb:sb<lo) (ht:Ed lo w to tc s.types) (hg:Bu lo w go gc s.guards) :
  Sb lo (((w.setCell ⟨sb,x*3,none⟩ (.bool true)).setCell ⟨sb,x*3+1,none⟩ (.slice to s.types.length tc)).setCell ⟨sb,x*3+2,none⟩ (.slice go s.guards.length gc)) sb (sts.set x (some s)):=by
 have hk:Ad lo w (((w.setCell ⟨sb,x*3,none⟩ (.bool true)).setCell ⟨sb,x*3+1,none⟩ (.slice to s.types.length tc)).setCell ⟨sb,x*3+2,none⟩ (.slice go s.guards.length gc)):=
  (((Ad.refl lo w).setCell (p:=⟨sb,x*3,none⟩) hsb _).setCell (p:=⟨sb,x*3+1,none⟩) hsb _).setCell (p:=⟨sb,x*3+2,none⟩) hsb _
 have ho:=((h.own.set (x*3) (.bool true)).set (x*3+1) (.slice to s.types.length tc)).set (x*3+2) (.slice go s.guards.length gc);refine⟨by rw[List.length_set];exact ho,?_⟩;intro j o hj;rw[List.getElem?_set]at hj;by_cases hxj:x=j
 ·subst hxj;simp[hx]at hj;subst hj;have o1:=h.own.set (x*3) (.bool true);have o2:=o1.set (x*3+1) (.slice to s.types.length tc);refine⟨to,tc,go,gc,?_,?_,Gw o2 (by omega),ht.l hk,hg.l hk⟩
  ·rw[Br (by omega),Br (by omega)];exact Gw h.own (by omega)
  ·rw[Br (by omega)];exact Gw o1 (by omega)
 ·rw[if_neg hxj]at hj;obtain⟨to',tc',go',gc',h1,h2,h3,h4,h5⟩:=h.at_ j o hj;refine⟨to',tc',go',gc',?_,?_,?_,h4.l hk,h5.l hk⟩
  ·rw[Br (by omega),Br (by omega),Br (by omega)];exact h1
  ·rw[Br (by omega),Br (by omega),Br (by omega)];exact h2
  ·rw[Br (by omega),Br (by omega),Br (by omega)];exact h3
theorem StI.store {w:World} {o:Option St} (h:StI lo w sb j o) (hg:Blk w g arr t) (ht:t≠3) (ht2:t≠399) (hs:sb≠g) (q:Nat) (v:Value):StI lo (w.setCell ⟨g,q,none⟩ v) sb j o:=by obtain⟨to,tc,go,gc,h1,h2,h3,h4,h5⟩:=h;have hc:∀i,(w.setCell ⟨g,q,none⟩ v).cell? ⟨sb,i,none⟩=w.cell? ⟨sb,i,none⟩:=fun i=>yG _ _ _ _ (fun e=>hs e.symm);exact⟨to,tc,go,gc,(hc _).trans h1,(hc _).trans h2,(hc _).trans h3,h4.store hg ht q v,h5.store hg ht2 q v⟩
structure Uy (B L vb sb db:Nat):Prop where
 v1:B<=vb
 v2:vb<L
 s1:B<=sb
 s2:sb<L
 d1:B<=db
 d2:db<L
 vs:vb≠sb
 vd:vb≠db
 sd:sb≠db
structure Off (B L:Nat) (w w':World):Prop where
 below:Below B w w'
 keeps:Ad L w w'
theorem Off.o{w:World} (h:Below w.heap.size w w') (hB:B<=w.heap.size):Off B L w w':=⟨h.mono hB,Ad.o h⟩
theorem Off.refl (B L:Nat) (w:World):Off B L w w:=⟨yA _ _,Ad.refl _ _⟩
theorem Off.trans{a c:World} (h:Off B L a b) (k:Off B L b c):Off B L a c:=⟨h.below.trans k.below,h.keeps.trans k.keeps⟩
theorem Off.size{a:World} (h:Off B L a b):a.heap.size<=b.heap.size:=h.below.size
theorem Off.blk{a:World} (h:Off B L a b) (x:Blk a g arr t) (hg:L<=g):Blk b g arr t:=(h.keeps.block g hg x.lt).trans x
theorem Off.set{a:World} (h:Off B L a b) {p:Addr} (v:Value) (h1:B<=p.block) (h2:p.block<L):Off B L a (b.setCell p v):=⟨h.below.setCell h1 _,h.keeps.setCell h2 _⟩
theorem Off.setNew{a:World} (h:Off B L a b) (hB:B<=a.heap.size) {p:Addr} (v:Value) (h1:a.heap.size<=p.block):Off B L a (b.setCell p v):=
 ⟨h.below.setCell (yI hB h1) _,⟨by rw[Gm];exact h.size,fun k hk hs=>(yL _ _ _ _ (by omega)).trans (h.keeps.block k hk hs)⟩⟩
structure Cw (L vb sb db:Nat) (cao:Option Addr) (ccap:Nat) (ps:List Pd) (p:Pd) (h:Ph) (w:World) (c:Cf) (l:Nat):Prop where
 blk:Blk w vb #[.slice cao ps.length ccap,.string p.name,.int .i64 p.line,.int .i64 p.params,.bool p.rest,.int .i64 p.regs,.slice h.uo p.ups.length h.uc,.slice h.co p.consts.length h.cc,.slice h.io p.ins.length h.ic,.slice h.no p.named.length h.nc,.slice (some ⟨sb,0,none⟩) p.ins.length p.ins.length,.slice (some ⟨db,0,none⟩) p.ins.length p.ins.length,.int .i64 l] 339
 sts:Sb L w sb c.sts
 due:Blk w db (Ci c.due) 4
 low:∀j,j<l->c.due.getD j false=false
 lenS:c.sts.length=p.ins.length
 lenD:c.due.length=p.ins.length
theorem Cw.below{w:World} {l:Nat} (x:Cw L vb sb db cao ccap ps p h w c l) (hb:Below w.heap.size w w'):Cw L vb sb db cao ccap ps p h w' c l:=
 ⟨x.blk.l hb,x.sts.l (Ad.o hb) (hb.block sb x.sts.own.lt),x.due.l hb,x.low,x.lenS,x.lenD⟩
theorem Cw.store {w:World} {l:Nat} (V:Uy B L vb sb db) (x:Cw L vb sb db cao ccap ps p h w c l) (hg:Blk w g arr t) (hL:L<=g) (ht:t≠3) (ht2:t≠399) (q:Nat) (v:Value):Cw L vb sb db cao ccap ps p h (w.setCell ⟨g,q,none⟩ v) c l:=by
 have n1:vb≠g:=by have:=V.v2;omega
 have n2:sb≠g:=by have:=V.s2;omega
 have n3:db≠g:=by have:=V.d2;omega
 exact⟨x.blk.setOther (p:=⟨g,q,none⟩) n1 _,⟨x.sts.own.of_block (yL _ _ _ _ n2),fun j o ho=>(x.sts.at_ j o ho).store hg ht ht2 n2 q v⟩,x.due.setOther (p:=⟨g,q,none⟩) n3 _,x.low,x.lenS,x.lenD⟩
theorem Cw.put {w:World} {l:Nat} (V:Uy B L vb sb db) (x:Cw L vb sb db cao ccap ps p h w c l) (hk:k<p.ins.length) (ht:Ed L w to tc s.types) (hg:Bu L w go gc s.guards) :
  Cw L vb sb db cao ccap ps p h (((w.setCell ⟨sb,k*3,none⟩ (.bool true)).setCell ⟨sb,k*3+1,none⟩ (.slice to s.types.length tc)).setCell ⟨sb,k*3+2,none⟩ (.slice go s.guards.length gc)) ⟨c.sts.set k (some s),c.due⟩ l:=by
 have hs3:∀j,j≠sb->(((w.setCell ⟨sb,k*3,none⟩ (.bool true)).setCell ⟨sb,k*3+1,none⟩ (.slice to s.types.length tc)).setCell ⟨sb,k*3+2,none⟩ (.slice go s.guards.length gc)).heap[j]?=w.heap[j]?:=fun j hj=>by
  rw[yL _ _ _ _ hj,yL _ _ _ _ hj,yL _ _ _ _ hj]
 exact⟨(hs3 vb V.vs).trans x.blk,x.sts.put (by rw[x.lenS];exact hk) V.s2 ht hg,(hs3 db V.sd.symm).trans x.due,x.low,by simp[x.lenS],x.lenD⟩
theorem Cw.setDue {w:World} {l:Nat} (V:Uy B L vb sb db) (x:Cw L vb sb db cao ccap ps p h w c l) (k l':Nat) (hl':l'<=l) (hlk:l'<=k) :
  Cw L vb sb db cao ccap ps p h ((w.setCell ⟨db,k,none⟩ (.bool true)).setCell ⟨vb,12,none⟩ (.int .i64 l')) ⟨c.sts,c.due.set k true⟩ l':=by
 have D4:=x.due.set k (.bool true);rw[Ew]at D4;have V4:=x.blk.setOther (p:=⟨db,k,none⟩) V.vd (.bool true);have S4:=x.sts.l (w':=w.setCell ⟨db,k,none⟩ (.bool true)) ((Ad.refl _ _).setCell V.d2 _) (yL _ _ _ _ V.sd);have V5:=V4.set 12 (.int .i64 l');have S5:=S4.l (w':=(w.setCell ⟨db,k,none⟩ (.bool true)).setCell ⟨vb,12,none⟩ (.int .i64 l')) ((Ad.refl _ _).setCell V.v2 _) (yL _ _ _ _ V.vs.symm);have D5:=D4.setOther (p:=⟨vb,12,none⟩) V.vd.symm (.int .i64 l');refine⟨V5,S5,D5,?_,x.lenS,by simp[x.lenD]⟩;intro j hj;rw[Ir];rw[if_neg (by omega)];exact x.low j (by omega)
theorem Cw.take {w:World} {l:Nat} (V:Uy B L vb sb db) (x:Cw L vb sb db cao ccap ps p h w c l) (k:Nat):Cw L vb sb db cao ccap ps p h (w.setCell ⟨db,k,none⟩ (.bool false)) ⟨c.sts,c.due.set k false⟩ l:=by
 have D4:=x.due.set k (.bool false);rw[Ew]at D4;refine⟨x.blk.setOther (p:=⟨db,k,none⟩) V.vd _,x.sts.l ((Ad.refl _ _).setCell V.d2 _) (yL _ _ _ _ V.sd),D4,?_,x.lenS,by simp[x.lenD]⟩;intro j hj;rw[Ir];split
 ·rfl
 ·exact x.low j hj
theorem Cw.move {w:World} {l:Nat} (V:Uy B L vb sb db) (x:Cw L vb sb db cao ccap ps p h w c l) (l':Nat) (hl:∀j,j<l'->c.due.getD j false=false):Cw L vb sb db cao ccap ps p h (w.setCell ⟨vb,12,none⟩ (.int .i64 l')) c l':=
 ⟨x.blk.set 12 (.int .i64 l'),x.sts.l ((Ad.refl _ _).setCell V.v2 _) (yL _ _ _ _ V.vs.symm),x.due.setOther (p:=⟨vb,12,none⟩) V.vd.symm _,hl,x.lenS,x.lenD⟩
def zs (l:List Nat):List Int:=l.map (fun x:Nat=>(x:Int))
theorem Xi (l:List Nat):(zs l).length=l.length:=by simp[zs]
theorem A7k {l:List Nat} (h:l[k]?=some x):(zs l)[k]?=some (x:Int):=by simp[zs,h]
def G7 (l:List Nat):Array Value:=(Bj (zs l)).toArray
theorem Iw {l:List Nat} (h:k<l.length):(G7 l)[k]?=some (.int .i64 (l.getD k 0)):=by unfold G7 zs Bj;simp[h]
theorem A1b (l:List Nat) (k v:Nat):(G7 l).setIfInBounds k (.int .i64 v)=G7 (l.set k v):=by unfold G7 zs Bj;rw[yC];simp[List.map_set]
def Iz (N:Nat) (P:Nat->Bool):List Bool:=(List.range N).map P
theorem Ri (N:Nat) (P:Nat->Bool):(Iz N P).length=N:=by simp[Iz]
theorem A6b {P:Nat->Bool} {v:Nat} (h:v<N):(Iz N P).getD v false=P v:=by simp[Iz,h]
theorem Zm (N:Nat) (P:Nat->Bool) (v:Nat) (b:Bool):(Iz N P).set v b=Iz N (fun x=>if x=v then b else P x):=by
 apply List.ext_getElem?;intro j;unfold Iz;rw[List.getElem?_set];by_cases hj:j<N
 ·by_cases hv:v=j
  ·subst hv;simp[hj]
  ·simp[hj,hv,Ne.symm hv]
 ·by_cases hv:v=j
  ·subst hv;simp[hj]
  ·simp[hj,hv]
theorem J2 {P Q:Nat->Bool} (h:∀v,v<N->P v=Q v):Iz N P=Iz N Q:=by unfold Iz;apply List.map_congr_left;intro v hv;exact h v (by simpa using hv)
structure Pn (lo:Nat) (w:World) (gb N:Nat) (f:Nat->List Int):Prop where
 own:Own w gb 64 N
 at_:∀j,j<N->∃ao cap,w.cell? ⟨gb,j,none⟩=some (.slice ao (f j).length cap)/\Cv lo w ao (f j)
theorem Pn.l{w:World}{gb:Nat} {f:Nat->List Int} (h:Pn lo w gb N f) (hb:Below w.heap.size w w'):Pn lo w' gb N f:=
 ⟨h.own.l hb,fun j hj=>by obtain⟨ao,cap,h1,h2⟩:=h.at_ j hj;exact⟨ao,cap,(hb.cell (p:=⟨gb,j,none⟩) h.own.lt).trans h1,h2.l (Ad.o hb)⟩⟩
structure Kv (s cb gb ob qb N:Nat) (w:World) (T:Tj) (vp:Value):Prop where
 blk:Blk w cb #[.slice (some ⟨gb,0,none⟩) N N,.int .i64 T.count,.slice (some ⟨ob,0,none⟩) N N,vp,.slice (some ⟨qb,0,none⟩) N N,.int .i64 T.least] 417
 order:Blk w ob (G7 T.order) 3
 opn:Blk w qb (Ci (Iz N fun v=>decide (v∈T.path))) 4
 path:w.ownsRow (s+3) 3 1 vp T.path.length (Bj (zs T.path))
structure A34 (s cb ob qb:Nat):Prop where
 c1:s<=cb
 c2:cb<s+3
 o1:s<=ob
 o2:ob<s+3
 q1:s<=qb
 q2:qb<s+3
 co:cb≠ob
 cq:cb≠qb
 oq:ob≠qb
theorem A4b {w:World} {xs:List Value} (h:w.ownsRow base e 1 (.slice ao n cap) n xs) (hk:k<=n) (hao:ao≠none):w.ownsRow base e 1 (.slice ao k cap) k (xs.take k):=by
 obtain⟨h1,⟨h2,h3⟩|⟨g,c,cur,h3,hg,hh,hc1,hc2,hc3,hc4⟩⟩:=h
 ·simp at h2;exact absurd h2.1 hao
 ·simp at h3;obtain⟨rfl,rfl⟩:=h3;refine⟨by simp;omega,.inr ⟨g,cap,cur,rfl,hg,hh,by omega,hc2,hc3,?_⟩⟩;rw[←hc4,List.take_take];simp;omega
def Gg (f:Nat->List Int) (a:Nat) (ext:List Nat) (least:Int):Int:=if ext≠[]∨(a:Int)∈f a then min least (Nl (a:Int) (zs ext)) else least
noncomputable def pcCl:Code:=Fu [1,1,1] (Tryz.f367.body.getD .skip)
def opk (pre ext:List Nat) (a k v:Nat):Bool:=decide (v∈pre)||(decide (v∈a::ext)&&!decide (v∈(a::ext).take k))
theorem A47 (pre ext:List Nat) (a v:Nat):decide (v∈pre++a::ext)=opk pre ext a 0 v:=by unfold opk;simp[List.mem_append]
theorem A6a (hy:(a::ext)[k]?=some y) (hnd:∀z∈a::ext,z∉pre) (v:Nat):(if v=y then false else opk pre ext a k v)=opk pre ext a (k+1) v:=by
 unfold opk;have ht:(a::ext).take (k+1)=(a::ext).take k++[y]:=by obtain⟨hl,he⟩:=yD.1 hy;rw[List.take_add_one,hy];rfl
 rw[ht];have hym:y∈a::ext:=yH hy;by_cases h:v=y
 ·subst h;have:=hnd v hym;simp[this]
 ·rw[if_neg h];simp[h]
theorem A8g (v:Nat):opk pre ext a (ext.length+1) v=decide (v∈pre):=by unfold opk;rw[List.take_of_length_le (by simp)];cases decide (v∈a::ext)<;>simp
theorem Lc (s cb gb ob qb N cnt least a g pc:Nat) (ord pre ext:List Nat) (W:World) (c1 c2 c3 c5 c6 c7 c8 c9 c10 c11 c12 c13 c14 c15 c16 c17 c18 c19 c20 c21 c22 c23 c24 c25 c26 c27 c28 c29 c30 c31 c32 c33 c34 c35 c36 c37 c38 c39 c40 c41 c42 c43 c44 c45 c46 c47 c48 c49 c50 c51 c52 c53 c54 c55 c56 c57 c58 c59 c60 c61 c62:Value) (Q:Exit->Act->World->Prop)
  (hq:∀(u6 u50 u51 u52 u53 u54 u55 u56 u57 u58 u59 u60 u61 u62:Value) (w':World),Kv s cb gb ob qb N w' ⟨cnt,ord,pre,least⟩ (.slice (some ⟨g,0,none⟩) pre.length pc)->Below s W w'->Q .normal ⟨List.toArray (.pointer (some ⟨cb,0,none⟩)::c1::c2::c3::.slice (some ⟨g,pre.length,none⟩) (ext.length+1) (pc-pre.length)::c5::u6::c7::c8::c9::c10::c11::c12::c13::c14::c15::c16::c17::c18::c19::c20::c21::c22::c23::c24::c25::c26::c27::c28::c29::c30::c31::c32::c33::c34::c35::c36::c37::c38::c39::c40::c41::c42::c43::c44::c45::c46::c47::c48::c49::u50::u51::u52::u53::u54::u55::u56::u57::u58::u59::u60::u61::u62::[]),[]⟩ w')
  (I:A34 s cb ob qb) (_hN:N<=6000) (hel:ext.length<=6000) (hin:∀y∈a::ext,y<N) (hnd:∀y∈a::ext,y∉pre) (hg:s+3<=g)
  (B1:Blk W cb #[.slice (some ⟨gb,0,none⟩) N N,.int .i64 cnt,.slice (some ⟨ob,0,none⟩) N N,.slice (some ⟨g,0,none⟩) pre.length pc,.slice (some ⟨qb,0,none⟩) N N,.int .i64 least] 417) (O1:Blk W ob (G7 ord) 3) (Q1:Blk W qb (Ci (Iz N fun v=>decide (v∈pre++a::ext))) 4) (T1:W.ownsRow (s+3) 3 1 (.slice (some ⟨g,0,none⟩) pre.length pc) pre.length (Bj (zs pre))) (G1:∀j y:Nat,(a::ext)[j]?=some y->W.cell? ⟨g,pre.length+j,none⟩=some (.int .i64 y)) :
  Code.wp prog pcCl Q ⟨List.toArray (.pointer (some ⟨cb,0,none⟩)::c1::c2::c3::.slice (some ⟨g,pre.length,none⟩) (ext.length+1) (pc-pre.length)::c5::c6::c7::c8::c9::c10::c11::c12::c13::c14::c15::c16::c17::c18::c19::c20::c21::c22::c23::c24::c25::c26::c27::c28::c29::c30::c31::c32::c33::c34::c35::c36::c37::c38::c39::c40::c41::c42::c43::c44::c45::c46::c47::c48::c49::c50::c51::c52::c53::c54::c55::c56::c57::c58::c59::c60::c61::c62::[]),[]⟩ W:=by
 conv=>arg 2;whnf
 have HQ:Hid _:=hq;have HIN:Hid _:=hin;have HND:Hid _:=hnd;have HG1:Hid _:=G1;have hgq:¬g=qb:=by have:=I.q2;omega
 have hcq:¬cb=qb:=I.cq;rw[J2 (Q:=opk pre ext a 0) (fun v _=>A47 pre ext a v)]at Q1;clear hq hin hnd G1;go_wp2;go_loopg [52] (ext.length+2) (fun gk y wr=>∃k:Nat,k<=ext.length+1/\y=.int .i64 k/\Hid (ext.length+2-k<=gk)/\Hid (∀b,b≠qb->wr.heap[b]?=W.heap[b]?)/\Hid (Below s W wr)/\Blk wr qb (Ci (Iz N (opk pre ext a k))) 4);case atStart=>exact⟨0,yE _,rfl,yB _,fun b _=>rfl,yA _ _,Q1⟩
 case round=>
  obtain⟨k,hk,rfl,HG,HB,HS,Q2⟩:=hrel;clear Q1;have B2:Blk wr cb #[.slice (some ⟨gb,0,none⟩) N N,.int .i64 cnt,.slice (some ⟨ob,0,none⟩) N N,.slice (some ⟨g,0,none⟩) pre.length pc,.slice (some ⟨qb,0,none⟩) N N,.int .i64 least] 417:=(HB.out cb hcq).trans B1;by_cases hkl:k<ext.length+1
  ·obtain⟨y,hy⟩:=Ah (show k<(a::ext).length by simp;omega);have g2:wr.cell? ⟨g,pre.length+k,none⟩=some (.int .i64 y):=(yX (w:=W) (a:=⟨g,pre.length+k,none⟩) (HB.out g hgq)).trans (HG1.out k y hy);have hyN:=HIN.out y (yH hy);have b2:=B2.cell;have q2:=(Q2.cell y).trans (Cs (by rw[Ri];exact hyN));have qf:=Q2.frozen y;have Q3:=Q2.set y (.bool false);rw[Ew,Zm,J2 (fun v _=>A6a hy HND.out v)]at Q3;have HG2:Hid (ext.length+2-(k+1)<=gk-1/\gk-1<gk):=by have:=HG.out;show _/\_;omega
   have HB3:Hid (∀b,b≠qb->(wr.setCell ⟨qb,y,none⟩ (.bool false)).heap[b]?=W.heap[b]?):=fun b hb=>(yL _ _ _ _ hb).trans (HB.out b hb);have HS3:Hid (Below s W (wr.setCell ⟨qb,y,none⟩ (.bool false))):=HS.out.setCell (by dsimp only;exact I.q1) _;have HQ3:Hid (Blk (wr.setCell ⟨qb,y,none⟩ (.bool false)) qb (Ci (Iz N (opk pre ext a (k+1)))) 4):=Q3;have k1:(k:Int)<(ext.length:Int)+1:=by omega
   have k2:(y:Int)<N:=by omega
   clear HG HB Q2 Q3 hy B2;go_wp2;go_roundg (gk-1);case measure=>exact HG2.out.2
   case rel=>exact⟨k+1,by omega,by go_num,HG2.out.1,HB3.out,HS3.out,HQ3.out⟩
  ·obtain rfl:k=ext.length+1:=by omega
   have k1:¬((ext.length:Int)+1)<(ext.length:Int)+1:=by omega
   rw[J2 (fun v _=>A8g v)]at Q2;have HC:Hid (Kv s cb gb ob qb N wr ⟨cnt,ord,pre,least⟩ (.slice (some ⟨g,0,none⟩) pre.length pc)):=⟨B2,(HB.out ob I.oq).trans O1,Q2,Ae T1 (fun b hb=>HB.out b (fun e2=>hgq (by have e:b=g:=(by simpa[Value.ownBlock]using hb.symm);omega)))⟩;have HBl:Hid (Below s W wr):=HS.out;clear HG;go_wp2_with fail;exact HQ.out _ _ _ _ _ _ _ _ _ _ _ _ _ _ _ HC.out HBl.out
end Go.Proofs.YtbefeflgjipfhaaGreatDoor
namespace Go.Proofs.YtbefeflgjipfhaaGreatDoor
open Go.Deep Go.Proofs.Tryz Go.RowKit
theorem Tryz.guard_und:prog.underlying 399=some (.struct (prog.fieldsOf 399)):=by kernel_rfl
theorem Tryz.guard_held:prog.stoodInHeld 399=false:=by kernel_rfl
theorem Tryz.guard_eqg:prog.eqGuardType prog.depth 399=false:=by kernel_rfl
theorem Ko (x y:Operand) (xs ys:Array Value) (w:World):(eqGuard .neq 399 x y (.agg xs) (.agg ys)).run prog w=.ok () w:=run_eqGuard_agg w .neq _ x y xs ys Tryz.guard_eqg
theorem Tryz.guard_fields:(prog.fieldsOf 399).toList.map (fun f=>(f.name== "_",f.type,f.offset))=[(false,4,0),(false,3,1),(false,3,2)]:=by kernel_rfl
theorem Kr (a0 b0:Bool) (a1 a2 b1 b2:Int) (w:World):(binOp .neq 399 (.agg #[.bool a0,.int .i64 a1,.int .i64 a2]) (.agg #[.bool b0,.int .i64 b1,.int .i64 b2])).run prog w=.ok (.bool (!(a0==b0&&(a1==b1&&a2==b2)))) w:=by
 rw[run_neq_struct,run_equalIn_struct w 9999 _ _ _ Tryz.guard_und Tryz.guard_held];have hf:=Tryz.guard_fields;generalize (prog.fieldsOf 399).toList=fs at hf;obtain⟨⟨n0,t0,o0,e0,g0,p0,y0⟩,r0,rfl,h0,hf⟩:=List.map_eq_cons_iff.1 hf;obtain⟨⟨n1,t1,o1,e1,g1,p1,y1⟩,r1,rfl,h1,hf⟩:=List.map_eq_cons_iff.1 hf;obtain⟨⟨n2,t2,o2,e2,g2,p2,y2⟩,r2,rfl,h2,hf⟩:=List.map_eq_cons_iff.1 hf;obtain rfl:=List.map_eq_nil_iff.1 hf;simp only[Prod.mk.injEq]at h0 h1 h2;obtain⟨h0,rfl,rfl⟩:=h0;obtain⟨h1,rfl,rfl⟩:=h1;obtain⟨h2,rfl,rfl⟩:=h2;have i0:¬n0 = "_" :=by simpa using h0
 have i1:¬n1 = "_" :=by simpa using h1
 have i2:¬n2 = "_" :=by simpa using h2
 simp[go_sem,part,i0,i1,i2];by_cases z0:a0=b0<;>by_cases z1:a1=b1<;>by_cases z2:a2=b2<;>simp[z0,z1,z2]
attribute [local go_sem] Ko Kr
theorem Mm {α:Type} {a b:List α} {k:Nat} {x y:α} (hx:a[k]?=some x) (hy:b[k]?=some y):(a.drop k=b.drop k) ↔ (x=y/\a.drop (k+1)=b.drop (k+1)):=by rw[Bg hx,Bg hy,List.cons.injEq]
end Go.Proofs.YtbefeflgjipfhaaGreatDoor
namespace Go.Proofs.YtbefeflgjipfhaaGreatDoor
open Go.Deep Go.Proofs.Tryz Go.RowKit
theorem A4u (n:Nd) (w:World):Kw 328 #[n.val] w (.bool (Oz n)):=by
 have hb1:∀o,Below w.heap.size w (w.alloc o):=fun o=>(yA _ _).alloc (yB _) o;obtain⟨op,a,b,c,d⟩:=n;dsimp only[Nd.val,Oz];by_cases h1:op=1
 ·subst h1;(try unfold Kw);go_in;go_wp2;go_ret;exact⟨rfl,hb1 _⟩
 by_cases h3:op=3
 ·subst h3;(try unfold Kw);go_in;go_wp2;go_ret;exact⟨rfl,hb1 _⟩
 by_cases h28:op=28
 ·subst h28;(try unfold Kw);go_in;go_wp2;go_ret;exact⟨rfl,hb1 _⟩
 have t1:(op==1)=false:=by simpa using h1
 have t3:(op==3)=false:=by simpa using h3
 have t28:(op==28)=false:=by simpa using h28
 clear h1 h3 h28;by_cases h18:op=18
 ·subst h18;(try unfold Kw);go_in;go_wp2;go_ret;exact⟨Ac (by simp),hb1 _⟩
 ·have t18:(op==18)=false:=by simpa using h18
  clear h18;(try unfold Kw);go_in;go_wp2;go_ret;exact⟨Ac (by simp[t1,t3,t28,t18]),hb1 _⟩
theorem Xg (to uo:Option Addr) (tc uc:Nat) (ts:List Int) (us:List Ud) (w:World) (hul:us.length<=1048576) (hu:∀u∈us,u.loc=true->0<=u.idx/\u.idx<ts.length) (ht:Cv 0 w to ts) (hx:Lx 0 w uo us) :
  Kw 320 #[.slice to ts.length tc,.slice uo us.length uc] w (.bool (Bh ts us)):=by
 have HU:Hid _:=hu;clear hu;(try unfold Kw);go_in;go_wp2;go_loopw [9] (fun y wr=>∃k:Nat,k<=us.length/\y=.int .i64 k/\Hid (Bh ts (us.drop k)=Bh ts us)/\Below w.heap.size w wr) (fun y _=>us.length-(intOf y).toNat);case atStart=>exact⟨0,yE _,rfl,rfl,yA _ _⟩
 case round=>
  obtain⟨k,hk,rfl,HQ,hb⟩:=hrel;by_cases hkl:k<us.length
  ·obtain⟨u,huk⟩:=Ah hkl;obtain⟨b,off,rfl,_,hbl,u0,u1⟩:=hx.l (Ad.o hb) k u huk;have HD:Hid (Bh ts us=(!(u.loc&&decide (D7 ts u.idx≠2))&&Bh ts (us.drop (k+1)))):=by show _=_;rw[←HQ.out,Bg huk];rfl
   have HUU:Hid _:=HU.out u (yH huk);have hba:∀o,Below w.heap.size w (wr.alloc o):=fun o=>hb.alloc hb.size o;obtain⟨ul,ui⟩:=u;dsimp only at *;clear huk HQ;cases ul
   ·have HN:Hid (Bh ts (us.drop (k+1))=Bh ts us):=by show _=_;rw[HD.out];rfl
    clear HD HUU;go_wp2;go_roundw;case rel=>exact⟨k+1,by omega,by go_num,HN.out,hba _⟩
    case measure=>simp[intOf];omega
   ·obtain⟨hu1,hu2⟩:=HUU.out rfl;obtain⟨q,rfl⟩:=yN hu1;obtain⟨ty,hty⟩:=Ah (show q<ts.length by omega);obtain⟨tb,tof,rfl,_,htb,t0⟩:=ht.l (Ad.o hb) q ty hty;unfold Jb at t0;rw[Nat.mul_one]at t0;have HTY:Hid (D7 ts (q:Int)=ty):=by show _=_;unfold D7;simp[hty]
    clear hty HUU hu1;by_cases ht2:ty=2
    ·subst ht2;have HN:Hid (Bh ts (us.drop (k+1))=Bh ts us):=by show _=_;rw[HD.out,HTY.out];rfl
     clear HD HTY;go_wp2;go_roundw;case rel=>exact⟨k+1,by omega,by go_num,HN.out,hba _⟩
     case measure=>simp[intOf];omega
    ·have HN:Hid (Bh ts us=false):=by show _=_;rw[HD.out,HTY.out];simp[ht2]
     have k5:(ty !=2)=true:=by simpa using ht2
     clear HD HTY ht2;go_wp2;go_ret;exact⟨Ac HN.out.symm,hba _⟩
  ·have HN:Hid (Bh ts us=true):=by have h:=HQ.out;rw[yQ (by omega)]at h;exact h.symm
   clear HQ;go_wp2;go_ret;exact⟨Ac HN.out.symm,hb⟩
theorem Mr (o1 o2:Option Addr) (c1 c2:Nat) (t1 t2:List Int) (w:World) (l1:t1.length<=1048576) (h1:Cv 0 w o1 t1) (h2:Cv 0 w o2 t2) :
  Kw 315 #[.slice o1 t1.length c1,.slice o2 t2.length c2] w (.bool (decide (t1=t2))):=by
 (try unfold Kw);go_in;by_cases e1:t1.length=t2.length;rotate_left
 ·have k1:((t1.length:Int) !=t2.length)=true:=by simp;omega
  have HN:Hid (¬t1=t2):=fun h=>e1 (by rw[h]);clear e1;go_wp2;go_ret;exact⟨Ac (by simp[HN.out]),yA _ _⟩
 ·have k1:((t1.length:Int) !=t2.length)=false:=by simp;omega
  have E1:Hid (t1.length=t2.length):=e1;clear e1;go_wp2;go_loopw [13] (fun y wr=>∃k:Nat,k<=t1.length/\y=.int .i64 k/\Hid ((t1=t2) ↔ (t1.drop k=t2.drop k))/\Below w.heap.size w wr) (fun y _=>t1.length-(intOf y).toNat);case atStart=>exact⟨0,yE _,rfl,Iff.rfl,yA _ _⟩
  case round=>
   obtain⟨k,hk,rfl,HQ,hb⟩:=hrel;by_cases hkl:k<t1.length
   ·obtain⟨x,hxk⟩:=Ah hkl;have hkl2:k<t2.length:=by rw[←E1.out];exact hkl
    obtain⟨y,hyk⟩:=Ah hkl2;obtain⟨b,off,rfl,_,hbl,q0⟩:=h1.l (Ad.o hb) k x hxk;obtain⟨b',off',rfl,_,hbl',q1⟩:=h2.l (Ad.o hb) k y hyk;have HD:Hid ((t1=t2) ↔ (x=y/\t1.drop (k+1)=t2.drop (k+1))):=HQ.out.trans (Mm hxk hyk);unfold Jb at q0 q1;rw[Nat.mul_one]at q0 q1;have k3:(k:Int)<t2.length:=by omega
    clear HQ h1 h2 hxk hyk;by_cases hxy:x=y
    ·subst hxy;have HN:Hid ((t1=t2) ↔ t1.drop (k+1)=t2.drop (k+1)):=by show _ ↔ _;rw[HD.out];exact⟨fun h=>h.2,fun h=>⟨rfl,h⟩⟩
     clear HD;go_wp2_with fail;go_quiet (fail);go_wp2;go_roundw;case rel=>exact⟨k+1,by omega,by go_num,HN.out,below_drewN hb _⟩
     case measure=>simp[intOf];omega
    ·have k4:(x !=y)=true:=by simpa using hxy
     have HN:Hid (¬t1=t2):=fun h=>hxy (HD.out.1 h).1;clear HD hxy;go_wp2_with fail;go_quiet (fail);go_wp2;go_ret;exact⟨Ac (by simp[HN.out]),below_drewN hb _⟩
   ·have HT:Hid (t1=t2):=by show _=_;rw[HQ.out,yQ (by omega),yQ (by rw[←E1.out];omega)]
    clear HQ;go_wp2;go_ret;exact⟨Ac (by simp[HT.out]),hb⟩
def Lg (x:Int):List Int->Nat->Int
 | [],_=>-1
 | y::r,k=>if x=y then k else Lg x r (k+1)
theorem A2g (x:Int):∀(l:List Int) (k:Nat),(0<=Lg x l k) ↔ x∈l
 | [],_=>by simp[Lg]
 | y::r,k=>by
  unfold Lg;by_cases h:x=y
  ·simp[h]
  ·rw[if_neg h,A2g x r (k+1)];simp[h]
theorem Vo (o:Option Addr) (c:Nat) (xs:List Int) (x:Int) (w:World) (hl:xs.length<=1048576) (hx:Cv 0 w o xs) :
  Kw 403 #[.slice o xs.length c,.int .i64 x] w (.int .i64 (Lg x xs 0)):=by
 (try unfold Kw);go_in;go_wp2;go_loopw [8] (fun y wr=>∃k:Nat,k<=xs.length/\y=.int .i64 k/\Hid (Lg x (xs.drop k) k=Lg x xs 0)/\Below w.heap.size w wr) (fun y _=>xs.length-(intOf y).toNat);case atStart=>exact⟨0,yE _,rfl,rfl,yA _ _⟩
 case round=>
  obtain⟨k,hk,rfl,HQ,hb⟩:=hrel;by_cases hkl:k<xs.length
  ·obtain⟨y,hyk⟩:=Ah hkl;obtain⟨b,off,rfl,_,hbl,q0⟩:=hx.l (Ad.o hb) k y hyk;unfold Jb at q0;rw[Nat.mul_one]at q0;have HD:Hid (Lg x xs 0=if x=y then (k:Int) else Lg x (xs.drop (k+1)) (k+1)):=by show _=_;rw[←HQ.out,Bg hyk];rfl
   clear hyk HQ;by_cases hxy:x=y
   ·subst hxy;have HN:Hid (Lg x xs 0=(k:Int)):=by show _=_;rw[HD.out,if_pos rfl]
    clear HD;go_wp2;go_ret;exact⟨Cr HN.out.symm,hb⟩
   ·have k4:(x==y)=false:=by simpa using hxy
    have HN:Hid (Lg x (xs.drop (k+1)) (k+1)=Lg x xs 0):=by show _=_;rw[HD.out,if_neg hxy]
    clear HD hxy;go_wp2;go_roundw;case rel=>exact⟨k+1,by omega,by go_num,HN.out,hb⟩
    case measure=>simp[intOf];omega
  ·have HN:Hid (Lg x xs 0 = -1):=by have h:=HQ.out;rw[yQ (by omega)]at h;exact h.symm
   clear HQ;go_wp2;go_ret;exact⟨Cr HN.out.symm,hb⟩
theorem J9 (o:Option Addr) (c:Nat) (xs:List Int) (x:Int) (w:World) (hl:xs.length<=1048576) (hx:Cv 0 w o xs) :
  Kw 393 #[.slice o xs.length c,.int .i64 x] w (.bool (decide (x∈xs))):=by
 have HI:Hid (decide (x∈xs)=decide (0<=Lg x xs 0)):=by show _=_;rw[Bool.eq_iff_iff,decide_eq_true_iff,decide_eq_true_iff];exact(A2g x xs 0).symm
 have HC:Hid _:=fun (W:World) (h:Cv 0 W o xs)=>Vo o c xs x W hl h;(try unfold Kw);go_in;go_wp2_with fail;refine(HC.out _ hx).mono ?_;rintro e w1 ⟨rfl,hw1⟩;generalize Lg x xs 0=ix at *;go_wp2;go_ret;exact⟨Ac HI.out.symm,hw1⟩
end Go.Proofs.YtbefeflgjipfhaaGreatDoor
