import Derived.Test.YtgopdffmnikhdaaGreatDoorT06
import Derived.Test.YtgopdffmnikhdaaGreatDoorT05
import Derived.Test.YtgopdffmnikhdaaGreatDoorT22
import Derived.Maps.AppendAt
import Derived.Test.YtgopdffmnikhdaaGreatDoorT01
import Derived.Deep.LoopGhost
import Derived.Laws.FloatArith
import Derived.Laws.StructEq
import Derived.Lib.SliceRun
import Derived.Lib.Walk
import Derived.ArgAppend
import Derived.Deep.Cut
import Derived.Deep.MidRow
import Derived.Deep.RegionLaw
import Derived.Test.YtgopdffmnikhdaaGreatDoorT23
namespace Go.Proofs.YtgopdffmnikhdaaGreatDoor
open Go.RowKit Go.Deep
def wantsR (r:Nat):Int × Bool:=
 match r with
 | 2=>(1,true)
 | 3=>(3,true)
 | 4=>(1,false)
 | 18=>(1,false)
 | 19=>(1,false)
 | 20=>(1,false)
 | 5=>(2,false)
 | 6=>(3,false)
 | _=>(0,false)
def aboveB (gs:List Gd) (keep:Int):Bool:=gs.all fun g=>!(g.tr && decide (keep<g.keep))
theorem aboveB_drop {gs:List Gd} {k:Nat} {g:Gd} {keep:Int} (h:gs[k]?=some g):aboveB (gs.drop k) keep=(!(g.tr && decide (keep<g.keep)) && aboveB (gs.drop (k+1)) keep):=by
 rw [drop_some h];rfl
structure St where
 types:List Int
 guards:List Gd
 deriving DecidableEq
structure Rd where
 types:List Int
 stay:List Int
 taken:List Int
def tyAt (ts:List Int) (x:Int):Int:=ts.getD x.toNat 0
def rdOp (want x:Int) (s:Rd):Option Rd:=
 if tyAt s.types (regOf x)=want then
  if x<0 then (if regOf x ∈ s.stay then none else some ⟨s.types.set (regOf x).toNat 0,s.stay,s.taken ++ [regOf x]⟩) else some s
 else none
def rdPlace (want x:Int) (s:Rd):Option Rd:=if tyAt s.types x=want then some ⟨s.types,s.stay ++ [x],s.taken⟩ else none
def rdS (r:Nat) (x:Int) (s:Rd):Option Rd:=
 match r with
 | 2=>rdOp 1 x s
 | 3=>rdOp 3 x s
 | 4=>rdPlace 1 x s
 | 5=>rdPlace 2 x s
 | 6=>rdPlace 3 x s
 | 18=>if tyAt s.types x=1∧tyAt s.types (x+1)=1∧tyAt s.types (x+2)=1 then some ⟨s.types,s.stay ++ [x],s.taken⟩ else none
 | 19=>if tyAt s.types x=1∧tyAt s.types (x+1)=0 then some ⟨s.types,s.stay ++ [x],s.taken ++ [x]⟩ else none
 | 20=>if tyAt s.types x=1∧tyAt s.types (x+1)=1 then some ⟨s.types,s.stay ++ [x],s.taken⟩ else none
 | _=>some s
def rdsS:List Nat→List Int→Rd→Option Rd
 | r::rs,x::xs,s=>(rdS r x s).bind (rdsS rs xs)
 | _,_,s=>some s
def upsBoxedB (ts:List Int) (us:List Ud):Bool:=us.all fun u=>!(u.loc && decide (tyAt ts u.idx≠2))
def fnUps (ps:List Pd) (n:Nd):List Ud:=if n.op=11 then (match ps[n.b.toNat]? with | some q=>q.ups | none=>[]) else []
def readF (ps:List Pd) (n:Nd) (ts:List Int):Option (List Int × List Int):=
 match rdsS (rolesOf n.op.toNat) n.fs ⟨ts,[],[]⟩ with
 | none=>none
 | some r=>if upsBoxedB r.types (fnUps ps n) then some (r.types,r.taken) else none
def lastTr (gs:List Gd):Option Bool:=gs.getLast?.map Gd.tr
def keepLast (gs:List Gd) (k:Int):List Gd:=gs.modify (gs.length - 1) fun g=>⟨g.tr,k,g.hd⟩
def changeF (n:Nd) (gs:List Gd):Option (List Gd):=
 if n.op=31 then (if decide (gs.length<50) && aboveB gs n.b then some (gs ++ [⟨true,n.b,n.a⟩]) else none)
 else if n.op=33 then (if decide (gs.length<50) && aboveB gs n.a then some (gs ++ [⟨false,n.a,0⟩]) else none)
 else if n.op=32 then (if lastTr gs=some true then some gs.dropLast else none)
 else if n.op=34 then (if lastTr gs=some false∧aboveB gs n.a=true then some (keepLast gs n.a) else none)
 else if n.op=35 then (if lastTr gs=some false then some gs else none)
 else if n.op=36 then (if lastTr gs=some false then some gs.dropLast else none)
 else some gs
def sameBelow (k:Int) (b a:List Int):Bool:=decide (b.take k.toNat=a.take k.toNat)
def notBelow (k:Int) (taken:List Int):Bool:=taken.all fun x=>!decide (x<k)
def keptL (e:Bool) (taken b a:List Int):List Gd→Bool
 | []=>true
 | g::r=>(!g.tr || (notBelow g.keep taken && ((e && r.isEmpty) || sameBelow g.keep b a))) && keptL e taken b a r
def keptF (n:Nd) (gs:List Gd) (taken b a:List Int):Bool:=keptL (n.op == 32) taken b a gs
def tryT (k:Int) (ts:List Int):List Int:=((ts.take k.toNat ++ List.replicate (ts.length - k.toNat) 0).set k.toNat 1).set (k.toNat+1) 1
def goF (n:Nd) (s:St) (ts:List Int) (gs:List Gd):List (Nat × St):=
 if n.op=19 then [(n.a.toNat,⟨ts,gs⟩)]
 else if n.op=20∨n.op=21∨n.op=38∨n.op=39 then [(n.b.toNat,⟨ts,gs⟩)]
 else if n.op=41 then [(n.b.toNat,⟨ts.set n.c.toNat (tyAt s.types n.c),gs⟩)]
 else if n.op=31 then [(n.a.toNat,⟨tryT n.b s.types,s.guards⟩)]
 else []
def folF (n:Nd) (at_:Nat) (s:St) (ts:List Int) (gs:List Gd):List (Nat × St):=(if nextB n then [(at_+1,⟨ts,gs⟩)] else []) ++ goF n s ts gs
inductive Out where
 | bad (code:Nat)
 | go (l:List (Nat × St))
def stepF (ps:List Pd) (n:Nd) (at_:Nat) (s:St):Out:=
 match readF ps n s.types with
 | none=>.bad 10
 | some (t1,tk)=>match changeF n s.guards with
  | none=>.bad 11
  | some gs=>if keptF n s.guards tk s.types (writeT n t1) then .go (folF n at_ s (writeT n t1) gs) else .bad 12
structure Cf where
 sts:List (Option St)
 due:List Bool
def Cf.st (c:Cf) (i:Nat):Option St:=c.sts.getD i none
def reachF (c:Cf) (x:Nat) (s:St):Option Cf:=
 match c.st x with
 | none=>some ⟨c.sts.set x (some s),c.due.set x true⟩
 | some t=>if t=s then some c else none
def followF:Cf→List (Nat × St)→Except (Nat × Nat) Cf
 | c,[]=>.ok c
 | c,(x,s)::r=>match reachF c x s with
  | none=>.error (13,x)
  | some c'=>followF c' r
def leastDue (due:List Bool):Option Nat:=due.findIdx? id
def roundF (ps:List Pd) (p:Pd) (c:Cf) (at_:Nat):Except (Nat × Nat) Cf:=
 match p.ins[at_]?,c.st at_ with
 | some n,some s=>match stepF ps n at_ s with
  | .bad k=>.error (k,at_)
  | .go l=>followF ⟨c.sts,c.due.set at_ false⟩ l
 | _,_=>.ok ⟨c.sts,c.due.set at_ false⟩
def walkF (ps:List Pd) (p:Pd):Nat→Cf→Except (Nat × Nat) Cf
 | 0,c=>.ok c
 | f+1,c=>match leastDue c.due with
  | none=>.ok c
  | some i=>match roundF ps p c i with
   | .error e=>.error e
   | .ok c'=>walkF ps p f c'
def firstT (p:Pd):List Int:=
 let ts:=List.replicate p.params.toNat 1 ++ List.replicate (p.regs.toNat - p.params.toNat) 0
 if p.rest then ts.set p.params.toNat 3 else ts
def startC (p:Pd):Cf:=⟨(List.replicate p.ins.length none).set 0 (some ⟨firstT p,[]⟩),(List.replicate p.ins.length false).set 0 true⟩
structure StOk (p:Pd) (s:St):Prop where
 len:(s.types.length:Int)=p.regs
 few:s.guards.length≤50
 keep:∀g ∈ s.guards,0≤g.keep∧g.keep≤p.regs
def silL (n:Nd) (at_:Nat):List Nat:=
 if n.op=1∨n.op=3∨n.op=28∨n.op=29∨n.op=30 then []
 else if n.op=18∧n.b=12 then []
 else if n.op=19 then [n.a.toNat]
 else if n.op=41 then [n.b.toNat]
 else if n.op=20∨n.op=21∨n.op=38∨n.op=39 then [n.b.toNat,at_+1]
 else if n.op=31 then [n.a.toNat,at_+1]
 else [at_+1]
structure PFit (np:Nat) (p:Pd):Prop where
 regs:0≤p.regs∧p.regs≤250
 fit:∀(i:Nat) (n:Nd),p.ins[i]?=some n→InsFit np p n
 next:∀(i:Nat) (n:Nd),p.ins[i]?=some n→nextB n=true→i+1<p.ins.length
 some:0<p.ins.length
 params:0≤p.params∧p.params≤p.regs∧(p.rest=true→p.params<p.regs)
structure CfOk (p:Pd) (c:Cf):Prop where
 lenS:c.sts.length=p.ins.length
 lenD:c.due.length=p.ins.length
 ok:∀i s,c.st i=some s→StOk p s
 due:∀i,c.due.getD i false=true→(c.st i).isSome=true
def Closed (p:Pd) (c:Cf) (but:Option Nat):Prop:=∀i n,p.ins[i]?=some n→(c.st i).isSome=true→c.due.getD i false=false→some i≠but→∀j ∈ silL n i,(c.st j).isSome=true
theorem st_set (c:Cf) (x i:Nat) (s:St) (d:List Bool):(Cf.mk (c.sts.set x (some s)) d).st i=if x=i∧x<c.sts.length then some s else c.st i:=by
 unfold Cf.st
 simp only [List.getD_eq_getElem?_getD,List.getElem?_set]
 by_cases h:x=i
 ·subst h
  by_cases h2:x<c.sts.length
  ·simp [h2]
  ·simp [h2]
 ·simp [h]
theorem due_set (d:List Bool) (x i:Nat) (b:Bool):(d.set x b).getD i false=if x=i∧x<d.length then b else d.getD i false:=by
 simp only [List.getD_eq_getElem?_getD,List.getElem?_set]
 by_cases h:x=i
 ·subst h
  by_cases h2:x<d.length
  ·simp [h2]
  ·simp [h2]
 ·simp [h]
def unseen (l:List (Option St)):Nat:=(l.filter fun o=>o.isNone).length
def dues (l:List Bool):Nat:=(l.filter id).length
def Cf.meas (c:Cf):Nat:=2 * unseen c.sts+dues c.due
theorem unseen_set {l:List (Option St)} {x:Nat} {s:St} (hx:x<l.length) (hn:l.getD x none=none):unseen (l.set x (some s))+1=unseen l:=by
 induction l generalizing x with
 | nil=>simp at hx
 | cons a r ih=>
  cases x with
  | zero=>simp at hn;subst hn;simp [unseen]
  | succ x=>
   simp at hx hn
   have:=ih (x:=x) hx (by simpa using hn)
   cases a <;> simp [unseen] at * <;> omega
theorem dues_true {l:List Bool} {x:Nat} : dues (l.set x true)≤dues l+1:=by
 induction l generalizing x with
 | nil=>simp [dues]
 | cons a r ih=>
  cases x with
  | zero=>cases a <;> simp [dues]
  | succ x=>
   have:=ih (x:=x)
   cases a <;> simp [dues] at * <;> omega
theorem dues_false {l:List Bool} {x:Nat} (h:l.getD x false=true):dues (l.set x false)+1=dues l:=by
 induction l generalizing x with
 | nil=>simp at h
 | cons a r ih=>
  cases x with
  | zero=>simp at h;subst h;simp [dues]
  | succ x=>
   have:=ih (x:=x) (by simpa using h)
   cases a <;> simp [dues] at * <;> omega
theorem reach_meas {p:Pd} {c c':Cf} {x:Nat} {s:St} (hc:CfOk p c) (hx:x<p.ins.length) (h:reachF c x s=some c'):c'.meas≤c.meas:=by
 unfold reachF at h
 split at h
 ·rename_i hn
  obtain rfl:=Option.some.inj h
  have:=unseen_set (s:=s) (by rw [hc.lenS];exact hx) hn
  have:=@dues_true c.due x
  unfold Cf.meas
  dsimp only
  omega
 ·split at h
  ·obtain rfl:=Option.some.inj h;exact Nat.le_refl _
  ·cases h
theorem reach_ok {p:Pd} {c c':Cf} {x:Nat} {s:St} (hc:CfOk p c) (hs:StOk p s) (h:reachF c x s=some c'):CfOk p c':=by
 unfold reachF at h
 split at h
 ·obtain rfl:=Option.some.inj h
  refine⟨by simp [hc.lenS],by simp [hc.lenD],?_,?_⟩
  ·intro i t hi
   rw [st_set] at hi
   split at hi
   ·obtain rfl:=Option.some.inj hi;exact hs
   ·exact hc.ok i t hi
  ·intro i hi
   rw [st_set]
   rw [due_set] at hi
   split
   ·rfl
   ·rename_i hn
    rw [if_neg (by rw [hc.lenD,←hc.lenS];exact hn)] at hi
    exact hc.due i hi
 ·split at h
  ·obtain rfl:=Option.some.inj h;exact hc
  ·cases h
theorem reach_closed {p:Pd} {c c':Cf} {x:Nat} {s:St} {but:Option Nat} (hc:CfOk p c) (hx:x<p.ins.length) (hk:Closed p c but) (h:reachF c x s=some c') :
  Closed p c' but∧(c'.st x).isSome=true∧∀i,(c.st i).isSome=true→(c'.st i).isSome=true:=by
 unfold reachF at h
 split at h
 ·obtain rfl:=Option.some.inj h
  have hx2:x<c.sts.length:=by rw [hc.lenS];exact hx
  have hm:∀i,(c.st i).isSome=true→((Cf.mk (c.sts.set x (some s)) (c.due.set x true)).st i).isSome=true:=by
   intro i hi
   rw [st_set]
   split
   ·rfl
   ·exact hi
  refine⟨?_,by rw [st_set];simp [hx2],hm⟩
  intro i n hn hi hd hb j hj
  rw [due_set] at hd
  rw [st_set] at hi
  by_cases hxi:x=i∧x<c.sts.length
  ·rw [if_pos (by rw [hc.lenD];exact ⟨hxi.1,hx⟩)] at hd
   cases hd
  ·rw [if_neg hxi] at hi
   rw [if_neg (by rw [hc.lenD,←hc.lenS];exact hxi)] at hd
   exact hm j (hk i n hn hi hd hb j hj)
 ·rename_i t ht
  split at h
  ·obtain rfl:=Option.some.inj h
   exact⟨hk,by rw [ht];rfl,fun i hi=>hi⟩
  ·cases h
def FolOk (p:Pd) (l:List (Nat × St)):Prop:=∀x ∈ l,x.1<p.ins.length∧StOk p x.2
theorem follow_ok {p:Pd} {but:Option Nat} : ∀{l:List (Nat × St)} {c c':Cf},CfOk p c→FolOk p l→Closed p c but→followF c l=.ok c'→
  CfOk p c'∧c'.meas≤c.meas∧Closed p c' but∧(∀x ∈ l,(c'.st x.1).isSome=true)∧∀i,(c.st i).isSome=true→(c'.st i).isSome=true
 | [],c,c',hc,_,hk,h=>by
  unfold followF at h
  obtain rfl:=Except.ok.inj h
  exact⟨hc,Nat.le_refl _,hk,fun x hx=>by simp at hx,fun i hi=>hi⟩
 | (x,s)::r,c,c',hc,hf,hk,h=>by
  unfold followF at h
  cases hr:reachF c x s with
  | none=>rw [hr] at h;cases h
  | some c1=>
   rw [hr] at h
   have hx:=hf (x,s) (by simp)
   obtain⟨k1,k2,k3⟩:=reach_closed hc hx.1 hk hr
   obtain⟨o1,o2,o3,o4,o5⟩:=follow_ok (reach_ok hc hx.2 hr) (fun y hy=>hf y (by simp [hy])) k1 h
   refine⟨o1,Nat.le_trans o2 (reach_meas hc hx.1 hr),o3,?_,fun i hi=>o5 i (k3 i hi)⟩
   intro y hy
   rcases List.mem_cons.1 hy with rfl | hy
   ·exact o5 _ k2
   ·exact o4 y hy
theorem rdS_len {r:Nat} {x:Int} {s s':Rd} (h:rdS r x s=some s'):s'.types.length=s.types.length:=by
 unfold rdS at h
 have hop:∀w,rdOp w x s=some s'→s'.types.length=s.types.length:=by
  intro w h
  unfold rdOp at h
  split at h
  ·split at h
   ·split at h
    ·cases h
    ·obtain rfl:=Option.some.inj h;simp
   ·obtain rfl:=Option.some.inj h;rfl
  ·cases h
 have hpl:∀w,rdPlace w x s=some s'→s'.types.length=s.types.length:=by
  intro w h
  unfold rdPlace at h
  split at h
  ·obtain rfl:=Option.some.inj h;rfl
  ·cases h
 split at h
 ·exact hop _ h
 ·exact hop _ h
 ·exact hpl _ h
 ·exact hpl _ h
 ·exact hpl _ h
 ·split at h
  ·obtain rfl:=Option.some.inj h;rfl
  ·cases h
 ·split at h
  ·obtain rfl:=Option.some.inj h;rfl
  ·cases h
 ·split at h
  ·obtain rfl:=Option.some.inj h;rfl
  ·cases h
 ·obtain rfl:=Option.some.inj h;rfl
theorem rdsS_len:∀{rs:List Nat} {xs:List Int} {s s':Rd},rdsS rs xs s=some s'→s'.types.length=s.types.length
 | [],_,s,s',h=>by unfold rdsS at h;obtain rfl:=Option.some.inj h;rfl
 | _::_,[],s,s',h=>by unfold rdsS at h;obtain rfl:=Option.some.inj h;rfl
 | r::rs,x::xs,s,s',h=>by
  unfold rdsS at h
  cases h1:rdS r x s with
  | none=>rw [h1] at h;cases h
  | some s1=>
   rw [h1] at h
   exact (rdsS_len h).trans (rdS_len h1)
theorem readF_len {ps:List Pd} {n:Nd} {ts t1 tk:List Int} (h:readF ps n ts=some (t1,tk)):t1.length=ts.length:=by
 unfold readF at h
 split at h
 ·cases h
 ·rename_i r hr
  split at h
  ·simp at h
   rw [←h.1]
   exact rdsS_len hr
  ·cases h
theorem writeT_len (n:Nd) (ts:List Int):(writeT n ts).length=ts.length:=by
 unfold writeT
 repeat (first | split | simp)
theorem fit_tab {np:Nat} {p:Pd} {n:Nd} (h:InsFit np p n) :
  (n.op=31→(0≤n.a∧n.a<p.ins.length)∧0≤n.b∧n.b+2≤p.regs)∧(n.op=33∨n.op=34→0≤n.a∧n.a≤p.regs)∧(n.op=19→0≤n.a∧n.a<p.ins.length)∧
  (n.op=20∨n.op=21∨n.op=38∨n.op=39∨n.op=41→0≤n.b∧n.b<p.ins.length)∧(n.op=41→0≤n.c∧n.c<p.regs)∧(n.op=11→0≤n.b∧n.b<np):=by
 have hf:=h.fit
 obtain⟨op,a,b,c,d⟩:=n
 dsimp only at *
 refine⟨?_,?_,?_,?_,?_,?_⟩
 ·rintro rfl;simp [fitAll,Nd.fs,rolesOf,roleTab,fitsR,inR] at hf;omega
 ·rintro (rfl | rfl) <;> (simp [fitAll,Nd.fs,rolesOf,roleTab,fitsR,inR] at hf;omega)
 ·rintro rfl;simp [fitAll,Nd.fs,rolesOf,roleTab,fitsR,inR] at hf;omega
 ·rintro (rfl | rfl | rfl | rfl | rfl) <;> (simp [fitAll,Nd.fs,rolesOf,roleTab,fitsR,inR] at hf;omega)
 ·rintro rfl;simp [fitAll,Nd.fs,rolesOf,roleTab,fitsR,inR] at hf;omega
 ·rintro rfl;simp [fitAll,Nd.fs,rolesOf,roleTab,fitsR,inR] at hf;omega
theorem changeF_ok {np:Nat} {p:Pd} {n:Nd} {gs gs':List Gd} (hn:InsFit np p n) (hl:gs.length≤50) (hk:∀g ∈ gs,0≤g.keep∧g.keep≤p.regs) (h:changeF n gs=some gs') :
  gs'.length≤50∧∀g ∈ gs',0≤g.keep∧g.keep≤p.regs:=by
 obtain⟨f1,f2,_⟩:=fit_tab hn
 unfold changeF at h
 split at h
 ·rename_i ho
  have:=(f1 ho).2
  split at h
  ·rename_i hb
   simp at hb
   obtain rfl:=Option.some.inj h
   refine⟨by simp;omega,?_⟩
   intro g hg
   rcases List.mem_append.1 hg with hg | hg
   ·exact hk g hg
   ·simp at hg;subst hg;dsimp only;omega
  ·cases h
 split at h
 ·rename_i ho
  have:=f2 (.inl ho)
  split at h
  ·rename_i hb
   simp at hb
   obtain rfl:=Option.some.inj h
   refine⟨by simp;omega,?_⟩
   intro g hg
   rcases List.mem_append.1 hg with hg | hg
   ·exact hk g hg
   ·simp at hg;subst hg;dsimp only;omega
  ·cases h
 split at h
 ·split at h
  ·obtain rfl:=Option.some.inj h
   exact⟨by simp;omega,fun g hg=>hk g ((List.dropLast_sublist gs).subset hg)⟩
  ·cases h
 split at h
 ·rename_i ho
  have:=f2 (.inr ho)
  split at h
  ·obtain rfl:=Option.some.inj h
   refine⟨by unfold keepLast;simp;omega,?_⟩
   intro g hg
   unfold keepLast at hg
   obtain⟨i,hi⟩:=List.getElem?_of_mem hg
   rw [List.getElem?_modify] at hi
   cases hgi:gs[i]? with
   | none=>rw [hgi] at hi;simp at hi
   | some q=>
    rw [hgi] at hi
    simp at hi
    split at hi
    ·subst hi;dsimp only;omega
    ·subst hi;exact hk q (List.mem_of_getElem? hgi)
  ·cases h
 split at h
 ·split at h
  ·obtain rfl:=Option.some.inj h
   exact⟨hl,hk⟩
  ·cases h
 split at h
 ·split at h
  ·obtain rfl:=Option.some.inj h
   exact⟨by simp;omega,fun g hg=>hk g ((List.dropLast_sublist gs).subset hg)⟩
  ·cases h
 ·obtain rfl:=Option.some.inj h
  exact⟨hl,hk⟩
theorem tryT_len {k:Int} {ts:List Int} (h:k.toNat≤ts.length):(tryT k ts).length=ts.length:=by unfold tryT;simp;omega
theorem folF_ok {np:Nat} {p:Pd} {n:Nd} {at_:Nat} {s:St} {ts:List Int} {gs:List Gd} (hn:InsFit np p n) (hx:nextB n=true→at_+1<p.ins.length) (hs:StOk p s) (hb:StOk p ⟨ts,gs⟩):FolOk p (folF n at_ s ts gs):=by
 obtain⟨f1,_,f3,f4,f5,_⟩:=fit_tab hn
 intro x hm
 unfold folF at hm
 rcases List.mem_append.1 hm with hm | hm
 ·split at hm
  ·rename_i h
   simp at hm
   subst hm
   exact⟨hx h,hb⟩
  ·simp at hm
 ·unfold goF at hm
  split at hm
  ·rename_i ho
   simp at hm;subst hm
   have:=f3 ho
   exact⟨by dsimp only;omega,hb⟩
  split at hm
  ·rename_i ho
   simp at hm;subst hm
   have:=f4 (by omega)
   exact⟨by dsimp only;omega,hb⟩
  split at hm
  ·rename_i ho
   simp at hm;subst hm
   have:=f4 (by omega)
   refine⟨by dsimp only;omega,⟨?_,hb.few,hb.keep⟩⟩
   have:=hb.len
   simpa using this
  split at hm
  ·rename_i ho
   simp at hm;subst hm
   have:=f1 ho
   have:=hs.len
   refine⟨by dsimp only;omega,⟨?_,hs.few,hs.keep⟩⟩
   dsimp only
   rw [tryT_len (by omega)]
   exact this
  ·simp at hm
theorem sil_sub {n:Nd} {at_ j:Nat} (s:St) (ts:List Int) (gs:List Gd) (h:j ∈ silL n at_):∃x ∈ folF n at_ s ts gs,x.1=j:=by
 obtain⟨op,a,b,c,d⟩:=n
 unfold silL at h
 unfold folF goF nextB
 dsimp only at *
 split at h
 ·simp at h
 split at h
 ·simp at h
 split at h
 ·rename_i ho;subst ho;simp at h;subst h;simp
 split at h
 ·rename_i ho;subst ho;simp at h;subst h;simp
 split at h
 ·rename_i ho
  rcases ho with rfl | rfl | rfl | rfl <;> (simp at h;rcases h with rfl | rfl <;> simp)
 split at h
 ·rename_i ho;subst ho;simp at h;rcases h with rfl | rfl <;> simp
 ·rename_i h1 h2 h3 h4 h5 h6
  simp at h;subst h
  have:(op != 19 && op != 29 && op != 30)=true:=by simp;omega
  rw [this]
  simp
theorem step_ok {ps:List Pd} {np:Nat} {p:Pd} {n:Nd} {at_:Nat} {s:St} {l:List (Nat × St)} (hn:InsFit np p n) (hx:nextB n=true→at_+1<p.ins.length) (hs:StOk p s) (h:stepF ps n at_ s=.go l) :
  FolOk p l∧∀j ∈ silL n at_,∃x ∈ l,x.1=j:=by
 unfold stepF at h
 split at h
 ·cases h
 ·rename_i t1 tk hr
  split at h
  ·cases h
  ·rename_i gs hg
   split at h
   ·obtain rfl:=Out.go.inj h
    obtain⟨g1,g2⟩:=changeF_ok hn hs.few hs.keep hg
    refine⟨folF_ok hn hx hs ⟨?_,g1,g2⟩,fun j hj=>sil_sub _ _ _ hj⟩
    have:=readF_len hr
    have:=hs.len
    rw [writeT_len]
    omega
   ·cases h
theorem leastDue_some {d:List Bool} {i:Nat} (h:leastDue d=some i):i<d.length∧d.getD i false=true∧∀j,j<i→d.getD j false=false:=by
 unfold leastDue at h
 rw [List.findIdx?_eq_some_iff_getElem] at h
 obtain⟨h1,h2,h3⟩:=h
 refine⟨h1,by simpa [List.getD_eq_getElem?_getD,h1] using h2,?_⟩
 intro j hj
 have:=h3 j hj
 simpa [List.getD_eq_getElem?_getD,show j<d.length by omega] using this
theorem leastDue_none {d:List Bool} (h:leastDue d=none):∀i,d.getD i false=false:=by
 intro i
 unfold leastDue at h
 rw [List.findIdx?_eq_none_iff] at h
 rw [List.getD_eq_getElem?_getD]
 cases hi:d[i]? with
 | none=>rfl
 | some b=>
  have:=h b (List.mem_of_getElem? hi)
  simpa using this
theorem cleared_ok {p:Pd} {c:Cf} {i:Nat} (hc:CfOk p c) (hk:Closed p c none):CfOk p ⟨c.sts,c.due.set i false⟩∧Closed p ⟨c.sts,c.due.set i false⟩ (some i):=by
 refine⟨⟨hc.lenS,by simp [hc.lenD],hc.ok,?_⟩,?_⟩
 ·intro j hj
  dsimp only at hj
  rw [due_set] at hj
  split at hj
  ·cases hj
  ·exact hc.due j hj
 ·intro j n hn hi hd hb k hk2
  dsimp only at hd
  rw [due_set] at hd
  rw [if_neg (by intro hh;exact hb (by rw [hh.1]))] at hd
  exact hk j n hn hi hd (by simp) k hk2
theorem round_ok {ps:List Pd} {np:Nat} {p:Pd} {c c':Cf} {i:Nat} (hp:PFit np p) (hc:CfOk p c) (hk:Closed p c none) (hi:leastDue c.due=some i) (h:roundF ps p c i=.ok c') :
  CfOk p c'∧Closed p c' none∧c'.meas<c.meas:=by
 obtain⟨h1,h2,_⟩:=leastDue_some hi
 obtain⟨k1,k2⟩:=cleared_ok (i:=i) hc hk
 have hm:(Cf.mk c.sts (c.due.set i false)).meas<c.meas:=by
  unfold Cf.meas
  have:=dues_false h2
  dsimp only
  omega
 unfold roundF at h
 split at h
 ·rename_i n s hn hs
  split at h
  ·cases h
  ·rename_i l hl
   obtain⟨f1,f2⟩:=step_ok (hp.fit i n hn) (hp.next i n hn) (hc.ok i s hs) hl
   obtain⟨o1,o2,o3,o4,o5⟩:=follow_ok k1 f1 k2 h
   refine⟨o1,?_,Nat.lt_of_le_of_lt o2 hm⟩
   intro j m hj hst hd _ k hkm
   by_cases hji:j=i
   ·subst hji
    rw [hn] at hj
    obtain rfl:=Option.some.inj hj
    obtain⟨x,hx,rfl⟩:=f2 k hkm
    exact o4 x hx
   ·exact o3 j m hj hst hd (by simpa using hji) k hkm
 ·rename_i hno
  exfalso
  have hil:i<p.ins.length:=by rw [←hc.lenD];exact h1
  obtain⟨n,hn⟩:=some_of_lt hil
  obtain⟨s,hs⟩:=Option.isSome_iff_exists.1 (hc.due i h2)
  exact hno n s hn hs
theorem rdOp_no {t x:Int} {rd:Rd} (h:¬tyAt rd.types (regOf x)=t):rdOp t x rd=none:=by unfold rdOp;rw [if_neg h]
theorem rdOp_read {t x:Int} {rd:Rd} (h:tyAt rd.types (regOf x)=t) (hx:¬x<0):rdOp t x rd=some rd:=by unfold rdOp;rw [if_pos h,if_neg hx]
theorem rdOp_stays {t x:Int} {rd:Rd} (h:tyAt rd.types (regOf x)=t) (hx:x<0) (hs:regOf x ∈ rd.stay):rdOp t x rd=none:=by unfold rdOp;rw [if_pos h,if_pos hx,if_pos hs]
theorem rdOp_takes {t x:Int} {rd:Rd} (h:tyAt rd.types (regOf x)=t) (hx:x<0) (hs:¬regOf x ∈ rd.stay):rdOp t x rd=some ⟨rd.types.set (regOf x).toNat 0,rd.stay,rd.taken ++ [regOf x]⟩:=by unfold rdOp;rw [if_pos h,if_pos hx,if_neg hs]
theorem rdPlace_no {t x:Int} {rd:Rd} (h:¬tyAt rd.types x=t):rdPlace t x rd=none:=by unfold rdPlace;rw [if_neg h]
theorem rdPlace_yes {t x:Int} {rd:Rd} (h:tyAt rd.types x=t):rdPlace t x rd=some ⟨rd.types,rd.stay ++ [x],rd.taken⟩:=by unfold rdPlace;rw [if_pos h]
def Sil (ins:List Nd) (a b:Nat):Prop:=∃n,ins[a]?=some n∧b ∈ silL n a
def rdI (r:Nat) (x:Int) (s:Rd):Option Rd:=
 match r with
 | 12=>rdOp 1 x s
 | 13=>rdOp 3 x s
 | 14=>rdPlace 1 x s
 | 15=>rdPlace 2 x s
 | 16=>rdPlace 3 x s
 | 17=>if tyAt s.types x=1∧tyAt s.types (x+1)=1 then some ⟨s.types,s.stay ++ [x,x+1],s.taken⟩ else none
 | 18=>if tyAt s.types x=1∧tyAt s.types (x+1)=1∧tyAt s.types (x+2)=1 then some ⟨s.types,s.stay ++ [x,x+1,x+2],s.taken⟩ else none
 | 23=>if tyAt s.types x=1∧tyAt s.types (x+1)=0 then some ⟨s.types,s.stay,s.taken ++ [x]⟩ else none
 | _=>some s
def rdsI:List Nat→List Int→Rd→Option Rd
 | r::rs,x::xs,s=>(rdI r x s).bind (rdsI rs xs)
 | _,_,s=>some s
def Rd.two (s:Rd):List Int × List Int:=(s.types,s.taken)
theorem rdI_eq {r:Nat} (hr:r≤23) (h:r≠17∧r≠18∧r≠23) (x:Int) (s:Rd):rdI r x s=rdS (convR r) x s:=by
 rcases (by omega:r=0∨r=1∨r=2∨r=3∨r=4∨r=5∨r=6∨r=7∨r=8∨r=9∨r=10∨r=11∨r=12∨r=13∨r=14∨r=15∨r=16∨r=17∨r=18∨r=19∨r=20∨r=21∨r=22∨r=23) with rfl | rfl | rfl | rfl | rfl | rfl | rfl | rfl | rfl | rfl | rfl | rfl | rfl | rfl | rfl | rfl | rfl | rfl | rfl | rfl | rfl | rfl | rfl | rfl <;> first | rfl | (exfalso;omega)
theorem rdsI_eq:∀(rs:List Nat) (xs:List Int) (s:Rd),(∀r ∈ rs,r≤23∧r≠17∧r≠18∧r≠23)→rdsI rs xs s=rdsS (rs.map convR) xs s
 | [],_,_,_=>rfl
 | _::_,[],_,_=>rfl
 | r::rs,x::xs,s,h=>by
  have h1:=h r (by simp)
  simp only [rdsI,rdsS,List.map_cons]
  rw [rdI_eq h1.1 h1.2]
  congr 1
  funext s'
  exact rdsI_eq rs xs s' fun r hr=>h r (by simp [hr])
theorem reads_eq (op:Nat) (h1:1≤op) (h2:op≤42) (a b c d:Int) (ts:List Int):(rdsI (formOf op) [a,b,c,d] ⟨ts,[],[]⟩).map Rd.two=(rdsS (rolesOf op) [a,b,c,d] ⟨ts,[],[]⟩).map Rd.two:=by
 by_cases hs:op=37∨op=38∨op=39∨op=40∨op=41
 ·rcases hs with rfl | rfl | rfl | rfl | rfl
  all_goals
   simp [formOf,formTab,rolesOf,roleTab,rdsI,rdsS,rdI,rdS]
   split <;> simp [Rd.two]
 ·rw [←conv_forms op h1 h2,rdsI_eq]
  have h:∀k,k<43→(k<37∨k=42)→∀r ∈ formOf k,r≤23∧r≠17∧r≠18∧r≠23:=by decide
  exact h op (by omega) (by omega)
def wrI (r:Nat) (x:Int) (ts:List Int):List Int:=
 match r with
 | 19=>ts.set x.toNat 0
 | 20=>ts.set x.toNat 1
 | 21=>ts.set x.toNat 2
 | 22=>ts.set x.toNat 3
 | 23=>(ts.set x.toNat 1).set (x.toNat+1) 1
 | _=>ts
def wrsI:List Nat→List Int→List Int→List Int
 | r::rs,x::xs,ts=>wrsI rs xs (wrI r x ts)
 | _,_,ts=>ts
theorem set_same {ts:List Int} {i:Nat} (h:ts.getD i 0=1):ts.set i 1=ts:=by
 by_cases hi:i<ts.length
 ·apply List.ext_getElem?
  intro j
  rw [List.getElem?_set]
  by_cases hj:i=j
  ·subst hj
   simp [List.getD_eq_getElem?_getD,hi] at h
   simp [hi,h]
  ·simp [hj]
 ·exact List.set_eq_of_length_le (by omega)
theorem write_eq (n:Nd) (op:Nat) (ho:n.op=op) (h1:1≤op) (h2:op≤42) (ts:List Int) (h40:op=40→tyAt ts n.a=1):wrsI (formOf op) n.fs ts=writeT n ts:=by
 obtain⟨o,a,b,c,d⟩:=n
 dsimp only at *
 subst ho
 by_cases h:op=40
 ·subst h
  have:=set_same (h40 rfl)
  simp [formOf,formTab,Nd.fs,wrsI,wrI,writeT,this]
 ·clear h40
  rcases ops_all op h1 h2 with rfl | rfl | rfl | rfl | rfl | rfl | rfl | rfl | rfl | rfl | rfl | rfl | rfl | rfl | rfl | rfl | rfl | rfl | rfl | rfl | rfl | rfl | rfl | rfl | rfl | rfl | rfl | rfl | rfl | rfl | rfl | rfl | rfl | rfl | rfl | rfl | rfl | rfl | rfl | rfl | rfl | rfl
  all_goals first | rfl | (exfalso;omega)
theorem reads_forty {a b c d:Int} {ts t1 tk:List Int} (h:(rdsS (rolesOf 40) [a,b,c,d] ⟨ts,[],[]⟩).map Rd.two=some (t1,tk)):tyAt t1 a=1:=by
 by_cases hc:tyAt ts a=1∧tyAt ts (a+1)=0
 ·simp [rolesOf,roleTab,rdsS,rdS,hc,Rd.two] at h
  rw [←h.1]
  exact hc.1
 ·simp [rolesOf,roleTab,rdsS,rdS,hc] at h
def maxKeep (gs:List Gd):Int:=gs.foldl (fun k g=>if g.tr then max k g.keep else k) 0
theorem maxKeep_from (gs:List Gd) (k0 k:Int):gs.foldl (fun k g=>if g.tr then max k g.keep else k) k0≤k ↔ k0≤k∧∀g ∈ gs,g.tr=true→g.keep≤k:=by
 induction gs generalizing k0 with
 | nil=>simp
 | cons g r ih=>
  simp only [List.foldl_cons,ih,List.mem_cons,forall_eq_or_imp]
  split
  ·rename_i h
   rw [Int.max_le]
   constructor
   ·rintro⟨h1,h2⟩;exact ⟨h1.1,fun _=>h1.2,h2⟩
   ·rintro⟨h1,h2,h3⟩;exact ⟨⟨h1,h2 h⟩,h3⟩
  ·rename_i h
   constructor
   ·rintro⟨h1,h2⟩;exact ⟨h1,fun h'=>absurd h' h,h2⟩
   ·rintro⟨h1,h2,h3⟩;exact ⟨h1,h3⟩
theorem maxKeep_le {gs:List Gd} {k:Int} (hk:0≤k):decide (maxKeep gs≤k)=aboveB gs k:=by
 rw [Bool.eq_iff_iff]
 unfold maxKeep aboveB
 rw [decide_eq_true_iff,maxKeep_from]
 simp only [List.all_eq_true,Bool.not_eq_true',Bool.and_eq_false_iff,decide_eq_false_iff_not]
 constructor
 ·rintro⟨_,h⟩ g hg
  cases ht:g.tr
  ·exact .inl rfl
  ·exact .inr (by have:=h g hg ht;omega)
 ·intro h
  refine⟨hk,fun g hg ht=>?_⟩
  rcases h g hg with h1 | h1
  ·rw [ht] at h1;cases h1
  ·omega
theorem maxKeep_in (gs:List Gd):0≤maxKeep gs∧(maxKeep gs=0∨∃g ∈ gs,g.tr=true∧g.keep=maxKeep gs):=by
 unfold maxKeep
 have:∀(gs:List Gd) (k0:Int),k0≤gs.foldl (fun k g=>if g.tr then max k g.keep else k) k0∧(gs.foldl (fun k g=>if g.tr then max k g.keep else k) k0=k0∨∃g ∈ gs,g.tr=true∧g.keep=gs.foldl (fun k g=>if g.tr then max k g.keep else k) k0):=by
  intro gs
  induction gs with
  | nil=>intro k0;simp
  | cons g r ih=>
   intro k0
   simp only [List.foldl_cons]
   obtain⟨h1,h2⟩:=ih (if g.tr then max k0 g.keep else k0)
   generalize hF:List.foldl (fun k g=>if g.tr then max k g.keep else k) (if g.tr then max k0 g.keep else k0) r=F at *
   by_cases ht:g.tr=true
   ·rw [if_pos ht] at h1 h2
    have m1:=Int.le_max_left k0 g.keep
    have m2:=Int.le_max_right k0 g.keep
    refine⟨by omega,?_⟩
    rcases h2 with h2 | ⟨q,hq,h3,h4⟩
    ·by_cases hk:k0≤g.keep
     ·exact .inr ⟨g,by simp,ht,by rw [h2,Int.max_eq_right hk]⟩
     ·exact .inl (by rw [h2,Int.max_eq_left (by omega)])
    ·exact .inr ⟨q,by simp [hq],h3,h4⟩
   ·rw [if_neg ht] at h1 h2
    refine⟨h1,?_⟩
    rcases h2 with h2 | ⟨q,hq,h3,h4⟩
    ·exact .inl h2
    ·exact .inr ⟨q,by simp [hq],h3,h4⟩
 exact this gs 0
def stayB (k:Int) (taken b a:List Int):Bool:=notBelow k taken && sameBelow k b a
theorem take_le {a b:List Int} {m n:Nat} (h:m≤n) (e:a.take n=b.take n):a.take m=b.take m:=by
 rw [show a.take m=(a.take n).take m by rw [List.take_take,Nat.min_eq_left h],e,List.take_take,Nat.min_eq_left h]
theorem stay_mono {k k':Int} {taken b a:List Int} (hk:k'≤k) (h:stayB k taken b a=true):stayB k' taken b a=true:=by
 unfold stayB notBelow sameBelow at *
 simp only [Bool.and_eq_true,List.all_eq_true,Bool.not_eq_true',decide_eq_false_iff_not,decide_eq_true_iff] at *
 exact⟨fun x hx=>by have:=h.1 x hx;omega,take_le (by omega) h.2⟩
theorem keptL_iff (taken b a:List Int) (gs:List Gd):keptL false taken b a gs=true ↔ ∀g ∈ gs,g.tr=true→stayB g.keep taken b a=true:=by
 induction gs with
 | nil=>simp [keptL]
 | cons g r ih=>
  simp only [keptL,Bool.and_eq_true,ih,List.mem_cons,forall_eq_or_imp,Bool.false_and,Bool.false_or]
  unfold stayB
  cases g.tr <;> simp
theorem keptL_same {taken b:List Int} (h:taken=[]) (gs:List Gd) (e:Bool):keptL e taken b b gs=true:=by
 subst h
 induction gs with
 | nil=>rfl
 | cons g r ih=>simp [keptL,ih,notBelow,sameBelow]
theorem kept_eq {n:Nd} {gs:List Gd} {taken b a:List Int} (h32:n.op=32→taken=[]∧b=a) (ht:∀x ∈ taken,0≤x):keptF n gs taken b a=stayB (maxKeep gs) taken b a:=by
 unfold keptF
 obtain⟨m1,m2⟩:=maxKeep_in gs
 by_cases ho:n.op=32
 ·obtain⟨rfl,rfl⟩:=h32 ho
  rw [keptL_same rfl]
  simp [stayB,notBelow,sameBelow]
 ·rw [show (n.op == 32)=false by simpa using ho]
  rw [Bool.eq_iff_iff,keptL_iff]
  constructor
  ·intro h
   rcases m2 with m2 | ⟨g,hg,h1,h2⟩
   ·rw [m2]
    simp only [stayB,notBelow,sameBelow,Bool.and_eq_true,List.all_eq_true,Bool.not_eq_true',decide_eq_false_iff_not]
    exact⟨fun x hx=>by have:=ht x hx;omega,by simp⟩
   ·rw [←h2];exact h g hg h1
  ·intro h g hg h1
   exact stay_mono ((maxKeep_from gs 0 (maxKeep gs)).1 (Int.le_refl _) |>.2 g hg h1) h
def gfitB (n:Nd) (gs:List Gd):Bool:=
 if n.op=31 then decide (gs.length<50) && decide (maxKeep gs≤n.b)
 else if n.op=33 then decide (gs.length<50) && decide (maxKeep gs≤n.a)
 else if n.op=32 then decide (lastTr gs=some true)
 else if n.op=34 then decide (lastTr gs=some false) && decide (maxKeep gs≤n.a)
 else if n.op=35∨n.op=36 then decide (lastTr gs=some false)
 else true
def gbehF (n:Nd) (gs:List Gd):List Gd:=
 if n.op=31 then gs ++ [⟨true,n.b,n.a⟩]
 else if n.op=33 then gs ++ [⟨false,n.a,0⟩]
 else if n.op=32∨n.op=36 then gs.dropLast
 else if n.op=34 then keepLast gs n.a
 else gs
theorem change_eq {np:Nat} {p:Pd} {n:Nd} (hn:InsFit np p n) (gs:List Gd):changeF n gs=if gfitB n gs then some (gbehF n gs) else none:=by
 obtain⟨f1,f2,_⟩:=fit_tab hn
 unfold changeF gfitB gbehF
 by_cases h31:n.op=31
 ·have:=(f1 h31).2
  rw [if_pos h31,if_pos h31,if_pos h31,maxKeep_le (by omega)]
 by_cases h33:n.op=33
 ·have:=f2 (.inl h33)
  rw [if_neg h31,if_neg h31,if_neg h31,if_pos h33,if_pos h33,if_pos h33,maxKeep_le (by omega)]
 by_cases h32:n.op=32
 ·simp [h32]
 by_cases h34:n.op=34
 ·have:=f2 (.inr h34)
  simp only [h34,maxKeep_le this.1]
  simp
 by_cases h35:n.op=35
 ·simp [h35]
 by_cases h36:n.op=36
 ·simp [h36]
 ·simp [h31,h32,h33,h34,h35,h36]
def tgtF (n:Nd):Option Nat:=
 if n.op=19∨n.op=31 then some n.a.toNat
 else if n.op=20∨n.op=21∨n.op=38∨n.op=39∨n.op=41 then some n.b.toNat
 else none
def thereF (n:Nd) (s:St) (ts:List Int) (gs:List Gd):St:=
 if n.op=41 then ⟨ts.set n.c.toNat (tyAt s.types n.c),gs⟩
 else if n.op=31 then ⟨tryT n.b s.types,s.guards⟩
 else ⟨ts,gs⟩
theorem go_eq (n:Nd) (s:St) (ts:List Int) (gs:List Gd):goF n s ts gs=match tgtF n with | some t=>[(t,thereF n s ts gs)] | none=>[]:=by
 obtain⟨op,a,b,c,d⟩:=n
 unfold goF tgtF thereF
 dsimp only
 by_cases h19:op=19
 ·subst h19;simp
 by_cases h20:op=20∨op=21∨op=38∨op=39
 ·rcases h20 with rfl | rfl | rfl | rfl <;> simp
 by_cases h41:op=41
 ·subst h41;simp
 by_cases h31:op=31
 ·subst h31;simp
 ·rw [if_neg h19,if_neg h20,if_neg h41,if_neg h31,if_neg (by omega),if_neg (by omega)]
def ticksB (n:Nd):Bool:=n.op == 1 || n.op == 3 || n.op == 28 || (n.op == 18 && n.b == 12)
def silI (n:Nd) (at_:Nat):List Nat:=if ticksB n then [] else (if nextB n && n.op != 41 then [at_+1] else []) ++ (tgtF n).toList
theorem sil_eq (n:Nd) (at_ j:Nat):j ∈ silI n at_ ↔ j ∈ silL n at_:=by
 obtain⟨op,a,b,c,d⟩:=n
 unfold silI silL ticksB tgtF nextB
 dsimp only
 by_cases h1:op=1
 ·subst h1;simp
 by_cases h3:op=3
 ·subst h3;simp
 by_cases h28:op=28
 ·subst h28;simp
 by_cases h29:op=29
 ·subst h29;simp
 by_cases h30:op=30
 ·subst h30;simp
 by_cases h18:op=18
 ·subst h18
  by_cases hb:b=12 <;> simp [hb]
 by_cases h19:op=19
 ·subst h19;simp
 by_cases h41:op=41
 ·subst h41;simp
 by_cases h20:op=20∨op=21∨op=38∨op=39
 ·rcases h20 with rfl | rfl | rfl | rfl <;> (simp;exact Or.comm)
 by_cases h31:op=31
 ·subst h31;simp;exact Or.comm
 ·have h2:¬op=20:=by omega
  have h4:¬op=21:=by omega
  have h5:¬op=38:=by omega
  have h6:¬op=39:=by omega
  simp [h1,h3,h28,h29,h30,h18,h19,h41,h31,h2,h4,h5,h6]
def stepI (ps:List Pd) (n:Nd) (at_:Nat) (s:St):Out:=
 match (rdsI (formOf n.op.toNat) n.fs ⟨s.types,[],[]⟩).map Rd.two with
 | none=>.bad 10
 | some (t1,tk)=>
  if upsBoxedB s.types (fnUps ps n) then
   if gfitB n s.guards then
    if stayB (maxKeep s.guards) tk s.types (wrsI (formOf n.op.toNat) n.fs t1) then .go (folF n at_ s (wrsI (formOf n.op.toNat) n.fs t1) (gbehF n s.guards)) else .bad 12
   else .bad 11
  else .bad 10
theorem rdOp_nn {w x:Int} {s s':Rd} (h:rdOp w x s=some s') (hs:∀y ∈ s.taken,0≤y):∀y ∈ s'.taken,0≤y:=by
 unfold rdOp at h
 split at h
 ·split at h
  ·rename_i hx
   split at h
   ·cases h
   ·obtain rfl:=Option.some.inj h
    intro y hy
    rcases List.mem_append.1 hy with hy | hy
    ·exact hs y hy
    ·simp at hy;subst hy;unfold regOf;rw [if_pos hx];omega
  ·obtain rfl:=Option.some.inj h;exact hs
 ·cases h
theorem rdI_nn {np:Nat} {p:Pd} {r:Nat} {x:Int} {s s':Rd} (hr:r≤23) (hf:fitsR np p (convR r) x=true) (h:rdI r x s=some s') (hs:∀y ∈ s.taken,0≤y):∀y ∈ s'.taken,0≤y:=by
 unfold rdI at h
 have hpl:∀w,rdPlace w x s=some s'→∀y ∈ s'.taken,0≤y:=by
  intro w h
  unfold rdPlace at h
  split at h
  ·obtain rfl:=Option.some.inj h;exact hs
  ·cases h
 split at h
 ·exact rdOp_nn h hs
 ·exact rdOp_nn h hs
 ·exact hpl _ h
 ·exact hpl _ h
 ·exact hpl _ h
 ·split at h
  ·obtain rfl:=Option.some.inj h;exact hs
  ·cases h
 ·split at h
  ·obtain rfl:=Option.some.inj h;exact hs
  ·cases h
 ·split at h
  ·obtain rfl:=Option.some.inj h
   intro y hy
   rcases List.mem_append.1 hy with hy | hy
   ·exact hs y hy
   ·simp at hy;subst hy
    simp [convR,convTab,fitsR,inR] at hf
    exact hf.1
  ·cases h
 ·obtain rfl:=Option.some.inj h;exact hs
theorem rdsI_nn {np:Nat} {p:Pd} : ∀{rs:List Nat} {xs:List Int} {s s':Rd},(∀r ∈ rs,r≤23)→fitAll np p (rs.map convR) xs=true→rdsI rs xs s=some s'→(∀y ∈ s.taken,0≤y)→∀y ∈ s'.taken,0≤y
 | [],_,s,s',_,_,h,hs=>by unfold rdsI at h;obtain rfl:=Option.some.inj h;exact hs
 | _::_,[],s,s',_,_,h,hs=>by unfold rdsI at h;obtain rfl:=Option.some.inj h;exact hs
 | r::rs,x::xs,s,s',hr,hf,h,hs=>by
  unfold rdsI at h
  simp only [List.map_cons,fitAll,Bool.and_eq_true] at hf
  cases h1:rdI r x s with
  | none=>rw [h1] at h;cases h
  | some s1=>
   rw [h1] at h
   exact rdsI_nn (fun q hq=>hr q (by simp [hq])) hf.2 h (rdI_nn (hr r (by simp)) hf.1 h1 hs)
theorem step_eq {ps:List Pd} {np:Nat} {p:Pd} {n:Nd} (hn:InsFit np p n) (at_:Nat) (s:St):stepI ps n at_ s=stepF ps n at_ s:=by
 have hlo:=hn.lo
 have hhi:=hn.hi
 obtain⟨op,hop⟩:∃k:Nat,n.op=k:=Int.eq_ofNat_of_zero_le (by omega)
 have h1:1≤op:=by omega
 have h2:op≤42:=by omega
 have hT:n.op.toNat=op:=by rw [hop];rfl
 have hr:=reads_eq op h1 h2 n.a n.b n.c n.d s.types
 have hfit:=hn.fit
 rw [hT] at hfit
 unfold stepI stepF readF
 rw [hT]
 have hnn:=@rdsI_nn np p (formOf op) n.fs ⟨s.types,[],[]⟩
 rw [conv_forms op h1 h2] at hnn
 unfold Nd.fs at *
 cases hs:rdsS (rolesOf op) [n.a,n.b,n.c,n.d] ⟨s.types,[],[]⟩ with
 | none=>
  rw [hs] at hr
  rw [hr]
  rfl
 | some r=>
  rw [hs] at hr
  rw [hr]
  cases hi:rdsI (formOf op) [n.a,n.b,n.c,n.d] ⟨s.types,[],[]⟩ with
  | none=>rw [hi] at hr;cases hr
  | some r'=>
  rw [hi] at hr
  simp only [Option.map_some,Option.some.injEq,Rd.two,Prod.mk.injEq] at hr
  have htk:=hnn (s':=r') (by
   intro q hq
   obtain⟨r0,r1,r2,r3,e,g0,g1,g2,g3⟩:=form_four h2
   rw [e] at hq
   simp at hq
   omega) hfit hi (by simp)
  have hups:upsBoxedB s.types (fnUps ps n)=upsBoxedB r.types (fnUps ps n):=by
   unfold fnUps
   split
   ·rename_i h11
    have:op=11:=by omega
    subst this
    simp [rolesOf,roleTab,rdsS,rdS] at hs
    rw [←hs]
   ·rfl
  have hw:wrsI (formOf op) [n.a,n.b,n.c,n.d] r.types=writeT n r.types:=by
   refine write_eq n op hop h1 h2 r.types ?_
   intro h40
   subst h40
   refine reads_forty (tk:=r.taken) (a:=n.a) (b:=n.b) (c:=n.c) (d:=n.d) (ts:=s.types) ?_
   rw [hs]
   rfl
  rw [Option.map_some]
  dsimp only [Rd.two]
  rw [hups,hw,change_eq hn]
  cases upsBoxedB r.types (fnUps ps n)
  ·rfl
  ·simp only [if_true]
   cases gfitB n s.guards
   ·rfl
   ·simp only [if_true]
    have hk:keptF n s.guards r.taken s.types (writeT n r.types)=stayB (maxKeep s.guards) r.taken s.types (writeT n r.types):=by
     refine kept_eq ?_ ?_
     ·intro h32
      have:op=32:=by omega
      subst this
      simp [rolesOf,roleTab,rdsS,rdS] at hs
      rw [←hs]
      refine⟨rfl,?_⟩
      obtain⟨o,a,b,c,d⟩:=n
      dsimp only at hop
      subst hop
      rfl
     ·rw [←hr.2]
      exact htk
    rw [hk]
theorem foldK_drop {gs:List Gd} {k:Nat} {g:Gd} (h:gs[k]?=some g) (k0:Int):(gs.drop k).foldl (fun k g=>if g.tr then max k g.keep else k) k0=(gs.drop (k+1)).foldl (fun k g=>if g.tr then max k g.keep else k) (if g.tr then max k0 g.keep else k0):=by
 rw [drop_some h];rfl
theorem max_if (m x:Int):(if m<x then x else m)=max m x:=by
 split
 ·rw [Int.max_eq_right (by omega)]
 ·rw [Int.max_eq_left (by omega)]
theorem min_if (m x:Int):(if x<m then x else m)=min m x:=by
 split
 ·rw [Int.min_eq_right (by omega)]
 ·rw [Int.min_eq_left (by omega)]
set_option maxRecDepth 100000 in
set_option maxHeartbeats 800000 in
theorem keptBelow_any (ao:Option Addr) (cap:Nat) (gs:List Gd) (w:World) (hm:gs.length≤1048576) (hx:GdsAt 0 w ao gs) :
  Calls Tryz.prog 311 #[.slice ao gs.length cap] w fun e w'=>e=.returned (.int .i64 (maxKeep gs))∧Below w.heap.size w w':=by
 go_enter Tryz.func311,Tryz.ntmps311
 go_wp2_with fail
 go_loopw [3,8] (fun v y wr=>∃(k:Nat) (m:Int),k≤gs.length∧v=.int .i64 m∧y=.int .i64 k∧Hid ((gs.drop k).foldl (fun k g=>if g.tr then max k g.keep else k) m=maxKeep gs)∧Below w.heap.size w wr) (fun _ y _=>gs.length - (intOf y).toNat)
 case atStart=>exact ⟨0,0,Nat.zero_le _,rfl,rfl,rfl,Below.refl _ _⟩
 case round=>
  obtain⟨k,m,hk,rfl,rfl,HQ,hb⟩:=hrel
  by_cases hkl:k<gs.length
  ·obtain⟨x,hxk⟩:=some_of_lt hkl
   obtain⟨b,off,rfl,_,hbl,q0,q1,q2⟩:=hx.later (Keeps.of_below hb) k x hxk
   have HD:Hid (_=maxKeep gs):=(foldK_drop hxk m).symm.trans HQ.out
   have hba:∀o,Below w.heap.size w (wr.alloc o):=fun o=>hb.alloc hb.size o
   obtain⟨x0,x1,x2⟩:=x
   dsimp only at *
   clear hxk HQ
   cases x0
   ·have HN:Hid ((gs.drop (k+1)).foldl (fun k g=>if g.tr then max k g.keep else k) m=maxKeep gs):=HD.out
    clear HD
    go_wp2_with fail
    go_roundw
    case rel=>exact ⟨k+1,m,by omega,rfl,by go_num,HN.out,hba _⟩
    case measure=>simp [intOf];omega
   ·have HN:Hid ((gs.drop (k+1)).foldl (fun k g=>if g.tr then max k g.keep else k) (max m x1)=maxKeep gs):=HD.out
    clear HD
    go_wp2_with fail
    go_roundw
    case rel=>first | exact ⟨k+1,if m<x1 then x1 else m,by omega,rfl,by go_num,by show _=_;rw [max_if];exact HN.out,hba _⟩ | exact ⟨k+1,max m x1,by omega,rfl,by go_num,HN.out,hba _⟩
    case measure=>simp [intOf];omega
  ·have HN:Hid (m=maxKeep gs):=by
    have h:=HQ.out
    rw [List.drop_of_length_le (by omega)] at h
    exact h
   clear HQ
   go_wp2_with fail
   go_ret
   exact⟨ret_int HN.out,hb⟩
def minI (x:Int) (xs:List Int):Int:=xs.foldl min x
set_option maxRecDepth 100000 in
set_option maxHeartbeats 800000 in
theorem minInt_any (o:Option Addr) (c:Nat) (x:Int) (xs:List Int) (w:World) (hl:xs.length≤1048576) (hx:IntsAt 0 w o (x::xs)) :
  Calls Tryz.prog 380 #[.slice o (xs.length+1) c] w fun e w'=>e=.returned (.int .i64 (minI x xs))∧Below w.heap.size w w':=by
 obtain⟨b,off,rfl,_,hbl,q0⟩:=hx 0 x rfl
 unfold IntAt at q0
 rw [Nat.zero_mul,Nat.add_zero] at q0
 have k0:¬((xs.length:Int)+1<1):=by omega
 have k1:(0:Int)<(xs.length:Int)+1:=by omega
 go_enter Tryz.func380,Tryz.ntmps380
 go_wp2_with fail
 go_loopw [3,4] (fun v y wr=>∃(k:Nat) (m:Int),k≤xs.length∧v=.int .i64 m∧y=.int .i64 ((k:Int)+1)∧Hid ((xs.drop k).foldl min m=minI x xs)∧Below w.heap.size w wr) (fun _ y _=>xs.length+1 - (intOf y).toNat)
 case atStart=>exact ⟨0,x,Nat.zero_le _,rfl,rfl,rfl,Below.refl _ _⟩
 case round=>
  obtain⟨k,m,hk,rfl,rfl,HQ,hb⟩:=hrel
  by_cases hkl:k<xs.length
  ·obtain⟨y,hyk⟩:=some_of_lt hkl
   obtain⟨b',off',e1,_,hbl',p0⟩:=hx.later (Keeps.of_below hb) (k+1) y (by simpa using hyk)
   simp at e1
   obtain⟨rfl,rfl⟩:=e1
   unfold IntAt at p0
   rw [Nat.mul_one] at p0
   have HN:Hid ((xs.drop (k+1)).foldl min (min m y)=minI x xs):=by show _=_;rw [←HQ.out,drop_some hyk];rfl
   have k2:(k:Int)+1<(xs.length:Int)+1:=by omega
   clear hyk HQ q0
   go_wp2_with fail
   go_roundw
   case rel=>first | exact ⟨k+1,if y<m then y else m,by omega,rfl,by simp,by show _=_;rw [min_if];exact HN.out,hb⟩ | exact ⟨k+1,min m y,by omega,rfl,by simp,HN.out,hb⟩
   case measure=>simp [intOf];omega
  ·have HN:Hid (m=minI x xs):=by
    have h:=HQ.out
    rw [List.drop_of_length_le (by omega)] at h
    exact h
   have k2:¬(k:Int)+1<(xs.length:Int)+1:=by omega
   clear HQ
   go_wp2_with fail
   go_ret
   exact⟨ret_int HN.out,hb⟩
theorem owns_cap {w:World} {base e size n:Nat} {v:Value} {xs:List Value} (h:w.ownsRow base e size v n xs):∀ao c,v=.slice ao n c→n≤c:=by
 intro ao c hv
 obtain⟨_,⟨h1,h2⟩ | ⟨g,cap,cur,rfl,_,_,hc,_⟩⟩:=h
 ·omega
 ·simp at hv;omega
def RTag (w:World) (ao:Option Addr) (t:TypeId):Prop:=∀x,ao=some x→∃b,x=⟨b,0,none⟩∧∃arr,w.heap[b]?=some (.cells arr t (0,0))
theorem owns_tag {w:World} {base e size n:Nat} {ao:Option Addr} {c:Nat} {xs:List Value} (h:w.ownsRow base e size (.slice ao n c) n xs):RTag w ao e:=by
 obtain⟨_,⟨h1,h2⟩ | ⟨g,cap,cur,h3,hg,hh,_⟩⟩:=h
 ·rintro x rfl;simp at h1
 ·rintro x rfl;simp at h3;exact ⟨g,h3.1,cur,hh⟩
inductive Pth (E:Nat→Nat→Prop):Nat→Nat→Prop
 | refl (a:Nat):Pth E a a
 | step {a b c:Nat} (h:E a b) (k:Pth E b c):Pth E a c
theorem Pth.trans {E:Nat→Nat→Prop} {a b c:Nat} (h:Pth E a b) (k:Pth E b c):Pth E a c:=by
 induction h with
 | refl=>exact k
 | step h _ ih=>exact .step h (ih k)
theorem Pth.one {E:Nat→Nat→Prop} {a b:Nat} (h:E a b):Pth E a b:=.step h (.refl _)
def OnC (E:Nat→Nat→Prop) (i:Nat):Prop:=∃b,E i b∧Pth E b i
theorem onC_of {E:Nat→Nat→Prop} {a b:Nat} (hn:a≠b) (h:Pth E a b) (k:Pth E b a):OnC E a:=by
 cases h with
 | refl=>exact absurd rfl hn
 | step h1 h2=>exact ⟨_,h1,h2.trans k⟩
structure Tj where
 count:Nat
 order:List Nat
 path:List Nat
 least:Nat
def Tj.ord (T:Tj) (v:Nat):Nat:=T.order.getD v 0
structure Jt (E:Nat→Nat→Prop) (N:Nat) (T:Tj) (gray:Nat→Prop):Prop where
 lenO:T.order.length=N
 sorted:T.path.Pairwise fun x y=>T.ord x<T.ord y
 vis:∀v ∈ T.path,T.ord v≠0
 le:∀v,T.ord v≤T.count
 fwd:T.path.Pairwise fun x y=>Pth E x y
 gry:∀x,gray x→x ∈ T.path
 back:∀y ∈ T.path,∃x,gray x∧Pth E y x
 black:∀y,T.ord y≠0→¬gray y→∀z,E y z→T.ord z≠0
 clo:∀y,T.ord y≠0→y ∉ T.path→∀z,E y z→T.ord z≠0∧z ∉ T.path
 sound:T.least=N∨(T.least<N∧OnC E T.least)
 comp:∀i,T.ord i≠0→i ∉ T.path→OnC E i→T.least≤i
structure Vt (E:Nat→Nat→Prop) (N:Nat) (T T':Tj) (gray:Nat→Prop) (at_ low:Nat):Prop where
 j:Jt E N T' gray
 path:∃ext,T'.path=T.path ++ ext∧(∀y ∈ ext,∀z ∈ T.path,E y z→low≤T.ord z)∧((ext=[]∧T.count<low)∨∃z ∈ T.path,T.ord z=low∧Pth E at_ z)
 same:∀v,T.ord v≠0→T'.ord v=T.ord v
 seen:T'.ord at_≠0
 more:T.count≤T'.count
structure Lt (E:Nat→Nat→Prop) (N:Nat) (T0 T:Tj) (gray:Nat→Prop) (at_ low:Nat) (D:List Nat):Prop where
 j:Jt E N T fun x=>gray x∨x=at_
 path:∃ext,T.path=T0.path ++ at_::ext∧∀y ∈ ext,∀z ∈ T0.path,E y z→low≤T.ord z
 o:T.ord at_=T0.count+1
 lowLe:low≤T0.count+1
 lows:∃z ∈ T.path,T.ord z=low∧Pth E at_ z
 done:∀b ∈ D,T.ord b≠0∧(b ∈ T0.path→low≤T.ord b)
 same:∀v,T0.ord v≠0→T.ord v=T0.ord v
 more:T0.count+1≤T.count
theorem ord_set {T:Tj} {N at_ c:Nat} {p:List Nat} {l k:Nat} (h:T.order.length=N) (ha:at_<N) (v:Nat):(Tj.mk c (T.order.set at_ k) p l).ord v=if v=at_ then k else T.ord v:=by
 unfold Tj.ord
 simp only [List.getD_eq_getElem?_getD,List.getElem?_set]
 by_cases hv:at_=v
 ·subst hv;simp [h,ha]
 ·simp [hv,Ne.symm hv]
theorem lt_start {E:Nat→Nat→Prop} {N:Nat} {T:Tj} {gray:Nat→Prop} {at_:Nat} (hj:Jt E N T gray) (ha:at_<N) (hw:T.ord at_=0)
  (hreach:∀x ∈ T.path,Pth E x at_):Lt E N T ⟨T.count+1,T.order.set at_ (T.count+1),T.path ++ [at_],T.least⟩ gray at_ (T.count+1) []:=by
 have ho:=fun v=>ord_set (T:=T) (c:=T.count+1) (p:=T.path ++ [at_]) (l:=T.least) (k:=T.count+1) hj.lenO ha v
 have hne:∀v,T.ord v≠0→v≠at_:=fun v h e=>h (e▸hw)
 have hin:∀v,v ∈ T.path→v≠at_:=fun v h=>hne v (hj.vis v h)
 refine⟨⟨by simp [hj.lenO],?_,?_,?_,?_,?_,?_,?_,?_,hj.sound,?_⟩,⟨[],rfl,by simp⟩,by rw [ho];simp,Nat.le_refl _,⟨at_,by simp,by rw [ho];simp,.refl _⟩,by simp,?_,Nat.le_refl _⟩
 ·refine List.pairwise_append.2 ⟨?_,by simp,?_⟩
  ·refine hj.sorted.imp_of_mem ?_
   intro a b h1 h2 h3
   rw [ho,ho,if_neg (hin a h1),if_neg (hin b h2)]
   exact h3
  ·intro a h1 b hb
   simp at hb
   subst hb
   rw [ho,ho,if_neg (hin a h1),if_pos rfl]
   have:=hj.le a
   omega
 ·intro v hv
  rw [ho]
  split
  ·omega
  ·rename_i hn
   simp [hn] at hv
   exact hj.vis v hv
 ·intro v
  rw [ho]
  have:=hj.le v
  dsimp only
  split <;> omega
 ·refine List.pairwise_append.2 ⟨hj.fwd,by simp,?_⟩
  intro a h1 b hb
  simp at hb
  subst hb
  exact hreach a h1
 ·intro x hx
  rcases hx with hx | rfl
  ·simp [hj.gry x hx]
  ·simp
 ·intro y hy
  by_cases h:y=at_
  ·subst h;exact ⟨y,.inr rfl,.refl _⟩
  ·simp [h] at hy
   obtain⟨x,h1,h2⟩:=hj.back y hy
   exact⟨x,.inl h1,h2⟩
 ·intro y hy hg z hz
  have hya:y≠at_:=fun e=>hg (.inr e)
  rw [ho,if_neg hya] at hy
  have:=hj.black y hy (fun h=>hg (.inl h)) z hz
  rw [ho]
  split
  ·omega
  ·exact this
 ·intro y hy hp z hz
  simp at hp
  rw [ho,if_neg hp.2] at hy
  obtain⟨h1,h2⟩:=hj.clo y hy hp.1 z hz
  have:=hne z h1
  rw [ho,if_neg this]
  exact⟨h1,by simp [h2,this]⟩
 ·intro i hi hp hc
  simp at hp
  rw [ho,if_neg hp.2] at hi
  exact hj.comp i hi hp.1 hc
 ·intro v hv
  rw [ho,if_neg (hne v hv)]
theorem lt_seen {E:Nat→Nat→Prop} {N:Nat} {T0 T:Tj} {gray:Nat→Prop} {at_ low b:Nat} {D:List Nat} (h:Lt E N T0 T gray at_ low D) (hb:T.ord b≠0) (hE:E at_ b) :
  (b ∈ T.path→Lt E N T0 T gray at_ (min low (T.ord b)) (D ++ [b]))∧(b ∉ T.path→Lt E N T0 T gray at_ low (D ++ [b])):=by
 obtain⟨ext,e1,e2⟩:=h.path
 constructor
 ·intro hp
  refine⟨h.j,⟨ext,e1,fun y hy z hz he=>Nat.le_trans (Nat.min_le_left _ _) (e2 y hy z hz he)⟩,h.o,Nat.le_trans (Nat.min_le_left _ _) h.lowLe,?_,?_,h.same,h.more⟩
  ·by_cases hl:low≤T.ord b
   ·rw [Nat.min_eq_left hl];exact h.lows
   ·rw [Nat.min_eq_right (by omega)];exact ⟨b,hp,rfl,.one hE⟩
  ·intro x hx
   rcases List.mem_append.1 hx with hx | hx
   ·obtain⟨h1,h2⟩:=h.done x hx
    exact⟨h1,fun hz=>Nat.le_trans (Nat.min_le_left _ _) (h2 hz)⟩
   ·simp at hx;subst hx
    exact⟨hb,fun _=>Nat.min_le_right _ _⟩
 ·intro hp
  refine⟨h.j,⟨ext,e1,e2⟩,h.o,h.lowLe,h.lows,?_,h.same,h.more⟩
  intro x hx
  rcases List.mem_append.1 hx with hx | hx
  ·exact h.done x hx
  ·simp at hx;subst hx
   refine⟨hb,fun hz=>absurd ?_ hp⟩
   rw [e1];simp [hz]
theorem lt_visit {E:Nat→Nat→Prop} {N:Nat} {T0 T T':Tj} {gray:Nat→Prop} {at_ low b l:Nat} {D:List Nat} (h:Lt E N T0 T gray at_ low D) (hw:T.ord b=0) (hE:E at_ b)
  (hv:Vt E N T T' (fun x=>gray x∨x=at_) b l):Lt E N T0 T' gray at_ (min low l) (D ++ [b]):=by
 obtain⟨ext,e1,e2⟩:=h.path
 obtain⟨ext',p1,p2,p3⟩:=hv.path
 have hsm:∀v ∈ T.path,T'.ord v=T.ord v:=fun v hm=>hv.same v (h.j.vis v hm)
 have hin0:∀v ∈ T0.path,v ∈ T.path:=fun v hm=>by rw [e1];simp [hm]
 have hat:at_ ∈ T.path:=by rw [e1];simp
 refine⟨hv.j,⟨ext ++ ext',by rw [p1,e1];simp,?_⟩,by rw [hsm at_ hat];exact h.o,Nat.le_trans (Nat.min_le_left _ _) h.lowLe,?_,?_,?_,Nat.le_trans h.more hv.more⟩
 ·intro y hy z hz he
  rw [hsm z (hin0 z hz)]
  rcases List.mem_append.1 hy with hy | hy
  ·have:=e2 y hy z hz he
   have:=Nat.min_le_left low l
   omega
  ·have:=p2 y hy z (hin0 z hz) he
   have:=Nat.min_le_right low l
   omega
 ·obtain⟨z,z1,z2,z3⟩:=h.lows
  have hzk:∃z ∈ T'.path,T'.ord z=low∧Pth E at_ z:=⟨z,by rw [p1];simp [z1],by rw [hsm z z1];exact z2,z3⟩
  rcases p3 with ⟨_,p4⟩ | ⟨y,y1,y2,y3⟩
  ·have h1:=h.lowLe
   have h2:=h.more
   rw [Nat.min_eq_left (by omega)]
   exact hzk
  ·by_cases hl:low≤l
   ·rw [Nat.min_eq_left hl];exact hzk
   ·rw [Nat.min_eq_right (by omega)]
    exact⟨y,by rw [p1];simp [y1],by rw [hsm y y1];exact y2,.step hE y3⟩
 ·intro x hx
  rcases List.mem_append.1 hx with hx | hx
  ·obtain⟨h1,h2⟩:=h.done x hx
   have:=hv.same x h1
   rw [this]
   exact⟨h1,fun hz=>Nat.le_trans (Nat.min_le_left _ _) (h2 hz)⟩
  ·simp at hx;subst hx
   refine⟨hv.seen,fun hz=>?_⟩
   exact absurd hw (h.j.vis x (hin0 x hz))
 ·intro v hn
  have h1:=h.same v hn
  rw [hv.same v (by rw [h1];exact hn),h1]
theorem lt_group {E:Nat→Nat→Prop} {N:Nat} {T0 T:Tj} {gray:Nat→Prop} {at_ low:Nat} {D ext:List Nat} (h:Lt E N T0 T gray at_ low D) (hg0:∀x,gray x→x ∈ T0.path) (e1:T.path=T0.path ++ at_::ext) :
  ∀y ∈ at_::ext,Pth E y at_∧Pth E at_ y:=by
 have hf:=h.j.fwd
 rw [e1] at hf
 obtain⟨_,f2,f3⟩:=List.pairwise_append.1 hf
 intro y hy
 constructor
 ·obtain⟨x,hx,hp⟩:=h.j.back y (by rw [e1];exact List.mem_append.2 (.inr hy))
  rcases hx with hx | rfl
  ·exact hp.trans (f3 x (hg0 x hx) at_ (by simp))
  ·exact hp
 ·rcases List.mem_cons.1 hy with rfl | hy
  ·exact .refl _
  ·exact (List.pairwise_cons.1 f2).1 y hy
theorem lt_orders {E:Nat→Nat→Prop} {N:Nat} {T0 T:Tj} {gray:Nat→Prop} {at_ low:Nat} {D ext:List Nat} (h:Lt E N T0 T gray at_ low D) (e1:T.path=T0.path ++ at_::ext) :
  (∀z ∈ T0.path,T.ord z<T0.count+1)∧(∀y ∈ ext,T0.count+1<T.ord y)∧at_ ∉ T0.path∧(∀y ∈ ext,y ∉ T0.path):=by
 have hs:=h.j.sorted
 rw [e1] at hs
 obtain⟨_,s2,s3⟩:=List.pairwise_append.1 hs
 have o:=h.o
 have k1:∀z ∈ T0.path,T.ord z<T0.count+1:=fun z hz=>by have:=s3 z hz at_ (by simp);omega
 have k2:∀y ∈ ext,T0.count+1<T.ord y:=fun y hy=>by have:=(List.pairwise_cons.1 s2).1 y hy;omega
 refine⟨k1,k2,fun hz=>by have:=k1 _ hz;omega,fun y hy hz=>by have:=k1 _ hz;have:=k2 _ hy;omega⟩
theorem vt_close {E:Nat→Nat→Prop} {N:Nat} {T0 T:Tj} {gray:Nat→Prop} {at_:Nat} {D ext:List Nat} {least:Nat} (hj:Jt E N T0 gray) (h:Lt E N T0 T gray at_ (T0.count+1) D) (e1:T.path=T0.path ++ at_::ext) (hD:∀b,E at_ b→b ∈ D)
  (hN:∀y ∈ at_::ext,y<N)
  (hl:((ext≠[]∨E at_ at_)∧∃m ∈ at_::ext,(∀y ∈ at_::ext,m≤y)∧least=min T.least m)∨(¬(ext≠[]∨E at_ at_)∧least=T.least)) :
  Vt E N T0 ⟨T.count,T.order,T0.path,least⟩ gray at_ (T0.count+1):=by
 obtain⟨k1,k2,k3,k4⟩:=lt_orders h e1
 have hgr:=lt_group h hj.gry e1
 have hs0:∀z ∈ T0.path,T.ord z=T0.ord z:=fun z hz=>h.same z (hj.vis z hz)
 obtain⟨ext2,e1',e2⟩:=h.path
 obtain rfl:ext=ext2:=by rw [e1] at e1';simpa using e1'
 have hcirc:(ext≠[]∨E at_ at_)→∀y ∈ at_::ext,OnC E y:=by
  intro hc y hy
  by_cases hya:y=at_
  ·subst hya
   by_cases hx:ext=[]
   ·rcases hc with hc | hc
    ·exact absurd hx hc
    ·exact⟨y,hc,.refl _⟩
   ·obtain⟨u,hu⟩:=List.exists_mem_of_ne_nil ext hx
    have hne:y≠u:=by intro e;subst e;have:=k2 _ hu;have:=h.o;omega
    have:=hgr u (by simp [hu])
    exact onC_of hne this.2 this.1
  ·have:=hgr y hy
   exact onC_of hya this.1 this.2
 have hle:least≤T.least:=by
  rcases hl with ⟨_,m,_,_,rfl⟩ | ⟨_,rfl⟩
  ·exact Nat.min_le_left _ _
  ·exact Nat.le_refl _
 refine⟨⟨h.j.lenO,?_,?_,h.j.le,?_,hj.gry,hj.back,?_,?_,?_,?_⟩,⟨[],by simp,by simp,.inl ⟨rfl,by omega⟩⟩,h.same,?_,by have:=h.more;dsimp only;omega⟩
 ·exact (List.pairwise_append.1 (e1▸h.j.sorted)).1
 ·intro v hv
  exact h.j.vis v (by rw [e1];simp [hv])
 ·exact (List.pairwise_append.1 (e1▸h.j.fwd)).1
 ·intro y hy hg z hz
  by_cases hya:y=at_
  ·subst hya;exact (h.done z (hD z hz)).1
  ·exact h.j.black y hy (by rintro (h1 | h1);exact hg h1;exact hya h1) z hz
 ·intro y hy hp z hz
  dsimp only at hp
  have hvz:T.ord z≠0:=by
   by_cases hya:y=at_
   ·subst hya;exact (h.done z (hD z hz)).1
   ·exact h.j.black y hy (by rintro (h1 | h1);exact hp (hj.gry y h1);exact hya h1) z hz
  refine⟨hvz,?_⟩
  dsimp only
  intro hz0
  have hk:=k1 z hz0
  by_cases hyp:y ∈ T.path
  ·rw [e1] at hyp
   rcases List.mem_append.1 hyp with h1 | h1
   ·exact hp h1
   ·rcases List.mem_cons.1 h1 with rfl | h1
    ·have:=(h.done z (hD z hz)).2 hz0;omega
    ·have:=e2 y h1 z hz0 hz;omega
  ·exact (h.j.clo y hy hyp z hz).2 (by rw [e1];simp [hz0])
 ·dsimp only
  rcases hl with ⟨hc,m,m1,m2,rfl⟩ | ⟨_,rfl⟩
  ·have hm:=hN m m1
   rcases h.j.sound with hs | hs
   ·exact .inr ⟨by omega,by rw [Nat.min_eq_right (by omega)];exact hcirc hc m m1⟩
   ·by_cases hml:T.least≤m
    ·rw [Nat.min_eq_left hml];exact .inr hs
    ·rw [Nat.min_eq_right (by omega)];exact .inr ⟨hm,hcirc hc m m1⟩
  ·exact h.j.sound
 ·intro i hi hp hc
  dsimp only at hp ⊢
  by_cases hip:i ∈ T.path
  ·rw [e1] at hip
   have hig:i ∈ at_::ext:=(List.mem_append.1 hip).resolve_left hp
   rcases hl with ⟨_,m,m1,m2,rfl⟩ | ⟨hn,_⟩
   ·exact Nat.le_trans (Nat.min_le_right _ _) (m2 i hig)
   ·exfalso
    have hx:ext=[]:=Classical.byContradiction fun hx=>hn (.inl hx)
    subst hx
    simp at hig
    subst hig
    obtain⟨b,hb1,hb2⟩:=hc
    obtain⟨d1,d2⟩:=h.done b (hD b hb1)
    by_cases hbp:b ∈ T.path
    ·rw [e1] at hbp
     rcases List.mem_append.1 hbp with h1 | h1
     ·have:=d2 h1;have:=k1 b h1;omega
     ·simp at h1;subst h1;exact hn (.inr hb1)
    ·have:∀{u v:Nat},Pth E u v→T.ord u≠0→u ∉ T.path→v ∉ T.path:=by
      intro u v hp
      induction hp with
      | refl=>exact fun _ h2=>h2
      | step h1 _ ih=>intro h2 h3;obtain ⟨c1,c2⟩:=h.j.clo _ h2 h3 _ h1;exact ih c1 c2
     exact this hb2 d1 hbp (by rw [e1];simp)
  ·exact Nat.le_trans hle (h.j.comp i hi hip hc)
 ·show T.ord at_≠0
  have:=h.o
  omega
theorem vt_open {E:Nat→Nat→Prop} {N:Nat} {T0 T:Tj} {gray:Nat→Prop} {at_ low:Nat} {D:List Nat} (hj:Jt E N T0 gray) (h:Lt E N T0 T gray at_ low D) (hD:∀b,E at_ b→b ∈ D) (hlow:low≠T0.count+1):Vt E N T0 T gray at_ low:=by
 obtain⟨ext,e1,e2⟩:=h.path
 obtain⟨k1,k2,k3,k4⟩:=lt_orders h e1
 have hgr:=lt_group h hj.gry e1
 have hs0:∀z ∈ T0.path,T.ord z=T0.ord z:=fun z hz=>h.same z (hj.vis z hz)
 have hl2:=h.lowLe
 obtain⟨z,z1,z2,z3⟩:=h.lows
 have hz0:z ∈ T0.path:=by
  rw [e1] at z1
  rcases List.mem_append.1 z1 with h1 | h1
  ·exact h1
  ·exfalso
   rcases List.mem_cons.1 h1 with rfl | h1
   ·have:=h.o;omega
   ·have:=k2 z h1;omega
 have hb:∀y,E at_ y→T.ord y≠0:=fun y hy=>(h.done y (hD y hy)).1
 refine⟨⟨h.j.lenO,h.j.sorted,h.j.vis,h.j.le,h.j.fwd,fun x hx=>h.j.gry x (.inl hx),?_,?_,h.j.clo,h.j.sound,h.j.comp⟩,⟨at_::ext,e1,?_,.inr ⟨z,hz0,by rw [←hs0 z hz0];exact z2,z3⟩⟩,h.same,by have:=h.o;omega,by have:=h.more;omega⟩
 ·intro y hy
  rw [e1] at hy
  rcases List.mem_append.1 hy with h1 | h1
  ·exact hj.back y h1
  ·obtain⟨x,hx,hp⟩:=hj.back z hz0
   exact⟨x,hx,((hgr y h1).1.trans z3).trans hp⟩
 ·intro y hy hg u hu
  by_cases hya:y=at_
  ·subst hya;exact hb u hu
  ·exact h.j.black y hy (by rintro (h1 | h1);exact hg h1;exact hya h1) u hu
 ·intro y hy u hu he
  rw [←hs0 u hu]
  rcases List.mem_cons.1 hy with rfl | hy
  ·exact (h.done u (hD u he)).2 hu
  ·exact e2 y hy u hu he
theorem lt_reach {E:Nat→Nat→Prop} {N:Nat} {T0 T:Tj} {gray:Nat→Prop} {at_ low b:Nat} {D:List Nat} (h:Lt E N T0 T gray at_ low D) (hg0:∀x,gray x→x ∈ T0.path) (hE:E at_ b):∀x ∈ T.path,Pth E x b:=by
 obtain⟨ext,e1,_⟩:=h.path
 have hgr:=lt_group h hg0 e1
 have hf:=h.j.fwd
 rw [e1] at hf
 obtain⟨_,_,f3⟩:=List.pairwise_append.1 hf
 intro x hx
 rw [e1] at hx
 rcases List.mem_append.1 hx with h1 | h1
 ·exact (f3 x h1 at_ (by simp)).trans (.one hE)
 ·exact (hgr x h1).1.trans (.one hE)
theorem ord_lt {E:Nat→Nat→Prop} {N:Nat} {T:Tj} {gray:Nat→Prop} (h:Jt E N T gray) {v:Nat} (hv:T.ord v≠0):v<N:=by
 refine Classical.byContradiction fun hn=>hv ?_
 unfold Tj.ord
 rw [List.getD_eq_getElem?_getD,List.getElem?_eq_none (by rw [h.lenO];omega)]
 rfl
theorem path_nil {E:Nat→Nat→Prop} {N:Nat} {T:Tj} (h:Jt E N T fun _=>False):T.path=[]:=by
 refine Classical.byContradiction fun hn=>?_
 obtain⟨y,hy⟩:=List.exists_mem_of_ne_nil _ hn
 obtain⟨x,hx,_⟩:=h.back y hy
 exact hx
theorem jt_start (E:Nat→Nat→Prop) (N:Nat):Jt E N ⟨0,List.replicate N 0,[],N⟩ fun _=>False:=by
 have ho:∀v,(Tj.mk 0 (List.replicate N 0) [] N).ord v=0:=by
  intro v
  unfold Tj.ord
  simp [List.getD_eq_getElem?_getD,List.getElem?_replicate]
  split <;> rfl
 refine⟨by simp,by simp,by simp,fun v=>by rw [ho];simp,by simp,by simp,by simp,fun y hy=>absurd (ho y) hy,fun y hy=>absurd (ho y) hy,.inl rfl,fun y hy=>absurd (ho y) hy⟩
def LeastC (E:Nat→Nat→Prop) (N m:Nat):Prop:=(m=N∨(m<N∧OnC E m))∧∀i,i<N→OnC E i→m≤i
theorem least_of {E:Nat→Nat→Prop} {N:Nat} {T:Tj} (h:Jt E N T fun _=>False) (hv:∀i,i<N→T.ord i≠0):LeastC E N T.least:=
 ⟨h.sound,fun i hi hc=>h.comp i (hv i hi) (by rw [path_nil h];simp) hc⟩
theorem onC_sub {E F:Nat→Nat→Prop} {P:Nat→Prop} (hE:∀a b,E a b ↔ (P a∧F a b)) (hP:∀a b,P a→F a b→P b) {i:Nat} : OnC E i ↔ (P i∧OnC F i):=by
 have h1:∀{a b:Nat},Pth E a b→Pth F a b:=by
  intro a b h
  induction h with
  | refl=>exact .refl _
  | step h _ ih=>exact .step ((hE _ _).1 h).2 ih
 have h2:∀{a b:Nat},Pth F a b→P a→Pth E a b:=by
  intro a b h
  induction h with
  | refl=>exact fun _=>.refl _
  | step h _ ih=>exact fun hp=>.step ((hE _ _).2 ⟨hp,h⟩) (ih (hP _ _ hp h))
 constructor
 ·rintro⟨b,hb,hp⟩
  exact⟨((hE _ _).1 hb).1,b,((hE _ _).1 hb).2,h1 hp⟩
 ·rintro⟨hp,b,hb,hq⟩
  exact⟨b,(hE _ _).2 ⟨hp,hb⟩,h2 hq (hP _ _ hp hb)⟩
def stT (o:Option St):List Int:=match o with | none=>[] | some s=>s.types
def stG (o:Option St):List Gd:=match o with | none=>[] | some s=>s.guards
def StAt (lo:Nat) (w:World) (sb j:Nat) (o:Option St):Prop:=
 ∃to tc go gc,w.cell? ⟨sb,j*3,none⟩=some (.bool o.isSome)∧w.cell? ⟨sb,j*3+1,none⟩=some (.slice to (stT o).length tc)∧w.cell? ⟨sb,j*3+2,none⟩=some (.slice go (stG o).length gc)∧IntsAt lo w to (stT o)∧GdsAt lo w go (stG o)
structure StsAt (lo:Nat) (w:World) (sb:Nat) (sts:List (Option St)):Prop where
 own:Own w sb 318 (sts.length*3)
 at_:∀j o,sts[j]?=some o→StAt lo w sb j o
theorem StAt.later {lo:Nat} {w w':World} {sb j:Nat} {o:Option St} (h:StAt lo w sb j o) (hk:Keeps lo w w') (hb:w'.heap[sb]?=w.heap[sb]?):StAt lo w' sb j o:=by
 obtain⟨to,tc,go,gc,h1,h2,h3,h4,h5⟩:=h
 have hc:∀i,w'.cell? ⟨sb,i,none⟩=w.cell? ⟨sb,i,none⟩:=fun i=>World.cell?_of_block (w:=w) (a:=⟨sb,i,none⟩) hb
 exact⟨to,tc,go,gc,(hc _).trans h1,(hc _).trans h2,(hc _).trans h3,h4.later hk,h5.later hk⟩
theorem StsAt.later {lo:Nat} {w w':World} {sb:Nat} {sts:List (Option St)} (h:StsAt lo w sb sts) (hk:Keeps lo w w') (hb:w'.heap[sb]?=w.heap[sb]?):StsAt lo w' sb sts:=
 ⟨h.own.of_block hb,fun j o ho=>(h.at_ j o ho).later hk hb⟩
theorem StsAt.below {lo:Nat} {w w':World} {sb:Nat} {sts:List (Option St)} (h:StsAt lo w sb sts) (hb:Below w.heap.size w w'):StsAt lo w' sb sts:=h.later (Keeps.of_below hb) (hb.block sb h.own.lt)
theorem cell_set_ne {w:World} {b i j:Nat} {v:Value} (h:i≠j):(w.setCell ⟨b,i,none⟩ v).cell? ⟨b,j,none⟩=w.cell? ⟨b,j,none⟩:=by
 simp [World.cell?,World.setCell,Array.getElem?_modify]
 cases hb:w.heap[b]? with
 | none=>simp
 | some o=>cases o <;> simp [h]
theorem own_set_cell {w:World} {b n i:Nat} {t:TypeId} {v:Value} (h:Own w b t n) (hi:i<n):(w.setCell ⟨b,i,none⟩ v).cell? ⟨b,i,none⟩=some v:=by
 obtain⟨c,hc,rfl⟩:=h
 simp [World.cell?,World.setCell,Array.getElem?_modify,hc,hi]
theorem StsAt.put {lo:Nat} {w:World} {sb:Nat} {sts:List (Option St)} (h:StsAt lo w sb sts) {x:Nat} (hx:x<sts.length) (hsb:sb<lo) {s:St} {to go:Option Addr} {tc gc:Nat} (ht:IntsAt lo w to s.types) (hg:GdsAt lo w go s.guards) :
  StsAt lo (((w.setCell ⟨sb,x*3,none⟩ (.bool true)).setCell ⟨sb,x*3+1,none⟩ (.slice to s.types.length tc)).setCell ⟨sb,x*3+2,none⟩ (.slice go s.guards.length gc)) sb (sts.set x (some s)):=by
 have hk:Keeps lo w (((w.setCell ⟨sb,x*3,none⟩ (.bool true)).setCell ⟨sb,x*3+1,none⟩ (.slice to s.types.length tc)).setCell ⟨sb,x*3+2,none⟩ (.slice go s.guards.length gc)):=
  (((Keeps.refl lo w).setCell (p:=⟨sb,x*3,none⟩) hsb _).setCell (p:=⟨sb,x*3+1,none⟩) hsb _).setCell (p:=⟨sb,x*3+2,none⟩) hsb _
 have ho:=((h.own.set (x*3) (.bool true)).set (x*3+1) (.slice to s.types.length tc)).set (x*3+2) (.slice go s.guards.length gc)
 refine⟨by rw [List.length_set];exact ho,?_⟩
 intro j o hj
 rw [List.getElem?_set] at hj
 by_cases hxj:x=j
 ·subst hxj
  simp [hx] at hj
  subst hj
  have o1:=h.own.set (x*3) (.bool true)
  have o2:=o1.set (x*3+1) (.slice to s.types.length tc)
  refine⟨to,tc,go,gc,?_,?_,own_set_cell o2 (by omega),ht.later hk,hg.later hk⟩
  ·rw [cell_set_ne (by omega),cell_set_ne (by omega)]
   exact own_set_cell h.own (by omega)
  ·rw [cell_set_ne (by omega)]
   exact own_set_cell o1 (by omega)
 ·rw [if_neg hxj] at hj
  obtain⟨to',tc',go',gc',h1,h2,h3,h4,h5⟩:=h.at_ j o hj
  refine⟨to',tc',go',gc',?_,?_,?_,h4.later hk,h5.later hk⟩
  ·rw [cell_set_ne (by omega),cell_set_ne (by omega),cell_set_ne (by omega)];exact h1
  ·rw [cell_set_ne (by omega),cell_set_ne (by omega),cell_set_ne (by omega)];exact h2
  ·rw [cell_set_ne (by omega),cell_set_ne (by omega),cell_set_ne (by omega)];exact h3
theorem Tryz.info_State:(Tryz.prog.info? 318).map (fun i=>(i.zero,i.size,i.bytes))=some (some (.agg #[.bool false,.slice none 0 0,.slice none 0 0]),3,56):=by kernel_rfl
theorem made_cell {z:Array Value} {n j i:Nat} (hi:i<z.size) (hj:j * z.size+i<n):(madeCells z n)[j * z.size+i]?=z[i]?:=by
 have hm:(j * z.size+i) % z.size=i:=by rw [Nat.add_comm,Nat.add_mul_mod_self_right,Nat.mod_eq_of_lt hi]
 unfold madeCells
 simp [hj,hm,hi]
theorem sts_made (lo:Nat) (w:World) (n:Nat):StsAt lo (w.alloc (.cells (madeCells #[.bool false,.slice none 0 0,.slice none 0 0] (n*3)) 318)) w.heap.size (List.replicate n none):=by
 refine⟨by simpa using Own.made w #[.bool false,.slice none 0 0,.slice none 0 0] (n*3) 318,?_⟩
 intro j o hj
 rw [List.getElem?_replicate] at hj
 split at hj
 ·rename_i hjn
  obtain rfl:=(Option.some.inj hj).symm
  have hb:=blk_alloc_new w (.cells (madeCells #[.bool false,.slice none 0 0,.slice none 0 0] (n*3)) 318)
  have hc:∀i,i<3→(w.alloc (.cells (madeCells #[.bool false,.slice none 0 0,.slice none 0 0] (n*3)) 318)).cell? ⟨w.heap.size,j*3+i,none⟩=(#[.bool false,.slice none 0 0,.slice none 0 0]:Array Value)[i]?:=by
   intro i hi
   have:=made_cell (z:=#[.bool false,.slice none 0 0,.slice none 0 0]) (n:=n*3) (j:=j) (i:=i) (by simpa using hi) (by simp;omega)
   simp only [World.cell?,hb]
   simpa using this
  exact⟨none,0,none,0,hc 0 (by omega),hc 1 (by omega),hc 2 (by omega),fun i x hx=>by simp [stT] at hx,fun i x hx=>by simp [stG] at hx⟩
 ·cases hj
open Classical in
noncomputable def leastN (P:Nat→Prop) (N:Nat):Nat:=((List.range N).find? fun i=>decide (P i)).getD N
open Classical in
theorem leastN_of {E:Nat→Nat→Prop} {N m:Nat} (h:LeastC E N m):leastN (OnC E) N=m:=by
 unfold leastN
 obtain⟨h1,h2⟩:=h
 rcases h1 with rfl | ⟨h3,h4⟩
 ·rw [List.find?_eq_none.2]
  ·rfl
  ·intro i hi
   simp at hi ⊢
   intro hc
   have:=h2 i hi hc
   omega
 ·have:(List.range N).find? (fun i=>decide (OnC E i))=some m:=by
   rw [List.find?_range_eq_some]
   refine⟨by simpa using h4,by simpa using h3,?_⟩
   intro j hj
   simp
   intro hc
   have:=h2 j (by omega) hc
   omega
  rw [this]
  rfl
def Cf.E (c:Cf) (p:Pd) (a b:Nat):Prop:=(c.st a).isSome=true∧Sil p.ins a b
noncomputable def circF (p:Pd) (c:Cf):Nat:=leastN (OnC (c.E p)) p.ins.length
noncomputable def verF (ps:List Pd) (p:Pd) (pi:Nat):Int × Int × Int:=
 match walkF ps p (2 * p.ins.length+2) (startC p) with
 | .error (k,x)=>(k,pi,x)
 | .ok c=>if circF p c<p.ins.length then (14,pi,circF p c) else (0,0,0)
theorem verF_error {ps:List Pd} {p:Pd} {pi k x:Nat} (h:walkF ps p (2 * p.ins.length+2) (startC p)=.error (k,x)):verF ps p pi=((k:Int),(pi:Int),(x:Int)):=by unfold verF;rw [h]
theorem verF_circ {ps:List Pd} {p:Pd} {pi m:Nat} {c:Cf} (h:walkF ps p (2 * p.ins.length+2) (startC p)=.ok c) (hm:LeastC (c.E p) p.ins.length m) (hl:m<p.ins.length):verF ps p pi=(14,(pi:Int),(m:Int)):=by
 unfold verF circF;rw [h];dsimp only;rw [leastN_of hm,if_pos hl]
theorem verF_none {ps:List Pd} {p:Pd} {pi:Nat} {c:Cf} (h:walkF ps p (2 * p.ins.length+2) (startC p)=.ok c) (hm:LeastC (c.E p) p.ins.length p.ins.length):verF ps p pi=(0,0,0):=by
 unfold verF circF;rw [h];dsimp only;rw [leastN_of hm,if_neg (Nat.lt_irrefl _)]
theorem firstT_len {np:Nat} {p:Pd} (hp:PFit np p):((firstT p).length:Int)=p.regs:=by
 have h1:=hp.regs
 have h2:=hp.params
 unfold firstT
 dsimp only
 split <;> simp <;> omega
theorem start_ok {np:Nat} {p:Pd} (hp:PFit np p):CfOk p (startC p)∧Closed p (startC p) none∧(startC p).meas<2 * p.ins.length+2:=by
 have hs:=hp.some
 have hst:∀i,(startC p).st i=if 0=i then some ⟨firstT p,[]⟩ else none:=by
  intro i
  have:=st_set ⟨List.replicate p.ins.length none,[]⟩ 0 i ⟨firstT p,[]⟩ ((List.replicate p.ins.length false).set 0 true)
  unfold startC
  rw [this]
  unfold Cf.st
  simp only [List.length_replicate,List.getD_eq_getElem?_getD,List.getElem?_replicate]
  by_cases h0:0=i
  ·rw [if_pos ⟨h0,hs⟩,if_pos h0]
  ·rw [if_neg (fun h=>h0 h.1),if_neg h0]
   split <;> rfl
 have hdu:∀i,(startC p).due.getD i false=if 0=i then true else false:=by
  intro i
  unfold startC
  rw [due_set]
  simp only [List.length_replicate,List.getD_eq_getElem?_getD,List.getElem?_replicate]
  by_cases h0:0=i
  ·rw [if_pos ⟨h0,hs⟩,if_pos h0]
  ·rw [if_neg (fun h=>h0 h.1),if_neg h0]
   split <;> rfl
 refine⟨⟨by simp [startC],by simp [startC],?_,?_⟩,?_,?_⟩
 ·intro i s hi
  rw [hst] at hi
  split at hi
  ·obtain rfl:=Option.some.inj hi
   exact⟨firstT_len hp,by simp,by simp⟩
  ·cases hi
 ·intro i hi
  rw [hdu] at hi
  rw [hst]
  split at hi
  ·rename_i h;rw [if_pos h];rfl
  ·cases hi
 ·intro i n hn hi hd
  rw [hst] at hi
  rw [hdu] at hd
  split at hi
  ·rename_i h;rw [if_pos h] at hd;cases hd
  ·cases hi
 ·unfold Cf.meas startC
  dsimp only
  have h1:unseen ((List.replicate p.ins.length none).set 0 (some ⟨firstT p,[]⟩))≤p.ins.length:=by
   unfold unseen
   exact Nat.le_trans (List.length_filter_le _ _) (by simp)
  have h2:=@dues_true (List.replicate p.ins.length false) 0
  have h3:dues (List.replicate p.ins.length false)=0:=by unfold dues;simp
  omega
theorem circ_iff {p:Pd} {c:Cf} (hk:Closed p c none) (hd:∀i,c.due.getD i false=false) (i:Nat):OnC (c.E p) i ↔ ((c.st i).isSome=true∧OnC (Sil p.ins) i):=by
 refine onC_sub (P:=fun a=>(c.st a).isSome=true) (fun a b=>Iff.rfl) ?_
 rintro a b ha ⟨n,hn,hb⟩
 exact hk a n hn ha (hd a) (by simp) b hb
section
variable {w : World} {ops : Array Oper} {rest : List Oper} {o : Oper} {a : Act} {Q : Exit → Act → World → Prop}
theorem app_int (hgd:o.guard=none) (s x:Operand) (ho:o.op=.call {callee:=.builtin .append,args:=#[s,x],argTypes:=#[55,55]})
  (base:Nat) (v:Value) (n:Nat) (xs:List Int) (u:Int) (B:Nat) (hs:a.eval s=v) (hown:w.ownsRow base 3 1 v n (ints xs)) (hx:a.eval x=.slice (some ⟨B,0,none⟩) 1 1) (hB:w.cell? ⟨B,0,none⟩=some (.int .i64 u))
  (hn:n≤1048576) (hbase:base≤w.heap.size)
  (h:∀v' w',w'.ownsRow base 3 1 v' (n+1) (ints (xs ++ [u]))→w.grownBy w' v.ownBlock→(v'.ownBlock=v.ownBlock∨v'.ownBlock=some w.heap.size)→wpList Tryz.prog ops Q rest (a.put o.dst v') w'):wpList Tryz.prog ops Q (o::rest) a w:=by
 obtain⟨i0,hi,hz0,hz1,hz2⟩:=info_parts Tryz.info_int
 refine wpList_append_own_at w hgd s x 55 ho base 3 i0 (.int .i64 0) 1 8 Tryz.underlying55 hi hz0 hz1 hz2 rfl (by decide) v n (ints xs) hs hown ⟨B,0,none⟩ 1 1 [.int .i64 u] hx rfl ?_ ?_ (by unfold maxLen;omega) (by omega) hbase ?_
 ·intro j q hj
  match j,hj with
  | 0,hj=>simp at hj;subst hj;simpa [Addr.add] using hB
 ·intro q hq;simp at hq;subst hq;rfl
 ·intro v' w' h1 h2 _ h4
  refine h v' w' ?_ h2 h4
  rw [ints_append]
  exact h1
theorem app_gd (hgd:o.guard=none) (s x:Operand) (ho:o.op=.call {callee:=.builtin .append,args:=#[s,x],argTypes:=#[316,316]})
  (base:Nat) (v:Value) (n:Nat) (xs:List Gd) (u:Gd) (B:Nat) (hs:a.eval s=v) (hown:w.ownsRow base 373 3 v n (gds xs)) (hx:a.eval x=.slice (some ⟨B,0,none⟩) 1 1) (hB:GdAt w B 0 u)
  (hn:n≤1048576) (hbase:base≤w.heap.size)
  (h:∀v' w',w'.ownsRow base 373 3 v' (n+1) (gds (xs ++ [u]))→w.grownBy w' v.ownBlock→(v'.ownBlock=v.ownBlock∨v'.ownBlock=some w.heap.size)→wpList Tryz.prog ops Q rest (a.put o.dst v') w'):wpList Tryz.prog ops Q (o::rest) a w:=by
 obtain⟨i0,hi,hz0,hz1,hz2⟩:=info_parts Tryz.info_Guard
 obtain⟨b0,b1,b2⟩:=hB
 refine wpList_append_own_at w hgd s x 316 ho base 373 i0 (.agg #[.bool false,.int .i64 0,.int .i64 0]) 3 24 Tryz.underlying316 hi hz0 hz1 hz2 rfl (by decide) v n (gds xs) hs hown ⟨B,0,none⟩ 1 1 u.vals hx rfl ?_ ?_ (by unfold maxLen;omega) (by omega) hbase ?_
 ·intro j q hj
  match j,hj with
  | 0,hj=>simp [Gd.vals] at hj;subst hj;simpa [Addr.add] using b0
  | 1,hj=>simp [Gd.vals] at hj;subst hj;simpa [Addr.add] using b1
  | 2,hj=>simp [Gd.vals] at hj;subst hj;simpa [Addr.add] using b2
 ·intro q hq;simp [Gd.vals] at hq;rcases hq with rfl | rfl | rfl <;> rfl
 ·intro v' w' h1 h2 _ h4
  refine h v' w' ?_ h2 h4
  rw [gds_append]
  simpa [gds] using h1
end
def ChangePost (w:World) (r:Option (List Gd)) (e:Ending) (w':World):Prop:=
 match r with
 | none=>∃v,e=.returned (.tuple #[v,.bool false])
 | some gs=>∃ao cap,e=.returned (.tuple #[.slice ao gs.length cap,.bool true])∧GdsAt w.heap.size w' ao gs
theorem AllAt.dropLast {α:Type} {lo:Nat} {w:World} {ao:Option Addr} {k:Nat} {at1:Nat→Nat→α→Prop} {xs:List α} (h:AllAt lo w ao k at1 xs):AllAt lo w ao k at1 xs.dropLast:=by
 intro i x hx
 refine h i x ?_
 rw [List.dropLast_eq_take,List.getElem?_take] at hx
 split at hx
 ·exact hx
 ·cases hx
theorem AllAt.take {α:Type} {lo:Nat} {w:World} {ao:Option Addr} {k:Nat} {at1:Nat→Nat→α→Prop} {xs:List α} (h:AllAt lo w ao k at1 xs) (n:Nat):AllAt lo w ao k at1 (xs.take n):=by
 intro i x hx
 refine h i x ?_
 rw [List.getElem?_take] at hx
 split at hx
 ·exact hx
 ·cases hx
theorem owns_last {w:World} {base k:Nat} {v:Value} {gs:List Gd} (h:w.ownsRow base 373 3 v (k+1) (gds gs)) (hm:gs.length=k+1) :
  ∃g cap q,v=.slice (some ⟨g,0,none⟩) (k+1) cap∧base≤g∧g<w.heap.size∧k+1≤cap∧gs[k]?=some q∧GdAt w g (k*3) q∧(∀i,w.frozen? ⟨g,i,none⟩=false)∧GdsAt base w (some ⟨g,0,none⟩) gs∧
   (∀x,(w.setCell ⟨g,k*3+1,none⟩ (.int .i64 x)).ownsRow base 373 3 v (k+1) ((gds gs).set (k*3+1) (.int .i64 x))):=by
 obtain⟨q,hq⟩:=some_of_lt (show k<gs.length by omega)
 rcases owns_form h with ⟨h1,h2⟩ | ⟨g,cap,rfl,h2,h3⟩
 ·omega
 ·obtain⟨G1,G2⟩:=owns_gds h
  have hcap:k+1≤cap:=by
   obtain⟨_,hh | ⟨g',cap',cur,e1,_,_,hc,_⟩⟩:=h
   ·obtain⟨hh,_⟩:=hh;cases hh
   ·simp only [Value.slice.injEq] at e1
    omega
  refine⟨g,cap,q,rfl,h2,h3,hcap,hq,?_,fun i=>h.frozenAt i,G1,?_⟩
  ·obtain⟨b,off,e,_,_,hg⟩:=G1 k q hq
   simp at e
   obtain⟨rfl,rfl⟩:=e
   simpa using hg
  ·intro x
   exact (h.stored (k*3+1) (.int .i64 x)).1
theorem modify_concat (ys:List Gd) (q:Gd) (f:Gd→Gd):(ys ++ [q]).modify ys.length f=ys ++ [f q]:=by
 induction ys with
 | nil=>rfl
 | cons a r ih=>
  show a::(r ++ [q]).modify r.length f=_
  rw [ih]
  rfl
theorem gds_set {gs:List Gd} {k:Nat} (hm:gs.length=k+1) (x:Int):(gds gs).set (k*3+1) (.int .i64 x)=gds (keepLast gs x):=by
 obtain⟨ys,q,rfl⟩:∃ys q,gs=ys ++ [q]:=⟨gs.dropLast,gs.getLast (by intro h;subst h;simp at hm),(List.dropLast_concat_getLast _).symm⟩
 simp at hm
 subst hm
 unfold keepLast
 rw [gds_append,List.set_append_right _ _ (by rw [gds_length];omega),gds_length]
 rw [show (ys ++ [q]).length - 1=ys.length by simp]
 rw [modify_concat,gds_append]
 congr 1
 simp [gds,Gd.vals]
theorem lastTr_of {gs:List Gd} {k:Nat} {q:Gd} (hm:gs.length=k+1) (hq:gs[k]?=some q):lastTr gs=some q.tr:=by
 unfold lastTr
 rw [List.getLast?_eq_getElem?,hm]
 simp [hq]
structure RowI (lo:Nat) (w:World) (ao:Option Addr) (cap:Nat) (xs:List Int):Prop where
 cap:xs.length≤cap
 nil:ao=none→xs.length=0
 form:∀a,ao=some a→∃b o,a=⟨b,o,none⟩
 at_:IntsAt lo w ao xs
 tag:∀b o,ao=some ⟨b,o,none⟩→0<xs.length→∃arr,w.heap[b]?=some (.cells arr 3 (0,0))
structure RowG (lo:Nat) (w:World) (ao:Option Addr) (cap:Nat) (xs:List Gd):Prop where
 cap:xs.length≤cap
 nil:ao=none→xs.length=0
 form:∀a,ao=some a→∃b o,a=⟨b,o,none⟩
 at_:GdsAt lo w ao xs
 tag:∀b o,ao=some ⟨b,o,none⟩→0<xs.length→∃arr,w.heap[b]?=some (.cells arr 373 (0,0))
theorem row_blk {α:Type} {lo:Nat} {w:World} {ao:Option Addr} {k:Nat} {at1:Nat→Nat→α→Prop} {xs:List α} (h:AllAt lo w ao k at1 xs) {b o:Nat} (ha:ao=some ⟨b,o,none⟩) (hl:0<xs.length):lo≤b∧b<w.heap.size:=by
 obtain⟨x,hx⟩:=some_of_lt hl
 obtain⟨b',o',e,h1,h2,_⟩:=h 0 x hx
 rw [ha] at e
 simp at e
 obtain⟨rfl,_⟩:=e
 exact⟨h1,h2⟩
theorem RowI.later {lo:Nat} {w w':World} {ao:Option Addr} {cap:Nat} {xs:List Int} (h:RowI lo w ao cap xs) (hk:Keeps lo w w'):RowI lo w' ao cap xs:=⟨h.cap,h.nil,h.form,h.at_.later hk,fun b o e hl=>by obtain ⟨arr,ha⟩:=h.tag b o e hl;have hb:=row_blk h.at_ e hl;exact ⟨arr,(hk.block b hb.1 hb.2).trans ha⟩⟩
theorem RowG.later {lo:Nat} {w w':World} {ao:Option Addr} {cap:Nat} {xs:List Gd} (h:RowG lo w ao cap xs) (hk:Keeps lo w w'):RowG lo w' ao cap xs:=⟨h.cap,h.nil,h.form,h.at_.later hk,fun b o e hl=>by obtain ⟨arr,ha⟩:=h.tag b o e hl;have hb:=row_blk h.at_ e hl;exact ⟨arr,(hk.block b hb.1 hb.2).trans ha⟩⟩
theorem RowI.lower {lo lo':Nat} {w:World} {ao:Option Addr} {cap:Nat} {xs:List Int} (h:RowI lo w ao cap xs) (hl:lo'≤lo):RowI lo' w ao cap xs:=⟨h.cap,h.nil,h.form,AllAt.lower h.at_ hl,h.tag⟩
theorem RowG.lower {lo lo':Nat} {w:World} {ao:Option Addr} {cap:Nat} {xs:List Gd} (h:RowG lo w ao cap xs) (hl:lo'≤lo):RowG lo' w ao cap xs:=⟨h.cap,h.nil,h.form,AllAt.lower h.at_ hl,h.tag⟩
theorem RowI.of_owns {base n cap:Nat} {w:World} {ao:Option Addr} {xs:List Int} (h:w.ownsRow base 3 1 (.slice ao n cap) n (ints xs)):RowI base w ao cap xs:=by
 obtain⟨h1,rfl⟩:=owns_ints h
 refine⟨owns_cap h ao cap rfl,?_,?_,h1,?_⟩
 ·rintro rfl
  rcases owns_form h with ⟨_,h0⟩ | ⟨g,c,h2,_⟩
  ·exact h0
  ·simp at h2
 ·rintro a rfl
  rcases owns_form h with ⟨h2,_⟩ | ⟨g,c,h2,_⟩
  ·simp at h2
  ·simp at h2;exact ⟨g,0,h2.1⟩
 ·rintro b o rfl _
  obtain⟨b',e,ht⟩:=owns_tag h _ rfl
  simp at e
  rw [e.1]
  exact ht
theorem RowI.store {lo:Nat} {w:World} {ao:Option Addr} {cap:Nat} {xs:List Int} (h:RowI lo w ao cap xs) {g:Nat} {arr:Array Value} {t:TypeId} (hg:Blk w g arr t) (ht:t≠3) (o:Nat) (v:Value):RowI lo (w.setCell ⟨g,o,none⟩ v) ao cap xs:=by
 have hne:∀b o',ao=some ⟨b,o',none⟩→0<xs.length→b≠g:=by
  rintro b o' e hl rfl
  obtain⟨a2,h2⟩:=h.tag b o' e hl
  unfold Blk at hg
  rw [hg] at h2
  simp at h2
  exact ht h2.2
 refine⟨h.cap,h.nil,h.form,?_,?_⟩
 ·intro i x hx
  obtain⟨b,off,e,h1,h2,h3⟩:=h.at_ i x hx
  have hl:0<xs.length:=by have:=(List.getElem?_eq_some_iff.1 hx).1;omega
  exact⟨b,off,e,h1,by rw [size_set];exact h2,(World.cell?_setCell_far _ _ _ _ (fun e2=>hne b off e hl e2.symm)).trans h3⟩
 ·intro b o' e hl
  obtain⟨a2,h2⟩:=h.tag b o' e hl
  exact⟨a2,(Below.heap_setCell _ _ _ _ (hne b o' e hl)).trans h2⟩
theorem RowG.store {lo:Nat} {w:World} {ao:Option Addr} {cap:Nat} {xs:List Gd} (h:RowG lo w ao cap xs) {g:Nat} {arr:Array Value} {t:TypeId} (hg:Blk w g arr t) (ht:t≠373) (o:Nat) (v:Value):RowG lo (w.setCell ⟨g,o,none⟩ v) ao cap xs:=by
 have hne:∀b o',ao=some ⟨b,o',none⟩→0<xs.length→b≠g:=by
  rintro b o' e hl rfl
  obtain⟨a2,h2⟩:=h.tag b o' e hl
  unfold Blk at hg
  rw [hg] at h2
  simp at h2
  exact ht h2.2
 refine⟨h.cap,h.nil,h.form,?_,?_⟩
 ·intro i x hx
  obtain⟨b,off,e,h1,h2,h3,h4,h5⟩:=h.at_ i x hx
  have hl:0<xs.length:=by have:=(List.getElem?_eq_some_iff.1 hx).1;omega
  have hf:=fun e2=>hne b off e hl e2
  exact⟨b,off,e,h1,by rw [size_set];exact h2,(World.cell?_setCell_far _ _ _ _ (fun e2=>hf e2.symm)).trans h3,(World.cell?_setCell_far _ _ _ _ (fun e2=>hf e2.symm)).trans h4,(World.cell?_setCell_far _ _ _ _ (fun e2=>hf e2.symm)).trans h5⟩
 ·intro b o' e hl
  obtain⟨a2,h2⟩:=h.tag b o' e hl
  exact⟨a2,(Below.heap_setCell _ _ _ _ (hne b o' e hl)).trans h2⟩
theorem RowG.of_post {lo:Nat} {w':World} {ao:Option Addr} {cap:Nat} {l:List Gd} (h1:l.length≤cap) (h2:GdsAt lo w' ao l) (h3:RTag w' ao 373):RowG lo w' ao cap l:=by
 refine⟨h1,?_,?_,h2,?_⟩
 ·rintro rfl
  cases l with
  | nil=>rfl
  | cons a r=>obtain ⟨b,o,e,_⟩:=h2 0 a rfl;cases e
 ·rintro a rfl
  obtain⟨b,e,_⟩:=h3 a rfl
  exact⟨b,0,e⟩
 ·rintro b o rfl _
  obtain⟨b',e,ht⟩:=h3 _ rfl
  simp at e
  rw [e.1]
  exact ht
def StI (lo:Nat) (w:World) (sb j:Nat) (o:Option St):Prop:=
 ∃to tc go gc,w.cell? ⟨sb,j*3,none⟩=some (.bool o.isSome)∧w.cell? ⟨sb,j*3+1,none⟩=some (.slice to (stT o).length tc)∧w.cell? ⟨sb,j*3+2,none⟩=some (.slice go (stG o).length gc)∧RowI lo w to tc (stT o)∧RowG lo w go gc (stG o)
structure StsI (lo:Nat) (w:World) (sb:Nat) (sts:List (Option St)):Prop where
 own:Own w sb 318 (sts.length*3)
 at_:∀j o,sts[j]?=some o→StI lo w sb j o
theorem StI.later {lo:Nat} {w w':World} {sb j:Nat} {o:Option St} (h:StI lo w sb j o) (hk:Keeps lo w w') (hb:w'.heap[sb]?=w.heap[sb]?):StI lo w' sb j o:=by
 obtain⟨to,tc,go,gc,h1,h2,h3,h4,h5⟩:=h
 have hc:∀i,w'.cell? ⟨sb,i,none⟩=w.cell? ⟨sb,i,none⟩:=fun i=>World.cell?_of_block (w:=w) (a:=⟨sb,i,none⟩) hb
 exact⟨to,tc,go,gc,(hc _).trans h1,(hc _).trans h2,(hc _).trans h3,h4.later hk,h5.later hk⟩
theorem StsI.later {lo:Nat} {w w':World} {sb:Nat} {sts:List (Option St)} (h:StsI lo w sb sts) (hk:Keeps lo w w') (hb:w'.heap[sb]?=w.heap[sb]?):StsI lo w' sb sts:=
 ⟨h.own.of_block hb,fun j o ho=>(h.at_ j o ho).later hk hb⟩
theorem StsI.put {lo:Nat} {w:World} {sb:Nat} {sts:List (Option St)} (h:StsI lo w sb sts) {x:Nat} (hx:x<sts.length) (hsb:sb<lo) {s:St} {to go:Option Addr} {tc gc:Nat} (ht:RowI lo w to tc s.types) (hg:RowG lo w go gc s.guards) :
  StsI lo (((w.setCell ⟨sb,x*3,none⟩ (.bool true)).setCell ⟨sb,x*3+1,none⟩ (.slice to s.types.length tc)).setCell ⟨sb,x*3+2,none⟩ (.slice go s.guards.length gc)) sb (sts.set x (some s)):=by
 have hk:Keeps lo w (((w.setCell ⟨sb,x*3,none⟩ (.bool true)).setCell ⟨sb,x*3+1,none⟩ (.slice to s.types.length tc)).setCell ⟨sb,x*3+2,none⟩ (.slice go s.guards.length gc)):=
  (((Keeps.refl lo w).setCell (p:=⟨sb,x*3,none⟩) hsb _).setCell (p:=⟨sb,x*3+1,none⟩) hsb _).setCell (p:=⟨sb,x*3+2,none⟩) hsb _
 have ho:=((h.own.set (x*3) (.bool true)).set (x*3+1) (.slice to s.types.length tc)).set (x*3+2) (.slice go s.guards.length gc)
 refine⟨by rw [List.length_set];exact ho,?_⟩
 intro j o hj
 rw [List.getElem?_set] at hj
 by_cases hxj:x=j
 ·subst hxj
  simp [hx] at hj
  subst hj
  have o1:=h.own.set (x*3) (.bool true)
  have o2:=o1.set (x*3+1) (.slice to s.types.length tc)
  refine⟨to,tc,go,gc,?_,?_,own_set_cell o2 (by omega),ht.later hk,hg.later hk⟩
  ·rw [cell_set_ne (by omega),cell_set_ne (by omega)]
   exact own_set_cell h.own (by omega)
  ·rw [cell_set_ne (by omega)]
   exact own_set_cell o1 (by omega)
 ·rw [if_neg hxj] at hj
  obtain⟨to',tc',go',gc',h1,h2,h3,h4,h5⟩:=h.at_ j o hj
  refine⟨to',tc',go',gc',?_,?_,?_,h4.later hk,h5.later hk⟩
  ·rw [cell_set_ne (by omega),cell_set_ne (by omega),cell_set_ne (by omega)];exact h1
  ·rw [cell_set_ne (by omega),cell_set_ne (by omega),cell_set_ne (by omega)];exact h2
  ·rw [cell_set_ne (by omega),cell_set_ne (by omega),cell_set_ne (by omega)];exact h3
theorem StI.store {lo:Nat} {w:World} {sb j:Nat} {o:Option St} (h:StI lo w sb j o) {g:Nat} {arr:Array Value} {t:TypeId} (hg:Blk w g arr t) (ht:t≠3) (ht2:t≠373) (hs:sb≠g) (q:Nat) (v:Value):StI lo (w.setCell ⟨g,q,none⟩ v) sb j o:=by
 obtain⟨to,tc,go,gc,h1,h2,h3,h4,h5⟩:=h
 have hc:∀i,(w.setCell ⟨g,q,none⟩ v).cell? ⟨sb,i,none⟩=w.cell? ⟨sb,i,none⟩:=fun i=>World.cell?_setCell_far _ _ _ _ (fun e=>hs e.symm)
 exact⟨to,tc,go,gc,(hc _).trans h1,(hc _).trans h2,(hc _).trans h3,h4.store hg ht q v,h5.store hg ht2 q v⟩
structure VfIn (B L vb sb db:Nat):Prop where
 v1:B≤vb
 v2:vb<L
 s1:B≤sb
 s2:sb<L
 d1:B≤db
 d2:db<L
 vs:vb≠sb
 vd:vb≠db
 sd:sb≠db
structure Off (B L:Nat) (w w':World):Prop where
 below:Below B w w'
 keeps:Keeps L w w'
theorem Off.of_below {B L:Nat} {w w':World} (h:Below w.heap.size w w') (hB:B≤w.heap.size):Off B L w w':=⟨h.mono hB,Keeps.of_below h⟩
theorem Off.refl (B L:Nat) (w:World):Off B L w w:=⟨Below.refl _ _,Keeps.refl _ _⟩
theorem Off.trans {B L:Nat} {a b c:World} (h:Off B L a b) (k:Off B L b c):Off B L a c:=⟨h.below.trans k.below,h.keeps.trans k.keeps⟩
theorem Off.size {B L:Nat} {a b:World} (h:Off B L a b):a.heap.size≤b.heap.size:=h.below.size
theorem Off.blk {B L:Nat} {a b:World} (h:Off B L a b) {g:Nat} {arr:Array Value} {t:TypeId} (x:Blk a g arr t) (hg:L≤g):Blk b g arr t:=(h.keeps.block g hg x.lt).trans x
theorem Off.set {B L:Nat} {a b:World} (h:Off B L a b) {p:Addr} (v:Value) (h1:B≤p.block) (h2:p.block<L):Off B L a (b.setCell p v):=⟨h.below.setCell h1 _,h.keeps.setCell h2 _⟩
theorem Off.setNew {B L:Nat} {a b:World} (h:Off B L a b) (hB:B≤a.heap.size) {p:Addr} (v:Value) (h1:a.heap.size≤p.block):Off B L a (b.setCell p v):=
 ⟨h.below.setCell (Nat.le_trans hB h1) _,⟨by rw [size_set];exact h.size,fun k hk hs=>(Below.heap_setCell _ _ _ _ (by omega)).trans (h.keeps.block k hk hs)⟩⟩
structure VfAt (L vb sb db:Nat) (cao:Option Addr) (ccap:Nat) (ps:List Pd) (p:Pd) (h:Ph) (w:World) (c:Cf) (l:Nat):Prop where
 blk:Blk w vb #[.slice cao ps.length ccap,.string p.name,.int .i64 p.line,.int .i64 p.params,.bool p.rest,.int .i64 p.regs,.slice h.uo p.ups.length h.uc,.slice h.co p.consts.length h.cc,.slice h.io p.ins.length h.ic,.slice h.no p.named.length h.nc,.slice (some ⟨sb,0,none⟩) p.ins.length p.ins.length,.slice (some ⟨db,0,none⟩) p.ins.length p.ins.length,.int .i64 l] 313
 sts:StsI L w sb c.sts
 due:Blk w db (boolArr c.due) 4
 low:∀j,j<l→c.due.getD j false=false
 lenS:c.sts.length=p.ins.length
 lenD:c.due.length=p.ins.length
theorem VfAt.below {L vb sb db:Nat} {cao:Option Addr} {ccap:Nat} {ps:List Pd} {p:Pd} {h:Ph} {w w':World} {c:Cf} {l:Nat} (x:VfAt L vb sb db cao ccap ps p h w c l) (hb:Below w.heap.size w w'):VfAt L vb sb db cao ccap ps p h w' c l:=
 ⟨x.blk.later hb,x.sts.later (Keeps.of_below hb) (hb.block sb x.sts.own.lt),x.due.later hb,x.low,x.lenS,x.lenD⟩
theorem VfAt.store {B L vb sb db:Nat} {cao:Option Addr} {ccap:Nat} {ps:List Pd} {p:Pd} {h:Ph} {w:World} {c:Cf} {l:Nat} (V:VfIn B L vb sb db) (x:VfAt L vb sb db cao ccap ps p h w c l) {g:Nat} {arr:Array Value} {t:TypeId} (hg:Blk w g arr t) (hL:L≤g) (ht:t≠3) (ht2:t≠373) (q:Nat) (v:Value):VfAt L vb sb db cao ccap ps p h (w.setCell ⟨g,q,none⟩ v) c l:=by
 have n1:vb≠g:=by have:=V.v2;omega
 have n2:sb≠g:=by have:=V.s2;omega
 have n3:db≠g:=by have:=V.d2;omega
 exact⟨x.blk.setOther (p:=⟨g,q,none⟩) n1 _,⟨x.sts.own.of_block (Below.heap_setCell _ _ _ _ n2),fun j o ho=>(x.sts.at_ j o ho).store hg ht ht2 n2 q v⟩,x.due.setOther (p:=⟨g,q,none⟩) n3 _,x.low,x.lenS,x.lenD⟩
theorem VfAt.put {B L vb sb db:Nat} {cao:Option Addr} {ccap:Nat} {ps:List Pd} {p:Pd} {h:Ph} {w:World} {c:Cf} {l:Nat} (V:VfIn B L vb sb db) (x:VfAt L vb sb db cao ccap ps p h w c l) {k:Nat} (hk:k<p.ins.length) {s:St} {to go:Option Addr} {tc gc:Nat} (ht:RowI L w to tc s.types) (hg:RowG L w go gc s.guards) :
  VfAt L vb sb db cao ccap ps p h (((w.setCell ⟨sb,k*3,none⟩ (.bool true)).setCell ⟨sb,k*3+1,none⟩ (.slice to s.types.length tc)).setCell ⟨sb,k*3+2,none⟩ (.slice go s.guards.length gc)) ⟨c.sts.set k (some s),c.due⟩ l:=by
 have hs3:∀j,j≠sb→(((w.setCell ⟨sb,k*3,none⟩ (.bool true)).setCell ⟨sb,k*3+1,none⟩ (.slice to s.types.length tc)).setCell ⟨sb,k*3+2,none⟩ (.slice go s.guards.length gc)).heap[j]?=w.heap[j]?:=fun j hj=>by
  rw [Below.heap_setCell _ _ _ _ hj,Below.heap_setCell _ _ _ _ hj,Below.heap_setCell _ _ _ _ hj]
 exact⟨(hs3 vb V.vs).trans x.blk,x.sts.put (by rw [x.lenS];exact hk) V.s2 ht hg,(hs3 db V.sd.symm).trans x.due,x.low,by simp [x.lenS],x.lenD⟩
theorem VfAt.setDue {B L vb sb db:Nat} {cao:Option Addr} {ccap:Nat} {ps:List Pd} {p:Pd} {h:Ph} {w:World} {c:Cf} {l:Nat} (V:VfIn B L vb sb db) (x:VfAt L vb sb db cao ccap ps p h w c l) (k l':Nat) (hl':l'≤l) (hlk:l'≤k) :
  VfAt L vb sb db cao ccap ps p h ((w.setCell ⟨db,k,none⟩ (.bool true)).setCell ⟨vb,12,none⟩ (.int .i64 l')) ⟨c.sts,c.due.set k true⟩ l':=by
 have D4:=x.due.set k (.bool true)
 rw [boolArr_set] at D4
 have V4:=x.blk.setOther (p:=⟨db,k,none⟩) V.vd (.bool true)
 have S4:=x.sts.later (w':=w.setCell ⟨db,k,none⟩ (.bool true)) ((Keeps.refl _ _).setCell V.d2 _) (Below.heap_setCell _ _ _ _ V.sd)
 have V5:=V4.set 12 (.int .i64 l')
 have S5:=S4.later (w':=(w.setCell ⟨db,k,none⟩ (.bool true)).setCell ⟨vb,12,none⟩ (.int .i64 l')) ((Keeps.refl _ _).setCell V.v2 _) (Below.heap_setCell _ _ _ _ V.vs.symm)
 have D5:=D4.setOther (p:=⟨vb,12,none⟩) V.vd.symm (.int .i64 l')
 refine⟨V5,S5,D5,?_,x.lenS,by simp [x.lenD]⟩
 intro j hj
 rw [due_set]
 rw [if_neg (by omega)]
 exact x.low j (by omega)
theorem VfAt.take {B L vb sb db:Nat} {cao:Option Addr} {ccap:Nat} {ps:List Pd} {p:Pd} {h:Ph} {w:World} {c:Cf} {l:Nat} (V:VfIn B L vb sb db) (x:VfAt L vb sb db cao ccap ps p h w c l) (k:Nat):VfAt L vb sb db cao ccap ps p h (w.setCell ⟨db,k,none⟩ (.bool false)) ⟨c.sts,c.due.set k false⟩ l:=by
 have D4:=x.due.set k (.bool false)
 rw [boolArr_set] at D4
 refine⟨x.blk.setOther (p:=⟨db,k,none⟩) V.vd _,x.sts.later ((Keeps.refl _ _).setCell V.d2 _) (Below.heap_setCell _ _ _ _ V.sd),D4,?_,x.lenS,by simp [x.lenD]⟩
 intro j hj
 rw [due_set]
 split
 ·rfl
 ·exact x.low j hj
theorem VfAt.move {B L vb sb db:Nat} {cao:Option Addr} {ccap:Nat} {ps:List Pd} {p:Pd} {h:Ph} {w:World} {c:Cf} {l:Nat} (V:VfIn B L vb sb db) (x:VfAt L vb sb db cao ccap ps p h w c l) (l':Nat) (hl:∀j,j<l'→c.due.getD j false=false):VfAt L vb sb db cao ccap ps p h (w.setCell ⟨vb,12,none⟩ (.int .i64 l')) c l':=
 ⟨x.blk.set 12 (.int .i64 l'),x.sts.later ((Keeps.refl _ _).setCell V.v2 _) (Below.heap_setCell _ _ _ _ V.vs.symm),x.due.setOther (p:=⟨vb,12,none⟩) V.vd.symm _,hl,x.lenS,x.lenD⟩
@[go_sem] theorem as_operand_operand (v:Value) (w:World):(Instr.typeAssert (.iface 273 v) 375 273 true).run Tryz.prog w=.ok (.tuple #[v,.bool true]) w:=by kernel_rfl
@[go_sem] theorem as_places_operand (v:Value) (w:World):(Instr.typeAssert (.iface 463 v) 375 273 true).run Tryz.prog w=.ok (.tuple #[.agg #[.int .i64 0,.int .i64 0],.bool false]) w:=by kernel_rfl
@[go_sem] theorem as_opening_operand (v:Value) (w:World):(Instr.typeAssert (.iface 443 v) 375 273 true).run Tryz.prog w=.ok (.tuple #[.agg #[.int .i64 0,.int .i64 0],.bool false]) w:=by kernel_rfl
@[go_sem] theorem as_result_operand (v:Value) (w:World):(Instr.typeAssert (.iface 441 v) 375 273 true).run Tryz.prog w=.ok (.tuple #[.agg #[.int .i64 0,.int .i64 0],.bool false]) w:=by kernel_rfl
@[go_sem] theorem as_target_operand (v:Value) (w:World):(Instr.typeAssert (.iface 465 v) 375 273 true).run Tryz.prog w=.ok (.tuple #[.agg #[.int .i64 0,.int .i64 0],.bool false]) w:=by kernel_rfl
@[go_sem] theorem as_number_operand (v:Value) (w:World):(Instr.typeAssert (.iface 467 v) 375 273 true).run Tryz.prog w=.ok (.tuple #[.agg #[.int .i64 0,.int .i64 0],.bool false]) w:=by kernel_rfl
@[go_sem] theorem as_operand_places (v:Value) (w:World):(Instr.typeAssert (.iface 273 v) 375 463 true).run Tryz.prog w=.ok (.tuple #[.agg #[.int .i64 0,.int .i64 0,.int .i64 0],.bool false]) w:=by kernel_rfl
@[go_sem] theorem as_places_places (v:Value) (w:World):(Instr.typeAssert (.iface 463 v) 375 463 true).run Tryz.prog w=.ok (.tuple #[v,.bool true]) w:=by kernel_rfl
@[go_sem] theorem as_opening_places (v:Value) (w:World):(Instr.typeAssert (.iface 443 v) 375 463 true).run Tryz.prog w=.ok (.tuple #[.agg #[.int .i64 0,.int .i64 0,.int .i64 0],.bool false]) w:=by kernel_rfl
@[go_sem] theorem as_result_places (v:Value) (w:World):(Instr.typeAssert (.iface 441 v) 375 463 true).run Tryz.prog w=.ok (.tuple #[.agg #[.int .i64 0,.int .i64 0,.int .i64 0],.bool false]) w:=by kernel_rfl
@[go_sem] theorem as_target_places (v:Value) (w:World):(Instr.typeAssert (.iface 465 v) 375 463 true).run Tryz.prog w=.ok (.tuple #[.agg #[.int .i64 0,.int .i64 0,.int .i64 0],.bool false]) w:=by kernel_rfl
@[go_sem] theorem as_number_places (v:Value) (w:World):(Instr.typeAssert (.iface 467 v) 375 463 true).run Tryz.prog w=.ok (.tuple #[.agg #[.int .i64 0,.int .i64 0,.int .i64 0],.bool false]) w:=by kernel_rfl
@[go_sem] theorem as_operand_opening (v:Value) (w:World):(Instr.typeAssert (.iface 273 v) 375 443 true).run Tryz.prog w=.ok (.tuple #[.agg #[.int .i64 0],.bool false]) w:=by kernel_rfl
@[go_sem] theorem as_places_opening (v:Value) (w:World):(Instr.typeAssert (.iface 463 v) 375 443 true).run Tryz.prog w=.ok (.tuple #[.agg #[.int .i64 0],.bool false]) w:=by kernel_rfl
@[go_sem] theorem as_opening_opening (v:Value) (w:World):(Instr.typeAssert (.iface 443 v) 375 443 true).run Tryz.prog w=.ok (.tuple #[v,.bool true]) w:=by kernel_rfl
@[go_sem] theorem as_result_opening (v:Value) (w:World):(Instr.typeAssert (.iface 441 v) 375 443 true).run Tryz.prog w=.ok (.tuple #[.agg #[.int .i64 0],.bool false]) w:=by kernel_rfl
@[go_sem] theorem as_target_opening (v:Value) (w:World):(Instr.typeAssert (.iface 465 v) 375 443 true).run Tryz.prog w=.ok (.tuple #[.agg #[.int .i64 0],.bool false]) w:=by kernel_rfl
@[go_sem] theorem as_number_opening (v:Value) (w:World):(Instr.typeAssert (.iface 467 v) 375 443 true).run Tryz.prog w=.ok (.tuple #[.agg #[.int .i64 0],.bool false]) w:=by kernel_rfl
@[go_sem] theorem as_operand_result (v:Value) (w:World):(Instr.typeAssert (.iface 273 v) 375 441 true).run Tryz.prog w=.ok (.tuple #[.agg #[.int .i64 0,.int .i64 0],.bool false]) w:=by kernel_rfl
@[go_sem] theorem as_places_result (v:Value) (w:World):(Instr.typeAssert (.iface 463 v) 375 441 true).run Tryz.prog w=.ok (.tuple #[.agg #[.int .i64 0,.int .i64 0],.bool false]) w:=by kernel_rfl
@[go_sem] theorem as_opening_result (v:Value) (w:World):(Instr.typeAssert (.iface 443 v) 375 441 true).run Tryz.prog w=.ok (.tuple #[.agg #[.int .i64 0,.int .i64 0],.bool false]) w:=by kernel_rfl
@[go_sem] theorem as_result_result (v:Value) (w:World):(Instr.typeAssert (.iface 441 v) 375 441 true).run Tryz.prog w=.ok (.tuple #[v,.bool true]) w:=by kernel_rfl
@[go_sem] theorem as_target_result (v:Value) (w:World):(Instr.typeAssert (.iface 465 v) 375 441 true).run Tryz.prog w=.ok (.tuple #[.agg #[.int .i64 0,.int .i64 0],.bool false]) w:=by kernel_rfl
@[go_sem] theorem as_number_result (v:Value) (w:World):(Instr.typeAssert (.iface 467 v) 375 441 true).run Tryz.prog w=.ok (.tuple #[.agg #[.int .i64 0,.int .i64 0],.bool false]) w:=by kernel_rfl
@[go_sem] theorem as_unused_operand (v:Value) (w:World):(Instr.typeAssert (.iface 461 v) 375 273 true).run Tryz.prog w=.ok (.tuple #[.agg #[.int .i64 0,.int .i64 0],.bool false]) w:=by kernel_rfl
@[go_sem] theorem as_unused_places (v:Value) (w:World):(Instr.typeAssert (.iface 461 v) 375 463 true).run Tryz.prog w=.ok (.tuple #[.agg #[.int .i64 0,.int .i64 0,.int .i64 0],.bool false]) w:=by kernel_rfl
@[go_sem] theorem as_unused_opening (v:Value) (w:World):(Instr.typeAssert (.iface 461 v) 375 443 true).run Tryz.prog w=.ok (.tuple #[.agg #[.int .i64 0],.bool false]) w:=by kernel_rfl
@[go_sem] theorem as_unused_result (v:Value) (w:World):(Instr.typeAssert (.iface 461 v) 375 441 true).run Tryz.prog w=.ok (.tuple #[.agg #[.int .i64 0,.int .i64 0],.bool false]) w:=by kernel_rfl
def zs (l:List Nat):List Int:=l.map (fun x:Nat=>(x:Int))
theorem zs_len (l:List Nat):(zs l).length=l.length:=by simp [zs]
theorem zs_get {l:List Nat} {k x:Nat} (h:l[k]?=some x):(zs l)[k]?=some (x:Int):=by simp [zs,h]
def natArr (l:List Nat):Array Value:=(ints (zs l)).toArray
theorem natArr_get {l:List Nat} {k:Nat} (h:k<l.length):(natArr l)[k]?=some (.int .i64 (l.getD k 0)):=by
 unfold natArr zs ints
 simp [h]
theorem natArr_set (l:List Nat) (k v:Nat):(natArr l).setIfInBounds k (.int .i64 v)=natArr (l.set k v):=by
 unfold natArr zs ints
 rw [List.setIfInBounds_toArray]
 simp [List.map_set]
def opnL (N:Nat) (P:Nat→Bool):List Bool:=(List.range N).map P
theorem opnL_len (N:Nat) (P:Nat→Bool):(opnL N P).length=N:=by simp [opnL]
theorem opnL_get {N:Nat} {P:Nat→Bool} {v:Nat} (h:v<N):(opnL N P).getD v false=P v:=by simp [opnL,h]
theorem opnL_set (N:Nat) (P:Nat→Bool) (v:Nat) (b:Bool):(opnL N P).set v b=opnL N (fun x=>if x=v then b else P x):=by
 apply List.ext_getElem?
 intro j
 unfold opnL
 rw [List.getElem?_set]
 by_cases hj:j<N
 ·by_cases hv:v=j
  ·subst hv;simp [hj]
  ·simp [hj,hv,Ne.symm hv]
 ·by_cases hv:v=j
  ·subst hv;simp [hj]
  ·simp [hj,hv]
theorem opnL_congr {N:Nat} {P Q:Nat→Bool} (h:∀v,v<N→P v=Q v):opnL N P=opnL N Q:=by
 unfold opnL
 apply List.map_congr_left
 intro v hv
 exact h v (by simpa using hv)
structure SsAt (lo:Nat) (w:World) (gb N:Nat) (f:Nat→List Int):Prop where
 own:Own w gb 55 N
 at_:∀j,j<N→∃ao cap,w.cell? ⟨gb,j,none⟩=some (.slice ao (f j).length cap)∧IntsAt lo w ao (f j)
theorem SsAt.later {lo:Nat} {w w':World} {gb N:Nat} {f:Nat→List Int} (h:SsAt lo w gb N f) (hb:Below w.heap.size w w'):SsAt lo w' gb N f:=
 ⟨h.own.later hb,fun j hj=>by obtain ⟨ao,cap,h1,h2⟩:=h.at_ j hj;exact ⟨ao,cap,(hb.cell (p:=⟨gb,j,none⟩) h.own.lt).trans h1,h2.later (Keeps.of_below hb)⟩⟩
structure CcAt (s cb gb ob qb N:Nat) (w:World) (T:Tj) (vp:Value):Prop where
 blk:Blk w cb #[.slice (some ⟨gb,0,none⟩) N N,.int .i64 T.count,.slice (some ⟨ob,0,none⟩) N N,vp,.slice (some ⟨qb,0,none⟩) N N,.int .i64 T.least] 391
 order:Blk w ob (natArr T.order) 3
 opn:Blk w qb (boolArr (opnL N fun v=>decide (v ∈ T.path))) 4
 path:w.ownsRow (s+3) 3 1 vp T.path.length (ints (zs T.path))
structure CcIn (s cb ob qb:Nat):Prop where
 c1:s≤cb
 c2:cb<s+3
 o1:s≤ob
 o2:ob<s+3
 q1:s≤qb
 q2:qb<s+3
 co:cb≠ob
 cq:cb≠qb
 oq:ob≠qb
theorem CcAt.later {s cb gb ob qb N:Nat} {w w':World} {T:Tj} {vp:Value} (h:CcAt s cb gb ob qb N w T vp) (hb:Below w.heap.size w w'):CcAt s cb gb ob qb N w' T vp:=⟨h.blk.later hb,h.order.later hb,h.opn.later hb,owns_below h.path hb⟩
theorem owns_take {w:World} {base e n k:Nat} {ao:Option Addr} {cap:Nat} {xs:List Value} (h:w.ownsRow base e 1 (.slice ao n cap) n xs) (hk:k≤n) (hao:ao≠none):w.ownsRow base e 1 (.slice ao k cap) k (xs.take k):=by
 obtain⟨h1,⟨h2,h3⟩ | ⟨g,c,cur,h3,hg,hh,hc1,hc2,hc3,hc4⟩⟩:=h
 ·simp at h2;exact absurd h2.1 hao
 ·simp at h3
  obtain⟨rfl,rfl⟩:=h3
  refine⟨by simp;omega,.inr ⟨g,cap,cur,rfl,hg,hh,by omega,hc2,hc3,?_⟩⟩
  rw [←hc4,List.take_take]
  simp
  omega
def clsLeast (f:Nat→List Int) (a:Nat) (ext:List Nat) (least:Int):Int:=if ext≠[]∨(a:Int) ∈ f a then min least (minI (a:Int) (zs ext)) else least
structure WkAt (w:World) (cao:Option Addr) (ccap:Nat) (ps:List Pd) (p:Pd) (h:Ph) (wr:World) (c:Cf):Prop where
 code:Blk wr w.heap.size #[.slice cao ps.length ccap] 26
 flt:Blk wr (w.heap.size+1) #[.int .i64 0,.int .i64 0,.int .i64 0] 143
 proto:Blk wr (w.heap.size+1+1) (p.cells h) 54
 sts:StsAt (w.heap.size+1+1+1+1+1) wr (w.heap.size+1+1+1) c.sts
 due:Blk wr (w.heap.size+1+1+1+1) (boolArr c.due) 4
 below:Below w.heap.size w wr
theorem WkAt.later {w:World} {cao:Option Addr} {ccap:Nat} {ps:List Pd} {p:Pd} {h:Ph} {wr wr':World} {c:Cf} (x:WkAt w cao ccap ps p h wr c) (hb:Below wr.heap.size wr wr'):WkAt w cao ccap ps p h wr' c:=
 ⟨x.code.later hb,x.flt.later hb,x.proto.later hb,x.sts.below hb,x.due.later hb,x.below.trans (hb.mono x.below.size)⟩
theorem WkAt.lt {w:World} {cao:Option Addr} {ccap:Nat} {ps:List Pd} {p:Pd} {h:Ph} {wr:World} {c:Cf} (x:WkAt w cao ccap ps p h wr c):w.heap.size+1+1+1+1<wr.heap.size:=x.due.lt
theorem WkAt.grown {w:World} {cao:Option Addr} {ccap:Nat} {ps:List Pd} {p:Pd} {h:Ph} {wr w1 wr':World} {c:Cf} {row:Option Nat} (x:WkAt w cao ccap ps p h wr c) (hb:Below wr.heap.size wr w1) (hg:w1.grownBy wr' row) (hr:∀k,row=some k→wr.heap.size≤k):WkAt w cao ccap ps p h wr' c:=
 x.later (hb.grown hg hb.size hr)
theorem sts_none_later {w w':World} {sb n:Nat} (h:∀lo,StsAt lo w sb (List.replicate n none)) (hb:w'.heap[sb]?=w.heap[sb]?):∀lo,StsAt lo w' sb (List.replicate n none):=by
 intro lo
 refine⟨(h lo).own.of_block hb,?_⟩
 intro j o hj
 obtain⟨to,tc,go,gc,h1,h2,h3,_,_⟩:=(h lo).at_ j o hj
 have hc:∀i,w'.cell? ⟨sb,i,none⟩=w.cell? ⟨sb,i,none⟩:=fun i=>World.cell?_of_block (w:=w) (a:=⟨sb,i,none⟩) hb
 have ho:o=none:=by rw [List.getElem?_replicate] at hj;split at hj <;> simp at hj;exact hj.symm
 subst ho
 exact⟨to,tc,go,gc,(hc _).trans h1,(hc _).trans h2,(hc _).trans h3,fun i x hx=>by simp [stT] at hx,fun i x hx=>by simp [stG] at hx⟩
theorem wk_start {w X X3:World} {cao:Option Addr} {ccap:Nat} {ps:List Pd} {p:Pd} {h:Ph} (hN:0<p.ins.length) (C5:Blk X w.heap.size #[.slice cao ps.length ccap] 26) (F5:Blk X (w.heap.size+1) #[.int .i64 0,.int .i64 0,.int .i64 0] 143) (P5:Blk X (w.heap.size+1+1) (p.cells h) 54)
  (D5:Blk X (w.heap.size+1+1+1+1) (boolArr (List.replicate p.ins.length false)) 4) (B5:Below w.heap.size w X) (S6:StsAt (w.heap.size+1+1+1+1+1) X3 (w.heap.size+1+1+1) ((List.replicate p.ins.length none).set 0 (some ⟨firstT p,[]⟩)))
  (hX:∀k,k≠w.heap.size+1+1+1→X3.heap[k]?=X.heap[k]?) (hB:Below w.heap.size w X3):WkAt w cao ccap ps p h (X3.setCell ⟨w.heap.size+1+1+1+1,0,none⟩ (.bool true)) (startC p):=by
 have hb:∀k,k≠w.heap.size+1+1+1+1→(X3.setCell ⟨w.heap.size+1+1+1+1,0,none⟩ (.bool true)).heap[k]?=X3.heap[k]?:=fun k hk=>Below.heap_setCell _ _ _ _ hk
 have _:=B5
 have _:=hN
 refine⟨(hb _ (by omega)).trans ((hX _ (by omega)).trans C5),(hb _ (by omega)).trans ((hX _ (by omega)).trans F5),(hb _ (by omega)).trans ((hX _ (by omega)).trans P5),?_,?_,hB.setCell (by dsimp only;omega) _⟩
 ·exact S6.later ((Keeps.refl _ _).setCell (by dsimp only;omega) _) (hb _ (by omega))
 ·have h1:Blk X3 (w.heap.size+1+1+1+1) (boolArr (List.replicate p.ins.length false)) 4:=(hX _ (by omega)).trans D5
  have h2:=h1.set 0 (.bool true)
  rw [boolArr_set] at h2
  exact h2
theorem leastDue_all {d:List Bool} (h:∀j,j<d.length→d.getD j false=false):leastDue d=none:=by
 unfold leastDue
 rw [List.findIdx?_eq_none_iff]
 intro b hb
 obtain⟨j,hj⟩:=List.getElem?_of_mem hb
 have hl:=(List.getElem?_eq_some_iff.1 hj).1
 have:=h j hl
 rw [List.getD_eq_getElem?_getD,hj] at this
 simpa using this
theorem leastDue_at {d:List Bool} {a:Nat} (h:∀j,j<a→d.getD j false=false) (ha:d.getD a false=true):leastDue d=some a:=by
 have hl:a<d.length:=by
  refine Classical.byContradiction fun hn=>?_
  rw [List.getD_eq_getElem?_getD,List.getElem?_eq_none (by omega)] at ha
  cases ha
 unfold leastDue
 rw [List.findIdx?_eq_some_iff_getElem]
 refine⟨hl,by simpa [List.getD_eq_getElem?_getD,hl] using ha,?_⟩
 intro j hj
 have:=h j hj
 simpa [List.getD_eq_getElem?_getD,show j<d.length by omega] using this
theorem walk_end {ps:List Pd} {p:Pd} {g:Nat} {c:Cf} (hg:0<g) (h:leastDue c.due=none):walkF ps p g c=.ok c:=by
 obtain⟨f,rfl⟩:∃f,g=f+1:=⟨g - 1,by omega⟩
 unfold walkF
 rw [h]
theorem walk_bad {ps:List Pd} {p:Pd} {g a:Nat} {c:Cf} {e:Nat × Nat} (hg:0<g) (h:leastDue c.due=some a) (hr:roundF ps p c a=.error e):walkF ps p g c=.error e:=by
 obtain⟨f,rfl⟩:∃f,g=f+1:=⟨g - 1,by omega⟩
 unfold walkF
 rw [h]
 dsimp only
 rw [hr]
theorem walk_on {ps:List Pd} {p:Pd} {g a:Nat} {c c':Cf} (hg:0<g) (h:leastDue c.due=some a) (hr:roundF ps p c a=.ok c'):walkF ps p g c=walkF ps p (g - 1) c':=by
 obtain⟨f,rfl⟩:∃f,g=f+1:=⟨g - 1,by omega⟩
 rw [Nat.add_sub_cancel]
 conv=>lhs;unfold walkF
 rw [h]
 dsimp only
 rw [hr]
theorem st_get {c:Cf} {i:Nat} {o:Option St} (h:c.sts[i]?=some o):c.st i=o:=by unfold Cf.st;rw [List.getD_eq_getElem?_getD,h];rfl
theorem proto9 {w:World} {b:Nat} {p:Pd} {h:Ph} {t:TypeId} (x:Blk w b (p.cells h) t):w.cell? ⟨b,0,none⟩=some (.string p.name)∧w.cell? ⟨b,1,none⟩=some (.int .i64 p.line)∧w.cell? ⟨b,2,none⟩=some (.int .i64 p.params)∧w.cell? ⟨b,3,none⟩=some (.bool p.rest)∧w.cell? ⟨b,4,none⟩=some (.int .i64 p.regs)∧
  w.cell? ⟨b,5,none⟩=some (.slice h.uo p.ups.length h.uc)∧w.cell? ⟨b,6,none⟩=some (.slice h.co p.consts.length h.cc)∧w.cell? ⟨b,7,none⟩=some (.slice h.io p.ins.length h.ic)∧w.cell? ⟨b,8,none⟩=some (.slice h.no p.named.length h.nc):=
 ⟨x.cell 0,x.cell 1,x.cell 2,x.cell 3,x.cell 4,x.cell 5,x.cell 6,x.cell 7,x.cell 8⟩
theorem WkAt.setDue {w:World} {cao:Option Addr} {ccap:Nat} {ps:List Pd} {p:Pd} {h:Ph} {wr:World} {c:Cf} (x:WkAt w cao ccap ps p h wr c) {a:Nat} (b:Bool):WkAt w cao ccap ps p h (wr.setCell ⟨w.heap.size+1+1+1+1,a,none⟩ (.bool b)) ⟨c.sts,c.due.set a b⟩:=by
 have hb:∀k,k≠w.heap.size+1+1+1+1→(wr.setCell ⟨w.heap.size+1+1+1+1,a,none⟩ (.bool b)).heap[k]?=wr.heap[k]?:=fun k hk=>Below.heap_setCell _ _ _ _ hk
 have h2:=x.due.set a (.bool b)
 rw [boolArr_set] at h2
 exact⟨(hb _ (by omega)).trans x.code,(hb _ (by omega)).trans x.flt,(hb _ (by omega)).trans x.proto,x.sts.later ((Keeps.refl _ _).setCell (by dsimp only;omega) _) (hb _ (by omega)),h2,x.below.setCell (by dsimp only;omega) _⟩
theorem keeps_grown {a b:World} {row:Option Nat} {lo:Nat} (h:a.grownBy b row) (hr:∀k,row=some k→k<lo):Keeps lo a b:=
 ⟨h.size,fun k hk hs=>h.block k hs (fun e=>by have:=hr k e.symm;omega)⟩
theorem folF_len (n:Nd) (a:Nat) (s:St) (ts:List Int) (gs:List Gd):(folF n a s ts gs).length≤2:=by
 unfold folF goF
 rw [List.length_append]
 have h1:(if nextB n then [(a+1,(⟨ts,gs⟩:St))] else []).length≤1:=by split <;> simp
 have h2:(if n.op=19 then [(n.a.toNat,(⟨ts,gs⟩:St))] else if n.op=20∨n.op=21∨n.op=38∨n.op=39 then [(n.b.toNat,⟨ts,gs⟩)] else if n.op=41 then [(n.b.toNat,⟨ts.set n.c.toNat (tyAt s.types n.c),gs⟩)] else if n.op=31 then [(n.a.toNat,⟨tryT n.b s.types,s.guards⟩)] else []).length≤1:=by repeat (first | split | simp)
 omega
def pathC:List Nat→Code→Code
 | [],c=>c
 | 0::p,.seq a _=>pathC p a
 | 1::p,.seq _ b=>pathC p b
 | 0::p,.cond _ a _=>pathC p a
 | 1::p,.cond _ _ b=>pathC p b
 | 0::p,.loop c=>pathC p c
 | 0::p,.block _ c=>pathC p c
 | _,_=>.skip
def WkPost (w:World) (ps:List Pd) (p:Pd) (pi:Nat) (e:Ending) (w':World):Prop:=(∃v,e=.returned (.tuple #[v,faultV (verF ps p pi)]))∧Below w.heap.size w w'
theorem WkAt.put {w:World} {cao:Option Addr} {ccap:Nat} {ps:List Pd} {p:Pd} {h:Ph} {wr:World} {c:Cf} (x:WkAt w cao ccap ps p h wr c) {k:Nat} (hk:k<c.sts.length) {s:St} {to go:Option Addr} {tc gc:Nat} (ht:IntsAt (w.heap.size+1+1+1+1+1) wr to s.types) (hg:GdsAt (w.heap.size+1+1+1+1+1) wr go s.guards) :
  WkAt w cao ccap ps p h (((wr.setCell ⟨w.heap.size+1+1+1,k*3,none⟩ (.bool true)).setCell ⟨w.heap.size+1+1+1,k*3+1,none⟩ (.slice to s.types.length tc)).setCell ⟨w.heap.size+1+1+1,k*3+2,none⟩ (.slice go s.guards.length gc)) ⟨c.sts.set k (some s),c.due⟩:=by
 have hb:∀j,j≠w.heap.size+1+1+1→(((wr.setCell ⟨w.heap.size+1+1+1,k*3,none⟩ (.bool true)).setCell ⟨w.heap.size+1+1+1,k*3+1,none⟩ (.slice to s.types.length tc)).setCell ⟨w.heap.size+1+1+1,k*3+2,none⟩ (.slice go s.guards.length gc)).heap[j]?=wr.heap[j]?:=fun j hj=>by
  rw [Below.heap_setCell _ _ _ _ hj,Below.heap_setCell _ _ _ _ hj,Below.heap_setCell _ _ _ _ hj]
 exact⟨(hb _ (by omega)).trans x.code,(hb _ (by omega)).trans x.flt,(hb _ (by omega)).trans x.proto,x.sts.put hk (by omega) ht hg,(hb _ (by omega)).trans x.due,((x.below.setCell (by dsimp only;omega) _).setCell (by dsimp only;omega) _).setCell (by dsimp only;omega) _⟩
theorem follow_cons {c:Cf} {x:Nat} {s:St} {r:List (Nat × St)} : followF c ((x,s)::r)=match reachF c x s with | none=>.error (13,x) | some c'=>followF c' r:=rfl
theorem fol_next {fl:List (Nat × St)} {j x:Nat} {s:St} (h:fl[j]?=some (x,s)):fl.drop j=(x,s)::fl.drop (j+1):=by
 obtain⟨hl,he⟩:=List.getElem?_eq_some_iff.1 h
 rw [List.drop_eq_getElem_cons hl,he]
theorem reach_new {c:Cf} {x:Nat} {s:St} (h:c.st x=none):reachF c x s=some ⟨c.sts.set x (some s),c.due.set x true⟩:=by unfold reachF;rw [h]
theorem reach_old {c:Cf} {x:Nat} {s t:St} (h:c.st x=some t):reachF c x s=if t=s then some c else none:=by unfold reachF;rw [h]
theorem st_same {t s:St} : (decide (t.types=s.types) && decide (t.guards=s.guards))=decide (t=s):=by
 obtain⟨a,b⟩:=t
 obtain⟨a2,b2⟩:=s
 rw [Bool.eq_iff_iff]
 simp
end Go.Proofs.YtgopdffmnikhdaaGreatDoor
