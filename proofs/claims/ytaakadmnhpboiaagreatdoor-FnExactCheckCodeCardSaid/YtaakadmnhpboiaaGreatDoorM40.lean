import Derived.Test.YtaakadmnhpboiaaGreatDoorM32
import Derived.Test.YtaakadmnhpboiaaGreatDoorM19
import Derived.Test.YtaakadmnhpboiaaGreatDoorM12
import Derived.Test.YtaakadmnhpboiaaGreatDoorM13
import Derived.ArgAppend
import Derived.Deep.Cut
import Derived.Deep.LoopGhost
import Derived.Deep.MidRow
import Derived.Deep.RegionLaw
import Derived.Laws.StructEq
import Derived.Lib.SliceRun
import Derived.Lib.Walk
import Derived.Maps.AppendAt
namespace Go.Proofs.YtaakadmnhpboiaaGreatDoor
open Go.RowKit Go.Deep
theorem mkIns_ok {ps:List Pd} {pi:Nat} {p:Pd} : ∀{l:List Nd} {k:Nat} {m m':List Bool},mkIns ps pi p k l m=(none,m')→∀n ∈ l,n.op=11→upsB p ((ps[n.b.toNat]?.map Pd.ups).getD [])=true
 | [],_,_,_,_,n,hn,_=>by simp at hn
 | x::r,k,m,m',h,n,hn,ho=>by
  unfold mkIns at h
  by_cases hx:x.op=11
  ·rw [if_pos (by simpa using hx)] at h
   cases hb:fnBad ps pi p m x with
   | true=>rw [hb] at h;simp at h
   | false=>
    rw [hb] at h
    rcases List.mem_cons.1 hn with rfl | hn
    ·unfold fnBad at hb
     simp only [Bool.or_eq_false_iff,Bool.not_eq_false'] at hb
     exact hb.2.2
    ·exact mkIns_ok (by simpa using h) n hn ho
  ·rw [if_neg (by simpa using hx)] at h
   rcases List.mem_cons.1 hn with rfl | hn
   ·exact absurd ho hx
   ·exact mkIns_ok h n hn ho
theorem mkAll_ok {ps:List Pd} : ∀{l:List Pd} {pi:Nat} {m m':List Bool},mkAll ps pi l m=(none,m')→∀p ∈ l,∀n ∈ p.ins,n.op=11→upsB p ((ps[n.b.toNat]?.map Pd.ups).getD [])=true
 | [],_,_,_,_,p,hp=>by simp at hp
 | x::r,pi,m,m',h,p,hp=>by
  unfold mkAll at h
  cases hi:mkIns ps pi x 0 x.ins m with
  | mk o m2=>
   rw [hi] at h
   cases o with
   | some k=>simp at h
   | none=>
    dsimp only at h
    rcases List.mem_cons.1 hp with rfl | hp
    ·exact mkIns_ok hi
    ·exact mkAll_ok h p hp
structure Fits (ps:List Pd) (p:Pd):Prop where
 fit:PFit ps.length p
 few:p.ins.length≤6000
 ups:∀n ∈ p.ins,∀u ∈ fnUps ps n,u.loc=true→0≤u.idx∧u.idx<p.regs
theorem shape_parts {ps:List Pd} (h:(shapeF ps).1=0):sizeB ps=true∧firstP headP 0 ps=none∧firstP (insP ps.length) 0 ps=none∧∃m,mkAll ps 0 ps (List.replicate ps.length false)=(none,m):=by
 unfold shapeF at h
 cases hs:sizeB ps with
 | false=>rw [hs] at h;simp at h
 | true=>
  rw [hs,if_pos rfl] at h
  cases h1:firstP headP 0 ps with
  | some x=>rw [h1] at h;simp at h
  | none=>
   rw [h1] at h
   dsimp only at h
   cases h2:firstP constP 0 ps with
   | some x=>rw [h2] at h;simp at h
   | none=>
    rw [h2] at h
    dsimp only at h
    cases h3:firstP namedP 0 ps with
    | some x=>rw [h3] at h;simp at h
    | none=>
     rw [h3] at h
     dsimp only at h
     cases h4:firstP (insP ps.length) 0 ps with
     | some x=>rw [h4] at h;simp at h
     | none=>
      rw [h4] at h
      dsimp only at h
      refine⟨rfl,rfl,rfl,?_⟩
      unfold mkFault at h
      cases h5:mkAll ps 0 ps (List.replicate ps.length false) with
      | mk o m=>
       rw [h5] at h
       cases o with
       | some x=>simp at h
       | none=>exact ⟨m,rfl⟩
theorem shape_few {ps:List Pd} (h:(shapeF ps).1=0):ps.length≤200:=by
 have:=(shape_parts h).1
 unfold sizeB inR at this
 simp at this
 omega
theorem shape_fits {ps:List Pd} (h:(shapeF ps).1=0):∀p ∈ ps,Fits ps p:=by
 obtain⟨hs,hh,hi,m,hm⟩:=shape_parts h
 intro p hp
 obtain⟨k,hk⟩:=List.getElem?_of_mem hp
 have h1:=firstP_none hh k p hk
 have h2:=firstP_none hi k p hk
 have hreg:=regs_of_heads hh p hp
 have hhead:headOk p (0+k)=true:=by
  unfold headP at h1
  split at h1
  ·assumption
  ·cases h1
 unfold insP insBad at h2
 cases h3:firstBad (formsG ps.length p) 0 p.ins with
 | some x=>rw [h3] at h2;cases h2
 | none=>
  rw [h3] at h2
  dsimp only at h2
  cases hl:p.ins.getLast? with
  | none=>rw [hl] at h2;cases h2
  | some n=>
   rw [hl] at h2
   dsimp only at h2
   have hnx:nextB n=false:=by
    cases hb:nextB n with
    | true=>rw [hb] at h2;simp at h2
    | false=>rfl
   have hpos:0<p.ins.length:=by
    cases hh2:p.ins with
    | nil=>rw [hh2] at hl;simp at hl
    | cons a r=>simp
   rw [List.getLast?_eq_getElem?] at hl
   refine⟨⟨hreg,?_,?_,hpos,?_⟩,?_,?_⟩
   ·intro i x hx
    have:=firstBad_none h3 i x hx
    unfold formsG formsB inR at this
    simp only [Bool.and_eq_true,decide_eq_true_iff] at this
    exact⟨this.1.1,this.1.2,this.2⟩
   ·intro i x hx hb
    have hil:=(List.getElem?_eq_some_iff.1 hx).1
    refine Classical.byContradiction fun hn=>?_
    have:i=p.ins.length - 1:=by omega
    subst this
    rw [hx] at hl
    obtain rfl:=Option.some.inj hl
    rw [hb] at hnx
    cases hnx
   ·unfold headOk at hhead
    simp only [Bool.and_eq_true,decide_eq_true_iff] at hhead
    have hpar:=hhead.1.1.1.2
    unfold inR most wrap64 at hpar
    cases hre:p.rest with
    | false=>rw [hre] at hpar;simp at hpar;exact ⟨by omega,by omega,by simp⟩
    | true=>rw [hre] at hpar;simp at hpar;exact ⟨by omega,by omega,fun _=>by omega⟩
   ·unfold sizeB at hs
    simp only [Bool.and_eq_true,decide_eq_true_iff] at hs
    have h1:=sumL_mem (f:=fun p:Pd=>p.ins.length) hp
    have h2:=hs.2
    unfold insSum at h2
    omega
   ·intro x hx u hu hloc
    unfold fnUps at hu
    split at hu
    ·rename_i ho
     have:=mkAll_ok hm p hp x hx ho
     cases hq:ps[x.b.toNat]? with
     | none=>rw [hq] at hu;simp at hu
     | some q=>
      rw [hq] at hu this
      simp at this
      unfold upsB at this
      have:=List.all_eq_true.1 this u hu
      unfold upB inR at this
      rw [hloc] at this
      simp at this
      omega
    ·simp at hu
theorem fnUps_few {ps:List Pd} (hfi:∀p ∈ ps,PFew p) (n:Nd):(fnUps ps n).length≤1048576:=by
 unfold fnUps
 split
 ·split
  ·rename_i q hq;exact (hfi q (List.mem_of_getElem? hq)).ups
  ·simp
 ·simp
noncomputable def verL (ps:List Pd):Nat→List Pd→Int × Int × Int
 | _,[]=>(0,0,0)
 | k,p::r=>if (verF ps p k).1=0 then verL ps (k+1) r else verF ps p k
theorem verL_drop {ps l:List Pd} {k:Nat} {p:Pd} (h:l[k]?=some p):verL ps k (l.drop k)=if (verF ps p k).1=0 then verL ps (k+1) (l.drop (k+1)) else verF ps p k:=by
 rw [drop_some h];rfl
noncomputable def checkF (ps:List Pd):Int × Int × Int:=if (shapeF ps).1=0 then verL ps 0 ps else shapeF ps
def unv (l:List Nat):Nat:=(l.filter fun x=>x == 0).length
theorem unv_set {l:List Nat} {i k:Nat} (hi:i<l.length) (h0:l.getD i 0=0) (hk:k≠0):unv (l.set i k)+1=unv l:=by
 induction l generalizing i with
 | nil=>simp at hi
 | cons a r ih=>
  cases i with
  | zero=>
   simp at h0
   subst h0
   simp [unv,hk]
  | succ i=>
   simp at hi h0
   have:=ih (i:=i) hi (by simpa using h0)
   unfold unv at *
   by_cases ha:a=0
   ·simp [ha] at *;omega
   ·simp [ha] at *;omega
theorem unv_mono:∀{l m:List Nat},l.length=m.length→(∀v,l.getD v 0≠0→m.getD v 0≠0)→unv m≤unv l
 | [],[],_,_=>Nat.le_refl _
 | [],_::_,h,_=>by simp at h
 | _::_,[],h,_=>by simp at h
 | a::r,b::q,h,hv=>by
  have ih:=unv_mono (l:=r) (m:=q) (by simpa using h) (fun v hv2=>by have:=hv (v+1);simpa using this (by simpa using hv2))
  have h0:=hv 0
  simp at h0
  unfold unv at *
  by_cases ha:a=0
  ·by_cases hb:b=0
   ·simp [ha,hb];exact ih
   ·simp [ha,hb];omega
  ·have:=h0 ha
   simp [ha,this]
   exact ih
theorem path_short {E:Nat→Nat→Prop} {N:Nat} {T:Tj} {gray:Nat→Prop} (h:Jt E N T gray):T.path.length≤T.count:=by
 have hk:∀(l:List Nat) (m:Nat),l.Pairwise (fun x y=>T.ord x<T.ord y)→(∀v ∈ l,m<T.ord v)→l.length+m≤T.count∨l=[]:=by
  intro l
  induction l with
  | nil=>intro m _ _;exact .inr rfl
  | cons a r ih=>
   intro m hp hm
   rw [List.pairwise_cons] at hp
   have ha:=hm a (by simp)
   rcases ih (T.ord a) hp.2 hp.1 with h1 | h1
   ·left;simp;omega
   ·subst h1;left;have:=h.le a;simp;omega
 rcases hk T.path 0 h.sorted (fun v hv=>by have:=h.vis v hv;omega) with h1 | h1
 ·omega
 ·rw [h1];simp
end Go.Proofs.YtaakadmnhpboiaaGreatDoor
namespace Go.Proofs.YtaakadmnhpboiaaGreatDoor
theorem firstBad_last {α:Type} {f g:Nat→α→Bool} {L:Nat} : ∀(l:List α) (s:Nat),s+l.length=L→(∀i x,i+1≠L→g i x=true)→
  firstBad (fun i x=>f i x && g i x) s l=match firstBad f s l with
   | some i=>some i
   | none=>match l.getLast? with
    | none=>none
    | some x=>if g (L - 1) x then none else some (L - 1)
 | [],_,_,_=>rfl
 | [x],s,hs,_=>by
  have h1:L - 1=s:=by simp at hs;omega
  have e1:∀h:Nat→α→Bool,firstBad h s [x]=if h s x then none else some s:=fun _=>rfl
  rw [e1,e1,List.getLast?_singleton,h1]
  cases hf:f s x <;> cases hg:g s x <;> simp [hg]
 | x::y::r,s,hs,hg=>by
  have ih:=firstBad_last (f:=f) (g:=g) (y::r) (s+1) (by simp at hs ⊢;omega) hg
  have h1:g s x=true:=hg s x (by simp at hs;omega)
  have e1:∀h:Nat→α→Bool,firstBad h s (x::y::r)=if h s x then firstBad h (s+1) (y::r) else some s:=fun _=>rfl
  rw [e1,e1,h1,Bool.and_true,List.getLast?_cons_cons,ih]
  cases f s x <;> rfl
def insQ (np:Nat) (_:Nat) (p:Pd):Option Nat:=if p.ins.length=0 then some 0 else firstBad (insB np p) 0 p.ins
theorem insQ_eq (np k:Nat) (p:Pd):insQ np k p=insP np k p:=by
 unfold insQ insP insBad
 by_cases h0:p.ins.length=0
 ·rw [if_pos h0]
  have:p.ins=[]:=List.length_eq_zero_iff.1 h0
  rw [this];rfl
 ·rw [if_neg h0]
  have hb:insB np p=fun i n=>formsG np p i n && lastB p i n:=by
   funext i n
   unfold insB formsG formsB
   rw [Bool.and_assoc]
  rw [hb,firstBad_last (L:=p.ins.length) p.ins 0 (by omega) (by intro i x hi;unfold lastB;simp [hi])]
  cases firstBad (formsG np p) 0 p.ins with
  | some i=>rfl
  | none=>
   cases hl:p.ins.getLast? with
   | none=>simp at hl;rw [hl] at h0;simp at h0
   | some n=>
    have h1:lastB p (p.ins.length - 1) n = !nextB n:=by
     have:p.ins.length - 1+1=p.ins.length:=by omega
     have hd:decide (p.ins.length - 1+1=p.ins.length)=true:=decide_eq_true this
     unfold lastB nextB bne
     rw [hd]
     cases (n.op == 19) <;> cases (n.op == 29) <;> cases (n.op == 30) <;> rfl
    simp only [h1]
    cases nextB n <;> rfl
theorem firstP_congr {g h:Nat→Pd→Option Nat} (e:∀k p,g k p=h k p):g=h:=funext fun k=>funext fun p=>e k p
end Go.Proofs.YtaakadmnhpboiaaGreatDoor
