import Derived.Test.YtgopdffmnikhdaaGreatDoorT01
import Derived.Test.YtgopdffmnikhdaaGreatDoorT25
import Derived.Test.YtgopdffmnikhdaaGreatDoorT03
import Derived.Maps.AppendAt
import Derived.Laws.EntriesVeiled
import Derived.Deep.RegionHeld3
import Derived.Laws.StructEq
namespace Go.Proofs.YtgopdffmnikhdaaGreatDoor
open Go.RowKit Go.Deep
def CapP (w:World) (g:Nat) (ps:List Pd) (k:Nat):Prop:=∀j p,j<k→ps[j]?=some p→∃ao,w.cell? ⟨g,j*9+7,none⟩=some (.slice ao p.ins.length p.ins.length)
theorem CapP.later {w w':World} {g:Nat} {ps:List Pd} {k:Nat} (h:CapP w g ps k) (hb:Below w.heap.size w w') (hg:g<w.heap.size):CapP w' g ps k:=by
 intro j p hj hp
 obtain⟨ao,h1⟩:=h j p hj hp
 exact⟨ao,(hb.cell (p:=⟨g,j*9+7,none⟩) hg).trans h1⟩
theorem CapP.keeps {w w':World} {g:Nat} {ps:List Pd} {k:Nat} (h:CapP w g ps k) (hg:g<w.heap.size) (hk:Keeps g w w'):CapP w' g ps k:=by
 intro j p hj hp
 obtain⟨ao,h1⟩:=h j p hj hp
 exact⟨ao,(hk.cell (Nat.le_refl _) hg).trans h1⟩
theorem CapP.step {w:World} {g n k:Nat} {t:TypeId} {ps:List Pd} {p:Pd} {x:Ph} (h:CapP w g ps k) (own:Own w g t n) (hn:k*9+9≤n) (hp:ps[k]?=some p) (hx:x.ic=p.ins.length) :
  CapP (w.setCells g (k*9) (nine p x)) g ps (k+1):=by
 intro j y hj hy
 by_cases e:j=k
 ·subst e
  obtain rfl:p=y:=Option.some.inj (hp.symm.trans hy)
  have c:=World.cell?_setCells_in g (nine p x) (j*9) w (fun i hi=>by
   have hi9:i<9:=hi
   obtain⟨u,hu⟩:=own.cell (i:=j*9+i) (by omega)
   rw [hu];rfl)
  refine⟨x.io,(c 7 (by simp [nine])).trans ?_⟩
  simp [nine,hx]
 ·obtain⟨ao,h1⟩:=h j y (by omega) hy
  refine⟨ao,(World.cell?_setCells_out g (nine p x) (k*9) w _ (fun _ _=>Or.inl (by show j*9+7<k*9;omega))).trans h1⟩
structure Qd where
 op:Int
 a:Int
 b:Int
 c:Int
 d:Int
 e:Int
 f:Int
def Qd.val (q:Qd):Value:=.agg #[.int .i64 q.op,.int .i64 q.a,.int .i64 q.b,.int .i64 q.c,.int .i64 q.d,.int .i64 q.e,.int .i64 q.f]
def Qd.vals (q:Qd):List Value:=[.int .i64 q.op,.int .i64 q.a,.int .i64 q.b,.int .i64 q.c,.int .i64 q.d,.int .i64 q.e,.int .i64 q.f]
def dropsF (a:Int):Nat→List Nd→Nat
 | _,[]=>0
 | k,n::r=>if n.op=42∧n.a=a+k then dropsF a (k+1) r+1 else 0
def kindAt (cs:List Vd) (i:Int):Int:=match cs[i.toNat]? with
 | some v=>v.kind
 | none=>0
def twoF (cs:List Vd) (c:Nat) (n x:Nd):Option Qd:=
 if n.op=18∧13≤n.b∧(x.op=20∨x.op=21)∧x.a = -1 - n.a then some ⟨43,n.a,n.b,n.c,n.d,x.b,if x.op=20 then 1 else 0⟩
 else if n.op≠4 then none
 else if x.op=18∧x.c = -1 - n.a∧x.d≠n.a∧x.d≠-1 - n.a then some ⟨44,x.a,x.b,x.d,n.b,1,n.a⟩
 else if x.op=18∧x.d = -1 - n.a∧x.c≠n.a∧x.c≠-1 - n.a then some ⟨44,x.a,x.b,x.c,n.b,0,n.a⟩
 else if x.op=15∧x.c = -1 - n.a∧x.b≠n.a∧x.b≠-1 - n.a∧kindAt cs n.b=4 then some ⟨45,x.a,x.b,n.b,c,0,n.a⟩
 else none
def twoL (cs:List Vd) (c:Nat):List Nd→Option Qd
 | n::x::_=>twoF cs c n x
 | _=>none
def plainQ (n:Nd):Qd:=⟨n.op,n.a,n.b,n.c,n.d,0,0⟩
def quickOne (cs:List Vd) (c:Nat) (l:List Nd):Qd:=
 match l with
 | []=>⟨0,0,0,0,0,0,0⟩
 | n::r=>if 1<dropsF n.a 0 (n::r) then ⟨46,n.a,dropsF n.a 0 (n::r),0,0,0,0⟩ else match twoL cs c (n::r) with
  | some q=>q
  | none=>plainQ n
def cIns (cs:List Vd) (ins:List Nd) (c0:Nat):Nat→Nat
 | 0=>c0
 | k+1=>if (quickOne cs (cIns cs ins c0 k) (ins.drop k)).op=45 then cIns cs ins c0 k+1 else cIns cs ins c0 k
def qIns (cs:List Vd) (ins:List Nd) (c0:Nat):List Qd:=(List.range ins.length).map fun k=>quickOne cs (cIns cs ins c0 k) (ins.drop k)
def cAll (ps:List Pd):Nat→Nat
 | 0=>0
 | j+1=>match ps[j]? with
  | some p=>cIns p.consts p.ins (cAll ps j) p.ins.length
  | none=>cAll ps j
def qAll (ps:List Pd):List (List Qd):=(List.range ps.length).map fun j=>match ps[j]? with
 | some p=>qIns p.consts p.ins (cAll ps j)
 | none=>[]
theorem qIns_len (cs:List Vd) (ins:List Nd) (c0:Nat):(qIns cs ins c0).length=ins.length:=by simp [qIns]
theorem qIns_at {cs:List Vd} {ins:List Nd} {c0 k:Nat} (h:k<ins.length):(qIns cs ins c0)[k]?=some (quickOne cs (cIns cs ins c0 k) (ins.drop k)):=by
 simp [qIns,h]
theorem qAll_len (ps:List Pd):(qAll ps).length=ps.length:=by simp [qAll]
theorem qAll_at {ps:List Pd} {j:Nat} {p:Pd} (h:ps[j]?=some p):(qAll ps)[j]?=some (qIns p.consts p.ins (cAll ps j)):=by
 have hj:=(List.getElem?_eq_some_iff.1 h).1
 simp [qAll,hj,(List.getElem?_eq_some_iff.1 h).2]
theorem cAll_step {ps:List Pd} {j:Nat} {p:Pd} (h:ps[j]?=some p):cAll ps (j+1)=cIns p.consts p.ins (cAll ps j) p.ins.length:=by
 simp [cAll,h]
theorem cIns_le (cs:List Vd) (ins:List Nd) (c0:Nat):∀k,cIns cs ins c0 k≤c0+k
 | 0=>Nat.le_refl _
 | k+1=>by
  have:=cIns_le cs ins c0 k
  unfold cIns
  split <;> omega
theorem cAll_le {ps:List Pd} (h:∀p ∈ ps,p.ins.length≤1048576) (j:Nat):cAll ps j≤j*1048576:=by
 induction j with
 | zero=>exact Nat.zero_le _
 | succ j h1=>
  rw [Nat.add_mul,Nat.one_mul]
  rw [cAll]
  split
  ·rename_i p hp
   have h2:=cIns_le p.consts p.ins (cAll ps j) p.ins.length
   have h3:=h p (List.mem_of_getElem? hp)
   exact Nat.le_trans h2 (Nat.add_le_add h1 h3)
  ·exact Nat.le_trans h1 (Nat.le_add_right _ _)
theorem dropsF_le (a:Int):∀(k:Nat) (l:List Nd),dropsF a k l≤l.length
 | _,[]=>Nat.le_refl _
 | k,n::r=>by
  have:=dropsF_le a (k+1) r
  unfold dropsF
  split <;> simp <;> omega
theorem dropsF_drop {a:Int} {l:List Nd} {i k:Nat} {n:Nd} (h:l[i+k]?=some n):dropsF a k (l.drop (i+k))=if n.op=42∧n.a=a+k then dropsF a (k+1) (l.drop (i+(k+1)))+1 else 0:=by
 rw [drop_some h];rfl
theorem twoL_drop {cs:List Vd} {c i:Nat} {l:List Nd} {n x:Nd} (h:l[i]?=some n) (h2:l[i+1]?=some x):twoL cs c (l.drop i)=twoF cs c n x:=by
 rw [drop_some h,drop_some h2];rfl
theorem twoL_last {cs:List Vd} {c i:Nat} {l:List Nd} (h:l.length≤i+1):twoL cs c (l.drop i)=none:=by
 match hd:l.drop i with
 | []=>rfl
 | [_]=>rfl
 | _::_::r=>
  have:=congrArg List.length hd
  simp at this
  omega
theorem quickOne_drops {cs:List Vd} {c:Nat} {l:List Nd} {i:Nat} {n:Nd} (h:l[i]?=some n) (hk:1<dropsF n.a 0 (l.drop i)):quickOne cs c (l.drop i)=⟨46,n.a,dropsF n.a 0 (l.drop i),0,0,0,0⟩:=by
 rw [drop_some h] at *
 simp only [quickOne,if_pos hk]
theorem quickOne_two {cs:List Vd} {c:Nat} {l:List Nd} {i:Nat} {n:Nd} {q:Qd} (h:l[i]?=some n) (hk:¬1<dropsF n.a 0 (l.drop i)) (h2:twoL cs c (l.drop i)=some q):quickOne cs c (l.drop i)=q:=by
 rw [drop_some h] at *
 simp only [quickOne,if_neg hk,h2]
theorem quickOne_plain {cs:List Vd} {c:Nat} {l:List Nd} {i:Nat} {n:Nd} (h:l[i]?=some n) (hk:¬1<dropsF n.a 0 (l.drop i)) (h2:twoL cs c (l.drop i)=none):quickOne cs c (l.drop i)=plainQ n:=by
 rw [drop_some h] at *
 simp only [quickOne,if_neg hk,h2]
def QiAt (w:World) (b o:Nat) (q:Qd):Prop:=w.cell? ⟨b,o,none⟩=some (.int .i64 q.op)∧w.cell? ⟨b,o+1,none⟩=some (.int .i64 q.a)∧w.cell? ⟨b,o+2,none⟩=some (.int .i64 q.b)∧w.cell? ⟨b,o+3,none⟩=some (.int .i64 q.c)∧w.cell? ⟨b,o+4,none⟩=some (.int .i64 q.d)∧w.cell? ⟨b,o+5,none⟩=some (.int .i64 q.e)∧w.cell? ⟨b,o+6,none⟩=some (.int .i64 q.f)
def QisAt (lo:Nat) (w:World) (ao:Option Addr) (xs:List Qd):Prop:=AllAt lo w ao 7 (QiAt w) xs
theorem QisAt.later {lo:Nat} {w w':World} {ao:Option Addr} {xs:List Qd} (h:QisAt lo w ao xs) (hk:Keeps lo w w'):QisAt lo w' ao xs:=
 AllAt.later h hk (fun b o x hl hs _ ha=>by unfold QiAt;rw [hk.cell hl hs,hk.cell hl hs,hk.cell hl hs,hk.cell hl hs,hk.cell hl hs,hk.cell hl hs,hk.cell hl hs];exact ha)
def QpAt (lo:Nat) (w:World) (b o:Nat) (qs:List Qd):Prop:=∃io ic,w.cell? ⟨b,o,none⟩=some (.slice io qs.length ic)∧QisAt lo w io qs
def QpsAt (lo:Nat) (w:World) (ao:Option Addr) (xs:List (List Qd)):Prop:=AllAt lo w ao 1 (QpAt lo w) xs
theorem QpsAt.later {lo:Nat} {w w':World} {ao:Option Addr} {xs:List (List Qd)} (h:QpsAt lo w ao xs) (hk:Keeps lo w w'):QpsAt lo w' ao xs:=
 AllAt.later h hk (fun b o x hl hs _ ⟨io,ic,h1,h2⟩=>⟨io,ic,by rw [hk.cell hl hs];exact h1,h2.later hk⟩)
theorem QpsAt.lower {lo lo':Nat} {w:World} {ao:Option Addr} {xs:List (List Qd)} (h:QpsAt lo w ao xs) (hl:lo'≤lo):QpsAt lo' w ao xs:=by
 intro i x hx
 obtain⟨b,off,e,h1,hs,io,ic,h2,h3⟩:=h i x hx
 exact⟨b,off,e,Nat.le_trans hl h1,hs,io,ic,h2,AllAt.lower h3 hl⟩
theorem Laid.qis {w:World} {g t n:Nat} {us:List Qd} (own:Own w g t n) (h:Laid w g 7 Qd.vals us us.length) {lo:Nat} (hl:lo≤g):QisAt lo w (some ⟨g,0,none⟩) us:=by
 intro i u hi
 have hk:=(List.getElem?_eq_some_iff.1 hi).1
 have:=h i u hk hi
 refine⟨g,0,rfl,hl,own.lt,?_⟩
 rw [Nat.zero_add]
 exact⟨this 0 _ rfl,this 1 _ rfl,this 2 _ rfl,this 3 _ rfl,this 4 _ rfl,this 5 _ rfl,this 6 _ rfl⟩
structure QOwn (w:World) (g:Nat) (gs:Nat→Nat) (qss:List (List Qd)):Prop where
 own:Own w g 154 qss.length
 hdr:∀j qs,qss[j]?=some qs→w.cell? ⟨g,j,none⟩=some (.slice (some ⟨gs j,0,none⟩) qs.length qs.length)
 up:∀j,j<qss.length→g<gs j
 apart:∀j k,j<k→k<qss.length→gs j<gs k
 row:∀j qs,qss[j]?=some qs→Own w (gs j) 149 (qs.length*7)∧Laid w (gs j) 7 Qd.vals qs qs.length
theorem QOwn.at {w:World} {g:Nat} {gs:Nat→Nat} {qss:List (List Qd)} (h:QOwn w g gs qss) {lo:Nat} (hl:lo≤g):QpsAt lo w (some ⟨g,0,none⟩) qss:=by
 intro j qs hj
 have hlt:=(List.getElem?_eq_some_iff.1 hj).1
 obtain⟨h1,h2⟩:=h.row j qs hj
 refine⟨g,0,rfl,hl,h.own.lt,some ⟨gs j,0,none⟩,qs.length,?_,h2.qis h1 (Nat.le_trans hl (Nat.le_of_lt (h.up j hlt)))⟩
 rw [Nat.zero_add,Nat.mul_one]
 exact h.hdr j qs hj
theorem QOwn.later {w w':World} {g:Nat} {gs:Nat→Nat} {qss:List (List Qd)} (h:QOwn w g gs qss) (hk:Keeps g w w'):QOwn w' g gs qss:=by
 refine⟨h.own.of_block (hk.block g (Nat.le_refl _) h.own.lt),fun j qs hj=>?_,h.up,h.apart,fun j qs hj=>?_⟩
 ·rw [hk.cell (Nat.le_refl _) h.own.lt];exact h.hdr j qs hj
 ·have hlt:=(List.getElem?_eq_some_iff.1 hj).1
  obtain⟨h1,h2⟩:=h.row j qs hj
  have hg:=Nat.le_of_lt (h.up j hlt)
  refine⟨h1.of_block (hk.block _ hg h1.lt),fun i y hi hy a v hv=>?_⟩
  rw [hk.cell hg h1.lt]
  exact h2 i y hi hy a v hv
theorem grown_comp {w a b:World} {row row':Option Nat} (h:w.grownBy a row) (k:a.grownBy b row') (hr:∀i,row'=some i→w.heap.size≤i):w.grownBy b row:=
 ⟨k.os.trans h.os,k.tape.trans h.tape,k.output.trans h.output,Nat.le_trans h.size k.size,fun i hi hn=>(k.block i (Nat.lt_of_lt_of_le hi h.size) (fun e=>by have:=hr i e.symm;omega)).trans (h.block i hi hn)⟩
theorem grown_alloc {w a:World} {row:Option Nat} (h:w.grownBy a row) (o:Obj):w.grownBy (a.alloc o) row:=
 ⟨h.os,h.tape,h.output,by have:=h.size;simp;omega,fun i hi hn=>(blk_alloc_lt _ _ _ (Nat.lt_of_lt_of_le hi h.size)).trans (h.block i hi hn)⟩
theorem rdsS_drop {rs:List Nat} {xs:List Int} {k r:Nat} {x:Int} (hr:rs[k]?=some r) (hx:xs[k]?=some x) (s:Rd):rdsS (rs.drop k) (xs.drop k) s=(rdS r x s).bind (rdsS (rs.drop (k+1)) (xs.drop (k+1))):=by
 rw [drop_some hr,drop_some hx];rfl
theorem fitAll_get {np:Nat} {p:Pd} : ∀{rs:List Nat} {xs:List Int} {k r:Nat} {x:Int},fitAll np p rs xs=true→rs[k]?=some r→xs[k]?=some x→fitsR np p r x=true
 | [],_,_,_,_,_,h,_=>by simp at h
 | _::_,[],_,_,_,_,_,h=>by simp at h
 | a::rs,b::xs,0,r,x,h,h1,h2=>by simp at h1 h2;subst h1;subst h2;simp [fitAll] at h;exact h.1
 | a::rs,b::xs,k+1,r,x,h,h1,h2=>by simp at h1 h2;simp [fitAll] at h;exact fitAll_get h.2 h1 h2
theorem role_class (r:Nat) (hr:r≤21):((wantsR r).1=0∧∀x s,rdS r x s=some s)∨
  (∃t,wantsR r=(t,true)∧(t=1∨t=3)∧(∀x s,rdS r x s=rdOp t x s)∧r≠18∧r≠19∧r≠20∧∀np p x,fitsR np p r x=inR x (-p.regs) (p.regs - 1))∨
  (∃t,wantsR r=(t,false)∧(t=1∨t=2∨t=3)∧(∀x s,rdS r x s=rdPlace t x s)∧r≠18∧r≠19∧r≠20∧∀np p x,fitsR np p r x=inR x 0 (p.regs - 1))∨r=18∨r=19∨r=20:=by
 rcases roles_all r hr with rfl | rfl | rfl | rfl | rfl | rfl | rfl | rfl | rfl | rfl | rfl | rfl | rfl | rfl | rfl | rfl | rfl | rfl | rfl | rfl | rfl | rfl
 all_goals first
  | exact .inl ⟨rfl,fun _ _=>rfl⟩
  | exact .inr (.inl ⟨1,rfl,.inl rfl,fun _ _=>rfl,by decide,by decide,by decide,fun _ _ _=>rfl⟩)
  | exact .inr (.inl ⟨3,rfl,.inr rfl,fun _ _=>rfl,by decide,by decide,by decide,fun _ _ _=>rfl⟩)
  | exact .inr (.inr (.inl ⟨1,rfl,.inl rfl,fun _ _=>rfl,by decide,by decide,by decide,fun _ _ _=>rfl⟩))
  | exact .inr (.inr (.inl ⟨2,rfl,.inr (.inl rfl),fun _ _=>rfl,by decide,by decide,by decide,fun _ _ _=>rfl⟩))
  | exact .inr (.inr (.inl ⟨3,rfl,.inr (.inr rfl),fun _ _=>rfl,by decide,by decide,by decide,fun _ _ _=>rfl⟩))
  | exact .inr (.inr (.inr (.inl rfl)))
  | exact .inr (.inr (.inr (.inr (.inl rfl))))
  | exact .inr (.inr (.inr (.inr (.inr rfl))))
def ReadPost (ps:List Pd) (n:Nd) (ts:List Int) (base:Nat) (v:Value) (w:World) (e:Ending) (w':World):Prop:=
 match readF ps n ts with
 | none=>∃u,e=.returned (.tuple #[u,.bool false])
 | some (t1,tk)=>∃u,e=.returned (.tuple #[u,.bool true])∧tk.length≤4∧w'.ownsRow w.heap.size 3 1 u tk.length (ints tk)∧w'.ownsRow base 3 1 v ts.length (ints t1)
theorem readF_none {ps:List Pd} {n:Nd} {ts:List Int} (h:rdsS (rolesOf n.op.toNat) n.fs ⟨ts,[],[]⟩=none):readF ps n ts=none:=by unfold readF;rw [h]
theorem readF_some {ps:List Pd} {n:Nd} {ts:List Int} {r:Rd} (h:rdsS (rolesOf n.op.toNat) n.fs ⟨ts,[],[]⟩=some r):readF ps n ts=if upsBoxedB r.types (fnUps ps n) then some (r.types,r.taken) else none:=by unfold readF;rw [h]
structure RdAt (base B1:Nat) (v vt vs:Value) (m:Nat) (w1 wr:World) (rd:Rd):Prop where
 types:wr.ownsRow base 3 1 v m (ints rd.types)
 taken:wr.ownsRow B1 3 1 vt rd.taken.length (ints rd.taken)
 stay:wr.ownsRow B1 3 1 vs rd.stay.length (ints rd.stay)
 sep:∀k,vt.ownBlock=some k→vs.ownBlock≠some k
 grown:w1.grownBy wr v.ownBlock
theorem RdAt.addStay {base B1:Nat} {v vt vs vs':Value} {m:Nat} {w1 wr w2:World} {rd:Rd} {x:Int} {o:Obj} (h:RdAt base B1 v vt vs m w1 wr rd) (hB:w1.heap.size=B1) (hv:∀k,v.ownBlock=some k→k<B1)
  (h1:w2.ownsRow B1 3 1 vs' (rd.stay.length+1) (ints (rd.stay ++ [x]))) (h2:(wr.alloc o).grownBy w2 vs.ownBlock) {S:Nat} (hS:wr.heap.size≤S) (h3:vs'.ownBlock=vs.ownBlock∨vs'.ownBlock=some S) :
  RdAt base B1 v vt vs' m w1 w2 ⟨rd.types,rd.stay ++ [x],rd.taken⟩:=by
 have hs:∀k,vs.ownBlock=some k→B1≤k:=fun k hk=>(h.stay.lt k hk).1
 refine⟨owns_grown (h.types.alloc o) h2 (fun k hk e=>by have:=hs k e.symm;have:=hv k hk;omega),owns_grown (h.taken.alloc o) h2 (fun k hk e=>h.sep k hk e.symm),by simpa using h1,?_,grown_comp (grown_alloc h.grown o) h2 (fun i hi=>by have:=hs i hi;omega)⟩
 intro k hk e
 rcases h3 with h3 | h3
 ·exact h.sep k hk (h3▸e)
 ·have:=(h.taken.lt k hk).2
  rw [h3] at e
  simp at e
  omega
theorem RdAt.addTaken {base B1:Nat} {v vt vt' vs:Value} {m:Nat} {w1 wr w2:World} {rd:Rd} {x:Int} {o:Obj} (h:RdAt base B1 v vt vs m w1 wr rd) (hB:w1.heap.size=B1) (hv:∀k,v.ownBlock=some k→k<B1)
  (h1:w2.ownsRow B1 3 1 vt' (rd.taken.length+1) (ints (rd.taken ++ [x]))) (h2:(wr.alloc o).grownBy w2 vt.ownBlock) {S:Nat} (hS:wr.heap.size≤S) (h3:vt'.ownBlock=vt.ownBlock∨vt'.ownBlock=some S) :
  RdAt base B1 v vt' vs m w1 w2 ⟨rd.types,rd.stay,rd.taken ++ [x]⟩:=by
 have hs:∀k,vt.ownBlock=some k→B1≤k:=fun k hk=>(h.taken.lt k hk).1
 refine⟨owns_grown (h.types.alloc o) h2 (fun k hk e=>by have:=hs k e.symm;have:=hv k hk;omega),by simpa using h1,owns_grown (h.stay.alloc o) h2 (fun k hk e=>h.sep k e.symm hk),?_,grown_comp (grown_alloc h.grown o) h2 (fun i hi=>by have:=hs i hi;omega)⟩
 intro k hk e
 rcases h3 with h3 | h3
 ·exact h.sep k (h3▸hk) e
 ·have:=(h.stay.lt k e).2
  rw [h3] at hk
  simp at hk
  omega
theorem RdAt.store {base B1:Nat} {vt vs:Value} {m g cap:Nat} {w1 wr:World} {rd:Rd} {i:Nat} (h:RdAt base B1 (.slice (some ⟨g,0,none⟩) m cap) vt vs m w1 wr rd) (hv:g<B1) (x:Int) :
  RdAt base B1 (.slice (some ⟨g,0,none⟩) m cap) vt vs m w1 (wr.setCell ⟨g,i,none⟩ (.int .i64 x)) ⟨rd.types.set i x,rd.stay,rd.taken⟩:=by
 obtain⟨s1,s2⟩:=h.types.stored i (.int .i64 x)
 rw [ints_set] at s1
 refine⟨s1,owns_grown h.taken s2 (fun k hk e=>?_),owns_grown h.stay s2 (fun k hk e=>?_),h.sep,grown_trans h.grown s2⟩
 ·have:=(h.taken.lt k hk).1
  simp at e
  omega
 ·have:=(h.stay.lt k hk).1
  simp at e
  omega
theorem RdAt.ty {base B1:Nat} {ao:Option Addr} {cap:Nat} {vt vs:Value} {m:Nat} {w1 wr:World} {rd:Rd} (h:RdAt base B1 (.slice ao m cap) vt vs m w1 wr rd) {i:Nat} (hi:i<m) (hm:rd.types.length=m) :
  ∃g,ao=some ⟨g,0,none⟩∧wr.cell? ⟨g,i,none⟩=some (.int .i64 (rd.types.getD i 0))∧wr.frozen? ⟨g,i,none⟩=false:=by
 rcases owns_form h.types with ⟨h1,h2⟩ | ⟨g,cap',h1,h2,h3⟩
 ·omega
 ·simp only [Value.slice.injEq] at h1
  obtain⟨rfl,_,rfl⟩:=h1
  have ho:=h.types
  exact⟨g,rfl,(ho.cellAt i (by omega)).trans (ints_get (by omega)),ho.frozenAt i⟩
theorem regOf_neg (q:Nat):regOf (-1 - (q:Int))=q:=by unfold regOf;rw [if_pos (by omega)];omega
theorem regOf_nat (q:Nat):regOf (q:Int)=q:=by unfold regOf;rw [if_neg (by omega)]
theorem take_not {xs:List Int} {j:Nat} {x q:Int} (h:q ∉ xs.take j) (hx:xs[j]?=some x) (hn:¬x=q):q ∉ xs.take (j+1):=by
 rw [List.take_add_one,hx]
 simp only [Option.toList_some,List.mem_append,List.mem_singleton]
 rintro (h1 | h1)
 ·exact h h1
 ·exact hn h1.symm
def qvals (xs:List Qd):List Value:=xs.flatMap Qd.vals
theorem qvals_length (xs:List Qd):(qvals xs).length=xs.length*7:=by
 induction xs with
 | nil=>rfl
 | cons x r ih=>simp only [qvals,List.flatMap_cons,List.length_append,List.length_cons] at *;rw [ih];simp [Qd.vals];omega
theorem qvals_get:∀{xs:List Qd} {i:Nat} {g:Qd},xs[i]?=some g→∀j v,g.vals[j]?=some v→(qvals xs)[i*7+j]?=some v
 | [],i,g,h,_,_,_=>by simp at h
 | x::r,0,g,h,j,v,hv=>by
  simp at h;subst h
  have hj:j<7:=(List.getElem?_eq_some_iff.1 hv).1
  simp only [qvals,List.flatMap_cons]
  rw [List.getElem?_append_left (by simp [Qd.vals];omega)]
  simpa using hv
 | x::r,i+1,g,h,j,v,hv=>by
  simp at h
  simp only [qvals,List.flatMap_cons]
  rw [List.getElem?_append_right (by simp [Qd.vals];omega)]
  have:=qvals_get h j v hv
  have e:(i+1)*7+j - x.vals.length=i*7+j:=by simp [Qd.vals];omega
  rw [e]
  exact this
theorem qvals_append (xs ys:List Qd):qvals (xs ++ ys)=qvals xs ++ qvals ys:=by simp [qvals]
theorem owns_qis {w:World} {base n cap:Nat} {ao:Option Addr} {xs:List Qd} (h:w.ownsRow base 149 7 (.slice ao n cap) n (qvals xs)):QisAt base w ao xs∧n=xs.length:=by
 have hl:n=xs.length:=by have:=h.1;rw [qvals_length] at this;omega
 refine⟨?_,hl⟩
 intro i x hi
 rcases owns_form h with ⟨h1,h2⟩ | ⟨g,cap',h1,h2,h3⟩
 ·subst h2
  have:xs=[]:=List.length_eq_zero_iff.1 hl.symm
  subst this
  simp at hi
 ·simp only [Value.slice.injEq] at h1
  obtain⟨rfl,_,rfl⟩:=h1
  refine⟨g,0,rfl,h2,h3,?_⟩
  rw [Nat.zero_add]
  exact⟨owns_cell h (qvals_get hi 0 _ rfl),owns_cell h (qvals_get hi 1 _ rfl),owns_cell h (qvals_get hi 2 _ rfl),owns_cell h (qvals_get hi 3 _ rfl),owns_cell h (qvals_get hi 4 _ rfl),owns_cell h (qvals_get hi 5 _ rfl),owns_cell h (qvals_get hi 6 _ rfl)⟩
theorem Tryz.info_QIns:(Tryz.prog.info? 149).map (fun i=>(i.zero,i.size,i.bytes))=some (some (.agg #[.int .i64 0,.int .i64 0,.int .i64 0,.int .i64 0,.int .i64 0,.int .i64 0,.int .i64 0]),7,56):=by kernel_rfl
theorem Tryz.info_QProto:(Tryz.prog.info? 154).map (fun i=>(i.zero,i.size,i.bytes))=some (some (.agg #[.slice none 0 0]),1,24):=by kernel_rfl
section
variable {w : World} {ops : Array Oper} {rest : List Oper} {o : Oper} {a : Act} {Q : Exit → Act → World → Prop}
theorem app_q (hgd:o.guard=none) (s x:Operand) (ho:o.op=.call {callee:=.builtin .append,args:=#[s,x],argTypes:=#[147,147]})
  (base:Nat) (v:Value) (n:Nat) (xs:List Qd) (u:Qd) (B:Nat) (hs:a.eval s=v) (hown:w.ownsRow base 149 7 v n (qvals xs)) (hx:a.eval x=.slice (some ⟨B,0,none⟩) 1 1) (hB:Blk w B #[.int .i64 u.op,.int .i64 u.a,.int .i64 u.b,.int .i64 u.c,.int .i64 u.d,.int .i64 u.e,.int .i64 u.f] 149)
  (hn:n≤1048576) (hbase:base≤w.heap.size)
  (h:∀v' w',w'.ownsRow base 149 7 v' (n+1) (qvals (xs ++ [u]))→w.grownBy w' v.ownBlock→(v'.ownBlock=v.ownBlock∨v'.ownBlock=some w.heap.size)→wpList Tryz.prog ops Q rest (a.put o.dst v') w'):wpList Tryz.prog ops Q (o::rest) a w:=by
 obtain⟨i0,hi,hz0,hz1,hz2⟩:=info_parts Tryz.info_QIns
 refine wpList_append_own_at w hgd s x 147 ho base 149 i0 (.agg #[.int .i64 0,.int .i64 0,.int .i64 0,.int .i64 0,.int .i64 0,.int .i64 0,.int .i64 0]) 7 56 Tryz.underlying147 hi hz0 hz1 hz2 rfl (by decide) v n (qvals xs) hs hown ⟨B,0,none⟩ 1 1 u.vals hx rfl ?_ ?_ (by unfold maxLen;omega) (by omega) hbase ?_
 ·intro j q hj
  have hc:=hB.cell j
  have ha:(⟨B,0,none⟩:Addr).add j=⟨B,j,none⟩:=by simp [Addr.add];exact fun h=>h.symm
  rw [ha,hc]
  simpa [Qd.vals] using hj
 ·intro q hq;simp [Qd.vals] at hq;rcases hq with rfl | rfl | rfl | rfl | rfl | rfl | rfl <;> rfl
 ·intro v' w' h1 h2 _ h4
  refine h v' w' ?_ h2 h4
  rw [qvals_append]
  simpa [qvals] using h1
theorem app_p (hgd:o.guard=none) (s x:Operand) (ho:o.op=.call {callee:=.builtin .append,args:=#[s,x],argTypes:=#[62,62]})
  (base:Nat) (v:Value) (n:Nat) (hs':List Value) (ao:Option Addr) (l c:Nat) (B:Nat) (hs:a.eval s=v) (hown:w.ownsRow base 154 1 v n hs') (hx:a.eval x=.slice (some ⟨B,0,none⟩) 1 1) (hB:Blk w B #[.slice ao l c] 154)
  (hn:n≤1048576) (hbase:base≤w.heap.size)
  (h:∀v' w',w'.ownsRow base 154 1 v' (n+1) (hs' ++ [.slice ao l c])→w.grownBy w' v.ownBlock→(v'.ownBlock=v.ownBlock∨v'.ownBlock=some w.heap.size)→wpList Tryz.prog ops Q rest (a.put o.dst v') w'):wpList Tryz.prog ops Q (o::rest) a w:=by
 obtain⟨i0,hi,hz0,hz1,hz2⟩:=info_parts Tryz.info_QProto
 refine wpList_append_own_at w hgd s x 62 ho base 154 i0 (.agg #[.slice none 0 0]) 1 24 Tryz.underlying62 hi hz0 hz1 hz2 rfl (by decide) v n hs' hs hown ⟨B,0,none⟩ 1 1 [.slice ao l c] hx rfl ?_ ?_ (by unfold maxLen;omega) (by omega) hbase ?_
 ·intro j q hj
  match j,hj with
  | 0,hj=>simp at hj;subst hj;simpa [Addr.add] using hB.cell 0
 ·intro q hq;simp at hq;subst hq;rfl
 ·intro v' w' h1 h2 _ h4
  exact h v' w' h1 h2 h4
end
theorem Blk.newAt {W:World} {n:Nat} (arr:Array Value) (t:TypeId) (h:W.heap.size=n):Blk (W.alloc (.cells arr t)) n arr t:=by
 subst h
 exact Blk.new W arr t
structure InnAt (B S:Nat) (wr wi:World) (fc:Array Value) (v u:Value) (c:Int) (i:Nat) (qs:List Qd):Prop where
 only:Only (B+1+1) wr wi
 size:S+2≤wi.heap.size
 eqS:wr.heap.size=S
 lt:B+1+1<S
 out:Blk wi (B+1+1) #[v,.int .i64 c] 102
 f:Blk wi S fc 54
 q:Blk wi (S+1) #[u] 154
 row:wi.ownsRow (S+2) 149 7 u i (qvals qs)
theorem InnAt.below {B S:Nat} {wr wi w':World} {fc:Array Value} {v u:Value} {c:Int} {i:Nat} {qs:List Qd} (h:InnAt B S wr wi fc v u c i qs) (hb:Below wi.heap.size wi w'):InnAt B S wr w' fc v u c i qs:=
 ⟨h.only.below hb,Nat.le_trans h.size hb.size,h.eqS,h.lt,h.out.later hb,h.f.later hb,h.q.later hb,owns_below h.row hb⟩
theorem Only.other {g b:Nat} {w w':World} (h:Only g w w') (hb:w.heap.size≤b) (i:Nat) (v:Value):Only g w (w'.setCell ⟨b,i,none⟩ v):=by
 refine⟨h.os,h.tape,h.output,by simpa using h.size,fun k hk hl=>?_⟩
 rw [Below.heap_setCell _ _ _ _ (by show k≠b;omega),h.block k hk hl]
theorem owns_setOther {w:World} {base e size n b:Nat} {v:Value} {xs:List Value} (h:w.ownsRow base e size v n xs) (hb:∀k,v.ownBlock=some k→k≠b) (i:Nat) (x:Value):(w.setCell ⟨b,i,none⟩ x).ownsRow base e size v n xs:=by
 obtain⟨h1,h2 | ⟨g,cap,cur,rfl,hg,hc,r⟩⟩:=h
 ·exact⟨h1,.inl h2⟩
 ·exact⟨h1,.inr ⟨g,cap,cur,rfl,hg,(Below.heap_setCell _ _ _ _ (hb g rfl)).trans hc,r⟩⟩
theorem InnAt.other {B S:Nat} {wr wi:World} {fc:Array Value} {v u:Value} {c:Int} {i:Nat} {qs:List Qd} (h:InnAt B S wr wi fc v u c i qs) (b:Nat) (hb:S+1<b) (hu:∀k,u.ownBlock=some k→k≠b) (j:Nat) (x:Value):InnAt B S wr (wi.setCell ⟨b,j,none⟩ x) fc v u c i qs:=by
 have hl:=h.lt
 have he:=h.eqS
 exact⟨h.only.other (by omega) j x,by simpa using h.size,he,hl,h.out.setOther (by show B+1+1≠b;omega) x,h.f.setOther (by show S≠b;omega) x,h.q.setOther (by show S+1≠b;omega) x,owns_setOther h.row hu j x⟩
theorem InnAt.count {B S:Nat} {wr wi:World} {fc:Array Value} {v u:Value} {c:Int} {i:Nat} {qs:List Qd} (h:InnAt B S wr wi fc v u c i qs) (c':Int):InnAt B S wr (wi.setCell ⟨B+1+1,1,none⟩ (.int .i64 c')) fc v u c' i qs:=by
 have hl:=h.lt
 refine⟨h.only.set 1 _,by simpa using h.size,h.eqS,hl,by simpa using h.out.set 1 (.int .i64 c'),h.f.setOther (by show S≠B+1+1;omega) _,h.q.setOther (by show S+1≠B+1+1;omega) _,owns_setOther h.row (fun k hk=>?_) 1 _⟩
 have:=(h.row.lt k hk).1
 omega
theorem InnAt.more {B S:Nat} {wr wi w':World} {fc:Array Value} {v u u':Value} {c:Int} {i:Nat} {qs:List Qd} {q:Qd} (h:InnAt B S wr wi fc v u c i qs)
  (h1:w'.ownsRow (S+2) 149 7 u' (i+1) (qvals (qs ++ [q]))) (h2:wi.grownBy w' u.ownBlock):InnAt B S wr (w'.setCell ⟨S+1,0,none⟩ u') fc v u' c (i+1) (qs ++ [q]):=by
 have hl:=h.lt
 have he:=h.eqS
 have hu:∀k,u.ownBlock=some k→S+2≤k:=fun k hk=>(h.row.lt k hk).1
 have hu':∀k,u'.ownBlock=some k→S+2≤k:=fun k hk=>(h1.lt k hk).1
 have hk:∀b,b<S+2→w'.heap[b]?=wi.heap[b]?:=fun b hb=>h2.block b (by have:=h.size;omega) (fun e=>by have:=hu b e.symm;omega)
 have hsz:=h2.size
 refine⟨⟨h2.os.trans h.only.os,h2.tape.trans h.only.tape,h2.output.trans h.only.output,?_,fun b hb hbl=>?_⟩,by simp;have:=h.size;omega,he,hl,?_,?_,?_,owns_setOther h1 (fun k hk=>by have:=hu' k hk;omega) 0 _⟩
 ·simp
  have:=h.only.size
  omega
 ·rw [Below.heap_setCell _ _ _ _ (by show b≠S+1;omega),hk b (by omega)]
  exact h.only.block b hb hbl
 ·exact Blk.setOther ((hk _ (by omega)).trans h.out) (by show B+1+1≠S+1;omega) _
 ·exact Blk.setOther ((hk _ (by omega)).trans h.f) (by show S≠S+1;omega) _
 ·have:Blk w' (S+1) #[u] 154:=(hk _ (by omega)).trans h.q
  simpa using this.set 0 u'
theorem InnAt.qAfter {B S:Nat} {wr wi w':World} {fc:Array Value} {v u:Value} {c:Int} {i:Nat} {qs:List Qd} (h:InnAt B S wr wi fc v u c i qs) (h2:wi.grownBy w' u.ownBlock):Blk w' (S+1) #[u] 154:=
 (h2.block (S+1) (by have:=h.size;omega) (fun e=>by have:=(h.row.lt (S+1) e.symm).1;omega)).trans h.q
theorem below_alQ {N:Nat} {w w1:World} (h:Below N w w1) (hn:N≤w1.heap.size) (o:Obj):Below N w (w1.alloc o):=h.alloc hn o
theorem AllAt.dropAt {α:Type} {lo:Nat} {w:World} {b off k:Nat} {at1:Nat→Nat→α→Prop} {xs:List α} (h:AllAt lo w (some ⟨b,off,none⟩) k at1 xs) (i:Nat):AllAt lo w (some ⟨b,off+i * k,none⟩) k at1 (xs.drop i):=by
 intro j x hx
 rw [List.getElem?_drop] at hx
 obtain⟨b',off',e,hl,hs,ha⟩:=h (i+j) x hx
 simp only [Option.some.injEq,Addr.mk.injEq,and_true] at e
 obtain⟨rfl,rfl⟩:=e
 refine⟨b,off+i * k,rfl,hl,hs,?_⟩
 rw [Nat.add_assoc,←Nat.add_mul]
 exact ha
def PatAt (w:World) (b o f:Nat) (x y:Int):Prop:=∃g,w.cell? ⟨b,o,none⟩=some (.func (.func f) #[] #[])∧w.cell? ⟨b,o+1,none⟩=some (.slice (some ⟨g,0,none⟩) 2 2)∧g<w.heap.size∧w.cell? ⟨g,0,none⟩=some (.int .i64 x)∧w.cell? ⟨g,1,none⟩=some (.int .i64 y)
theorem PatAt.later {w w':World} {b o f:Nat} {x y:Int} (h:PatAt w b o f x y) (hb:b<w.heap.size) (hw:Below w.heap.size w w'):PatAt w' b o f x y:=by
 obtain⟨g,h1,h2,h3,h4,h5⟩:=h
 exact⟨g,(hw.cell (p:=⟨b,o,none⟩) hb).trans h1,(hw.cell (p:=⟨b,o+1,none⟩) hb).trans h2,Nat.lt_of_lt_of_le h3 hw.size,(hw.cell (p:=⟨g,0,none⟩) h3).trans h4,(hw.cell (p:=⟨g,1,none⟩) h3).trans h5⟩
structure PatsAt (w:World) (g:Nat):Prop where
 lt:g<w.heap.size
 p0:PatAt w g 0 193 42 42
 p1:PatAt w g 2 194 18 20
 p2:PatAt w g 4 194 18 21
 p3:PatAt w g 6 195 4 18
 p4:PatAt w g 8 196 4 15
theorem PatsAt.later {w w':World} {g:Nat} (h:PatsAt w g) (hw:Below w.heap.size w w'):PatsAt w' g:=
 ⟨Nat.lt_of_lt_of_le h.lt hw.size,h.p0.later h.lt hw,h.p1.later h.lt hw,h.p2.later h.lt hw,h.p3.later h.lt hw,h.p4.later h.lt hw⟩
set_option maxHeartbeats 400000 in
theorem wanting_any (f:Fn) (ao:Option Addr) (n c:Nat) (w:World) :
  Calls Tryz.prog 192 #[.func f #[] #[],.slice ao n c] w fun e w'=>e=.returned (.agg #[.func f #[] #[],.slice ao n c])∧Below w.heap.size w w':=by
 go_enter Tryz.func192,Tryz.ntmps192
 go_wp2_with fail
 refine bodyPost_ret (v:=.agg #[.func f #[] #[],.slice ao n c]) (by simp [results,Tryz.results192,go_sem]) rfl ⟨rfl,?_⟩
 repeat (first | exact Below.refl _ _ | refine Below.alloc ?_ (by simp;try omega) _ | refine Below.setCell ?_ (by simp;try omega) _)
set_option maxHeartbeats 400000 in
theorem patterns_any (w:World):Calls Tryz.prog 114 #[] w fun e w'=>∃g,e=.returned (.slice (some ⟨g,0,none⟩) 5 5)∧PatsAt w' g∧w.heap.size≤g∧Below w.heap.size w w':=by
 go_enter Tryz.func114,Tryz.ntmps114
 go_wp2_with fail
 refine (wanting_any _ _ _ _ _).mono ?_
 rintro e w1 ⟨rfl,hw1⟩
 have X0:=(Blk.new w #[.int .i64 42,.int .i64 42] 3).later hw1
 have B0:=(below_alQ (Below.refl w.heap.size w) (Nat.le_refl _) (.cells #[.int .i64 42,.int .i64 42] 3)).trans (hw1.mono (by simp))
 clear hw1
 go_wp2_with fail
 refine (wanting_any _ _ _ _ _).mono ?_
 rintro e w2 ⟨rfl,hw2⟩
 have X1:=(Blk.new w1 #[.int .i64 18,.int .i64 20] 3).later hw2
 have B1:=(below_alQ (Below.refl w1.heap.size w1) (Nat.le_refl _) (.cells #[.int .i64 18,.int .i64 20] 3)).trans (hw2.mono (by simp))
 replace X0:=X0.later B1
 clear hw2
 go_wp2_with fail
 refine (wanting_any _ _ _ _ _).mono ?_
 rintro e w3 ⟨rfl,hw3⟩
 have X2:=(Blk.new w2 #[.int .i64 18,.int .i64 21] 3).later hw3
 have B2:=(below_alQ (Below.refl w2.heap.size w2) (Nat.le_refl _) (.cells #[.int .i64 18,.int .i64 21] 3)).trans (hw3.mono (by simp))
 replace X0:=X0.later B2
 replace X1:=X1.later B2
 clear hw3
 go_wp2_with fail
 refine (wanting_any _ _ _ _ _).mono ?_
 rintro e w4 ⟨rfl,hw4⟩
 have X3:=(Blk.new w3 #[.int .i64 4,.int .i64 18] 3).later hw4
 have B3:=(below_alQ (Below.refl w3.heap.size w3) (Nat.le_refl _) (.cells #[.int .i64 4,.int .i64 18] 3)).trans (hw4.mono (by simp))
 replace X0:=X0.later B3
 replace X1:=X1.later B3
 replace X2:=X2.later B3
 clear hw4
 go_wp2_with fail
 refine (wanting_any _ _ _ _ _).mono ?_
 rintro e w5 ⟨rfl,hw5⟩
 have X4:=(Blk.new w4 #[.int .i64 4,.int .i64 15] 3).later hw5
 have B4:=(below_alQ (Below.refl w4.heap.size w4) (Nat.le_refl _) (.cells #[.int .i64 4,.int .i64 15] 3)).trans (hw5.mono (by simp))
 replace X0:=X0.later B4
 replace X1:=X1.later B4
 replace X2:=X2.later B4
 replace X3:=X3.later B4
 clear hw5
 go_wp2_with fail
 go_ret
 have hz1:=B1.size
 have hz2:=B2.size
 have hz3:=B3.size
 have hz4:=B4.size
 have hz0:=B0.size
 have BB:=(((B0.trans (B1.mono hz0)).trans (B2.mono (by omega))).trans (B3.mono (by omega))).trans (B4.mono (by omega))
 have hbn:∀o,Below w5.heap.size w5 (w5.alloc o):=fun o=>below_alQ (Below.refl _ _) (Nat.le_refl _) o
 have G:=Blk.new w5 #[.func (.func 193) #[] #[],.slice (some ⟨w.heap.size,0,none⟩) 2 2,.func (.func 194) #[] #[],.slice (some ⟨w1.heap.size,0,none⟩) 2 2,.func (.func 194) #[] #[],.slice (some ⟨w2.heap.size,0,none⟩) 2 2,.func (.func 195) #[] #[],.slice (some ⟨w3.heap.size,0,none⟩) 2 2,.func (.func 196) #[] #[],.slice (some ⟨w4.heap.size,0,none⟩) 2 2] 267
 have gc:=G.cell
 refine⟨_,rfl,⟨G.lt,?_,?_,?_,?_,?_⟩,by omega,BB.trans ((hbn _).mono (by omega))⟩
 ·exact⟨w.heap.size,(gc 0).trans rfl,(gc 1).trans rfl,(X0.later (hbn _)).lt,((X0.later (hbn _)).cell 0).trans rfl,((X0.later (hbn _)).cell 1).trans rfl⟩
 ·exact⟨w1.heap.size,(gc 2).trans rfl,(gc 3).trans rfl,(X1.later (hbn _)).lt,((X1.later (hbn _)).cell 0).trans rfl,((X1.later (hbn _)).cell 1).trans rfl⟩
 ·exact⟨w2.heap.size,(gc 4).trans rfl,(gc 5).trans rfl,(X2.later (hbn _)).lt,((X2.later (hbn _)).cell 0).trans rfl,((X2.later (hbn _)).cell 1).trans rfl⟩
 ·exact⟨w3.heap.size,(gc 6).trans rfl,(gc 7).trans rfl,(X3.later (hbn _)).lt,((X3.later (hbn _)).cell 0).trans rfl,((X3.later (hbn _)).cell 1).trans rfl⟩
 ·exact⟨w4.heap.size,(gc 8).trans rfl,(gc 9).trans rfl,(X4.later (hbn _)).lt,((X4.later (hbn _)).cell 0).trans rfl,((X4.later (hbn _)).cell 1).trans rfl⟩
def stands (x y:Int):List Nd→Bool
 | n::m::_=>n.op == x && m.op == y
 | _=>false
theorem cell_al2 {w:World} {b o:Nat} {v:Value} (hb:b<w.heap.size) (h:w.cell? ⟨b,o,none⟩=some v) (o1 o2:Obj):((w.alloc o1).alloc o2).cell? ⟨b,o,none⟩=some v:=
 (Below.cell (p:=⟨b,o,none⟩) (((Below.refl w.heap.size w).alloc (Nat.le_refl _) o1).alloc (by simp) o2) hb).trans h
set_option maxRecDepth 100000 in
set_option maxHeartbeats 1000000 in
theorem standsAt_any (f:Fn) (g:Nat) (x y:Int) (io co:Option Addr) (ic m cc:Nat) (c:Int) (l:List Nd) (w:World) (hl:l.length≤1048576) (hg:g<w.heap.size) (hx:w.cell? ⟨g,0,none⟩=some (.int .i64 x)) (hy:w.cell? ⟨g,1,none⟩=some (.int .i64 y)) (hin:InssAt 0 w io l) :
  Calls Tryz.prog 197 #[.agg #[.func f #[] #[],.slice (some ⟨g,0,none⟩) 2 2],.agg #[.slice io l.length ic,.slice co m cc,.int .i64 c]] w fun e w'=>e=.returned (.bool (stands x y l))∧Below w.heap.size w w':=by
 have hb2:∀o1 o2,Below w.heap.size w ((w.alloc o1).alloc o2):=fun o1 o2=>((Below.refl _ _).alloc (Nat.le_refl _) o1).alloc (by simp) o2
 match l with
 | []=>
  clear hx hy hin hg
  dsimp only [List.length_nil] at *
  go_enter Tryz.func197,Tryz.ntmps197
  go_wp2_with fail
  go_ret
  exact⟨rfl,hb2 _ _⟩
 | [n]=>
  clear hx hy hin hg
  dsimp only [List.length_nil,List.length_cons] at *
  go_enter Tryz.func197,Tryz.ntmps197
  go_wp2_with fail
  go_ret
  exact⟨rfl,hb2 _ _⟩
 | n::k::r=>
  obtain⟨b,off,rfl,_,hbl,q0,_⟩:=hin 0 n rfl
  obtain⟨b',off',e',_,hbl',r0,_⟩:=hin 1 k rfl
  simp only [Option.some.injEq,Addr.mk.injEq,and_true] at e'
  obtain⟨rfl,rfl⟩:=e'
  simp only [Nat.zero_mul,Nat.add_zero,Nat.one_mul] at q0 r0
  replace q0:=cell_al2 hbl q0
  replace r0:=cell_al2 hbl r0
  replace hx:=cell_al2 hg hx
  replace hy:=cell_al2 hg hy
  have hz3:2≤(n::k::r).length:=by simp
  generalize (n::k::r).length=z at *
  have hz2:¬(z:Int)<2:=by omega
  have k0:(0:Int)<z:=by omega
  have k1:(1:Int)<z:=by omega
  have HS:Hid (stands x y (n::k::r)=(n.op == x && k.op == y)):=rfl
  generalize stands x y (n::k::r)=R at *
  obtain⟨n0,n1,n2,n3,n4⟩:=n
  obtain⟨m0,m1,m2,m3,m4⟩:=k
  dsimp only at *
  clear hin hl
  by_cases h0:n0=x
  ·have g0:(n0 != x)=false:=by simpa using h0
   have HS0:Hid (n0 == x):=by simpa [Hid] using h0
   clear h0
   by_cases h1:m0=y
   ·have g1:(m0 != y)=false:=by simpa using h1
    have HS1:Hid (m0 == y):=by simpa [Hid] using h1
    clear h1
    go_enter Tryz.func197,Tryz.ntmps197
    go_wp2_with fail
    refine wp_loop_rounds 3 ?_
    rw [rounds_succ]
    go_wp2_with fail
    rw [rounds_succ]
    go_wp2_with fail
    rw [rounds_succ]
    go_wp2_with fail
    go_ret
    exact⟨ret_bool (by rw [HS.out,HS0.out,HS1.out];rfl),hb2 _ _⟩
   ·have g1:(m0 != y)=true:=by simpa using h1
    have HS1:Hid ((m0 == y)=false):=by simpa [Hid] using h1
    clear h1
    go_enter Tryz.func197,Tryz.ntmps197
    go_wp2_with fail
    refine wp_loop_rounds 2 ?_
    rw [rounds_succ]
    go_wp2_with fail
    rw [rounds_succ]
    go_wp2_with fail
    go_ret
    exact⟨ret_bool (by rw [HS.out,HS1.out];simp),hb2 _ _⟩
  ·have g0:(n0 != x)=true:=by simpa using h0
   have HS0:Hid ((n0 == x)=false):=by simpa [Hid] using h0
   clear h0
   go_enter Tryz.func197,Tryz.ntmps197
   go_wp2_with fail
   refine wp_loop_rounds 1 ?_
   rw [rounds_succ]
   go_wp2_with fail
   go_ret
   exact⟨ret_bool (by rw [HS.out,HS0.out];simp),hb2 _ _⟩
end Go.Proofs.YtgopdffmnikhdaaGreatDoor
