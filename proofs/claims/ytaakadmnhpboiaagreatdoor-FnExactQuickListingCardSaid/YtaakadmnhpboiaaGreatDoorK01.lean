import Derived.Test.YtaakadmnhpboiaaGreatDoorM04
import Derived.Deep.RegionHeld3
import Derived.Laws.BytesArg
import Derived.Test.YtaakadmnhpboiaaGreatDoorM15
import Derived.Maps.AppendAt
import Derived.Test.YtaakadmnhpboiaaGreatDoorM40
namespace Go.Proofs.YtaakadmnhpboiaaGreatDoor
open Go.RowKit Go.Deep
structure Qd where
 op:Int
 a:Int
 b:Int
 c:Int
 d:Int
 e:Int
 f:Int
def Qd.val (q:Qd):Value:=.agg #[.int .i64 q.op,.int .i64 q.a,.int .i64 q.b,.int .i64 q.c,.int .i64 q.d,.int .i64 q.e,.int .i64 q.f]
def Qd.vals (q:Qd):List Value:=[.int .i64 q.op,.int .i64 q.a,.int .i64 q.b,.int .i64 q.c,.int .i64 q.d,.int .i64 q.e,.int .i64 q.f]
def dropsF (a:Int):Nat→List Nd→Nat
 | _,[]=>0
 | k,n::r=>if n.op=42∧n.a=a+k then dropsF a (k+1) r+1 else 0
def kindAt (cs:List Vd) (i:Int):Int:=match cs[i.toNat]? with
 | some v=>v.kind
 | none=>0
def twoF (cs:List Vd) (c:Nat) (n x:Nd):Option Qd:=
 if n.op=18∧13≤n.b∧(x.op=20∨x.op=21)∧x.a = -1 - n.a then some ⟨43,n.a,n.b,n.c,n.d,x.b,if x.op=20 then 1 else 0⟩
 else if n.op≠4 then none
 else if x.op=18∧x.c = -1 - n.a∧x.d≠n.a∧x.d≠-1 - n.a then some ⟨44,x.a,x.b,x.d,n.b,1,n.a⟩
 else if x.op=18∧x.d = -1 - n.a∧x.c≠n.a∧x.c≠-1 - n.a then some ⟨44,x.a,x.b,x.c,n.b,0,n.a⟩
 else if x.op=15∧x.c = -1 - n.a∧x.b≠n.a∧x.b≠-1 - n.a∧kindAt cs n.b=4 then some ⟨45,x.a,x.b,n.b,c,0,n.a⟩
 else none
def twoL (cs:List Vd) (c:Nat):List Nd→Option Qd
 | n::x::_=>twoF cs c n x
 | _=>none
def plainQ (n:Nd):Qd:=⟨n.op,n.a,n.b,n.c,n.d,0,0⟩
def quickOne (cs:List Vd) (c:Nat) (l:List Nd):Qd:=
 match l with
 | []=>⟨0,0,0,0,0,0,0⟩
 | n::r=>if 1<dropsF n.a 0 (n::r) then ⟨46,n.a,dropsF n.a 0 (n::r),0,0,0,0⟩ else match twoL cs c (n::r) with
  | some q=>q
  | none=>plainQ n
def cIns (cs:List Vd) (ins:List Nd) (c0:Nat):Nat→Nat
 | 0=>c0
 | k+1=>if (quickOne cs (cIns cs ins c0 k) (ins.drop k)).op=45 then cIns cs ins c0 k+1 else cIns cs ins c0 k
def qIns (cs:List Vd) (ins:List Nd) (c0:Nat):List Qd:=(List.range ins.length).map fun k=>quickOne cs (cIns cs ins c0 k) (ins.drop k)
def cAll (ps:List Pd):Nat→Nat
 | 0=>0
 | j+1=>match ps[j]? with
  | some p=>cIns p.consts p.ins (cAll ps j) p.ins.length
  | none=>cAll ps j
def qAll (ps:List Pd):List (List Qd):=(List.range ps.length).map fun j=>match ps[j]? with
 | some p=>qIns p.consts p.ins (cAll ps j)
 | none=>[]
theorem qIns_len (cs:List Vd) (ins:List Nd) (c0:Nat):(qIns cs ins c0).length=ins.length:=by simp [qIns]
theorem qIns_at {cs:List Vd} {ins:List Nd} {c0 k:Nat} (h:k<ins.length):(qIns cs ins c0)[k]?=some (quickOne cs (cIns cs ins c0 k) (ins.drop k)):=by
 simp [qIns,h]
theorem qAll_len (ps:List Pd):(qAll ps).length=ps.length:=by simp [qAll]
theorem qAll_at {ps:List Pd} {j:Nat} {p:Pd} (h:ps[j]?=some p):(qAll ps)[j]?=some (qIns p.consts p.ins (cAll ps j)):=by
 have hj:=(List.getElem?_eq_some_iff.1 h).1
 simp [qAll,hj,(List.getElem?_eq_some_iff.1 h).2]
theorem cAll_step {ps:List Pd} {j:Nat} {p:Pd} (h:ps[j]?=some p):cAll ps (j+1)=cIns p.consts p.ins (cAll ps j) p.ins.length:=by
 simp [cAll,h]
theorem cIns_le (cs:List Vd) (ins:List Nd) (c0:Nat):∀k,cIns cs ins c0 k≤c0+k
 | 0=>Nat.le_refl _
 | k+1=>by
  have:=cIns_le cs ins c0 k
  unfold cIns
  split <;> omega
theorem cAll_le {ps:List Pd} (h:∀p ∈ ps,p.ins.length≤1048576) (j:Nat):cAll ps j≤j*1048576:=by
 induction j with
 | zero=>exact Nat.zero_le _
 | succ j h1=>
  rw [Nat.add_mul,Nat.one_mul]
  rw [cAll]
  split
  ·rename_i p hp
   have h2:=cIns_le p.consts p.ins (cAll ps j) p.ins.length
   have h3:=h p (List.mem_of_getElem? hp)
   exact Nat.le_trans h2 (Nat.add_le_add h1 h3)
  ·exact Nat.le_trans h1 (Nat.le_add_right _ _)
theorem dropsF_le (a:Int):∀(k:Nat) (l:List Nd),dropsF a k l≤l.length
 | _,[]=>Nat.le_refl _
 | k,n::r=>by
  have:=dropsF_le a (k+1) r
  unfold dropsF
  split <;> simp <;> omega
theorem dropsF_drop {a:Int} {l:List Nd} {i k:Nat} {n:Nd} (h:l[i+k]?=some n):dropsF a k (l.drop (i+k))=if n.op=42∧n.a=a+k then dropsF a (k+1) (l.drop (i+(k+1)))+1 else 0:=by
 rw [drop_some h];rfl
theorem twoL_drop {cs:List Vd} {c i:Nat} {l:List Nd} {n x:Nd} (h:l[i]?=some n) (h2:l[i+1]?=some x):twoL cs c (l.drop i)=twoF cs c n x:=by
 rw [drop_some h,drop_some h2];rfl
theorem twoL_last {cs:List Vd} {c i:Nat} {l:List Nd} (h:l.length≤i+1):twoL cs c (l.drop i)=none:=by
 match hd:l.drop i with
 | []=>rfl
 | [_]=>rfl
 | _::_::r=>
  have:=congrArg List.length hd
  simp at this
  omega
theorem quickOne_drops {cs:List Vd} {c:Nat} {l:List Nd} {i:Nat} {n:Nd} (h:l[i]?=some n) (hk:1<dropsF n.a 0 (l.drop i)):quickOne cs c (l.drop i)=⟨46,n.a,dropsF n.a 0 (l.drop i),0,0,0,0⟩:=by
 rw [drop_some h] at *
 simp only [quickOne,if_pos hk]
theorem quickOne_two {cs:List Vd} {c:Nat} {l:List Nd} {i:Nat} {n:Nd} {q:Qd} (h:l[i]?=some n) (hk:¬1<dropsF n.a 0 (l.drop i)) (h2:twoL cs c (l.drop i)=some q):quickOne cs c (l.drop i)=q:=by
 rw [drop_some h] at *
 simp only [quickOne,if_neg hk,h2]
theorem quickOne_plain {cs:List Vd} {c:Nat} {l:List Nd} {i:Nat} {n:Nd} (h:l[i]?=some n) (hk:¬1<dropsF n.a 0 (l.drop i)) (h2:twoL cs c (l.drop i)=none):quickOne cs c (l.drop i)=plainQ n:=by
 rw [drop_some h] at *
 simp only [quickOne,if_neg hk,h2]
def QiAt (w:World) (b o:Nat) (q:Qd):Prop:=w.cell? ⟨b,o,none⟩=some (.int .i64 q.op)∧w.cell? ⟨b,o+1,none⟩=some (.int .i64 q.a)∧w.cell? ⟨b,o+2,none⟩=some (.int .i64 q.b)∧w.cell? ⟨b,o+3,none⟩=some (.int .i64 q.c)∧w.cell? ⟨b,o+4,none⟩=some (.int .i64 q.d)∧w.cell? ⟨b,o+5,none⟩=some (.int .i64 q.e)∧w.cell? ⟨b,o+6,none⟩=some (.int .i64 q.f)
def QisAt (lo:Nat) (w:World) (ao:Option Addr) (xs:List Qd):Prop:=AllAt lo w ao 7 (QiAt w) xs
theorem QisAt.later {lo:Nat} {w w':World} {ao:Option Addr} {xs:List Qd} (h:QisAt lo w ao xs) (hk:Keeps lo w w'):QisAt lo w' ao xs:=
 AllAt.later h hk (fun b o x hl hs _ ha=>by unfold QiAt;rw [hk.cell hl hs,hk.cell hl hs,hk.cell hl hs,hk.cell hl hs,hk.cell hl hs,hk.cell hl hs,hk.cell hl hs];exact ha)
def QpAt (lo:Nat) (w:World) (b o:Nat) (qs:List Qd):Prop:=∃io ic,w.cell? ⟨b,o,none⟩=some (.slice io qs.length ic)∧QisAt lo w io qs
def QpsAt (lo:Nat) (w:World) (ao:Option Addr) (xs:List (List Qd)):Prop:=AllAt lo w ao 1 (QpAt lo w) xs
theorem QpsAt.later {lo:Nat} {w w':World} {ao:Option Addr} {xs:List (List Qd)} (h:QpsAt lo w ao xs) (hk:Keeps lo w w'):QpsAt lo w' ao xs:=
 AllAt.later h hk (fun b o x hl hs _ ⟨io,ic,h1,h2⟩=>⟨io,ic,by rw [hk.cell hl hs];exact h1,h2.later hk⟩)
theorem QpsAt.lower {lo lo':Nat} {w:World} {ao:Option Addr} {xs:List (List Qd)} (h:QpsAt lo w ao xs) (hl:lo'≤lo):QpsAt lo' w ao xs:=by
 intro i x hx
 obtain⟨b,off,e,h1,hs,io,ic,h2,h3⟩:=h i x hx
 exact⟨b,off,e,Nat.le_trans hl h1,hs,io,ic,h2,AllAt.lower h3 hl⟩
theorem Laid.qis {w:World} {g t n:Nat} {us:List Qd} (own:Own w g t n) (h:Laid w g 7 Qd.vals us us.length) {lo:Nat} (hl:lo≤g):QisAt lo w (some ⟨g,0,none⟩) us:=by
 intro i u hi
 have hk:=(List.getElem?_eq_some_iff.1 hi).1
 have:=h i u hk hi
 refine⟨g,0,rfl,hl,own.lt,?_⟩
 rw [Nat.zero_add]
 exact⟨this 0 _ rfl,this 1 _ rfl,this 2 _ rfl,this 3 _ rfl,this 4 _ rfl,this 5 _ rfl,this 6 _ rfl⟩
structure QOwn (w:World) (g:Nat) (gs:Nat→Nat) (qss:List (List Qd)):Prop where
 own:Own w g 65 qss.length
 hdr:∀j qs,qss[j]?=some qs→w.cell? ⟨g,j,none⟩=some (.slice (some ⟨gs j,0,none⟩) qs.length qs.length)
 up:∀j,j<qss.length→g<gs j
 apart:∀j k,j<k→k<qss.length→gs j<gs k
 row:∀j qs,qss[j]?=some qs→Own w (gs j) 60 (qs.length*7)∧Laid w (gs j) 7 Qd.vals qs qs.length
theorem QOwn.at {w:World} {g:Nat} {gs:Nat→Nat} {qss:List (List Qd)} (h:QOwn w g gs qss) {lo:Nat} (hl:lo≤g):QpsAt lo w (some ⟨g,0,none⟩) qss:=by
 intro j qs hj
 have hlt:=(List.getElem?_eq_some_iff.1 hj).1
 obtain⟨h1,h2⟩:=h.row j qs hj
 refine⟨g,0,rfl,hl,h.own.lt,some ⟨gs j,0,none⟩,qs.length,?_,h2.qis h1 (Nat.le_trans hl (Nat.le_of_lt (h.up j hlt)))⟩
 rw [Nat.zero_add,Nat.mul_one]
 exact h.hdr j qs hj
theorem QOwn.later {w w':World} {g:Nat} {gs:Nat→Nat} {qss:List (List Qd)} (h:QOwn w g gs qss) (hk:Keeps g w w'):QOwn w' g gs qss:=by
 refine⟨h.own.of_block (hk.block g (Nat.le_refl _) h.own.lt),fun j qs hj=>?_,h.up,h.apart,fun j qs hj=>?_⟩
 ·rw [hk.cell (Nat.le_refl _) h.own.lt];exact h.hdr j qs hj
 ·have hlt:=(List.getElem?_eq_some_iff.1 hj).1
  obtain⟨h1,h2⟩:=h.row j qs hj
  have hg:=Nat.le_of_lt (h.up j hlt)
  refine⟨h1.of_block (hk.block _ hg h1.lt),fun i y hi hy a v hv=>?_⟩
  rw [hk.cell hg h1.lt]
  exact h2 i y hi hy a v hv
structure Only (g:Nat) (w w':World):Prop where
 os:w'.os=w.os
 tape:w'.tape=w.tape
 output:w'.output=w.output
 size:w.heap.size≤w'.heap.size
 block:∀b,b≠g→b<w.heap.size→w'.heap[b]?=w.heap[b]?
theorem Only.refl (g:Nat) (w:World):Only g w w:=⟨rfl,rfl,rfl,Nat.le_refl _,fun _ _ _=>rfl⟩
theorem Only.set {g:Nat} {w w':World} (h:Only g w w') (i:Nat) (v:Value):Only g w (w'.setCell ⟨g,i,none⟩ v):=by
 refine⟨h.os,h.tape,h.output,by simpa using h.size,fun b hb hl=>?_⟩
 rw [Below.heap_setCell _ _ _ _ (fun e=>hb e),h.block b hb hl]
theorem Only.below {g:Nat} {w w' w'':World} (h:Only g w w') (hb:Below w'.heap.size w' w''):Only g w w'':=
 ⟨hb.os.trans h.os,hb.tape.trans h.tape,hb.output.trans h.output,Nat.le_trans h.size hb.size,fun b hne hl=>(hb.block b (Nat.lt_of_lt_of_le hl h.size)).trans (h.block b hne hl)⟩
theorem cell_set_nv {w:World} {g a b:Nat} (v:Value) (h:a≠b):(w.setCell ⟨g,a,none⟩ v).cell? ⟨g,b,none⟩=w.cell? ⟨g,b,none⟩:=by
 cases hb:w.heap[g]? with
 | none=>simp [World.cell?,World.setCell,Array.getElem?_modify,hb]
 | some o=>
  cases o <;> simp [World.cell?,World.setCell,Array.getElem?_modify,hb,h]
theorem run_conv1 (w:World) (x:Int):(convert 69 9 (.slice (some ⟨w.heap.size,0,none⟩) 1 1)).run Tryz.prog (w.alloc (.cells #[.int .u8 x] 5))=.ok (.string (strOfNums [x])) (w.alloc (.cells #[.int .u8 x] 5)):=
 run_convert_bytes_arg _ 69 5 (by kernel_rfl) (by kernel_rfl) _ 0 1 1 [x] rfl (fun i hi=>by
  obtain rfl:i=0:=by omega
  rw [(Blk.new w #[.int .u8 x] 5).cell]
  rfl) _ (by kernel_rfl)
theorem size_strOfNums (x:Int):(strOfNums [x]).size=1:=rfl
def qvals (xs:List Qd):List Value:=xs.flatMap Qd.vals
theorem qvals_length (xs:List Qd):(qvals xs).length=xs.length*7:=by
 induction xs with
 | nil=>rfl
 | cons x r ih=>simp only [qvals,List.flatMap_cons,List.length_append,List.length_cons] at *;rw [ih];simp [Qd.vals];omega
theorem qvals_get:∀{xs:List Qd} {i:Nat} {g:Qd},xs[i]?=some g→∀j v,g.vals[j]?=some v→(qvals xs)[i*7+j]?=some v
 | [],i,g,h,_,_,_=>by simp at h
 | x::r,0,g,h,j,v,hv=>by
  simp at h;subst h
  have hj:j<7:=(List.getElem?_eq_some_iff.1 hv).1
  simp only [qvals,List.flatMap_cons]
  rw [List.getElem?_append_left (by simp [Qd.vals];omega)]
  simpa using hv
 | x::r,i+1,g,h,j,v,hv=>by
  simp at h
  simp only [qvals,List.flatMap_cons]
  rw [List.getElem?_append_right (by simp [Qd.vals];omega)]
  have:=qvals_get h j v hv
  have e:(i+1)*7+j - x.vals.length=i*7+j:=by simp [Qd.vals];omega
  rw [e]
  exact this
theorem qvals_append (xs ys:List Qd):qvals (xs ++ ys)=qvals xs ++ qvals ys:=by simp [qvals]
theorem owns_qis {w:World} {base n cap:Nat} {ao:Option Addr} {xs:List Qd} (h:w.ownsRow base 60 7 (.slice ao n cap) n (qvals xs)):QisAt base w ao xs∧n=xs.length:=by
 have hl:n=xs.length:=by have:=h.1;rw [qvals_length] at this;omega
 refine⟨?_,hl⟩
 intro i x hi
 rcases owns_form h with ⟨h1,h2⟩ | ⟨g,cap',h1,h2,h3⟩
 ·subst h2
  have:xs=[]:=List.length_eq_zero_iff.1 hl.symm
  subst this
  simp at hi
 ·simp only [Value.slice.injEq] at h1
  obtain⟨rfl,_,rfl⟩:=h1
  refine⟨g,0,rfl,h2,h3,?_⟩
  rw [Nat.zero_add]
  exact⟨owns_cell h (qvals_get hi 0 _ rfl),owns_cell h (qvals_get hi 1 _ rfl),owns_cell h (qvals_get hi 2 _ rfl),owns_cell h (qvals_get hi 3 _ rfl),owns_cell h (qvals_get hi 4 _ rfl),owns_cell h (qvals_get hi 5 _ rfl),owns_cell h (qvals_get hi 6 _ rfl)⟩
theorem Tryz.info_QIns:(Tryz.prog.info? 60).map (fun i=>(i.zero,i.size,i.bytes))=some (some (.agg #[.int .i64 0,.int .i64 0,.int .i64 0,.int .i64 0,.int .i64 0,.int .i64 0,.int .i64 0]),7,56):=by kernel_rfl
theorem Tryz.info_QProto:(Tryz.prog.info? 65).map (fun i=>(i.zero,i.size,i.bytes))=some (some (.agg #[.slice none 0 0]),1,24):=by kernel_rfl
section
variable {w : World} {ops : Array Oper} {rest : List Oper} {o : Oper} {a : Act} {Q : Exit → Act → World → Prop}
theorem app_q (hgd:o.guard=none) (s x:Operand) (ho:o.op=.call {callee:=.builtin .append,args:=#[s,x],argTypes:=#[58,58]})
  (base:Nat) (v:Value) (n:Nat) (xs:List Qd) (u:Qd) (B:Nat) (hs:a.eval s=v) (hown:w.ownsRow base 60 7 v n (qvals xs)) (hx:a.eval x=.slice (some ⟨B,0,none⟩) 1 1) (hB:Blk w B #[.int .i64 u.op,.int .i64 u.a,.int .i64 u.b,.int .i64 u.c,.int .i64 u.d,.int .i64 u.e,.int .i64 u.f] 60)
  (hn:n≤1048576) (hbase:base≤w.heap.size)
  (h:∀v' w',w'.ownsRow base 60 7 v' (n+1) (qvals (xs ++ [u]))→w.grownBy w' v.ownBlock→(v'.ownBlock=v.ownBlock∨v'.ownBlock=some w.heap.size)→wpList Tryz.prog ops Q rest (a.put o.dst v') w'):wpList Tryz.prog ops Q (o::rest) a w:=by
 obtain⟨i0,hi,hz0,hz1,hz2⟩:=info_parts Tryz.info_QIns
 refine wpList_append_own_at w hgd s x 58 ho base 60 i0 (.agg #[.int .i64 0,.int .i64 0,.int .i64 0,.int .i64 0,.int .i64 0,.int .i64 0,.int .i64 0]) 7 56 Tryz.underlying58 hi hz0 hz1 hz2 rfl (by decide) v n (qvals xs) hs hown ⟨B,0,none⟩ 1 1 u.vals hx rfl ?_ ?_ (by unfold maxLen;omega) (by omega) hbase ?_
 ·intro j q hj
  have hc:=hB.cell j
  have ha:(⟨B,0,none⟩:Addr).add j=⟨B,j,none⟩:=by simp [Addr.add];exact fun h=>h.symm
  rw [ha,hc]
  simpa [Qd.vals] using hj
 ·intro q hq;simp [Qd.vals] at hq;rcases hq with rfl | rfl | rfl | rfl | rfl | rfl | rfl <;> rfl
 ·intro v' w' h1 h2 _ h4
  refine h v' w' ?_ h2 h4
  rw [qvals_append]
  simpa [qvals] using h1
theorem app_p (hgd:o.guard=none) (s x:Operand) (ho:o.op=.call {callee:=.builtin .append,args:=#[s,x],argTypes:=#[36,36]})
  (base:Nat) (v:Value) (n:Nat) (hs':List Value) (ao:Option Addr) (l c:Nat) (B:Nat) (hs:a.eval s=v) (hown:w.ownsRow base 65 1 v n hs') (hx:a.eval x=.slice (some ⟨B,0,none⟩) 1 1) (hB:Blk w B #[.slice ao l c] 65)
  (hn:n≤1048576) (hbase:base≤w.heap.size)
  (h:∀v' w',w'.ownsRow base 65 1 v' (n+1) (hs' ++ [.slice ao l c])→w.grownBy w' v.ownBlock→(v'.ownBlock=v.ownBlock∨v'.ownBlock=some w.heap.size)→wpList Tryz.prog ops Q rest (a.put o.dst v') w'):wpList Tryz.prog ops Q (o::rest) a w:=by
 obtain⟨i0,hi,hz0,hz1,hz2⟩:=info_parts Tryz.info_QProto
 refine wpList_append_own_at w hgd s x 36 ho base 65 i0 (.agg #[.slice none 0 0]) 1 24 Tryz.underlying36 hi hz0 hz1 hz2 rfl (by decide) v n hs' hs hown ⟨B,0,none⟩ 1 1 [.slice ao l c] hx rfl ?_ ?_ (by unfold maxLen;omega) (by omega) hbase ?_
 ·intro j q hj
  match j,hj with
  | 0,hj=>simp at hj;subst hj;simpa [Addr.add] using hB.cell 0
 ·intro q hq;simp at hq;subst hq;rfl
 ·intro v' w' h1 h2 _ h4
  exact h v' w' h1 h2 h4
end
theorem Blk.newAt {W:World} {n:Nat} (arr:Array Value) (t:TypeId) (h:W.heap.size=n):Blk (W.alloc (.cells arr t)) n arr t:=by
 subst h
 exact Blk.new W arr t
structure InnAt (B S:Nat) (wr wi:World) (fc:Array Value) (v u:Value) (c:Int) (i:Nat) (qs:List Qd):Prop where
 only:Only (B+1+1) wr wi
 size:S+2≤wi.heap.size
 eqS:wr.heap.size=S
 lt:B+1+1<S
 out:Blk wi (B+1+1) #[v,.int .i64 c] 38
 f:Blk wi S fc 57
 q:Blk wi (S+1) #[u] 65
 row:wi.ownsRow (S+2) 60 7 u i (qvals qs)
theorem InnAt.below {B S:Nat} {wr wi w':World} {fc:Array Value} {v u:Value} {c:Int} {i:Nat} {qs:List Qd} (h:InnAt B S wr wi fc v u c i qs) (hb:Below wi.heap.size wi w'):InnAt B S wr w' fc v u c i qs:=
 ⟨h.only.below hb,Nat.le_trans h.size hb.size,h.eqS,h.lt,h.out.later hb,h.f.later hb,h.q.later hb,owns_below h.row hb⟩
theorem Only.other {g b:Nat} {w w':World} (h:Only g w w') (hb:w.heap.size≤b) (i:Nat) (v:Value):Only g w (w'.setCell ⟨b,i,none⟩ v):=by
 refine⟨h.os,h.tape,h.output,by simpa using h.size,fun k hk hl=>?_⟩
 rw [Below.heap_setCell _ _ _ _ (by show k≠b;omega),h.block k hk hl]
theorem owns_setOther {w:World} {base e size n b:Nat} {v:Value} {xs:List Value} (h:w.ownsRow base e size v n xs) (hb:∀k,v.ownBlock=some k→k≠b) (i:Nat) (x:Value):(w.setCell ⟨b,i,none⟩ x).ownsRow base e size v n xs:=by
 obtain⟨h1,h2 | ⟨g,cap,cur,rfl,hg,hc,r⟩⟩:=h
 ·exact⟨h1,.inl h2⟩
 ·exact⟨h1,.inr ⟨g,cap,cur,rfl,hg,(Below.heap_setCell _ _ _ _ (hb g rfl)).trans hc,r⟩⟩
theorem InnAt.other {B S:Nat} {wr wi:World} {fc:Array Value} {v u:Value} {c:Int} {i:Nat} {qs:List Qd} (h:InnAt B S wr wi fc v u c i qs) (b:Nat) (hb:S+1<b) (hu:∀k,u.ownBlock=some k→k≠b) (j:Nat) (x:Value):InnAt B S wr (wi.setCell ⟨b,j,none⟩ x) fc v u c i qs:=by
 have hl:=h.lt
 have he:=h.eqS
 exact⟨h.only.other (by omega) j x,by simpa using h.size,he,hl,h.out.setOther (by show B+1+1≠b;omega) x,h.f.setOther (by show S≠b;omega) x,h.q.setOther (by show S+1≠b;omega) x,owns_setOther h.row hu j x⟩
theorem InnAt.count {B S:Nat} {wr wi:World} {fc:Array Value} {v u:Value} {c:Int} {i:Nat} {qs:List Qd} (h:InnAt B S wr wi fc v u c i qs) (c':Int):InnAt B S wr (wi.setCell ⟨B+1+1,1,none⟩ (.int .i64 c')) fc v u c' i qs:=by
 have hl:=h.lt
 refine⟨h.only.set 1 _,by simpa using h.size,h.eqS,hl,by simpa using h.out.set 1 (.int .i64 c'),h.f.setOther (by show S≠B+1+1;omega) _,h.q.setOther (by show S+1≠B+1+1;omega) _,owns_setOther h.row (fun k hk=>?_) 1 _⟩
 have:=(h.row.lt k hk).1
 omega
theorem InnAt.more {B S:Nat} {wr wi w':World} {fc:Array Value} {v u u':Value} {c:Int} {i:Nat} {qs:List Qd} {q:Qd} (h:InnAt B S wr wi fc v u c i qs)
  (h1:w'.ownsRow (S+2) 60 7 u' (i+1) (qvals (qs ++ [q]))) (h2:wi.grownBy w' u.ownBlock):InnAt B S wr (w'.setCell ⟨S+1,0,none⟩ u') fc v u' c (i+1) (qs ++ [q]):=by
 have hl:=h.lt
 have he:=h.eqS
 have hu:∀k,u.ownBlock=some k→S+2≤k:=fun k hk=>(h.row.lt k hk).1
 have hu':∀k,u'.ownBlock=some k→S+2≤k:=fun k hk=>(h1.lt k hk).1
 have hk:∀b,b<S+2→w'.heap[b]?=wi.heap[b]?:=fun b hb=>h2.block b (by have:=h.size;omega) (fun e=>by have:=hu b e.symm;omega)
 have hsz:=h2.size
 refine⟨⟨h2.os.trans h.only.os,h2.tape.trans h.only.tape,h2.output.trans h.only.output,?_,fun b hb hbl=>?_⟩,by simp;have:=h.size;omega,he,hl,?_,?_,?_,owns_setOther h1 (fun k hk=>by have:=hu' k hk;omega) 0 _⟩
 ·simp
  have:=h.only.size
  omega
 ·rw [Below.heap_setCell _ _ _ _ (by show b≠S+1;omega),hk b (by omega)]
  exact h.only.block b hb hbl
 ·exact Blk.setOther ((hk _ (by omega)).trans h.out) (by show B+1+1≠S+1;omega) _
 ·exact Blk.setOther ((hk _ (by omega)).trans h.f) (by show S≠S+1;omega) _
 ·have:Blk w' (S+1) #[u] 65:=(hk _ (by omega)).trans h.q
  simpa using this.set 0 u'
theorem InnAt.qAfter {B S:Nat} {wr wi w':World} {fc:Array Value} {v u:Value} {c:Int} {i:Nat} {qs:List Qd} (h:InnAt B S wr wi fc v u c i qs) (h2:wi.grownBy w' u.ownBlock):Blk w' (S+1) #[u] 65:=
 (h2.block (S+1) (by have:=h.size;omega) (fun e=>by have:=(h.row.lt (S+1) e.symm).1;omega)).trans h.q
structure PrepAt (w:World) (ps:List Pd) (wr:World) (k:Nat) (v:Value) (hs:List Value):Prop where
 below:Below w.heap.size w wr
 size:w.heap.size+1+1<wr.heap.size
 res:Blk wr (w.heap.size+1) #[.slice none 0 0,.int .i64 0] 38
 out:Blk wr (w.heap.size+1+1) #[v,.int .i64 (cAll ps k:Int)] 38
 row:wr.ownsRow (w.heap.size+1+1+1) 65 1 v k hs
 rows:∀i p,i<k→ps[i]?=some p→∃u,hs[i]?=some u∧wr.ownsRow (w.heap.size+1+1+1) 60 7 u p.ins.length (qvals (qIns p.consts p.ins (cAll ps i)))∧∀b,u.ownBlock=some b→v.ownBlock≠some b
theorem InnAt.belowW {w wr wi:World} {S:Nat} {fc:Array Value} {v u:Value} {c:Int} {i:Nat} {qs:List Qd} (h:InnAt w.heap.size S wr wi fc v u c i qs) (hb:Below w.heap.size w wr):Below w.heap.size w wi:=
 ⟨h.only.os.trans hb.os,h.only.tape.trans hb.tape,h.only.output.trans hb.output,Nat.le_trans hb.size h.only.size,fun k hk=>(h.only.block k (by omega) (Nat.lt_of_lt_of_le hk hb.size)).trans (hb.block k hk)⟩
theorem InnAt.start {B:Nat} {wr:World} (fc:Array Value) {v:Value} {c:Int} (hl:B+1+1<wr.heap.size) (ho:Blk wr (B+1+1) #[v,.int .i64 c] 38) :
  InnAt B wr.heap.size wr ((wr.alloc (.cells fc 57)).alloc (.cells #[.slice none 0 0] 65)) fc v (.slice none 0 0) c 0 []:=by
 have hb:Below wr.heap.size wr ((wr.alloc (.cells fc 57)).alloc (.cells #[.slice none 0 0] 65)):=((Below.refl _ _).alloc (Nat.le_refl _) _).alloc (by simp) _
 refine⟨(Only.refl _ _).below hb,by simp,rfl,hl,ho.later hb,(Blk.new _ _ _).alloc _,?_,World.ownsRow_nil _ _ _ _⟩
 have:=Blk.new (wr.alloc (.cells fc 57)) #[.slice none 0 0] 65
 rwa [nblk_alloc] at this
theorem PrepAt.more {w:World} {ps:List Pd} {wr wi w':World} {k:Nat} {v v' u:Value} {hs:List Value} {p:Pd} {fc:Array Value} {o:Obj} (h:PrepAt w ps wr k v hs) (hp:ps[k]?=some p)
  (hi:InnAt w.heap.size wr.heap.size wr wi fc v u (cAll ps (k+1):Int) p.ins.length (qIns p.consts p.ins (cAll ps k)))
  (h1:w'.ownsRow (w.heap.size+1+1+1) 65 1 v' (k+1) (hs ++ [u])) (h2:(wi.alloc o).grownBy w' v.ownBlock) (h3:v'.ownBlock=v.ownBlock∨v'.ownBlock=some (wi.alloc o).heap.size) :
  PrepAt w ps (w'.setCell ⟨w.heap.size+1+1,0,none⟩ v') (k+1) v' (hs ++ [u]):=by
 have hsz:=h.size
 have hsz2:=hi.only.size
 have hsi:(wi.alloc o).heap.size=wi.heap.size+1:=by simp
 have hsz3:=h2.size
 have hv:∀b,v.ownBlock=some b→w.heap.size+1+1+1≤b∧b<wr.heap.size:=fun b hb=>h.row.lt b hb
 have hv':∀b,v'.ownBlock=some b→w.heap.size+1+1+1≤b:=fun b hb=>(h1.lt b hb).1
 have hk:∀b,b<wi.heap.size→(∀e,v.ownBlock=some e→e≠b)→w'.heap[b]?=wi.heap[b]?:=fun b hb hn=>
  (h2.block b (by omega) (fun e=>hn b e.symm rfl)).trans (Below.heap_alloc _ _ _ hb)
 have hkw:∀b,b<wr.heap.size→b≠w.heap.size+1+1→(∀e,v.ownBlock=some e→e≠b)→w'.heap[b]?=wr.heap[b]?:=fun b hb hn hn2=>(hk b (by omega) hn2).trans (hi.only.block b hn hb)
 have hlen:hs.length=k:=by have:=h.row.1;omega
 refine⟨?_,by simp;omega,?_,?_,?_,?_⟩
 ·refine Below.setCell ?_ (by show w.heap.size≤w.heap.size+1+1;omega) _
  exact⟨h2.os.trans (hi.only.os.trans h.below.os),h2.tape.trans (hi.only.tape.trans h.below.tape),h2.output.trans (hi.only.output.trans h.below.output),by have:=h.below.size;omega,
   fun b hb=>(hkw b (by omega) (by omega) (fun e he=>by have:=hv e he;omega)).trans (h.below.block b hb)⟩
 ·exact Blk.setOther ((hkw _ (by omega) (by omega) (fun e he=>by have:=hv e he;omega)).trans h.res) (by show w.heap.size+1≠w.heap.size+1+1;omega) _
 ·have:Blk w' (w.heap.size+1+1) #[v,.int .i64 (cAll ps (k+1):Int)] 38:=(hk _ (by omega) (fun e he=>by have:=hv e he;omega)).trans hi.out
  simpa using this.set 0 v'
 ·exact owns_setOther h1 (fun b hb=>by have:=hv' b hb;omega) 0 _
 ·intro i q hik hq
  by_cases e:i=k
  ·subst e
   obtain rfl:=Option.some.inj (hp.symm.trans hq)
   refine⟨u,by rw [List.getElem?_append_right (by omega),hlen];simp,?_,?_⟩
   ·have hr:w'.ownsRow (wr.heap.size+2) 60 7 u p.ins.length (qvals (qIns p.consts p.ins (cAll ps i))):=by
     obtain⟨g1,g2 | ⟨g,cap,cur,rfl,hg,hc,r⟩⟩:=hi.row
     ·exact⟨g1,.inl g2⟩
     ·exact⟨g1,.inr ⟨g,cap,cur,rfl,hg,(hk g (Array.getElem?_eq_some_iff.1 hc).1 (fun e he=>by have:=hv e he;omega)).trans hc,r⟩⟩
    refine owns_setOther ?_ (fun b hb=>by have:=(hr.lt b hb).1;omega) 0 _
    obtain⟨g1,g2 | ⟨g,cap,cur,rfl,hg,hc,r⟩⟩:=hr
    ·exact⟨g1,.inl g2⟩
    ·exact⟨g1,.inr ⟨g,cap,cur,rfl,by omega,hc,r⟩⟩
   ·intro b hb hc
    have hb2:=hi.row.lt b hb
    rcases h3 with h3 | h3
    ·have:=(hv b (h3▸hc)).2;omega
    ·rw [h3] at hc
     simp at hc
     omega
  ·obtain⟨x,hx,hr,hn⟩:=h.rows i q (by omega) hq
   refine⟨x,by rw [List.getElem?_append_left (by have:=(List.getElem?_eq_some_iff.1 hx).1;omega)];exact hx,?_,?_⟩
   ·refine owns_setOther ?_ (fun b hb=>by have:=(hr.lt b hb).1;omega) 0 _
    obtain⟨g1,g2 | ⟨g,cap,cur,rfl,hg,hc,r⟩⟩:=hr
    ·exact⟨g1,.inl g2⟩
    ·exact⟨g1,.inr ⟨g,cap,cur,rfl,hg,(hkw g (Array.getElem?_eq_some_iff.1 hc).1 (by omega) (fun e he hne=>hn g rfl (hne▸he))).trans hc,r⟩⟩
   ·intro b hb hc
    rcases h3 with h3 | h3
    ·exact hn b hb (h3▸hc)
    ·have hb2:=(hr.lt b hb).2
     rw [h3] at hc
     simp at hc
     omega
theorem InnAt.keeps {w wr wi:World} {S:Nat} {fc:Array Value} {v u:Value} {c:Int} {i:Nat} {qs:List Qd} (h:InnAt w.heap.size S wr wi fc v u c i qs):Keeps (w.heap.size+1+1+1) wr wi:=
 ⟨h.only.size,fun k hl hk=>h.only.block k (by omega) hk⟩
theorem PrepAt.outAfter {w:World} {ps:List Pd} {wr wi w':World} {k:Nat} {v u:Value} {hs:List Value} {c:Int} {i:Nat} {qs:List Qd} {fc:Array Value} {o:Obj} (h:PrepAt w ps wr k v hs)
  (hi:InnAt w.heap.size wr.heap.size wr wi fc v u c i qs) (h2:(wi.alloc o).grownBy w' v.ownBlock):Blk w' (w.heap.size+1+1) #[v,.int .i64 c] 38:=
 (h2.block _ (by have:=hi.out.lt;simp;omega) (fun e=>by have:=(h.row.lt _ e.symm).1;omega)).trans (hi.out.alloc o)
theorem PrepAt.done {w:World} {ps:List Pd} {wr:World} {n vc:Nat} {vo:Option Addr} {hs:List Value} (h:PrepAt w ps wr n (.slice vo n vc) hs) (hn:n=ps.length):QpsAt (w.heap.size+1+1+1) wr vo (qAll ps):=by
 subst hn
 intro i qs hi
 have hl:i<ps.length:=by have:=(List.getElem?_eq_some_iff.1 hi).1;rwa [qAll_len] at this
 obtain⟨p,hp⟩:=some_of_lt hl
 rw [qAll_at hp] at hi
 obtain rfl:=Option.some.inj hi
 obtain⟨u,hu,hr,_⟩:=h.rows i p hl hp
 obtain⟨io,ic,rfl⟩:=owns_slice hr
 obtain⟨hq,hlen⟩:=owns_qis hr
 rcases owns_form h.row with ⟨h1,h2⟩ | ⟨g,cap,h1,h2,h3⟩
 ·omega
 ·have hrow:=h.row
  simp only [Value.slice.injEq] at h1
  obtain⟨rfl,_,rfl⟩:=h1
  refine⟨g,0,rfl,h2,h3,io,ic,?_,hq⟩
  rw [Nat.zero_add,Nat.mul_one,←hlen]
  exact owns_cell hrow hu
structure QFit (p:Pd) (n:Nd):Prop where
 lo:1≤n.op
 hi:n.op≤42
 drop:n.op=42→(0≤n.a∧n.a≤250)∧n.b=0∧n.c=0∧n.d=0
 cst:n.op=4→(0≤n.a∧n.a≤250)∧0≤n.b∧n.b<p.consts.length
 bin:n.op=18→(0≤n.a∧n.a≤250)
theorem qfit {np:Nat} {p:Pd} {n:Nd} (hr:0≤p.regs∧p.regs≤250) (h:InsFit np p n):QFit p n:=by
 obtain⟨lo,hi,hf⟩:=h
 refine⟨lo,hi,fun e=>?_,fun e=>?_,fun e=>?_⟩
 ·rw [e] at hf
  simp [rolesOf,roleTab,Nd.fs,fitAll,fitsR,inR] at hf
  omega
 ·rw [e] at hf
  simp [rolesOf,roleTab,Nd.fs,fitAll,fitsR,inR] at hf
  omega
 ·rw [e] at hf
  simp [rolesOf,roleTab,Nd.fs,fitAll,fitsR,inR] at hf
  omega
theorem shape_q {ps:List Pd} (h:(checkF ps).1=0):∀p ∈ ps,∀n ∈ p.ins,QFit p n:=by
 have hs:(shapeF ps).1=0:=by
  unfold checkF at h
  split at h
  ·assumption
  ·exact h
 intro p hp n hn
 have hf:=(shape_fits hs p hp).fit
 obtain⟨i,hi⟩:=List.getElem?_of_mem hn
 exact qfit hf.regs (hf.fit i n hi)
end Go.Proofs.YtaakadmnhpboiaaGreatDoor
