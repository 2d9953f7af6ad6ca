import Derived.Test.YtaakadmnhpboiaaGreatDoorM04
import Derived.Deep.RegionHeld3
import Derived.Laws.BytesArg
import Derived.Test.YtaakadmnhpboiaaGreatDoorM15
import Derived.Maps.AppendAt
import Derived.Test.YtaakadmnhpboiaaGreatDoorM40
namespace Go.Proofs.YtaakadmnhpboiaaGreatDoor
open Go.RowKit Go.Deep
structure Qd where
 op:Int
 a:Int
 b:Int
 c:Int
 d:Int
 e:Int
 f:Int
def Qd.val (q:Qd):Value:=.agg #[.int .i64 q.op,.int .i64 q.a,.int .i64 q.b,.int .i64 q.c,.int .i64 q.d,.int .i64 q.e,.int .i64 q.f]
def Qd.vals (q:Qd):List Value:=[.int .i64 q.op,.int .i64 q.a,.int .i64 q.b,.int .i64 q.c,.int .i64 q.d,.int .i64 q.e,.int .i64 q.f]
def dropsF (a:Int):Nat→List Nd→Nat
 | _,[]=>0
 | k,n::r=>if n.op=42∧n.a=a+k then dropsF a (k+1) r+1 else 0
def kindAt (cs:List Vd) (i:Int):Int:=match cs[i.toNat]? with
 | some v=>v.kind
 | none=>0
def twoF (cs:List Vd) (c:Nat) (n x:Nd):Option Qd:=
 if n.op=18∧13≤n.b∧(x.op=20∨x.op=21)∧x.a = -1 - n.a then some ⟨43,n.a,n.b,n.c,n.d,x.b,if x.op=20 then 1 else 0⟩
 else if n.op≠4 then none
 else if x.op=18∧x.c = -1 - n.a∧x.d≠n.a∧x.d≠-1 - n.a then some ⟨44,x.a,x.b,x.d,n.b,1,n.a⟩
 else if x.op=18∧x.d = -1 - n.a∧x.c≠n.a∧x.c≠-1 - n.a then some ⟨44,x.a,x.b,x.c,n.b,0,n.a⟩
 else if x.op=15∧x.c = -1 - n.a∧x.b≠n.a∧x.b≠-1 - n.a∧kindAt cs n.b=4 then some ⟨45,x.a,x.b,n.b,c,0,n.a⟩
 else none
def twoL (cs:List Vd) (c:Nat):List Nd→Option Qd
 | n::x::_=>twoF cs c n x
 | _=>none
def plainQ (n:Nd):Qd:=⟨n.op,n.a,n.b,n.c,n.d,0,0⟩
def quickOne (cs:List Vd) (c:Nat) (l:List Nd):Qd:=
 match l with
 | []=>⟨0,0,0,0,0,0,0⟩
 | n::r=>if 1<dropsF n.a 0 (n::r) then ⟨46,n.a,dropsF n.a 0 (n::r),0,0,0,0⟩ else match twoL cs c (n::r) with
  | some q=>q
  | none=>plainQ n
def cIns (cs:List Vd) (ins:List Nd) (c0:Nat):Nat→Nat
 | 0=>c0
 | k+1=>if (quickOne cs (cIns cs ins c0 k) (ins.drop k)).op=45 then cIns cs ins c0 k+1 else cIns cs ins c0 k
def qIns (cs:List Vd) (ins:List Nd) (c0:Nat):List Qd:=(List.range ins.length).map fun k=>quickOne cs (cIns cs ins c0 k) (ins.drop k)
def cAll (ps:List Pd):Nat→Nat
 | 0=>0
 | j+1=>match ps[j]? with
  | some p=>cIns p.consts p.ins (cAll ps j) p.ins.length
  | none=>cAll ps j
def qAll (ps:List Pd):List (List Qd):=(List.range ps.length).map fun j=>match ps[j]? with
 | some p=>qIns p.consts p.ins (cAll ps j)
 | none=>[]
theorem qIns_len (cs:List Vd) (ins:List Nd) (c0:Nat):(qIns cs ins c0).length=ins.length:=by simp [qIns]
theorem qIns_at {cs:List Vd} {ins:List Nd} {c0 k:Nat} (h:k<ins.length):(qIns cs ins c0)[k]?=some (quickOne cs (cIns cs ins c0 k) (ins.drop k)):=by
 simp [qIns,h]
theorem qAll_len (ps:List Pd):(qAll ps).length=ps.length:=by simp [qAll]
theorem qAll_at {ps:List Pd} {j:Nat} {p:Pd} (h:ps[j]?=some p):(qAll ps)[j]?=some (qIns p.consts p.ins (cAll ps j)):=by
 have hj:=(List.getElem?_eq_some_iff.1 h).1
 simp [qAll,hj,(List.getElem?_eq_some_iff.1 h).2]
theorem cAll_step {ps:List Pd} {j:Nat} {p:Pd} (h:ps[j]?=some p):cAll ps (j+1)=cIns p.consts p.ins (cAll ps j) p.ins.length:=by
 simp [cAll,h]
theorem cIns_le (cs:List Vd) (ins:List Nd) (c0:Nat):∀k,cIns cs ins c0 k≤c0+k
 | 0=>Nat.le_refl _
 | k+1=>by
  have:=cIns_le cs ins c0 k
  unfold cIns
  split <;> omega
theorem cAll_le {ps:List Pd} (h:∀p ∈ ps,p.ins.length≤1048576) (j:Nat):cAll ps j≤j*1048576:=by
 induction j with
 | zero=>exact Nat.zero_le _
 | succ j h1=>
  rw [Nat.add_mul,Nat.one_mul]
  rw [cAll]
  split
  ·rename_i p hp
   have h2:=cIns_le p.consts p.ins (cAll ps j) p.ins.length
   have h3:=h p (List.mem_of_getElem? hp)
   exact Nat.le_trans h2 (Nat.add_le_add h1 h3)
  ·exact Nat.le_trans h1 (Nat.le_add_right _ _)
theorem dropsF_le (a:Int):∀(k:Nat) (l:List Nd),dropsF a k l≤l.length
 | _,[]=>Nat.le_refl _
 | k,n::r=>by
  have:=dropsF_le a (k+1) r
  unfold dropsF
  split <;> simp <;> omega
theorem dropsF_drop {a:Int} {l:List Nd} {i k:Nat} {n:Nd} (h:l[i+k]?=some n):dropsF a k (l.drop (i+k))=if n.op=42∧n.a=a+k then dropsF a (k+1) (l.drop (i+(k+1)))+1 else 0:=by
 rw [drop_some h];rfl
theorem twoL_drop {cs:List Vd} {c i:Nat} {l:List Nd} {n x:Nd} (h:l[i]?=some n) (h2:l[i+1]?=some x):twoL cs c (l.drop i)=twoF cs c n x:=by
 rw [drop_some h,drop_some h2];rfl
theorem twoL_last {cs:List Vd} {c i:Nat} {l:List Nd} (h:l.length≤i+1):twoL cs c (l.drop i)=none:=by
 match hd:l.drop i with
 | []=>rfl
 | [_]=>rfl
 | _::_::r=>
  have:=congrArg List.length hd
  simp at this
  omega
theorem quickOne_drops {cs:List Vd} {c:Nat} {l:List Nd} {i:Nat} {n:Nd} (h:l[i]?=some n) (hk:1<dropsF n.a 0 (l.drop i)):quickOne cs c (l.drop i)=⟨46,n.a,dropsF n.a 0 (l.drop i),0,0,0,0⟩:=by
 rw [drop_some h] at *
 simp only [quickOne,if_pos hk]
theorem quickOne_two {cs:List Vd} {c:Nat} {l:List Nd} {i:Nat} {n:Nd} {q:Qd} (h:l[i]?=some n) (hk:¬1<dropsF n.a 0 (l.drop i)) (h2:twoL cs c (l.drop i)=some q):quickOne cs c (l.drop i)=q:=by
 rw [drop_some h] at *
 simp only [quickOne,if_neg hk,h2]
theorem quickOne_plain {cs:List Vd} {c:Nat} {l:List Nd} {i:Nat} {n:Nd} (h:l[i]?=some n) (hk:¬1<dropsF n.a 0 (l.drop i)) (h2:twoL cs c (l.drop i)=none):quickOne cs c (l.drop i)=plainQ n:=by
 rw [drop_some h] at *
 simp only [quickOne,if_neg hk,h2]
def QiAt (w:World) (b o:Nat) (q:Qd):Prop:=w.cell? ⟨b,o,none⟩=some (.int .i64 q.op)∧w.cell? ⟨b,o+1,none⟩=some (.int .i64 q.a)∧w.cell? ⟨b,o+2,none⟩=some (.int .i64 q.b)∧w.cell? ⟨b,o+3,none⟩=some (.int .i64 q.c)∧w.cell? ⟨b,o+4,none⟩=some (.int .i64 q.d)∧w.cell? ⟨b,o+5,none⟩=some (.int .i64 q.e)∧w.cell? ⟨b,o+6,none⟩=some (.int .i64 q.f)
def QisAt (lo:Nat) (w:World) (ao:Option Addr) (xs:List Qd):Prop:=AllAt lo w ao 7 (QiAt w) xs
theorem QisAt.later {lo:Nat} {w w':World} {ao:Option Addr} {xs:List Qd} (h:QisAt lo w ao xs) (hk:Keeps lo w w'):QisAt lo w' ao xs:=
 AllAt.later h hk (fun b o x hl hs _ ha=>by unfold QiAt;rw [hk.cell hl hs,hk.cell hl hs,hk.cell hl hs,hk.cell hl hs,hk.cell hl hs,hk.cell hl hs,hk.cell hl hs];exact ha)
def QpAt (lo:Nat) (w:World) (b o:Nat) (qs:List Qd):Prop:=∃io ic,w.cell? ⟨b,o,none⟩=some (.slice io qs.length ic)∧QisAt lo w io qs
def QpsAt (lo:Nat) (w:World) (ao:Option Addr) (xs:List (List Qd)):Prop:=AllAt lo w ao 1 (QpAt lo w) xs
theorem QpsAt.later {lo:Nat} {w w':World} {ao:Option Addr} {xs:List (List Qd)} (h:QpsAt lo w ao xs) (hk:Keeps lo w w'):QpsAt lo w' ao xs:=
 AllAt.later h hk (fun b o x hl hs _ ⟨io,ic,h1,h2⟩=>⟨io,ic,by rw [hk.cell hl hs];exact h1,h2.later hk⟩)
theorem QpsAt.lower {lo lo':Nat} {w:World} {ao:Option Addr} {xs:List (List Qd)} (h:QpsAt lo w ao xs) (hl:lo'≤lo):QpsAt lo' w ao xs:=by
 intro i x hx
 obtain⟨b,off,e,h1,hs,io,ic,h2,h3⟩:=h i x hx
 exact⟨b,off,e,Nat.le_trans hl h1,hs,io,ic,h2,AllAt.lower h3 hl⟩
theorem Laid.qis {w:World} {g t n:Nat} {us:List Qd} (own:Own w g t n) (h:Laid w g 7 Qd.vals us us.length) {lo:Nat} (hl:lo≤g):QisAt lo w (some ⟨g,0,none⟩) us:=by
 intro i u hi
 have hk:=(List.getElem?_eq_some_iff.1 hi).1
 have:=h i u hk hi
 refine⟨g,0,rfl,hl,own.lt,?_⟩
 rw [Nat.zero_add]
 exact⟨this 0 _ rfl,this 1 _ rfl,this 2 _ rfl,this 3 _ rfl,this 4 _ rfl,this 5 _ rfl,this 6 _ rfl⟩
structure QOwn (w:World) (g:Nat) (gs:Nat→Nat) (qss:List (List Qd)):Prop where
 own:Own w g 65 qss.length
 hdr:∀j qs,qss[j]?=some qs→w.cell? ⟨g,j,none⟩=some (.slice (some ⟨gs j,0,none⟩) qs.length qs.length)
 up:∀j,j<qss.length→g<gs j
 apart:∀j k,j<k→k<qss.length→gs j<gs k
 row:∀j qs,qss[j]?=some qs→Own w (gs j) 60 (qs.length*7)∧Laid w (gs j) 7 Qd.vals qs qs.length
theorem QOwn.at {w:World} {g:Nat} {gs:Nat→Nat} {qss:List (List Qd)} (h:QOwn w g gs qss) {lo:Nat} (hl:lo≤g):QpsAt lo w (some ⟨g,0,none⟩) qss:=by
 intro j qs hj
 have hlt:=(List.getElem?_eq_some_iff.1 hj).1
 obtain⟨h1,h2⟩:=h.row j qs hj
 refine⟨g,0,rfl,hl,h.own.lt,some ⟨gs j,0,none⟩,qs.length,?_,h2.qis h1 (Nat.le_trans hl (Nat.le_of_lt (h.up j hlt)))⟩
 rw [Nat.zero_add,Nat.mul_one]
 exact h.hdr j qs hj
theorem QOwn.later {w w':World} {g:Nat} {gs:Nat→Nat} {qss:List (List Qd)} (h:QOwn w g gs qss) (hk:Keeps g w w'):QOwn w' g gs qss:=by
 refine⟨h.own.of_block (hk.block g (Nat.le_refl _) h.own.lt),fun j qs hj=>?_,h.up,h.apart,fun j qs hj=>?_⟩
 ·rw [hk.cell (Nat.le_refl _) h.own.lt];exact h.hdr j qs hj
 ·have hlt:=(List.getElem?_eq_some_iff.1 hj).1
  obtain⟨h1,h2⟩:=h.row j qs hj
  have hg:=Nat.le_of_lt (h.up j hlt)
  refine⟨h1.of_block (hk.block _ hg h1.lt),fun i y hi hy a v hv=>?_⟩
  rw [hk.cell hg h1.lt]
  exact h2 i y hi hy a v hv
theorem run_conv1 (w:World) (x:Int):(convert 69 9 (.slice (some ⟨w.heap.size,0,none⟩) 1 1)).run Tryz.prog (w.alloc (.cells #[.int .u8 x] 5))=.ok (.string (strOfNums [x])) (w.alloc (.cells #[.int .u8 x] 5)):=
 run_convert_bytes_arg _ 69 5 (by kernel_rfl) (by kernel_rfl) _ 0 1 1 [x] rfl (fun i hi=>by
  obtain rfl:i=0:=by omega
  rw [(Blk.new w #[.int .u8 x] 5).cell]
  rfl) _ (by kernel_rfl)
theorem size_strOfNums (x:Int):(strOfNums [x]).size=1:=rfl
attribute [local go_sem] run_conv1
set_option maxRecDepth 100000 in
set_option maxHeartbeats 800000 in
theorem markText_any (k0:Nat) (w:World) (hk:k0≤1152921504606846976) :
  Calls Tryz.prog 77 #[.int .i64 k0] w fun e w'=>∃s,e=.returned (.string s)∧Below w.heap.size w w':=by
 go_enter Tryz.func77,Tryz.ntmps77
 by_cases h0:k0=0
 ·subst h0
  go_wp2_with fail
  go_ret
  exact⟨_,rfl,Below.refl _ _⟩
 ·go_wp2_with fail
  go_loopw [0,3] (fun x y wr=>∃(k:Nat) (s:ByteArray),(k+s.size≤1152921504606846976)∧x=.int .i64 k∧y=.string s∧Below w.heap.size w wr) (fun x _ _=>(intOf x).toNat)
  case atStart=>exact ⟨k0,_,(by show k0+0≤_;omega),rfl,rfl,Below.refl _ _⟩
  case round=>
   obtain⟨k,s,hk1,rfl,rfl,hb⟩:=hrel
   by_cases hlt:0<k
   ·have hs1:∀x:Int,(strOfNums [x]).size=1:=size_strOfNums
    go_wp2_with fail
    go_roundw
    case rel=>exact ⟨k / 10,_,by rw [ByteArray.size_append,hs1];omega,by go_num,rfl,hb.alloc hb.size _⟩
    case measure=>simp [intOf];omega
   ·obtain rfl:k=0:=by omega
    go_wp2_with fail
    go_ret
    exact⟨_,rfl,hb⟩
theorem markText_int (x:Int) (w:World) (h0:0≤x) (h1:x≤1152921504606846976) :
  Calls Tryz.prog 77 #[.int .i64 x] w fun e w'=>∃s,e=.returned (.string s)∧Below w.heap.size w w':=by
 obtain⟨k,rfl⟩:∃k:Nat,x=k:=⟨x.toNat,by omega⟩
 exact markText_any k w (by omega)
end Go.Proofs.YtaakadmnhpboiaaGreatDoor
namespace Go.Proofs.YtaakadmnhpboiaaGreatDoor
open Go.RowKit Go.Deep
attribute [local go_sem] run_store_float
structure Only (g:Nat) (w w':World):Prop where
 os:w'.os=w.os
 tape:w'.tape=w.tape
 output:w'.output=w.output
 size:w.heap.size≤w'.heap.size
 block:∀b,b≠g→b<w.heap.size→w'.heap[b]?=w.heap[b]?
theorem Only.refl (g:Nat) (w:World):Only g w w:=⟨rfl,rfl,rfl,Nat.le_refl _,fun _ _ _=>rfl⟩
theorem Only.set {g:Nat} {w w':World} (h:Only g w w') (i:Nat) (v:Value):Only g w (w'.setCell ⟨g,i,none⟩ v):=by
 refine⟨h.os,h.tape,h.output,by simpa using h.size,fun b hb hl=>?_⟩
 rw [Below.heap_setCell _ _ _ _ (fun e=>hb e),h.block b hb hl]
theorem Only.below {g:Nat} {w w' w'':World} (h:Only g w w') (hb:Below w'.heap.size w' w''):Only g w w'':=
 ⟨hb.os.trans h.os,hb.tape.trans h.tape,hb.output.trans h.output,Nat.le_trans h.size hb.size,fun b hne hl=>(hb.block b (Nat.lt_of_lt_of_le hl h.size)).trans (h.block b hne hl)⟩
set_option maxRecDepth 100000 in
set_option maxHeartbeats 400000 in
theorem markUpS_any (g n cap k:Nat) (w:World) (hn:n≤1048576) (hk:k≤1125899906842624) (own:Own w g 156 (n*2)) :
  Calls Tryz.prog 78 #[.slice (some ⟨g,0,none⟩) n cap,.int .i64 k] w fun e w'=>e=.returned (.int .i64 ((k+n*2:Nat):Int))∧Own w' g 156 (n*2)∧Only g w w':=by
 go_enter Tryz.func78,Tryz.ntmps78
 go_wp2_with fail
 go_loopw [1,5] (fun y x wr=>∃j:Nat,j≤n∧x=.int .i64 j∧y=.int .i64 ((k+j*2:Nat):Int)∧Own wr g 156 (n*2)∧Only g w wr) (fun _ x _=>n - (intOf x).toNat)
 case atStart=>exact ⟨0,Nat.zero_le _,rfl,by simp,own,Only.refl _ _⟩
 case round=>
  obtain⟨j,hj,rfl,rfl,hown,ho⟩:=hrel
  by_cases hlt:j<n
  ·have hn2:j*2+2≤n*2:=by omega
   have hkk:k+j*2≤1125899920000000:=by omega
   obtain⟨q,hq⟩:∃q:Nat,q=k+j*2:=⟨_,rfl⟩
   rw [←hq]
   have hqb:q≤1125899920000000:=by omega
   obtain⟨v0,c0⟩:=hown.cell (i:=j*2) (by omega)
   obtain⟨v1,c1⟩:=hown.cell (i:=j*2+1) (by omega)
   have fz:=hown.frozen
   go_wp2_with fail
   go_roundw
   case rel=>exact ⟨j+1,by omega,by go_num,by congr 1;omega,((hown.set (j*2) _).set (j*2+1) _),((ho.set (j*2) _).set (j*2+1) _)⟩
   case measure=>simp [intOf];omega
  ·go_wp2_with fail
   go_ret
   obtain rfl:j=n:=by omega
   exact⟨rfl,hown,ho⟩
set_option maxRecDepth 100000 in
set_option maxHeartbeats 400000 in
theorem markInsS_any (g n cap k:Nat) (w:World) (hn:n≤1048576) (hk:k≤1125899906842624) (own:Own w g 93 (n*5)) :
  Calls Tryz.prog 80 #[.slice (some ⟨g,0,none⟩) n cap,.int .i64 k] w fun e w'=>e=.returned (.int .i64 ((k+n*5:Nat):Int))∧Own w' g 93 (n*5)∧Only g w w':=by
 go_enter Tryz.func80,Tryz.ntmps80
 go_wp2_with fail
 go_loopw [1,5] (fun y x wr=>∃j:Nat,j≤n∧x=.int .i64 j∧y=.int .i64 ((k+j*5:Nat):Int)∧Own wr g 93 (n*5)∧Only g w wr) (fun _ x _=>n - (intOf x).toNat)
 case atStart=>exact ⟨0,Nat.zero_le _,rfl,by simp,own,Only.refl _ _⟩
 case round=>
  obtain⟨j,hj,rfl,rfl,hown,ho⟩:=hrel
  by_cases hlt:j<n
  ·have hn2:j*5+5≤n*5:=by omega
   have hkk:k+j*5≤1125899920000000:=by omega
   obtain⟨q,hq⟩:∃q:Nat,q=k+j*5:=⟨_,rfl⟩
   rw [←hq]
   have hqb:q≤1125899920000000:=by omega
   obtain⟨v0,c0⟩:=hown.cell (i:=j*5) (by omega)
   obtain⟨v1,c1⟩:=hown.cell (i:=j*5+1) (by omega)
   obtain⟨v2,c2⟩:=hown.cell (i:=j*5+2) (by omega)
   obtain⟨v3,c3⟩:=hown.cell (i:=j*5+3) (by omega)
   obtain⟨v4,c4⟩:=hown.cell (i:=j*5+4) (by omega)
   have fz:=hown.frozen
   go_wp2_with fail
   go_roundw
   case rel=>exact ⟨j+1,by omega,by go_num,by congr 1;omega,(((((hown.set (j*5) _).set (j*5+1) _).set (j*5+2) _).set (j*5+3) _).set (j*5+4) _),(((((ho.set (j*5) _).set (j*5+1) _).set (j*5+2) _).set (j*5+3) _).set (j*5+4) _)⟩
   case measure=>simp [intOf];omega
  ·go_wp2_with fail
   go_ret
   obtain rfl:j=n:=by omega
   exact⟨rfl,hown,ho⟩
set_option maxRecDepth 100000 in
set_option maxHeartbeats 400000 in
theorem markNamedS_any (g n cap k:Nat) (w:World) (hn:n≤1048576) (hk:k≤1125899906842624) (own:Own w g 170 (n*4)) :
  Calls Tryz.prog 81 #[.slice (some ⟨g,0,none⟩) n cap,.int .i64 k] w fun e w'=>e=.returned (.int .i64 ((k+n*4:Nat):Int))∧Own w' g 170 (n*4)∧Only g w w':=by
 go_enter Tryz.func81,Tryz.ntmps81
 go_wp2_with fail
 go_loopw [1,5] (fun y x wr=>∃j:Nat,j≤n∧x=.int .i64 j∧y=.int .i64 ((k+j*4:Nat):Int)∧Own wr g 170 (n*4)∧Only g w wr) (fun _ x _=>n - (intOf x).toNat)
 case atStart=>exact ⟨0,Nat.zero_le _,rfl,by simp,own,Only.refl _ _⟩
 case round=>
  obtain⟨j,hj,rfl,rfl,hown,ho⟩:=hrel
  by_cases hlt:j<n
  ·have hn2:j*4+4≤n*4:=by omega
   have hkk:k+j*4≤1125899920000000:=by omega
   obtain⟨q,hq⟩:∃q:Nat,q=k+j*4:=⟨_,rfl⟩
   rw [←hq]
   have hqb:q≤1125899920000000:=by omega
   obtain⟨v0,c0⟩:=hown.cell (i:=j*4) (by omega)
   obtain⟨v1,c1⟩:=hown.cell (i:=j*4+1) (by omega)
   obtain⟨v2,c2⟩:=hown.cell (i:=j*4+2) (by omega)
   obtain⟨v3,c3⟩:=hown.cell (i:=j*4+3) (by omega)
   have fz:=hown.frozen
   go_wp2_with fail
   refine (markText_int _ _ ?_ ?_).mono ?_
   ·omega
   ·omega
   rintro e w0 ⟨s0,rfl,hw0⟩
   replace ho:=Only.below (ho) hw0
   replace hown:=Own.later (hown) hw0
   clear hw0 fz c0 c1 c2 c3
   obtain⟨v0,c0⟩:=hown.cell (i:=j*4) (by omega)
   obtain⟨v1,c1⟩:=hown.cell (i:=j*4+1) (by omega)
   obtain⟨v2,c2⟩:=hown.cell (i:=j*4+2) (by omega)
   obtain⟨v3,c3⟩:=hown.cell (i:=j*4+3) (by omega)
   have fz:=hown.frozen
   go_wp2_with fail
   go_roundw
   case rel=>exact ⟨j+1,by omega,by go_num,by congr 1;omega,((((hown.set (j*4) _).set (j*4+1) _).set (j*4+2) _).set (j*4+3) _),((((ho.set (j*4) _).set (j*4+1) _).set (j*4+2) _).set (j*4+3) _)⟩
   case measure=>simp [intOf];omega
  ·go_wp2_with fail
   go_ret
   obtain rfl:j=n:=by omega
   exact⟨rfl,hown,ho⟩
set_option maxRecDepth 100000 in
set_option maxHeartbeats 400000 in
theorem markValueS_any (g n cap k:Nat) (w:World) (hn:n≤1048576) (hk:k≤1125899906842624) (own:Own w g 153 (n*5)) :
  Calls Tryz.prog 79 #[.slice (some ⟨g,0,none⟩) n cap,.int .i64 k] w fun e w'=>e=.returned (.int .i64 ((k+n*5:Nat):Int))∧Own w' g 153 (n*5)∧Only g w w':=by
 go_enter Tryz.func79,Tryz.ntmps79
 go_wp2_with fail
 go_loopw [1,5] (fun y x wr=>∃j:Nat,j≤n∧x=.int .i64 j∧y=.int .i64 ((k+j*5:Nat):Int)∧Own wr g 153 (n*5)∧Only g w wr) (fun _ x _=>n - (intOf x).toNat)
 case atStart=>exact ⟨0,Nat.zero_le _,rfl,by simp,own,Only.refl _ _⟩
 case round=>
  obtain⟨j,hj,rfl,rfl,hown,ho⟩:=hrel
  by_cases hlt:j<n
  ·have hn2:j*5+5≤n*5:=by omega
   have hkk:k+j*5≤1125899920000000:=by omega
   obtain⟨q,hq⟩:∃q:Nat,q=k+j*5:=⟨_,rfl⟩
   rw [←hq]
   have hqb:q≤1125899920000000:=by omega
   obtain⟨v0,c0⟩:=hown.cell (i:=j*5) (by omega)
   obtain⟨v1,c1⟩:=hown.cell (i:=j*5+1) (by omega)
   obtain⟨v2,c2⟩:=hown.cell (i:=j*5+2) (by omega)
   obtain⟨v3,c3⟩:=hown.cell (i:=j*5+3) (by omega)
   obtain⟨v4,c4⟩:=hown.cell (i:=j*5+4) (by omega)
   have fz:=hown.frozen
   go_wp2_with fail
   refine (markText_int _ _ ?_ ?_).mono ?_
   ·omega
   ·omega
   rintro e w3 ⟨s3,rfl,hw3⟩
   replace ho:=Only.below ((((ho.set (j*5) _).set (j*5+1) _).set (j*5+2) _)) hw3
   replace hown:=Own.later ((((hown.set (j*5) _).set (j*5+1) _).set (j*5+2) _)) hw3
   clear hw3 fz c0 c1 c2 c3 c4
   obtain⟨v0,c0⟩:=hown.cell (i:=j*5) (by omega)
   obtain⟨v1,c1⟩:=hown.cell (i:=j*5+1) (by omega)
   obtain⟨v2,c2⟩:=hown.cell (i:=j*5+2) (by omega)
   obtain⟨v3,c3⟩:=hown.cell (i:=j*5+3) (by omega)
   obtain⟨v4,c4⟩:=hown.cell (i:=j*5+4) (by omega)
   have fz:=hown.frozen
   go_wp2_with fail
   go_roundw
   case rel=>exact ⟨j+1,by omega,by go_num,by congr 1;omega,((hown.set (j*5+3) _).set (j*5+4) _),((ho.set (j*5+3) _).set (j*5+4) _)⟩
   case measure=>simp [intOf];omega
  ·go_wp2_with fail
   go_ret
   obtain rfl:j=n:=by omega
   exact⟨rfl,hown,ho⟩
end Go.Proofs.YtaakadmnhpboiaaGreatDoor
namespace Go.Proofs.YtaakadmnhpboiaaGreatDoor
open Go.RowKit Go.Deep
theorem markUpS_int (g n cap:Nat) (x:Int) (w:World) (hn:n≤1048576) (h0:0≤x) (h1:x≤1125899906842624) (own:Own w g 156 (n*2)) :
  Calls Tryz.prog 78 #[.slice (some ⟨g,0,none⟩) n cap,.int .i64 x] w fun e w'=>e=.returned (.int .i64 (x+(n:Int)*2))∧Own w' g 156 (n*2)∧Only g w w':=by
 obtain⟨k,rfl⟩:∃k:Nat,x=k:=⟨x.toNat,by omega⟩
 refine (markUpS_any g n cap k w hn (by omega) own).mono fun e w' ⟨h1,h2⟩=>⟨?_,h2⟩
 rw [h1]
 congr 2
theorem markInsS_int (g n cap:Nat) (x:Int) (w:World) (hn:n≤1048576) (h0:0≤x) (h1:x≤1125899906842624) (own:Own w g 93 (n*5)) :
  Calls Tryz.prog 80 #[.slice (some ⟨g,0,none⟩) n cap,.int .i64 x] w fun e w'=>e=.returned (.int .i64 (x+(n:Int)*5))∧Own w' g 93 (n*5)∧Only g w w':=by
 obtain⟨k,rfl⟩:∃k:Nat,x=k:=⟨x.toNat,by omega⟩
 refine (markInsS_any g n cap k w hn (by omega) own).mono fun e w' ⟨h1,h2⟩=>⟨?_,h2⟩
 rw [h1]
 congr 2
theorem markNamedS_int (g n cap:Nat) (x:Int) (w:World) (hn:n≤1048576) (h0:0≤x) (h1:x≤1125899906842624) (own:Own w g 170 (n*4)) :
  Calls Tryz.prog 81 #[.slice (some ⟨g,0,none⟩) n cap,.int .i64 x] w fun e w'=>e=.returned (.int .i64 (x+(n:Int)*4))∧Own w' g 170 (n*4)∧Only g w w':=by
 obtain⟨k,rfl⟩:∃k:Nat,x=k:=⟨x.toNat,by omega⟩
 refine (markNamedS_any g n cap k w hn (by omega) own).mono fun e w' ⟨h1,h2⟩=>⟨?_,h2⟩
 rw [h1]
 congr 2
theorem markValueS_int (g n cap:Nat) (x:Int) (w:World) (hn:n≤1048576) (h0:0≤x) (h1:x≤1125899906842624) (own:Own w g 153 (n*5)) :
  Calls Tryz.prog 79 #[.slice (some ⟨g,0,none⟩) n cap,.int .i64 x] w fun e w'=>e=.returned (.int .i64 (x+(n:Int)*5))∧Own w' g 153 (n*5)∧Only g w w':=by
 obtain⟨k,rfl⟩:∃k:Nat,x=k:=⟨x.toNat,by omega⟩
 refine (markValueS_any g n cap k w hn (by omega) own).mono fun e w' ⟨h1,h2⟩=>⟨?_,h2⟩
 rw [h1]
 congr 2
theorem Own.same {w:World} {b:Nat} {t t':TypeId} {n n':Nat} (h:Own w b t n) (k:Own w b t' n'):t=t'∧n=n':=by
 obtain⟨c,h1,h2⟩:=h
 obtain⟨c',k1,k2⟩:=k
 rw [h1] at k1
 simp at k1
 obtain⟨rfl,rfl⟩:=k1
 exact⟨rfl,h2.symm.trans k2⟩
theorem Own.only {w w':World} {b u:Nat} {t t':TypeId} {n n':Nat} (h:Own w b t' n') (ho:Only u w w') (o1:Own w u t n) (o2:Own w' u t n):Own w' b t' n':=by
 by_cases e:b=u
 ·subst e
  obtain⟨rfl,rfl⟩:=h.same o1
  exact o2
 ·exact h.of_block (ho.block b e h.lt)
theorem Own.setAny {w:World} {b:Nat} {t:TypeId} {n:Nat} (h:Own w b t n) (g i:Nat) (v:Value):Own (w.setCell ⟨g,i,none⟩ v) b t n:=by
 by_cases e:b=g
 ·subst e;exact h.set i v
 ·exact h.of_block (Below.heap_setCell _ _ _ _ (fun k=>e k))
structure Span (g hi:Nat) (w w':World):Prop where
 os:w'.os=w.os
 tape:w'.tape=w.tape
 output:w'.output=w.output
 size:w.heap.size≤w'.heap.size
 block:∀b,b<g∨hi≤b→b<w.heap.size→w'.heap[b]?=w.heap[b]?
theorem Span.refl (g hi:Nat) (w:World):Span g hi w w:=⟨rfl,rfl,rfl,Nat.le_refl _,fun _ _ _=>rfl⟩
theorem Span.only {g hi u:Nat} {w w' w'':World} (h:Span g hi w w') (ho:Only u w' w'') (h1:g≤u) (h2:u<hi):Span g hi w w'':=
 ⟨ho.os.trans h.os,ho.tape.trans h.tape,ho.output.trans h.output,Nat.le_trans h.size ho.size,fun b hb hl=>(ho.block b (by omega) (Nat.lt_of_lt_of_le hl h.size)).trans (h.block b hb hl)⟩
theorem Span.set {g hi:Nat} {w w':World} (h:Span g hi w w') (i:Nat) (v:Value) (h2:g<hi):Span g hi w (w'.setCell ⟨g,i,none⟩ v):=
 h.only ((Only.refl g w').set i v) (Nat.le_refl _) h2
theorem Span.below {g hi:Nat} {w w' w'':World} (h:Span g hi w w') (hb:Below w'.heap.size w' w''):Span g hi w w'':=
 ⟨hb.os.trans h.os,hb.tape.trans h.tape,hb.output.trans h.output,Nat.le_trans h.size hb.size,fun b hne hl=>(hb.block b (Nat.lt_of_lt_of_le hl h.size)).trans (h.block b hne hl)⟩
structure MkRow (hi:Nat) (w:World) (g j:Nat) (p:Pd) (h:Ph) (u c i n:Nat):Prop where
 hu:w.cell? ⟨g,j*9+5,none⟩=some (.slice (some ⟨u,0,none⟩) p.ups.length h.uc)
 hc:w.cell? ⟨g,j*9+6,none⟩=some (.slice (some ⟨c,0,none⟩) p.consts.length h.cc)
 hin:w.cell? ⟨g,j*9+7,none⟩=some (.slice (some ⟨i,0,none⟩) p.ins.length h.ic)
 hn:w.cell? ⟨g,j*9+8,none⟩=some (.slice (some ⟨n,0,none⟩) p.named.length h.nc)
 lu:g<u∧u<hi
 lc:g<c∧c<hi
 li:g<i∧i<hi
 ln:g<n∧n<hi
 ou:Own w u 156 (p.ups.length*2)
 oc:Own w c 153 (p.consts.length*5)
 oi:Own w i 93 (p.ins.length*5)
 on:Own w n 170 (p.named.length*4)
structure MkAt (hi:Nat) (w:World) (g:Nat) (ps:List Pd):Prop where
 own:Own w g 57 (ps.length*9)
 lt:g<hi
 rows:∀j p,ps[j]?=some p→∃h u c i n,MkRow hi w g j p h u c i n
theorem MkRow.only {hi:Nat} {w w':World} {g j:Nat} {p:Pd} {h:Ph} {u c i n b:Nat} {t:TypeId} {m:Nat} (r:MkRow hi w g j p h u c i n) (og:g<w.heap.size) (ho:Only b w w') (hb:g<b) (o1:Own w b t m) (o2:Own w' b t m):MkRow hi w' g j p h u c i n:=by
 have k:∀o,w'.cell? ⟨g,o,none⟩=w.cell? ⟨g,o,none⟩:=fun o=>World.cell?_of_block (w:=w) (a:=⟨g,o,none⟩) (ho.block g (by omega) og)
 exact⟨(k _).trans r.hu,(k _).trans r.hc,(k _).trans r.hin,(k _).trans r.hn,r.lu,r.lc,r.li,r.ln,r.ou.only ho o1 o2,r.oc.only ho o1 o2,r.oi.only ho o1 o2,r.on.only ho o1 o2⟩
theorem MkAt.only {hi:Nat} {w w':World} {g:Nat} {ps:List Pd} {b:Nat} {t:TypeId} {m:Nat} (r:MkAt hi w g ps) (ho:Only b w w') (hb:g<b) (o1:Own w b t m) (o2:Own w' b t m):MkAt hi w' g ps:=
 ⟨r.own.only ho o1 o2,r.lt,fun j p hj=>by obtain ⟨h,u,c,i,n,x⟩:=r.rows j p hj;exact ⟨h,u,c,i,n,x.only r.own.lt ho hb o1 o2⟩⟩
theorem cell_set_nv {w:World} {g a b:Nat} (v:Value) (h:a≠b):(w.setCell ⟨g,a,none⟩ v).cell? ⟨g,b,none⟩=w.cell? ⟨g,b,none⟩:=by
 cases hb:w.heap[g]? with
 | none=>simp [World.cell?,World.setCell,Array.getElem?_modify,hb]
 | some o=>
  cases o <;> simp [World.cell?,World.setCell,Array.getElem?_modify,hb,h]
theorem MkRow.set {hi:Nat} {w:World} {g j:Nat} {p:Pd} {h:Ph} {u c i n:Nat} (x:MkRow hi w g j p h u c i n) (o:Nat) (ho:o<5) (v:Value):MkRow hi (w.setCell ⟨g,j*9+o,none⟩ v) g j p h u c i n:=
 ⟨(cell_set_nv v (by omega)).trans x.hu,(cell_set_nv v (by omega)).trans x.hc,(cell_set_nv v (by omega)).trans x.hin,(cell_set_nv v (by omega)).trans x.hn,x.lu,x.lc,x.li,x.ln,x.ou.setAny _ _ _,x.oc.setAny _ _ _,x.oi.setAny _ _ _,x.on.setAny _ _ _⟩
theorem MkAt.set {hi:Nat} {w:World} {g:Nat} {ps:List Pd} (r:MkAt hi w g ps) (j i:Nat) (hi5:i<5) (v:Value):MkAt hi (w.setCell ⟨g,j*9+i,none⟩ v) g ps:=by
 refine⟨r.own.set _ v,r.lt,fun j' p hj=>?_⟩
 obtain⟨h,u,c,i',n,x⟩:=r.rows j' p hj
 exact⟨h,u,c,i',n,(cell_set_nv v (by omega)).trans x.hu,(cell_set_nv v (by omega)).trans x.hc,(cell_set_nv v (by omega)).trans x.hin,(cell_set_nv v (by omega)).trans x.hn,x.lu,x.lc,x.li,x.ln,x.ou.setAny _ _ _,x.oc.setAny _ _ _,x.oi.setAny _ _ _,x.on.setAny _ _ _⟩
theorem MkAt.below {hi:Nat} {w w':World} {g:Nat} {ps:List Pd} (r:MkAt hi w g ps) (hb:Below w.heap.size w w'):MkAt hi w' g ps:=by
 refine⟨r.own.later hb,r.lt,fun j p hj=>?_⟩
 obtain⟨h,u,c,i,n,x⟩:=r.rows j p hj
 have k:∀o,w'.cell? ⟨g,o,none⟩=w.cell? ⟨g,o,none⟩:=fun o=>hb.cell (p:=⟨g,o,none⟩) r.own.lt
 exact⟨h,u,c,i,n,(k _).trans x.hu,(k _).trans x.hc,(k _).trans x.hin,(k _).trans x.hn,x.lu,x.lc,x.li,x.ln,x.ou.later hb,x.oc.later hb,x.oi.later hb,x.on.later hb⟩
theorem ProtosOwn.mk {w:World} {g:Nat} {ps:List Pd} (h:ProtosOwn w g ps):MkAt w.heap.size w g ps:=by
 refine⟨h.1,h.1.lt,fun j p hj=>?_⟩
 obtain⟨x,⟨_,_,_,_,_,h5,h6,h7,h8⟩,_,s1,s2,s3,s4⟩:=h.2 j p (List.getElem?_eq_some_iff.1 hj).1 hj
 obtain⟨u,e1,l1,o1⟩:=s1
 obtain⟨c,e2,l2,o2⟩:=s2
 obtain⟨i,e3,l3,o3⟩:=s3
 obtain⟨n,e4,l4,o4⟩:=s4
 rw [e1] at h5
 rw [e2] at h6
 rw [e3] at h7
 rw [e4] at h8
 exact⟨x,u,c,i,n,h5,h6,h7,h8,⟨l1,o1.lt⟩,⟨l2,o2.lt⟩,⟨l3,o3.lt⟩,⟨l4,o4.lt⟩,o1,o2,o3,o4⟩
set_option maxRecDepth 100000 in
set_option maxHeartbeats 1000000 in
theorem markProtoS_any (hi g cap k:Nat) (ps:List Pd) (w:World) (hm:ps.length≤1048576) (hz:∀p ∈ ps,PFew p) (hk:k≤1000) (M0:MkAt hi w g ps) :
  Calls Tryz.prog 31 #[.slice (some ⟨g,0,none⟩) ps.length cap,.int .i64 k] w fun e w'=>(∃q:Nat,e=.returned (.int .i64 q)∧q≤1125899906842624)∧Span g hi w w':=by
 go_enter Tryz.func31,Tryz.ntmps31
 go_wp2_with fail
 go_loopw [1,5] (fun y x wr=>∃j q:Nat,j≤ps.length∧x=.int .i64 j∧y=.int .i64 (q:Int)∧q≤1000+j*33554432∧MkAt hi wr g ps∧Span g hi w wr) (fun _ x _=>ps.length - (intOf x).toNat)
 case atStart=>exact ⟨0,k,Nat.zero_le _,rfl,rfl,by omega,M0,Span.refl _ _ _⟩
 case round=>
  obtain⟨j,q,hj,rfl,rfl,hq,hM,hS⟩:=hrel
  clear M0
  by_cases hlt:j<ps.length
  ·obtain⟨p,hp⟩:=some_of_lt hlt
   obtain⟨z1,z2,z3,z4⟩:=hz p (List.mem_of_getElem? hp)
   clear hz
   have hn2:j*9+9≤ps.length*9:=by omega
   have hgl:=hM.lt
   obtain⟨v0,c0⟩:=hM.own.cell (i:=j*9) (by omega)
   have fz:=hM.own.frozen
   go_wp2_with fail
   refine (markText_int _ _ ?_ ?_).mono ?_
   ·omega
   ·omega
   rintro e w1 ⟨s1,rfl,hw1⟩
   replace hM:=hM.below hw1
   replace hS:=hS.below hw1
   clear hw1 fz c0
   obtain⟨v0,c0⟩:=hM.own.cell (i:=j*9) (by omega)
   obtain⟨v1,c1⟩:=hM.own.cell (i:=j*9+1) (by omega)
   obtain⟨v2,c2⟩:=hM.own.cell (i:=j*9+2) (by omega)
   obtain⟨v3,c3⟩:=hM.own.cell (i:=j*9+3) (by omega)
   obtain⟨v4,c4⟩:=hM.own.cell (i:=j*9+4) (by omega)
   have fz:=hM.own.frozen
   have ⟨h,u,c,i,n,R⟩:=hM.rows j p hp
   obtain⟨r5,r6,r7,r8⟩:=And.intro R.hu (And.intro R.hc (And.intro R.hin R.hn))
   have lu:=R.lu
   have lc:=R.lc
   have li:=R.li
   have ln:=R.ln
   go_wp2_with fail
   generalize hW:World.setCell _ _ _=W1
   have hM1:MkAt hi W1 g ps:=by rw [←hW];exact ((((hM.set j 0 (by omega) _).set j 1 (by omega) _).set j 2 (by omega) _).set j 3 (by omega) _).set j 4 (by omega) _
   have hS1:Span g hi w W1:=by rw [←hW];exact ((((hS.set (j*9) _ hgl).set (j*9+1) _ hgl).set (j*9+2) _ hgl).set (j*9+3) _ hgl).set (j*9+4) _ hgl
   have R1:MkRow hi W1 g j p h u c i n:=by rw [←hW];exact ((((R.set 0 (by omega) _).set 1 (by omega) _).set 2 (by omega) _).set 3 (by omega) _).set 4 (by omega) _
   clear hW hM hS R fz c0 c1 c2 c3 c4 r5 r6 r7 r8
   refine (markUpS_int u p.ups.length h.uc _ W1 z1 ?_ ?_ R1.ou).mono ?_
   ·omega
   ·omega
   rintro e w2 ⟨rfl,o2,ho2⟩
   have hM2:=hM1.only ho2 lu.1 R1.ou o2
   have hS2:=hS1.only ho2 (Nat.le_of_lt lu.1) lu.2
   have R2:=R1.only hM1.own.lt ho2 lu.1 R1.ou o2
   clear hM1 hS1 R1 ho2 o2
   obtain⟨r6,r7,r8⟩:=And.intro R2.hc (And.intro R2.hin R2.hn)
   go_wp2_with fail
   refine (markValueS_int c p.consts.length h.cc _ w2 z2 ?_ ?_ R2.oc).mono ?_
   ·omega
   ·omega
   rintro e w3 ⟨rfl,o3,ho3⟩
   have hM3:=hM2.only ho3 lc.1 R2.oc o3
   have hS3:=hS2.only ho3 (Nat.le_of_lt lc.1) lc.2
   have R3:=R2.only hM2.own.lt ho3 lc.1 R2.oc o3
   clear hM2 hS2 R2 ho3 o3 r6 r7 r8
   obtain⟨r7,r8⟩:=And.intro R3.hin R3.hn
   go_wp2_with fail
   refine (markInsS_int i p.ins.length h.ic _ w3 z3 ?_ ?_ R3.oi).mono ?_
   ·omega
   ·omega
   rintro e w4 ⟨rfl,o4,ho4⟩
   have hM4:=hM3.only ho4 li.1 R3.oi o4
   have hS4:=hS3.only ho4 (Nat.le_of_lt li.1) li.2
   have R4:=R3.only hM3.own.lt ho4 li.1 R3.oi o4
   clear hM3 hS3 R3 ho4 o4 r7 r8
   have r8:=R4.hn
   go_wp2_with fail
   refine (markNamedS_int n p.named.length h.nc _ w4 z4 ?_ ?_ R4.on).mono ?_
   ·omega
   ·omega
   rintro e w5 ⟨rfl,o5,ho5⟩
   have hM5:=hM4.only ho5 ln.1 R4.on o5
   have hS5:=hS4.only ho5 (Nat.le_of_lt ln.1) ln.2
   clear hM4 hS4 R4 ho5 o5 r8
   go_wp2_with fail
   go_roundw
   case rel=>exact ⟨j+1,q+5+p.ups.length*2+p.consts.length*5+p.ins.length*5+p.named.length*4,by omega,by go_num,by congr 1 <;> omega,by omega,hM5,hS5⟩
   case measure=>simp [intOf];omega
  ·go_wp2_with fail
   go_ret
   refine⟨⟨q,rfl,by omega⟩,hS⟩
set_option maxHeartbeats 400000 in
theorem markCode_any (g cap:Nat) (ps:List Pd) (hi:Nat) (w:World) (hm:ps.length≤1048576) (hz:∀p ∈ ps,PFew p) (M0:MkAt hi w g ps) :
  Calls Tryz.prog 15 #[.agg #[.slice (some ⟨g,0,none⟩) ps.length cap],.int .i64 1] w fun e w'=>(∃q:Nat,e=.returned (.int .i64 q)∧q≤1125899906842624)∧Span g hi w w':=by
 have hb1:∀o,Below w.heap.size w (w.alloc o):=fun o=>(Below.refl _ _).alloc (Nat.le_refl _) o
 go_enter Tryz.func15,Tryz.ntmps15
 go_wp2_with fail
 refine (markProtoS_any hi g cap 1 ps _ hm hz (by omega) (M0.below (hb1 _))).mono ?_
 rintro e w1 ⟨⟨q,rfl,hq⟩,hS⟩
 go_wp2_with fail
 go_ret
 refine⟨⟨q,rfl,hq⟩,hS.os,hS.tape,hS.output,Nat.le_trans (hb1 _).size hS.size,fun b hb hl=>?_⟩
 exact (hS.block b hb (by simp;omega)).trans ((hb1 _).block b hl)
def qvals (xs:List Qd):List Value:=xs.flatMap Qd.vals
theorem qvals_length (xs:List Qd):(qvals xs).length=xs.length*7:=by
 induction xs with
 | nil=>rfl
 | cons x r ih=>simp only [qvals,List.flatMap_cons,List.length_append,List.length_cons] at *;rw [ih];simp [Qd.vals];omega
theorem qvals_get:∀{xs:List Qd} {i:Nat} {g:Qd},xs[i]?=some g→∀j v,g.vals[j]?=some v→(qvals xs)[i*7+j]?=some v
 | [],i,g,h,_,_,_=>by simp at h
 | x::r,0,g,h,j,v,hv=>by
  simp at h;subst h
  have hj:j<7:=(List.getElem?_eq_some_iff.1 hv).1
  simp only [qvals,List.flatMap_cons]
  rw [List.getElem?_append_left (by simp [Qd.vals];omega)]
  simpa using hv
 | x::r,i+1,g,h,j,v,hv=>by
  simp at h
  simp only [qvals,List.flatMap_cons]
  rw [List.getElem?_append_right (by simp [Qd.vals];omega)]
  have:=qvals_get h j v hv
  have e:(i+1)*7+j - x.vals.length=i*7+j:=by simp [Qd.vals];omega
  rw [e]
  exact this
theorem qvals_append (xs ys:List Qd):qvals (xs ++ ys)=qvals xs ++ qvals ys:=by simp [qvals]
theorem owns_qis {w:World} {base n cap:Nat} {ao:Option Addr} {xs:List Qd} (h:w.ownsRow base 60 7 (.slice ao n cap) n (qvals xs)):QisAt base w ao xs∧n=xs.length:=by
 have hl:n=xs.length:=by have:=h.1;rw [qvals_length] at this;omega
 refine⟨?_,hl⟩
 intro i x hi
 rcases owns_form h with ⟨h1,h2⟩ | ⟨g,cap',h1,h2,h3⟩
 ·subst h2
  have:xs=[]:=List.length_eq_zero_iff.1 hl.symm
  subst this
  simp at hi
 ·simp only [Value.slice.injEq] at h1
  obtain⟨rfl,_,rfl⟩:=h1
  refine⟨g,0,rfl,h2,h3,?_⟩
  rw [Nat.zero_add]
  exact⟨owns_cell h (qvals_get hi 0 _ rfl),owns_cell h (qvals_get hi 1 _ rfl),owns_cell h (qvals_get hi 2 _ rfl),owns_cell h (qvals_get hi 3 _ rfl),owns_cell h (qvals_get hi 4 _ rfl),owns_cell h (qvals_get hi 5 _ rfl),owns_cell h (qvals_get hi 6 _ rfl)⟩
theorem Tryz.info_QIns:(Tryz.prog.info? 60).map (fun i=>(i.zero,i.size,i.bytes))=some (some (.agg #[.int .i64 0,.int .i64 0,.int .i64 0,.int .i64 0,.int .i64 0,.int .i64 0,.int .i64 0]),7,56):=by kernel_rfl
theorem Tryz.info_QProto:(Tryz.prog.info? 65).map (fun i=>(i.zero,i.size,i.bytes))=some (some (.agg #[.slice none 0 0]),1,24):=by kernel_rfl
section
variable {w : World} {ops : Array Oper} {rest : List Oper} {o : Oper} {a : Act} {Q : Exit → Act → World → Prop}
theorem app_q (hgd:o.guard=none) (s x:Operand) (ho:o.op=.call {callee:=.builtin .append,args:=#[s,x],argTypes:=#[58,58]})
  (base:Nat) (v:Value) (n:Nat) (xs:List Qd) (u:Qd) (B:Nat) (hs:a.eval s=v) (hown:w.ownsRow base 60 7 v n (qvals xs)) (hx:a.eval x=.slice (some ⟨B,0,none⟩) 1 1) (hB:Blk w B #[.int .i64 u.op,.int .i64 u.a,.int .i64 u.b,.int .i64 u.c,.int .i64 u.d,.int .i64 u.e,.int .i64 u.f] 60)
  (hn:n≤1048576) (hbase:base≤w.heap.size)
  (h:∀v' w',w'.ownsRow base 60 7 v' (n+1) (qvals (xs ++ [u]))→w.grownBy w' v.ownBlock→(v'.ownBlock=v.ownBlock∨v'.ownBlock=some w.heap.size)→wpList Tryz.prog ops Q rest (a.put o.dst v') w'):wpList Tryz.prog ops Q (o::rest) a w:=by
 obtain⟨i0,hi,hz0,hz1,hz2⟩:=info_parts Tryz.info_QIns
 refine wpList_append_own_at w hgd s x 58 ho base 60 i0 (.agg #[.int .i64 0,.int .i64 0,.int .i64 0,.int .i64 0,.int .i64 0,.int .i64 0,.int .i64 0]) 7 56 Tryz.underlying58 hi hz0 hz1 hz2 rfl (by decide) v n (qvals xs) hs hown ⟨B,0,none⟩ 1 1 u.vals hx rfl ?_ ?_ (by unfold maxLen;omega) (by omega) hbase ?_
 ·intro j q hj
  have hc:=hB.cell j
  have ha:(⟨B,0,none⟩:Addr).add j=⟨B,j,none⟩:=by simp [Addr.add];exact fun h=>h.symm
  rw [ha,hc]
  simpa [Qd.vals] using hj
 ·intro q hq;simp [Qd.vals] at hq;rcases hq with rfl | rfl | rfl | rfl | rfl | rfl | rfl <;> rfl
 ·intro v' w' h1 h2 _ h4
  refine h v' w' ?_ h2 h4
  rw [qvals_append]
  simpa [qvals] using h1
theorem app_p (hgd:o.guard=none) (s x:Operand) (ho:o.op=.call {callee:=.builtin .append,args:=#[s,x],argTypes:=#[36,36]})
  (base:Nat) (v:Value) (n:Nat) (hs':List Value) (ao:Option Addr) (l c:Nat) (B:Nat) (hs:a.eval s=v) (hown:w.ownsRow base 65 1 v n hs') (hx:a.eval x=.slice (some ⟨B,0,none⟩) 1 1) (hB:Blk w B #[.slice ao l c] 65)
  (hn:n≤1048576) (hbase:base≤w.heap.size)
  (h:∀v' w',w'.ownsRow base 65 1 v' (n+1) (hs' ++ [.slice ao l c])→w.grownBy w' v.ownBlock→(v'.ownBlock=v.ownBlock∨v'.ownBlock=some w.heap.size)→wpList Tryz.prog ops Q rest (a.put o.dst v') w'):wpList Tryz.prog ops Q (o::rest) a w:=by
 obtain⟨i0,hi,hz0,hz1,hz2⟩:=info_parts Tryz.info_QProto
 refine wpList_append_own_at w hgd s x 36 ho base 65 i0 (.agg #[.slice none 0 0]) 1 24 Tryz.underlying36 hi hz0 hz1 hz2 rfl (by decide) v n hs' hs hown ⟨B,0,none⟩ 1 1 [.slice ao l c] hx rfl ?_ ?_ (by unfold maxLen;omega) (by omega) hbase ?_
 ·intro j q hj
  match j,hj with
  | 0,hj=>simp at hj;subst hj;simpa [Addr.add] using hB.cell 0
 ·intro q hq;simp at hq;subst hq;rfl
 ·intro v' w' h1 h2 _ h4
  exact h v' w' h1 h2 h4
end
theorem Blk.newAt {W:World} {n:Nat} (arr:Array Value) (t:TypeId) (h:W.heap.size=n):Blk (W.alloc (.cells arr t)) n arr t:=by
 subst h
 exact Blk.new W arr t
structure InnAt (B S:Nat) (wr wi:World) (fc:Array Value) (v u:Value) (c:Int) (i:Nat) (qs:List Qd):Prop where
 only:Only (B+1+1) wr wi
 size:S+2≤wi.heap.size
 eqS:wr.heap.size=S
 lt:B+1+1<S
 out:Blk wi (B+1+1) #[v,.int .i64 c] 38
 f:Blk wi S fc 57
 q:Blk wi (S+1) #[u] 65
 row:wi.ownsRow (S+2) 60 7 u i (qvals qs)
theorem InnAt.below {B S:Nat} {wr wi w':World} {fc:Array Value} {v u:Value} {c:Int} {i:Nat} {qs:List Qd} (h:InnAt B S wr wi fc v u c i qs) (hb:Below wi.heap.size wi w'):InnAt B S wr w' fc v u c i qs:=
 ⟨h.only.below hb,Nat.le_trans h.size hb.size,h.eqS,h.lt,h.out.later hb,h.f.later hb,h.q.later hb,owns_below h.row hb⟩
theorem Only.other {g b:Nat} {w w':World} (h:Only g w w') (hb:w.heap.size≤b) (i:Nat) (v:Value):Only g w (w'.setCell ⟨b,i,none⟩ v):=by
 refine⟨h.os,h.tape,h.output,by simpa using h.size,fun k hk hl=>?_⟩
 rw [Below.heap_setCell _ _ _ _ (by show k≠b;omega),h.block k hk hl]
theorem owns_setOther {w:World} {base e size n b:Nat} {v:Value} {xs:List Value} (h:w.ownsRow base e size v n xs) (hb:∀k,v.ownBlock=some k→k≠b) (i:Nat) (x:Value):(w.setCell ⟨b,i,none⟩ x).ownsRow base e size v n xs:=by
 obtain⟨h1,h2 | ⟨g,cap,cur,rfl,hg,hc,r⟩⟩:=h
 ·exact⟨h1,.inl h2⟩
 ·exact⟨h1,.inr ⟨g,cap,cur,rfl,hg,(Below.heap_setCell _ _ _ _ (hb g rfl)).trans hc,r⟩⟩
theorem InnAt.other {B S:Nat} {wr wi:World} {fc:Array Value} {v u:Value} {c:Int} {i:Nat} {qs:List Qd} (h:InnAt B S wr wi fc v u c i qs) (b:Nat) (hb:S+1<b) (hu:∀k,u.ownBlock=some k→k≠b) (j:Nat) (x:Value):InnAt B S wr (wi.setCell ⟨b,j,none⟩ x) fc v u c i qs:=by
 have hl:=h.lt
 have he:=h.eqS
 exact⟨h.only.other (by omega) j x,by simpa using h.size,he,hl,h.out.setOther (by show B+1+1≠b;omega) x,h.f.setOther (by show S≠b;omega) x,h.q.setOther (by show S+1≠b;omega) x,owns_setOther h.row hu j x⟩
theorem InnAt.count {B S:Nat} {wr wi:World} {fc:Array Value} {v u:Value} {c:Int} {i:Nat} {qs:List Qd} (h:InnAt B S wr wi fc v u c i qs) (c':Int):InnAt B S wr (wi.setCell ⟨B+1+1,1,none⟩ (.int .i64 c')) fc v u c' i qs:=by
 have hl:=h.lt
 refine⟨h.only.set 1 _,by simpa using h.size,h.eqS,hl,by simpa using h.out.set 1 (.int .i64 c'),h.f.setOther (by show S≠B+1+1;omega) _,h.q.setOther (by show S+1≠B+1+1;omega) _,owns_setOther h.row (fun k hk=>?_) 1 _⟩
 have:=(h.row.lt k hk).1
 omega
theorem InnAt.more {B S:Nat} {wr wi w':World} {fc:Array Value} {v u u':Value} {c:Int} {i:Nat} {qs:List Qd} {q:Qd} (h:InnAt B S wr wi fc v u c i qs)
  (h1:w'.ownsRow (S+2) 60 7 u' (i+1) (qvals (qs ++ [q]))) (h2:wi.grownBy w' u.ownBlock):InnAt B S wr (w'.setCell ⟨S+1,0,none⟩ u') fc v u' c (i+1) (qs ++ [q]):=by
 have hl:=h.lt
 have he:=h.eqS
 have hu:∀k,u.ownBlock=some k→S+2≤k:=fun k hk=>(h.row.lt k hk).1
 have hu':∀k,u'.ownBlock=some k→S+2≤k:=fun k hk=>(h1.lt k hk).1
 have hk:∀b,b<S+2→w'.heap[b]?=wi.heap[b]?:=fun b hb=>h2.block b (by have:=h.size;omega) (fun e=>by have:=hu b e.symm;omega)
 have hsz:=h2.size
 refine⟨⟨h2.os.trans h.only.os,h2.tape.trans h.only.tape,h2.output.trans h.only.output,?_,fun b hb hbl=>?_⟩,by simp;have:=h.size;omega,he,hl,?_,?_,?_,owns_setOther h1 (fun k hk=>by have:=hu' k hk;omega) 0 _⟩
 ·simp
  have:=h.only.size
  omega
 ·rw [Below.heap_setCell _ _ _ _ (by show b≠S+1;omega),hk b (by omega)]
  exact h.only.block b hb hbl
 ·exact Blk.setOther ((hk _ (by omega)).trans h.out) (by show B+1+1≠S+1;omega) _
 ·exact Blk.setOther ((hk _ (by omega)).trans h.f) (by show S≠S+1;omega) _
 ·have:Blk w' (S+1) #[u] 65:=(hk _ (by omega)).trans h.q
  simpa using this.set 0 u'
theorem InnAt.qAfter {B S:Nat} {wr wi w':World} {fc:Array Value} {v u:Value} {c:Int} {i:Nat} {qs:List Qd} (h:InnAt B S wr wi fc v u c i qs) (h2:wi.grownBy w' u.ownBlock):Blk w' (S+1) #[u] 65:=
 (h2.block (S+1) (by have:=h.size;omega) (fun e=>by have:=(h.row.lt (S+1) e.symm).1;omega)).trans h.q
structure PrepAt (w:World) (ps:List Pd) (wr:World) (k:Nat) (v:Value) (hs:List Value):Prop where
 below:Below w.heap.size w wr
 size:w.heap.size+1+1<wr.heap.size
 res:Blk wr (w.heap.size+1) #[.slice none 0 0,.int .i64 0] 38
 out:Blk wr (w.heap.size+1+1) #[v,.int .i64 (cAll ps k:Int)] 38
 row:wr.ownsRow (w.heap.size+1+1+1) 65 1 v k hs
 rows:∀i p,i<k→ps[i]?=some p→∃u,hs[i]?=some u∧wr.ownsRow (w.heap.size+1+1+1) 60 7 u p.ins.length (qvals (qIns p.consts p.ins (cAll ps i)))∧∀b,u.ownBlock=some b→v.ownBlock≠some b
theorem InnAt.belowW {w wr wi:World} {S:Nat} {fc:Array Value} {v u:Value} {c:Int} {i:Nat} {qs:List Qd} (h:InnAt w.heap.size S wr wi fc v u c i qs) (hb:Below w.heap.size w wr):Below w.heap.size w wi:=
 ⟨h.only.os.trans hb.os,h.only.tape.trans hb.tape,h.only.output.trans hb.output,Nat.le_trans hb.size h.only.size,fun k hk=>(h.only.block k (by omega) (Nat.lt_of_lt_of_le hk hb.size)).trans (hb.block k hk)⟩
theorem InnAt.start {B:Nat} {wr:World} (fc:Array Value) {v:Value} {c:Int} (hl:B+1+1<wr.heap.size) (ho:Blk wr (B+1+1) #[v,.int .i64 c] 38) :
  InnAt B wr.heap.size wr ((wr.alloc (.cells fc 57)).alloc (.cells #[.slice none 0 0] 65)) fc v (.slice none 0 0) c 0 []:=by
 have hb:Below wr.heap.size wr ((wr.alloc (.cells fc 57)).alloc (.cells #[.slice none 0 0] 65)):=((Below.refl _ _).alloc (Nat.le_refl _) _).alloc (by simp) _
 refine⟨(Only.refl _ _).below hb,by simp,rfl,hl,ho.later hb,(Blk.new _ _ _).alloc _,?_,World.ownsRow_nil _ _ _ _⟩
 have:=Blk.new (wr.alloc (.cells fc 57)) #[.slice none 0 0] 65
 rwa [nblk_alloc] at this
theorem PrepAt.more {w:World} {ps:List Pd} {wr wi w':World} {k:Nat} {v v' u:Value} {hs:List Value} {p:Pd} {fc:Array Value} {o:Obj} (h:PrepAt w ps wr k v hs) (hp:ps[k]?=some p)
  (hi:InnAt w.heap.size wr.heap.size wr wi fc v u (cAll ps (k+1):Int) p.ins.length (qIns p.consts p.ins (cAll ps k)))
  (h1:w'.ownsRow (w.heap.size+1+1+1) 65 1 v' (k+1) (hs ++ [u])) (h2:(wi.alloc o).grownBy w' v.ownBlock) (h3:v'.ownBlock=v.ownBlock∨v'.ownBlock=some (wi.alloc o).heap.size) :
  PrepAt w ps (w'.setCell ⟨w.heap.size+1+1,0,none⟩ v') (k+1) v' (hs ++ [u]):=by
 have hsz:=h.size
 have hsz2:=hi.only.size
 have hsi:(wi.alloc o).heap.size=wi.heap.size+1:=by simp
 have hsz3:=h2.size
 have hv:∀b,v.ownBlock=some b→w.heap.size+1+1+1≤b∧b<wr.heap.size:=fun b hb=>h.row.lt b hb
 have hv':∀b,v'.ownBlock=some b→w.heap.size+1+1+1≤b:=fun b hb=>(h1.lt b hb).1
 have hk:∀b,b<wi.heap.size→(∀e,v.ownBlock=some e→e≠b)→w'.heap[b]?=wi.heap[b]?:=fun b hb hn=>
  (h2.block b (by omega) (fun e=>hn b e.symm rfl)).trans (Below.heap_alloc _ _ _ hb)
 have hkw:∀b,b<wr.heap.size→b≠w.heap.size+1+1→(∀e,v.ownBlock=some e→e≠b)→w'.heap[b]?=wr.heap[b]?:=fun b hb hn hn2=>(hk b (by omega) hn2).trans (hi.only.block b hn hb)
 have hlen:hs.length=k:=by have:=h.row.1;omega
 refine⟨?_,by simp;omega,?_,?_,?_,?_⟩
 ·refine Below.setCell ?_ (by show w.heap.size≤w.heap.size+1+1;omega) _
  exact⟨h2.os.trans (hi.only.os.trans h.below.os),h2.tape.trans (hi.only.tape.trans h.below.tape),h2.output.trans (hi.only.output.trans h.below.output),by have:=h.below.size;omega,
   fun b hb=>(hkw b (by omega) (by omega) (fun e he=>by have:=hv e he;omega)).trans (h.below.block b hb)⟩
 ·exact Blk.setOther ((hkw _ (by omega) (by omega) (fun e he=>by have:=hv e he;omega)).trans h.res) (by show w.heap.size+1≠w.heap.size+1+1;omega) _
 ·have:Blk w' (w.heap.size+1+1) #[v,.int .i64 (cAll ps (k+1):Int)] 38:=(hk _ (by omega) (fun e he=>by have:=hv e he;omega)).trans hi.out
  simpa using this.set 0 v'
 ·exact owns_setOther h1 (fun b hb=>by have:=hv' b hb;omega) 0 _
 ·intro i q hik hq
  by_cases e:i=k
  ·subst e
   obtain rfl:=Option.some.inj (hp.symm.trans hq)
   refine⟨u,by rw [List.getElem?_append_right (by omega),hlen];simp,?_,?_⟩
   ·have hr:w'.ownsRow (wr.heap.size+2) 60 7 u p.ins.length (qvals (qIns p.consts p.ins (cAll ps i))):=by
     obtain⟨g1,g2 | ⟨g,cap,cur,rfl,hg,hc,r⟩⟩:=hi.row
     ·exact⟨g1,.inl g2⟩
     ·exact⟨g1,.inr ⟨g,cap,cur,rfl,hg,(hk g (Array.getElem?_eq_some_iff.1 hc).1 (fun e he=>by have:=hv e he;omega)).trans hc,r⟩⟩
    refine owns_setOther ?_ (fun b hb=>by have:=(hr.lt b hb).1;omega) 0 _
    obtain⟨g1,g2 | ⟨g,cap,cur,rfl,hg,hc,r⟩⟩:=hr
    ·exact⟨g1,.inl g2⟩
    ·exact⟨g1,.inr ⟨g,cap,cur,rfl,by omega,hc,r⟩⟩
   ·intro b hb hc
    have hb2:=hi.row.lt b hb
    rcases h3 with h3 | h3
    ·have:=(hv b (h3▸hc)).2;omega
    ·rw [h3] at hc
     simp at hc
     omega
  ·obtain⟨x,hx,hr,hn⟩:=h.rows i q (by omega) hq
   refine⟨x,by rw [List.getElem?_append_left (by have:=(List.getElem?_eq_some_iff.1 hx).1;omega)];exact hx,?_,?_⟩
   ·refine owns_setOther ?_ (fun b hb=>by have:=(hr.lt b hb).1;omega) 0 _
    obtain⟨g1,g2 | ⟨g,cap,cur,rfl,hg,hc,r⟩⟩:=hr
    ·exact⟨g1,.inl g2⟩
    ·exact⟨g1,.inr ⟨g,cap,cur,rfl,hg,(hkw g (Array.getElem?_eq_some_iff.1 hc).1 (by omega) (fun e he hne=>hn g rfl (hne▸he))).trans hc,r⟩⟩
   ·intro b hb hc
    rcases h3 with h3 | h3
    ·exact hn b hb (h3▸hc)
    ·have hb2:=(hr.lt b hb).2
     rw [h3] at hc
     simp at hc
     omega
theorem InnAt.keeps {w wr wi:World} {S:Nat} {fc:Array Value} {v u:Value} {c:Int} {i:Nat} {qs:List Qd} (h:InnAt w.heap.size S wr wi fc v u c i qs):Keeps (w.heap.size+1+1+1) wr wi:=
 ⟨h.only.size,fun k hl hk=>h.only.block k (by omega) hk⟩
theorem PrepAt.outAfter {w:World} {ps:List Pd} {wr wi w':World} {k:Nat} {v u:Value} {hs:List Value} {c:Int} {i:Nat} {qs:List Qd} {fc:Array Value} {o:Obj} (h:PrepAt w ps wr k v hs)
  (hi:InnAt w.heap.size wr.heap.size wr wi fc v u c i qs) (h2:(wi.alloc o).grownBy w' v.ownBlock):Blk w' (w.heap.size+1+1) #[v,.int .i64 c] 38:=
 (h2.block _ (by have:=hi.out.lt;simp;omega) (fun e=>by have:=(h.row.lt _ e.symm).1;omega)).trans (hi.out.alloc o)
theorem PrepAt.done {w:World} {ps:List Pd} {wr:World} {n vc:Nat} {vo:Option Addr} {hs:List Value} (h:PrepAt w ps wr n (.slice vo n vc) hs) (hn:n=ps.length):QpsAt (w.heap.size+1+1+1) wr vo (qAll ps):=by
 subst hn
 intro i qs hi
 have hl:i<ps.length:=by have:=(List.getElem?_eq_some_iff.1 hi).1;rwa [qAll_len] at this
 obtain⟨p,hp⟩:=some_of_lt hl
 rw [qAll_at hp] at hi
 obtain rfl:=Option.some.inj hi
 obtain⟨u,hu,hr,_⟩:=h.rows i p hl hp
 obtain⟨io,ic,rfl⟩:=owns_slice hr
 obtain⟨hq,hlen⟩:=owns_qis hr
 rcases owns_form h.row with ⟨h1,h2⟩ | ⟨g,cap,h1,h2,h3⟩
 ·omega
 ·have hrow:=h.row
  simp only [Value.slice.injEq] at h1
  obtain⟨rfl,_,rfl⟩:=h1
  refine⟨g,0,rfl,h2,h3,io,ic,?_,hq⟩
  rw [Nat.zero_add,Nat.mul_one,←hlen]
  exact owns_cell hrow hu
structure QFit (p:Pd) (n:Nd):Prop where
 lo:1≤n.op
 hi:n.op≤42
 drop:n.op=42→(0≤n.a∧n.a≤250)∧n.b=0∧n.c=0∧n.d=0
 cst:n.op=4→(0≤n.a∧n.a≤250)∧0≤n.b∧n.b<p.consts.length
 bin:n.op=18→(0≤n.a∧n.a≤250)
theorem qfit {np:Nat} {p:Pd} {n:Nd} (hr:0≤p.regs∧p.regs≤250) (h:InsFit np p n):QFit p n:=by
 obtain⟨lo,hi,hf⟩:=h
 refine⟨lo,hi,fun e=>?_,fun e=>?_,fun e=>?_⟩
 ·rw [e] at hf
  simp [rolesOf,roleTab,Nd.fs,fitAll,fitsR,inR] at hf
  omega
 ·rw [e] at hf
  simp [rolesOf,roleTab,Nd.fs,fitAll,fitsR,inR] at hf
  omega
 ·rw [e] at hf
  simp [rolesOf,roleTab,Nd.fs,fitAll,fitsR,inR] at hf
  omega
theorem shape_q {ps:List Pd} (h:(checkF ps).1=0):∀p ∈ ps,∀n ∈ p.ins,QFit p n:=by
 have hs:(shapeF ps).1=0:=by
  unfold checkF at h
  split at h
  ·assumption
  ·exact h
 intro p hp n hn
 have hf:=(shape_fits hs p hp).fit
 obtain⟨i,hi⟩:=List.getElem?_of_mem hn
 exact qfit hf.regs (hf.fit i n hi)
set_option maxHeartbeats 400000 in
theorem eqQIns_any (u:Qd) (w:World):Calls Tryz.prog 157 #[u.val,u.val] w fun e w'=>e=.returned (.bool true)∧Below w.heap.size w w':=by
 obtain⟨x0,x1,x2,x3,x4,x5,x6⟩:=u
 dsimp only [Qd.val]
 go_enter Tryz.func157,Tryz.ntmps157
 go_wp2_with fail
 go_ret
 refine⟨rfl,?_⟩
 repeat (first | exact Below.refl _ _ | refine Below.alloc ?_ (by simp;try omega) _)
set_option maxHeartbeats 800000 in
theorem eqQInsS_any (ao bo:Option Addr) (c1 c2:Nat) (us:List Qd) (w:World) (hm:us.length≤1048576) (h1:QisAt 0 w ao us) (h2:QisAt 0 w bo us) :
  Calls Tryz.prog 131 #[.slice ao us.length c1,.slice bo us.length c2] w fun e w'=>e=.returned (.bool true)∧Below w.heap.size w w':=by
 go_enter Tryz.func131,Tryz.ntmps131
 go_wp2_with fail
 go_loopw [5] (fun i wr=>∃k:Nat,k≤us.length∧i=.int .i64 k∧Below w.heap.size w wr) (fun i _=>us.length - (intOf i).toNat)
 case atStart=>exact ⟨0,Nat.zero_le _,rfl,Below.refl _ _⟩
 case round=>
  obtain⟨k,hk,rfl,hb⟩:=hrel
  by_cases hlt:k<us.length
  ·obtain⟨u,huk⟩:=some_of_lt hlt
   obtain⟨b1,o1,rfl,_,hl1,p0,p1,p2,p3,p4,p5,p6⟩:=h1.later (Keeps.of_below hb) k u huk
   obtain⟨b2,o2,rfl,_,hl2,q0,q1,q2,q3,q4,q5,q6⟩:=h2.later (Keeps.of_below hb) k u huk
   clear h1 h2
   go_wp2_with fail
   go_region_held3 (fun w'=>w'.cell? ⟨b1,o1+k*7,none⟩=some (.int .i64 u.op)∧w'.cell? ⟨b1,o1+k*7+1,none⟩=some (.int .i64 u.a)∧w'.cell? ⟨b1,o1+k*7+2,none⟩=some (.int .i64 u.b)∧w'.cell? ⟨b1,o1+k*7+3,none⟩=some (.int .i64 u.c)∧w'.cell? ⟨b1,o1+k*7+4,none⟩=some (.int .i64 u.d)∧w'.cell? ⟨b1,o1+k*7+5,none⟩=some (.int .i64 u.e)∧w'.cell? ⟨b1,o1+k*7+6,none⟩=some (.int .i64 u.f)∧w'.cell? ⟨b2,o2+k*7,none⟩=some (.int .i64 u.op)∧w'.cell? ⟨b2,o2+k*7+1,none⟩=some (.int .i64 u.a)∧w'.cell? ⟨b2,o2+k*7+2,none⟩=some (.int .i64 u.b)∧w'.cell? ⟨b2,o2+k*7+3,none⟩=some (.int .i64 u.c)∧w'.cell? ⟨b2,o2+k*7+4,none⟩=some (.int .i64 u.d)∧w'.cell? ⟨b2,o2+k*7+5,none⟩=some (.int .i64 u.e)∧w'.cell? ⟨b2,o2+k*7+6,none⟩=some (.int .i64 u.f)) (go_keep)
    (first | (go_at_call 157;refine (eqQIns_any u _).mono ?_;rintro e w1 ⟨rfl,hw1⟩;have d00:=(hw1.cell (p:=⟨b1,o1+k*7,none⟩) hl1).trans p0;have d01:=(hw1.cell (p:=⟨b1,o1+k*7+1,none⟩) hl1).trans p1;have d02:=(hw1.cell (p:=⟨b1,o1+k*7+2,none⟩) hl1).trans p2;have d03:=(hw1.cell (p:=⟨b1,o1+k*7+3,none⟩) hl1).trans p3;have d04:=(hw1.cell (p:=⟨b1,o1+k*7+4,none⟩) hl1).trans p4;have d05:=(hw1.cell (p:=⟨b1,o1+k*7+5,none⟩) hl1).trans p5;have d06:=(hw1.cell (p:=⟨b1,o1+k*7+6,none⟩) hl1).trans p6;have d10:=(hw1.cell (p:=⟨b2,o2+k*7,none⟩) hl2).trans q0;have d11:=(hw1.cell (p:=⟨b2,o2+k*7+1,none⟩) hl2).trans q1;have d12:=(hw1.cell (p:=⟨b2,o2+k*7+2,none⟩) hl2).trans q2;have d13:=(hw1.cell (p:=⟨b2,o2+k*7+3,none⟩) hl2).trans q3;have d14:=(hw1.cell (p:=⟨b2,o2+k*7+4,none⟩) hl2).trans q4;have d15:=(hw1.cell (p:=⟨b2,o2+k*7+5,none⟩) hl2).trans q5;have d16:=(hw1.cell (p:=⟨b2,o2+k*7+6,none⟩) hl2).trans q6))
   have B1:=hb.drew.trans (hw1.mono hb.size)
   go_wp2_with fail
   go_roundw
   case rel=>exact ⟨k+1,by omega,by go_num,B1⟩
   case measure=>simp [intOf];omega
  ·go_wp2_with fail
   go_ret
   exact⟨rfl,hb⟩
set_option maxHeartbeats 400000 in
theorem eqQProto_any (ao bo:Option Addr) (c1 c2:Nat) (us:List Qd) (w:World) (hm:us.length≤1048576) (h1:QisAt 0 w ao us) (h2:QisAt 0 w bo us) :
  Calls Tryz.prog 76 #[.agg #[.slice ao us.length c1],.agg #[.slice bo us.length c2]] w fun e w'=>e=.returned (.bool true)∧Below w.heap.size w w':=by
 have hb2:∀o1 o2,Below w.heap.size w ((w.alloc o1).alloc o2):=fun o1 o2=>((Below.refl _ _).alloc (Nat.le_refl _) o1).alloc (by simp) o2
 go_enter Tryz.func76,Tryz.ntmps76
 go_wp2_with fail
 refine (eqQInsS_any ao bo c1 c2 us _ hm (h1.later (Keeps.of_below (hb2 _ _))) (h2.later (Keeps.of_below (hb2 _ _)))).mono ?_
 rintro e w1 ⟨rfl,hw1⟩
 have B1:=(hb2 _ _).trans (hw1.mono (by simp;omega))
 go_wp2_with fail
 go_ret
 exact⟨rfl,B1⟩
set_option maxHeartbeats 800000 in
theorem eqQProtoS_any (ao bo:Option Addr) (c1 c2:Nat) (us:List (List Qd)) (w:World) (hm:us.length≤1048576) (hz:∀p ∈ us,p.length≤1048576) (h1:QpsAt 0 w ao us) (h2:QpsAt 0 w bo us) :
  Calls Tryz.prog 30 #[.slice ao us.length c1,.slice bo us.length c2] w fun e w'=>e=.returned (.bool true)∧Below w.heap.size w w':=by
 go_enter Tryz.func30,Tryz.ntmps30
 go_wp2_with fail
 go_loopw [5] (fun i wr=>∃k:Nat,k≤us.length∧i=.int .i64 k∧Below w.heap.size w wr) (fun i _=>us.length - (intOf i).toNat)
 case atStart=>exact ⟨0,Nat.zero_le _,rfl,Below.refl _ _⟩
 case round=>
  obtain⟨k,hk,rfl,hb⟩:=hrel
  by_cases hlt:k<us.length
  ·obtain⟨u,huk⟩:=some_of_lt hlt
   obtain⟨b1,o1,rfl,_,hl1,i1,k1,n1,z1⟩:=h1.later (Keeps.of_below hb) k u huk
   obtain⟨b2,o2,rfl,_,hl2,i2,k2,n2,z2⟩:=h2.later (Keeps.of_below hb) k u huk
   have hzu:=hz u (List.mem_of_getElem? huk)
   rw [Nat.mul_one] at n1 n2
   clear h1 h2 hz
   have z1d:QisAt 0 wr.drew i1 u:=z1.later (Keeps.of_below (Below.refl _ _).drew)
   have z2d:QisAt 0 wr.drew i2 u:=z2.later (Keeps.of_below (Below.refl _ _).drew)
   go_wp2_with fail
   go_region_held3 (fun w'=>w'.cell? ⟨b1,o1+k,none⟩=some (.slice i1 u.length k1)∧w'.cell? ⟨b2,o2+k,none⟩=some (.slice i2 u.length k2)) (go_keep)
    (first | (go_at_call 76;refine (eqQProto_any i1 i2 k1 k2 u wr.drew hzu z1d z2d).mono ?_;rintro e w1 ⟨rfl,hw1⟩;have d0:=(hw1.cell (p:=⟨b1,o1+k,none⟩) hl1).trans n1;have d1:=(hw1.cell (p:=⟨b2,o2+k,none⟩) hl2).trans n2))
   have B1:=hb.drew.trans (hw1.mono hb.size)
   go_wp2_with fail
   go_roundw
   case rel=>exact ⟨k+1,by omega,by go_num,B1⟩
   case measure=>simp [intOf];omega
  ·go_wp2_with fail
   go_ret
   exact⟨rfl,hb⟩
set_option maxHeartbeats 400000 in
theorem eqQuick_any (ao bo:Option Addr) (c1 c2:Nat) (us:List (List Qd)) (m:Int) (w:World) (hm:us.length≤1048576) (hz:∀p ∈ us,p.length≤1048576) (h1:QpsAt 0 w ao us) (h2:QpsAt 0 w bo us) :
  Calls Tryz.prog 14 #[.agg #[.slice ao us.length c1,.int .i64 m],.agg #[.slice bo us.length c2,.int .i64 m]] w fun e w'=>e=.returned (.bool true)∧Below w.heap.size w w':=by
 have hb2:∀o1 o2,Below w.heap.size w ((w.alloc o1).alloc o2):=fun o1 o2=>((Below.refl _ _).alloc (Nat.le_refl _) o1).alloc (by simp) o2
 have X0:=(Blk.new w #[.slice ao us.length c1,.int .i64 m] 38).alloc (.cells #[.slice bo us.length c2,.int .i64 m] 38)
 have Y0:=Blk.new (w.alloc (.cells #[.slice ao us.length c1,.int .i64 m] 38)) #[.slice bo us.length c2,.int .i64 m] 38
 rw [nblk_alloc] at Y0
 go_enter Tryz.func14,Tryz.ntmps14
 go_wp2_with fail
 refine (eqQProtoS_any ao bo c1 c2 us _ hm hz (h1.later (Keeps.of_below (hb2 _ _))) (h2.later (Keeps.of_below (hb2 _ _)))).mono ?_
 rintro e w1 ⟨rfl,hw1⟩
 have B1:=(hb2 _ _).trans (hw1.mono (by simp;omega))
 have x1:=(X0.later hw1).cell
 have y1:=(Y0.later hw1).cell
 go_wp2_with fail
 go_ret
 exact⟨rfl,B1⟩
def mq (x:Int):Qd:=⟨x,x+1,x+1+1,x+1+1+1,x+1+1+1+1,x+1+1+1+1+1,x+1+1+1+1+1+1⟩
def markedQ (k n:Nat):List Qd:=(List.range n).map fun i=>mq ((k+i*7:Nat):Int)
theorem markedQ_len (k n:Nat):(markedQ k n).length=n:=by simp [markedQ]
theorem markedQ_at {k n j:Nat} (h:j<n):(markedQ k n)[j]?=some (mq ((k+j*7:Nat):Int)):=by simp [markedQ,h]
def kAt (k:Nat) (qss:List (List Qd)):Nat→Nat
 | 0=>k
 | j+1=>kAt k qss j+(qss.getD j []).length*7
def markedS (k:Nat) (qss:List (List Qd)):List (List Qd):=(List.range qss.length).map fun j=>markedQ (kAt k qss j) (qss.getD j []).length
theorem markedS_len (k:Nat) (qss:List (List Qd)):(markedS k qss).length=qss.length:=by simp [markedS]
theorem markedS_at {k:Nat} {qss:List (List Qd)} {j:Nat} {qs:List Qd} (h:qss[j]?=some qs):(markedS k qss)[j]?=some (markedQ (kAt k qss j) qs.length):=by
 have hj:=(List.getElem?_eq_some_iff.1 h).1
 simp [markedS,hj,(List.getElem?_eq_some_iff.1 h).2]
theorem kAt_step {k:Nat} {qss:List (List Qd)} {j:Nat} {qs:List Qd} (h:qss[j]?=some qs):kAt k qss (j+1)=kAt k qss j+qs.length*7:=by
 simp [kAt,List.getD_eq_getElem?_getD,h]
theorem kAt_le {k:Nat} {qss:List (List Qd)} (h:∀qs ∈ qss,qs.length≤1048576) (j:Nat) (hj:j≤qss.length):kAt k qss j≤k+j*7340032:=by
 induction j with
 | zero=>simp [kAt]
 | succ j ih=>
  obtain⟨qs,hq⟩:=some_of_lt (show j<qss.length by omega)
  rw [kAt_step hq]
  have h1:=ih (by omega)
  have h2:=h qs (List.mem_of_getElem? hq)
  generalize kAt k qss j=K at *
  omega
set_option maxRecDepth 100000 in
set_option maxHeartbeats 800000 in
theorem markQInsS_any (g n cap k:Nat) (w:World) (hn:n≤1048576) (hk:k≤1125899906842624) (own:Own w g 60 (n*7)) :
  Calls Tryz.prog 82 #[.slice (some ⟨g,0,none⟩) n cap,.int .i64 k] w fun e w'=>e=.returned (.int .i64 ((k+n*7:Nat):Int))∧Own w' g 60 (n*7)∧Laid w' g 7 Qd.vals (markedQ k n) n∧Only g w w':=by
 go_enter Tryz.func82,Tryz.ntmps82
 go_wp2_with fail
 go_loopw [1,5] (fun y x wr=>∃j q:Nat,j≤n∧x=.int .i64 j∧y=.int .i64 (q:Int)∧Hid (q=k+j*7)∧q≤1125899920000000∧Own wr g 60 (n*7)∧Laid wr g 7 Qd.vals (markedQ k n) j∧Only g w wr) (fun _ x _=>n - (intOf x).toNat)
 case atStart=>exact ⟨0,k,Nat.zero_le _,rfl,rfl,by show _=_;omega,by omega,own,Laid.zero _ _ _ _ _,Only.refl _ _⟩
 case round=>
  obtain⟨j,q,hj,rfl,rfl,HQ,hqb,hown,hL,ho⟩:=hrel
  by_cases hlt:j<n
  ·have hn2:j*7+7≤n*7:=by omega
   have hR:=hL.step hown hn2 (fun _=>rfl) (markedQ_at (k:=k) hlt)
   rw [←HQ.out] at hR
   have HN:Hid (q+7=k+(j+1)*7∧q+7≤1125899920000000):=by have:=HQ.out;exact ⟨by omega,by omega⟩
   have HR:Hid _:=hR
   clear hR HQ
   obtain⟨v0,c0⟩:=hown.cell (i:=j*7) (by omega)
   obtain⟨v1,c1⟩:=hown.cell (i:=j*7+1) (by omega)
   obtain⟨v2,c2⟩:=hown.cell (i:=j*7+2) (by omega)
   obtain⟨v3,c3⟩:=hown.cell (i:=j*7+3) (by omega)
   obtain⟨v4,c4⟩:=hown.cell (i:=j*7+4) (by omega)
   obtain⟨v5,c5⟩:=hown.cell (i:=j*7+5) (by omega)
   obtain⟨v6,c6⟩:=hown.cell (i:=j*7+6) (by omega)
   have fz:=hown.frozen
   go_wp2_with fail
   go_roundw
   case rel=>exact ⟨j+1,q+7,by omega,by go_num,by congr 1 <;> omega,HN.out.1,HN.out.2,((((((hown.set (j*7) _).set (j*7+1) _).set (j*7+2) _).set (j*7+3) _).set (j*7+4) _).set (j*7+5) _).set (j*7+6) _,HR.out,((((((ho.set (j*7) _).set (j*7+1) _).set (j*7+2) _).set (j*7+3) _).set (j*7+4) _).set (j*7+5) _).set (j*7+6) _⟩
   case measure=>simp [intOf];omega
  ·go_wp2_with fail
   go_ret
   obtain rfl:j=n:=by omega
   exact⟨by rw [HQ.out];rfl,hown,hL,ho⟩
set_option maxRecDepth 100000 in
set_option maxHeartbeats 800000 in
theorem heldQInsS_any (ao:Option Addr) (n cap k:Nat) (w:World) (hn:n≤1048576) (hk:k≤1125899906842624) (hq:QisAt 0 w ao (markedQ k n)) :
  Calls Tryz.prog 83 #[.slice ao n cap,.int .i64 k] w fun e w'=>e=.returned (.int .i64 ((k+n*7:Nat):Int))∧Below w.heap.size w w':=by
 go_enter Tryz.func83,Tryz.ntmps83
 go_wp2_with fail
 go_loopw [1,5] (fun y x wr=>∃j q:Nat,j≤n∧x=.int .i64 j∧y=.int .i64 (q:Int)∧Hid (q=k+j*7)∧q≤1125899920000000∧Below w.heap.size w wr) (fun _ x _=>n - (intOf x).toNat)
 case atStart=>exact ⟨0,k,Nat.zero_le _,rfl,rfl,by show _=_;omega,by omega,Below.refl _ _⟩
 case round=>
  obtain⟨j,q,hj,rfl,rfl,HQ,hqb,hb⟩:=hrel
  by_cases hlt:j<n
  ·obtain⟨b,off,rfl,_,hbl,p0,p1,p2,p3,p4,p5,p6⟩:=hq.later (Keeps.of_below hb) j _ (markedQ_at hlt)
   rw [←HQ.out] at p0 p1 p2 p3 p4 p5 p6
   have HN:Hid (q+7=k+(j+1)*7∧q+7≤1125899920000000):=by have:=HQ.out;exact ⟨by omega,by omega⟩
   dsimp only [mq] at p0 p1 p2 p3 p4 p5 p6
   clear HQ
   clear hq
   go_wp2_with fail
   go_roundw
   case rel=>exact ⟨j+1,q+7,by omega,by go_num,by congr 1 <;> omega,HN.out.1,HN.out.2,hb⟩
   case measure=>simp [intOf];omega
  ·go_wp2_with fail
   go_ret
   obtain rfl:j=n:=by omega
   exact⟨by rw [HQ.out];rfl,hb⟩
structure QSoft (w:World) (g:Nat) (gs:Nat→Nat) (qss:List (List Qd)):Prop where
 own:Own w g 65 qss.length
 hdr:∀j qs,qss[j]?=some qs→w.cell? ⟨g,j,none⟩=some (.slice (some ⟨gs j,0,none⟩) qs.length qs.length)
 up:∀j,j<qss.length→g<gs j
 apart:∀j k,j<k→k<qss.length→gs j<gs k
 row:∀j qs,qss[j]?=some qs→Own w (gs j) 60 (qs.length*7)
theorem QOwn.soft {w:World} {g:Nat} {gs:Nat→Nat} {qss:List (List Qd)} (h:QOwn w g gs qss):QSoft w g gs qss:=⟨h.own,h.hdr,h.up,h.apart,fun j qs hj=>(h.row j qs hj).1⟩
theorem QSoft.only {w w':World} {g:Nat} {gs:Nat→Nat} {qss:List (List Qd)} (h:QSoft w g gs qss) {b:Nat} {t:TypeId} {m:Nat} (ho:Only b w w') (hb:g<b) (o1:Own w b t m) (o2:Own w' b t m):QSoft w' g gs qss:=
 ⟨h.own.only ho o1 o2,fun j qs hj=>(World.cell?_of_block (w:=w) (a:=⟨g,j,none⟩) (ho.block g (by omega) h.own.lt)).trans (h.hdr j qs hj),h.up,h.apart,fun j qs hj=>(h.row j qs hj).only ho o1 o2⟩
theorem Laid.only {α:Type} {w w':World} {g m b:Nat} {vals:α→List Value} {xs:List α} {k:Nat} (h:Laid w g m vals xs k) (ho:Only b w w') (hb:g≠b) (hg:g<w.heap.size):Laid w' g m vals xs k:=
 fun j y hj hy i v hv=>(World.cell?_of_block (w:=w) (a:=⟨g,j * m+i,none⟩) (ho.block g hb hg)).trans (h j y hj hy i v hv)
set_option maxRecDepth 100000 in
set_option maxHeartbeats 800000 in
theorem markQProtoS_any (g cap k hi:Nat) (gs:Nat→Nat) (qss:List (List Qd)) (w:World) (hm:qss.length≤1048576) (hz:∀qs ∈ qss,qs.length≤1048576) (hk:k≤1000) (hhi:∀j,j<qss.length→gs j<hi) (H0:QSoft w g gs qss) :
  Calls Tryz.prog 32 #[.slice (some ⟨g,0,none⟩) qss.length cap,.int .i64 k] w fun e w'=>e=.returned (.int .i64 (kAt k qss qss.length:Int))∧QOwn w' g gs (markedS k qss)∧Span g hi w w':=by
 have HKS:Hid (∀j qs,qss[j]?=some qs→kAt k qss (j+1)=kAt k qss j+qs.length*7):=fun _ _ h=>kAt_step h
 have HKL:Hid (∀j,j≤qss.length→kAt k qss j≤k+j*7340032):=fun j hj=>kAt_le hz j hj
 have HZ:Hid (∀j qs,qss[j]?=some qs→gs j<hi):=fun j qs h=>hhi j (List.getElem?_eq_some_iff.1 h).1
 have HM:Hid (∀wr,QSoft wr g gs qss→(∀i qs,i<qss.length→qss[i]?=some qs→Laid wr (gs i) 7 Qd.vals (markedQ (kAt k qss i) qs.length) qs.length)→QOwn wr g gs (markedS k qss)):=by
  intro wr S L
  have at_:∀j qs,(markedS k qss)[j]?=some qs→∃q0,qss[j]?=some q0∧qs=markedQ (kAt k qss j) q0.length:=by
   intro j qs h
   have hj:=(List.getElem?_eq_some_iff.1 h).1
   rw [markedS_len] at hj
   obtain⟨q0,h0⟩:=some_of_lt hj
   rw [markedS_at h0] at h
   exact⟨q0,h0,(Option.some.inj h).symm⟩
  refine⟨by rw [markedS_len];exact S.own,fun j qs h=>?_,fun j hj=>S.up j (by rwa [markedS_len] at hj),fun j l hjl hl=>S.apart j l hjl (by rwa [markedS_len] at hl),fun j qs h=>?_⟩
  ·obtain⟨q0,h0,rfl⟩:=at_ j qs h
   rw [markedQ_len]
   exact S.hdr j q0 h0
  ·obtain⟨q0,h0,rfl⟩:=at_ j qs h
   rw [markedQ_len]
   exact⟨S.row j q0 h0,L j q0 (List.getElem?_eq_some_iff.1 h0).1 h0⟩
 go_enter Tryz.func32,Tryz.ntmps32
 go_wp2_with fail
 go_loopw [1,5] (fun y x wr=>∃j q:Nat,j≤qss.length∧x=.int .i64 j∧y=.int .i64 (q:Int)∧Hid (q=kAt k qss j)∧QSoft wr g gs qss∧Hid (∀i qs,i<j→qss[i]?=some qs→Laid wr (gs i) 7 Qd.vals (markedQ (kAt k qss i) qs.length) qs.length)∧Span g hi w wr) (fun _ x _=>qss.length - (intOf x).toNat)
 case atStart=>exact ⟨0,k,Nat.zero_le _,rfl,rfl,rfl,H0,fun i _ h=>absurd h (Nat.not_lt_zero _),Span.refl _ _ _⟩
 case round=>
  obtain⟨j,q,hj,rfl,rfl,HQ,hS,HL,hP⟩:=hrel
  clear H0
  by_cases hlt:j<qss.length
  ·obtain⟨qs,hp⟩:=some_of_lt hlt
   have hzq:=hz qs (List.mem_of_getElem? hp)
   have hh:=hS.hdr j qs hp
   have hqb:q≤1125899900000000:=by have h1:=HKL.out j hj;have h2:=HQ.out;omega
   have hup:=hS.up j hlt
   have hhi2:=HZ.out j qs hp
   clear hz
   go_wp2_with fail
   refine (markQInsS_any (gs j) qs.length qs.length q wr hzq (by omega) (hS.row j qs hp)).mono ?_
   rintro e w1 ⟨rfl,o1,l1,ho⟩
   have S1:=hS.only ho hup (hS.row j qs hp) o1
   have P1:=hP.only ho (Nat.le_of_lt hup) hhi2
   have HQ1:Hid (q+qs.length*7=kAt k qss (j+1)):=by show _=_;rw [HKS.out j qs hp,HQ.out]
   have HL1:Hid (∀i qs,i<j+1→qss[i]?=some qs→Laid w1 (gs i) 7 Qd.vals (markedQ (kAt k qss i) qs.length) qs.length):=by
    intro i ys hi hy
    by_cases e:i=j
    ·subst e
     obtain rfl:=Option.some.inj (hp.symm.trans hy)
     rw [←HQ.out]
     exact l1
    ·exact Laid.only (HL.out i ys (by omega) hy) ho (Nat.ne_of_lt (hS.apart i j (by omega) hlt)) (hS.row i ys hy).lt
   clear hh ho l1 o1 hS HL hP HQ
   go_wp2_with fail
   go_roundw
   case rel=>exact ⟨j+1,q+qs.length*7,by omega,by go_num,rfl,HQ1.out,S1,HL1.out,P1⟩
   case measure=>simp [intOf];omega
  ·go_wp2_with fail
   go_ret
   obtain rfl:j=qss.length:=by omega
   exact⟨by rw [HQ.out];rfl,HM.out _ hS HL.out,hP⟩
set_option maxRecDepth 100000 in
set_option maxHeartbeats 800000 in
theorem heldQProtoS_any (ao:Option Addr) (cap k:Nat) (qss:List (List Qd)) (w:World) (hm:qss.length≤1048576) (hz:∀qs ∈ qss,qs.length≤1048576) (hk:k≤1000) (hq:QpsAt 0 w ao (markedS k qss)) :
  Calls Tryz.prog 33 #[.slice ao qss.length cap,.int .i64 k] w fun e w'=>e=.returned (.int .i64 (kAt k qss qss.length:Int))∧Below w.heap.size w w':=by
 have HKS:Hid (∀j qs,qss[j]?=some qs→kAt k qss (j+1)=kAt k qss j+qs.length*7):=fun _ _ h=>kAt_step h
 have HKL:Hid (∀j,j≤qss.length→kAt k qss j≤k+j*7340032):=fun j hj=>kAt_le hz j hj
 go_enter Tryz.func33,Tryz.ntmps33
 go_wp2_with fail
 go_loopw [1,5] (fun y x wr=>∃j q:Nat,j≤qss.length∧x=.int .i64 j∧y=.int .i64 (q:Int)∧Hid (q=kAt k qss j)∧Below w.heap.size w wr) (fun _ x _=>qss.length - (intOf x).toNat)
 case atStart=>exact ⟨0,k,Nat.zero_le _,rfl,rfl,rfl,Below.refl _ _⟩
 case round=>
  obtain⟨j,q,hj,rfl,rfl,HQ,hb⟩:=hrel
  by_cases hlt:j<qss.length
  ·obtain⟨qs,hp⟩:=some_of_lt hlt
   have hzq:=hz qs (List.mem_of_getElem? hp)
   obtain⟨b,off,rfl,_,hbl,io,ic,h1,h2⟩:=hq.later (Keeps.of_below hb) j _ (markedS_at hp)
   rw [markedQ_len,Nat.mul_one] at h1
   rw [←HQ.out] at h2
   have hqb:q≤1125899900000000:=by have h1:=HKL.out j hj;have h2:=HQ.out;omega
   clear hz hq
   go_wp2_with fail
   refine (heldQInsS_any io qs.length ic q wr hzq (by omega) h2).mono ?_
   rintro e w1 ⟨rfl,hw1⟩
   have B1:=hb.trans (hw1.mono hb.size)
   have HQ1:Hid (q+qs.length*7=kAt k qss (j+1)):=by show _=_;rw [HKS.out j qs hp,HQ.out]
   have k1:¬((q+qs.length*7:Nat):Int)<0:=by omega
   clear h1 h2 hw1 HQ
   go_wp2_with fail
   go_roundw
   case rel=>exact ⟨j+1,q+qs.length*7,by omega,by go_num,rfl,HQ1.out,B1⟩
   case measure=>simp [intOf];omega
  ·go_wp2_with fail
   go_ret
   obtain rfl:j=qss.length:=by omega
   exact⟨by rw [HQ.out];rfl,hb⟩
set_option maxHeartbeats 400000 in
theorem markQuick_any (g cap hi:Nat) (c:Int) (gs:Nat→Nat) (qss:List (List Qd)) (w:World) (hm:qss.length≤1048576) (hz:∀qs ∈ qss,qs.length≤1048576) (hhi:∀j,j<qss.length→gs j<hi) (H0:QOwn w g gs qss) :
  Calls Tryz.prog 16 #[.agg #[.slice (some ⟨g,0,none⟩) qss.length cap,.int .i64 c],.int .i64 1] w fun e w'=>e=.returned (.int .i64 (kAt 1 qss qss.length:Int))∧QOwn w' g gs (markedS 1 qss)∧Span g hi w w':=by
 have hb1:∀o,Below w.heap.size w (w.alloc o):=fun o=>(Below.refl _ _).alloc (Nat.le_refl _) o
 go_enter Tryz.func16,Tryz.ntmps16
 go_wp2_with fail
 refine (markQProtoS_any g cap 1 hi gs qss _ hm hz (by omega) hhi (H0.later (Keeps.of_below (hb1 _))).soft).mono ?_
 rintro e w1 ⟨rfl,hO,hS⟩
 go_wp2_with fail
 go_ret
 refine⟨rfl,hO,hS.os,hS.tape,hS.output,Nat.le_trans (hb1 _).size hS.size,fun b hb hl=>?_⟩
 exact (hS.block b hb (by simp;omega)).trans ((hb1 _).block b hl)
set_option maxHeartbeats 400000 in
theorem heldQuick_any (ao:Option Addr) (cap:Nat) (c:Int) (qss:List (List Qd)) (w:World) (hm:qss.length≤1048576) (hz:∀qs ∈ qss,qs.length≤1048576) (hq:QpsAt 0 w ao (markedS 1 qss)) :
  Calls Tryz.prog 17 #[.agg #[.slice ao qss.length cap,.int .i64 c],.int .i64 1] w fun e w'=>e=.returned (.int .i64 (kAt 1 qss qss.length:Int))∧Below w.heap.size w w':=by
 have hb1:∀o,Below w.heap.size w (w.alloc o):=fun o=>(Below.refl _ _).alloc (Nat.le_refl _) o
 go_enter Tryz.func17,Tryz.ntmps17
 go_wp2_with fail
 refine (heldQProtoS_any ao cap 1 qss _ hm hz (by omega) (hq.later (Keeps.of_below (hb1 _)))).mono ?_
 rintro e w1 ⟨rfl,hw1⟩
 have B1:=(hb1 _).trans (hw1.mono (by simp))
 have k1:¬((kAt 1 qss qss.length:Nat):Int)<0:=by omega
 generalize hq2:kAt 1 qss qss.length=q at *
 go_wp2_with fail
 go_ret
 exact⟨by rw [hq2];rfl,B1⟩
set_option maxHeartbeats 400000 in
theorem markQuick_none (ao:Option Addr) (cap:Nat) (c:Int) (w:World) :
  Calls Tryz.prog 16 #[.agg #[.slice ao 0 cap,.int .i64 c],.int .i64 1] w fun e w'=>e=.returned (.int .i64 1)∧Below w.heap.size w w':=by
 have hb1:∀o,Below w.heap.size w (w.alloc o):=fun o=>(Below.refl _ _).alloc (Nat.le_refl _) o
 have hp:∀W,Calls Tryz.prog 32 #[.slice ao 0 cap,.int .i64 1] W fun e w'=>e=.returned (.int .i64 1)∧Below W.heap.size W w':=by
  intro W
  go_enter Tryz.func32,Tryz.ntmps32
  go_wp2_with fail
  go_loopw [1,5] (fun y x wr=>x=.int .i64 0∧y=.int .i64 1∧Below W.heap.size W wr) (fun _ x _=>0)
  case atStart=>exact ⟨rfl,rfl,Below.refl _ _⟩
  case round=>
   obtain⟨rfl,rfl,hb⟩:=hrel
   go_wp2_with fail
   go_ret
   exact⟨rfl,hb⟩
 go_enter Tryz.func16,Tryz.ntmps16
 go_wp2_with fail
 refine (hp _).mono ?_
 rintro e w1 ⟨rfl,hw1⟩
 have B1:=(hb1 _).trans (hw1.mono (by simp))
 go_wp2_with fail
 go_ret
 exact⟨rfl,B1⟩
end Go.Proofs.YtaakadmnhpboiaaGreatDoor
