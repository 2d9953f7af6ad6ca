import Derived.Test.YtaakadmnhpboiaaGreatDoorM01
namespace Go.Proofs.YtaakadmnhpboiaaGreatDoor
open Go.RowKit Go.Deep
attribute [local go_sem] run_store_float
theorem run_make_k {P:Program} (t e:TypeId) (z:Value) (size bytes:Nat) (ht:P.underlying t=some (.slice e)) (hinfo:(P.info? e).map (fun i=>(i.zero,i.size,i.bytes))=some (some z,size,bytes))
  (kl kc:IntKind) (n:Nat) (hbytes:bytes * n≤281474976710656) (h63:n≤9223372036854775807) (w:World) :
  (Instr.makeSlice t (.int kl (n:Int)) (.int kc (n:Int))).run P w=.ok (.slice (some ⟨w.heap.size,0,none⟩) n n) (w.alloc (.cells (madeCells z.cells (n * size)) e)):=by
 obtain⟨i,hi,hzz⟩:=Option.map_eq_some_iff.1 hinfo
 simp only [Prod.mk.injEq] at hzz
 obtain⟨hz,hs,hb⟩:=hzz
 have hb':(i.bytes:Int) * (n:Int)≤281474976710656:=by
  have h:((i.bytes * n:Nat):Int)≤281474976710656:=by rw [hb];omega
  rwa [Int.natCast_mul] at h
 have hr:=run_make (P:=P) w t e i z ht hi hz kl kc n n (by omega) (Int.le_refl _) hb' (by omega)
 simp only [Int.toNat_natCast,hs] at hr
 exact hr
def Own (w:World) (g:Nat) (t:TypeId) (n:Nat):Prop:=∃c:Array Value,w.heap[g]?=some (.cells c t (0,0))∧c.size=n
theorem Own.cell {w:World} {g:Nat} {t:TypeId} {n i:Nat} (h:Own w g t n) (hi:i<n):∃v,w.cell? ⟨g,i,none⟩=some v:=by
 obtain⟨c,hb,rfl⟩:=h
 exact⟨c[i],by simp [World.cell?,hb,hi]⟩
theorem Own.frozen {w:World} {g:Nat} {t:TypeId} {n:Nat} (h:Own w g t n) (i:Nat):w.frozen? ⟨g,i,none⟩=false:=by
 obtain⟨c,hb,_⟩:=h
 simp [World.frozen?,hb]
theorem Own.lt {w:World} {g:Nat} {t:TypeId} {n:Nat} (h:Own w g t n):g<w.heap.size:=by
 obtain⟨c,hb,_⟩:=h
 exact (Array.getElem?_eq_some_iff.1 hb).1
theorem Own.of_block {w w':World} {g:Nat} {t:TypeId} {n:Nat} (h:Own w g t n) (e:w'.heap[g]?=w.heap[g]?):Own w' g t n:=by
 obtain⟨c,hb,hn⟩:=h
 exact⟨c,e.trans hb,hn⟩
theorem Own.later {w w':World} {g:Nat} {t:TypeId} {n:Nat} (h:Own w g t n) (hb:Below w.heap.size w w'):Own w' g t n:=h.of_block (hb.block g h.lt)
theorem Own.set {w:World} {g:Nat} {t:TypeId} {n:Nat} (h:Own w g t n) (i:Nat) (v:Value):Own (w.setCell ⟨g,i,none⟩ v) g t n:=by
 obtain⟨c,hb,hn⟩:=h
 exact⟨c.setIfInBounds i v,by simp [World.setCell,Array.getElem?_modify,hb],by simpa using hn⟩
theorem Own.made (w:World) (zs:Array Value) (n:Nat) (t:TypeId):Own (w.alloc (.cells (madeCells zs n) t)) w.heap.size t n:=⟨_,blk_alloc_new _ _,size_madeCells _ _⟩
def Laid {α:Type} (w:World) (g m:Nat) (vals:α→List Value) (xs:List α) (k:Nat):Prop:=∀j y,j<k→xs[j]?=some y→∀i v,(vals y)[i]?=some v→w.cell? ⟨g,j * m+i,none⟩=some v
theorem Laid.zero {α:Type} (w:World) (g m:Nat) (vals:α→List Value) (xs:List α):Laid w g m vals xs 0:=fun _ _ h=>absurd h (Nat.not_lt_zero _)
theorem Laid.later {α:Type} {w w':World} {g m:Nat} {vals:α→List Value} {xs:List α} {k:Nat} (h:Laid w g m vals xs k) (hb:Below w.heap.size w w') (hg:g<w.heap.size):Laid w' g m vals xs k:=
 fun j y hj hy i v hv=>(hb.cell (p:=⟨g,j * m+i,none⟩) hg).trans (h j y hj hy i v hv)
theorem Own.sets {g:Nat} {t:TypeId} {n:Nat} : ∀(vs:List Value) (o:Nat) {w:World},Own w g t n→Own (w.setCells g o vs) g t n
 | [],_,_,h=>h
 | v::r,o,_,h=>Own.sets r (o+1) (h.set o v)
theorem Below.sets {B g:Nat} : ∀(vs:List Value) (o:Nat) {a w:World},Below B a w→B≤g→Below B a (w.setCells g o vs)
 | [],_,_,_,h,_=>h
 | v::r,o,_,_,h,hg=>Below.sets r (o+1) (h.setCell (p:=⟨g,o,none⟩) hg v) hg
theorem Laid.step {α:Type} {w:World} {g m n k:Nat} {t:TypeId} {vals:α→List Value} {xs:List α} {x:α} (h:Laid w g m vals xs k) (own:Own w g t n) (hn:k * m+m≤n) (hlen:∀y,(vals y).length=m) (hx:xs[k]?=some x) :
  Laid (w.setCells g (k * m) (vals x)) g m vals xs (k+1):=by
 intro j y hj hy i v hv
 have hi:i<m:=by rw [←hlen y];exact (List.getElem?_eq_some_iff.1 hv).1
 by_cases e:j=k
 ·subst e
  obtain rfl:x=y:=Option.some.inj (hx.symm.trans hy)
  obtain⟨hi',hv'⟩:=List.getElem?_eq_some_iff.1 hv
  rw [World.cell?_setCells_in g (vals x) (j * m) w (fun i hi2=>by
   rw [hlen] at hi2
   obtain⟨u,hu⟩:=own.cell (i:=j * m+i) (by omega)
   rw [hu];rfl) i hi',hv']
 ·have hlt:j<k:=by omega
  have:(j+1) * m≤k * m:=Nat.mul_le_mul_right m hlt
  rw [Nat.add_mul,Nat.one_mul] at this
  rw [World.cell?_setCells_out g (vals x) (k * m) w _ (fun _ _=>Or.inl (by show j * m+i<k * m;omega))]
  exact h j y hlt hy i v hv
def Blk (w:World) (b:Nat) (arr:Array Value) (t:TypeId):Prop:=w.heap[b]?=some (.cells arr t (0,0))
theorem Blk.new (w:World) (arr:Array Value) (t:TypeId):Blk (w.alloc (.cells arr t)) w.heap.size arr t:=blk_alloc_new _ _
theorem Blk.lt {w:World} {b:Nat} {arr:Array Value} {t:TypeId} (h:Blk w b arr t):b<w.heap.size:=(Array.getElem?_eq_some_iff.1 h).1
theorem Blk.alloc {w:World} {b:Nat} {arr:Array Value} {t:TypeId} (h:Blk w b arr t) (o:Obj):Blk (w.alloc o) b arr t:=(blk_alloc_lt _ _ _ h.lt).trans h
theorem Blk.later {w w':World} {b:Nat} {arr:Array Value} {t:TypeId} (h:Blk w b arr t) (hb:Below w.heap.size w w'):Blk w' b arr t:=(hb.block b h.lt).trans h
theorem Blk.set {w:World} {b:Nat} {arr:Array Value} {t:TypeId} (h:Blk w b arr t) (i:Nat) (v:Value):Blk (w.setCell ⟨b,i,none⟩ v) b (arr.setIfInBounds i v) t:=by
 unfold Blk at *
 simp [World.setCell,Array.getElem?_modify,h]
theorem Blk.setOther {w:World} {b:Nat} {arr:Array Value} {t:TypeId} (h:Blk w b arr t) {p:Addr} (hp:b≠p.block) (v:Value):Blk (w.setCell p v) b arr t:=(blk_setCell_other _ _ _ _ hp).trans h
theorem Blk.cell {w:World} {b:Nat} {arr:Array Value} {t:TypeId} (h:Blk w b arr t) (o:Nat):w.cell? ⟨b,o,none⟩=arr[o]?:=by unfold Blk at h;simp [World.cell?,h]
theorem Blk.frozen {w:World} {b:Nat} {arr:Array Value} {t:TypeId} (h:Blk w b arr t) (o:Nat):w.frozen? ⟨b,o,none⟩=false:=by unfold Blk at h;simp [World.frozen?,h]
theorem Tryz.info_Up:(Tryz.prog.info? 156).map (fun i=>(i.zero,i.size,i.bytes))=some (some (.agg #[.bool false,.int .i64 0]),2,16):=by kernel_rfl
set_option maxHeartbeats 400000 in
theorem toUp_any (u:Ud) (w:World):Calls Tryz.prog 138 #[u.val] w fun e w'=>e=.returned u.val∧Below w.heap.size w w':=by
 obtain⟨l,x⟩:=u
 dsimp only [Ud.val]
 go_enter Tryz.func138,Tryz.ntmps138
 go_wp2_with fail
 refine bodyPost_ret (v:=.agg #[.bool l,.int .i64 x]) (by simp [results,Tryz.results138,go_sem]) rfl ⟨rfl,?_⟩
 repeat (first | exact Below.refl _ _ | refine Below.alloc ?_ (by simp;try omega) _ | refine Below.setCell ?_ (by simp;try omega) _)
def Ud.vals (u:Ud):List Value:=[.bool u.loc,.int .i64 u.idx]
theorem Laid.ups {w:World} {g t n:Nat} {us:List Ud} (own:Own w g t n) (h:Laid w g 2 Ud.vals us us.length) {lo:Nat} (hl:lo≤g):UpsAt lo w (some ⟨g,0,none⟩) us:=by
 intro i u hi
 have hk:=(List.getElem?_eq_some_iff.1 hi).1
 have:=h i u hk hi
 refine⟨g,0,rfl,hl,own.lt,?_⟩
 rw [Nat.zero_add]
 exact⟨this 0 _ rfl,this 1 _ rfl⟩
set_option maxHeartbeats 400000 in
theorem toUpS_any (ao:Option Addr) (cap:Nat) (us:List Ud) (w:World) (hm:us.length≤1048576) (hu:UpsAt 0 w ao us) :
  Calls Tryz.prog 100 #[.slice ao us.length cap] w fun e w'=>e=.returned (.slice (some ⟨w.heap.size,0,none⟩) us.length us.length)∧UpsAt w.heap.size w' (some ⟨w.heap.size,0,none⟩) us∧Own w' w.heap.size 156 (us.length*2)∧Below w.heap.size w w':=by
 have hmk:=run_make_k (P:=Tryz.prog) 52 156 _ 2 16 Tryz.underlying52 Tryz.info_Up .i64 .i64 us.length (by omega) (by omega)
 go_enter Tryz.func100,Tryz.ntmps100
 go_wp2_with fail
 clear hmk
 go_loopw [4] (fun i wr=>∃k:Nat,k≤us.length∧i=.int .i64 k∧Own wr w.heap.size 156 (us.length*2)∧Laid wr w.heap.size 2 Ud.vals us k∧Below w.heap.size w wr) (fun i _=>us.length - (intOf i).toNat)
 case atStart=>exact ⟨0,Nat.zero_le _,rfl,Own.made _ _ _ _,Laid.zero _ _ _ _ _,(Below.refl _ _).alloc (Nat.le_refl _) _⟩
 case round=>
  obtain⟨k,hk,rfl,hown,hdone,hb⟩:=hrel
  by_cases hlt:k<us.length
  ·obtain⟨u,huk⟩:=some_of_lt hlt
   obtain⟨b,off,rfl,_,hbl,p0,p1⟩:=hu.later (Keeps.of_below hb) k u huk
   clear hu
   go_wp2_with fail
   refine (toUp_any u _).mono ?_
   rintro e w1 ⟨rfl,hw1⟩
   have own1:=hown.later hw1
   have done1:=hdone.later hw1 hown.lt
   have B1:=hb.trans (hw1.mono hb.size)
   have R1:=own1.sets u.vals (k*2)
   have R2:=done1.step own1 (by omega) (fun _=>rfl) huk
   have R3:=Below.sets u.vals (k*2) B1 (Nat.le_refl _)
   have hn:k*2+2≤us.length*2:=by omega
   obtain⟨v0,c0⟩:=own1.cell (i:=k*2) (by omega)
   obtain⟨v1,c1⟩:=own1.cell (i:=k*2+1) (by omega)
   have f0:=own1.frozen (k*2)
   have f1:=own1.frozen (k*2+1)
   clear hown hdone hb own1 done1 B1 hw1 p0 p1
   unfold Ud.val
   go_wp2_with fail
   go_roundw
   case rel=>exact ⟨k+1,by omega,by go_num,R1,R2,R3⟩
   case measure=>simp [intOf];omega
  ·go_wp2_with fail
   go_ret
   obtain rfl:k=us.length:=by omega
   exact⟨rfl,hdone.ups hown (Nat.le_refl _),hown,hb⟩
theorem Tryz.info_Value:(Tryz.prog.info? 153).map (fun i=>(i.zero,i.size,i.bytes))=some (some (.agg #[.int .i64 0,.int .i64 0,.float .f64 0,.string ByteArray.empty,.int .i64 0]),5,48):=by kernel_rfl
set_option maxHeartbeats 400000 in
theorem toValue_any (u:Vd) (w:World):Calls Tryz.prog 139 #[u.val] w fun e w'=>e=.returned u.val∧Below w.heap.size w w':=by
 obtain⟨x0,x1,x2,x3,x4⟩:=u
 dsimp only [Vd.val]
 go_enter Tryz.func139,Tryz.ntmps139
 go_wp2_with fail
 refine bodyPost_ret (v:=.agg #[.int .i64 x0,.int .i64 x1,.float .f64 x2,.string x3,.int .i64 x4]) (by simp [results,Tryz.results139,go_sem]) rfl ⟨rfl,?_⟩
 repeat (first | exact Below.refl _ _ | refine Below.alloc ?_ (by simp;try omega) _ | refine Below.setCell ?_ (by simp;try omega) _)
def Vd.vals (u:Vd):List Value:=[.int .i64 u.kind,.int .i64 u.num,.float .f64 u.flt,.string u.str,.int .i64 u.ref]
theorem Laid.vals {w:World} {g t n:Nat} {us:List Vd} (own:Own w g t n) (h:Laid w g 5 Vd.vals us us.length) {lo:Nat} (hl:lo≤g):ValsAt lo w (some ⟨g,0,none⟩) us:=by
 intro i u hi
 have hk:=(List.getElem?_eq_some_iff.1 hi).1
 have:=h i u hk hi
 refine⟨g,0,rfl,hl,own.lt,?_⟩
 rw [Nat.zero_add]
 exact⟨this 0 _ rfl,this 1 _ rfl,this 2 _ rfl,this 3 _ rfl,this 4 _ rfl⟩
set_option maxHeartbeats 400000 in
theorem toValueS_any (ao:Option Addr) (cap:Nat) (us:List Vd) (w:World) (hm:us.length≤1048576) (hu:ValsAt 0 w ao us) :
  Calls Tryz.prog 101 #[.slice ao us.length cap] w fun e w'=>e=.returned (.slice (some ⟨w.heap.size,0,none⟩) us.length us.length)∧ValsAt w.heap.size w' (some ⟨w.heap.size,0,none⟩) us∧Own w' w.heap.size 153 (us.length*5)∧Below w.heap.size w w':=by
 have hmk:=run_make_k (P:=Tryz.prog) 53 153 _ 5 48 Tryz.underlying53 Tryz.info_Value .i64 .i64 us.length (by omega) (by omega)
 go_enter Tryz.func101,Tryz.ntmps101
 go_wp2_with fail
 clear hmk
 go_loopw [4] (fun i wr=>∃k:Nat,k≤us.length∧i=.int .i64 k∧Own wr w.heap.size 153 (us.length*5)∧Laid wr w.heap.size 5 Vd.vals us k∧Below w.heap.size w wr) (fun i _=>us.length - (intOf i).toNat)
 case atStart=>exact ⟨0,Nat.zero_le _,rfl,Own.made _ _ _ _,Laid.zero _ _ _ _ _,(Below.refl _ _).alloc (Nat.le_refl _) _⟩
 case round=>
  obtain⟨k,hk,rfl,hown,hdone,hb⟩:=hrel
  by_cases hlt:k<us.length
  ·obtain⟨u,huk⟩:=some_of_lt hlt
   obtain⟨b,off,rfl,_,hbl,p0,p1,p2,p3,p4⟩:=hu.later (Keeps.of_below hb) k u huk
   clear hu
   go_wp2_with fail
   refine (toValue_any u _).mono ?_
   rintro e w1 ⟨rfl,hw1⟩
   have own1:=hown.later hw1
   have done1:=hdone.later hw1 hown.lt
   have B1:=hb.trans (hw1.mono hb.size)
   have R1:=own1.sets u.vals (k*5)
   have R2:=done1.step own1 (by omega) (fun _=>rfl) huk
   have R3:=Below.sets u.vals (k*5) B1 (Nat.le_refl _)
   have hn:k*5+5≤us.length*5:=by omega
   obtain⟨v0,c0⟩:=own1.cell (i:=k*5) (by omega)
   obtain⟨v1,c1⟩:=own1.cell (i:=k*5+1) (by omega)
   obtain⟨v2,c2⟩:=own1.cell (i:=k*5+2) (by omega)
   obtain⟨v3,c3⟩:=own1.cell (i:=k*5+3) (by omega)
   obtain⟨v4,c4⟩:=own1.cell (i:=k*5+4) (by omega)
   have f0:=own1.frozen (k*5)
   have f1:=own1.frozen (k*5+1)
   have f2:=own1.frozen (k*5+2)
   have f3:=own1.frozen (k*5+3)
   have f4:=own1.frozen (k*5+4)
   clear hown hdone hb own1 done1 B1 hw1 p0 p1 p2 p3 p4
   unfold Vd.val
   go_wp2_with fail
   go_roundw
   case rel=>exact ⟨k+1,by omega,by go_num,R1,R2,R3⟩
   case measure=>simp [intOf];omega
  ·go_wp2_with fail
   go_ret
   obtain rfl:k=us.length:=by omega
   exact⟨rfl,hdone.vals hown (Nat.le_refl _),hown,hb⟩
theorem Tryz.info_Ins:(Tryz.prog.info? 93).map (fun i=>(i.zero,i.size,i.bytes))=some (some (.agg #[.int .i64 0,.int .i64 0,.int .i64 0,.int .i64 0,.int .i64 0]),5,40):=by kernel_rfl
set_option maxHeartbeats 400000 in
theorem toIns_any (u:Nd) (w:World):Calls Tryz.prog 140 #[u.val] w fun e w'=>e=.returned u.val∧Below w.heap.size w w':=by
 obtain⟨x0,x1,x2,x3,x4⟩:=u
 dsimp only [Nd.val]
 go_enter Tryz.func140,Tryz.ntmps140
 go_wp2_with fail
 refine bodyPost_ret (v:=.agg #[.int .i64 x0,.int .i64 x1,.int .i64 x2,.int .i64 x3,.int .i64 x4]) (by simp [results,Tryz.results140,go_sem]) rfl ⟨rfl,?_⟩
 repeat (first | exact Below.refl _ _ | refine Below.alloc ?_ (by simp;try omega) _ | refine Below.setCell ?_ (by simp;try omega) _)
def Nd.vals (u:Nd):List Value:=[.int .i64 u.op,.int .i64 u.a,.int .i64 u.b,.int .i64 u.c,.int .i64 u.d]
theorem Laid.inss {w:World} {g t n:Nat} {us:List Nd} (own:Own w g t n) (h:Laid w g 5 Nd.vals us us.length) {lo:Nat} (hl:lo≤g):InssAt lo w (some ⟨g,0,none⟩) us:=by
 intro i u hi
 have hk:=(List.getElem?_eq_some_iff.1 hi).1
 have:=h i u hk hi
 refine⟨g,0,rfl,hl,own.lt,?_⟩
 rw [Nat.zero_add]
 exact⟨this 0 _ rfl,this 1 _ rfl,this 2 _ rfl,this 3 _ rfl,this 4 _ rfl⟩
set_option maxHeartbeats 400000 in
theorem toInsS_any (ao:Option Addr) (cap:Nat) (us:List Nd) (w:World) (hm:us.length≤1048576) (hu:InssAt 0 w ao us) :
  Calls Tryz.prog 102 #[.slice ao us.length cap] w fun e w'=>e=.returned (.slice (some ⟨w.heap.size,0,none⟩) us.length us.length)∧InssAt w.heap.size w' (some ⟨w.heap.size,0,none⟩) us∧Own w' w.heap.size 93 (us.length*5)∧Below w.heap.size w w':=by
 have hmk:=run_make_k (P:=Tryz.prog) 54 93 _ 5 40 Tryz.underlying54 Tryz.info_Ins .i64 .i64 us.length (by omega) (by omega)
 go_enter Tryz.func102,Tryz.ntmps102
 go_wp2_with fail
 clear hmk
 go_loopw [4] (fun i wr=>∃k:Nat,k≤us.length∧i=.int .i64 k∧Own wr w.heap.size 93 (us.length*5)∧Laid wr w.heap.size 5 Nd.vals us k∧Below w.heap.size w wr) (fun i _=>us.length - (intOf i).toNat)
 case atStart=>exact ⟨0,Nat.zero_le _,rfl,Own.made _ _ _ _,Laid.zero _ _ _ _ _,(Below.refl _ _).alloc (Nat.le_refl _) _⟩
 case round=>
  obtain⟨k,hk,rfl,hown,hdone,hb⟩:=hrel
  by_cases hlt:k<us.length
  ·obtain⟨u,huk⟩:=some_of_lt hlt
   obtain⟨b,off,rfl,_,hbl,p0,p1,p2,p3,p4⟩:=hu.later (Keeps.of_below hb) k u huk
   clear hu
   go_wp2_with fail
   refine (toIns_any u _).mono ?_
   rintro e w1 ⟨rfl,hw1⟩
   have own1:=hown.later hw1
   have done1:=hdone.later hw1 hown.lt
   have B1:=hb.trans (hw1.mono hb.size)
   have R1:=own1.sets u.vals (k*5)
   have R2:=done1.step own1 (by omega) (fun _=>rfl) huk
   have R3:=Below.sets u.vals (k*5) B1 (Nat.le_refl _)
   have hn:k*5+5≤us.length*5:=by omega
   obtain⟨v0,c0⟩:=own1.cell (i:=k*5) (by omega)
   obtain⟨v1,c1⟩:=own1.cell (i:=k*5+1) (by omega)
   obtain⟨v2,c2⟩:=own1.cell (i:=k*5+2) (by omega)
   obtain⟨v3,c3⟩:=own1.cell (i:=k*5+3) (by omega)
   obtain⟨v4,c4⟩:=own1.cell (i:=k*5+4) (by omega)
   have f0:=own1.frozen (k*5)
   have f1:=own1.frozen (k*5+1)
   have f2:=own1.frozen (k*5+2)
   have f3:=own1.frozen (k*5+3)
   have f4:=own1.frozen (k*5+4)
   clear hown hdone hb own1 done1 B1 hw1 p0 p1 p2 p3 p4
   unfold Nd.val
   go_wp2_with fail
   go_roundw
   case rel=>exact ⟨k+1,by omega,by go_num,R1,R2,R3⟩
   case measure=>simp [intOf];omega
  ·go_wp2_with fail
   go_ret
   obtain rfl:k=us.length:=by omega
   exact⟨rfl,hdone.inss hown (Nat.le_refl _),hown,hb⟩
theorem Tryz.info_Named:(Tryz.prog.info? 170).map (fun i=>(i.zero,i.size,i.bytes))=some (some (.agg #[.string ByteArray.empty,.int .i64 0,.int .i64 0,.int .i64 0]),4,40):=by kernel_rfl
set_option maxHeartbeats 400000 in
theorem toNamed_any (u:Md) (w:World):Calls Tryz.prog 141 #[u.val] w fun e w'=>e=.returned u.val∧Below w.heap.size w w':=by
 obtain⟨x0,x1,x2,x3⟩:=u
 dsimp only [Md.val]
 go_enter Tryz.func141,Tryz.ntmps141
 go_wp2_with fail
 refine bodyPost_ret (v:=.agg #[.string x0,.int .i64 x1,.int .i64 x2,.int .i64 x3]) (by simp [results,Tryz.results141,go_sem]) rfl ⟨rfl,?_⟩
 repeat (first | exact Below.refl _ _ | refine Below.alloc ?_ (by simp;try omega) _ | refine Below.setCell ?_ (by simp;try omega) _)
def Md.vals (u:Md):List Value:=[.string u.name,.int .i64 u.reg,.int .i64 u.fr,.int .i64 u.to]
theorem Laid.nams {w:World} {g t n:Nat} {us:List Md} (own:Own w g t n) (h:Laid w g 4 Md.vals us us.length) {lo:Nat} (hl:lo≤g):NamsAt lo w (some ⟨g,0,none⟩) us:=by
 intro i u hi
 have hk:=(List.getElem?_eq_some_iff.1 hi).1
 have:=h i u hk hi
 refine⟨g,0,rfl,hl,own.lt,?_⟩
 rw [Nat.zero_add]
 exact⟨this 0 _ rfl,this 1 _ rfl,this 2 _ rfl,this 3 _ rfl⟩
set_option maxHeartbeats 400000 in
theorem toNamedS_any (ao:Option Addr) (cap:Nat) (us:List Md) (w:World) (hm:us.length≤1048576) (hu:NamsAt 0 w ao us) :
  Calls Tryz.prog 103 #[.slice ao us.length cap] w fun e w'=>e=.returned (.slice (some ⟨w.heap.size,0,none⟩) us.length us.length)∧NamsAt w.heap.size w' (some ⟨w.heap.size,0,none⟩) us∧Own w' w.heap.size 170 (us.length*4)∧Below w.heap.size w w':=by
 have hmk:=run_make_k (P:=Tryz.prog) 55 170 _ 4 40 Tryz.underlying55 Tryz.info_Named .i64 .i64 us.length (by omega) (by omega)
 go_enter Tryz.func103,Tryz.ntmps103
 go_wp2_with fail
 clear hmk
 go_loopw [4] (fun i wr=>∃k:Nat,k≤us.length∧i=.int .i64 k∧Own wr w.heap.size 170 (us.length*4)∧Laid wr w.heap.size 4 Md.vals us k∧Below w.heap.size w wr) (fun i _=>us.length - (intOf i).toNat)
 case atStart=>exact ⟨0,Nat.zero_le _,rfl,Own.made _ _ _ _,Laid.zero _ _ _ _ _,(Below.refl _ _).alloc (Nat.le_refl _) _⟩
 case round=>
  obtain⟨k,hk,rfl,hown,hdone,hb⟩:=hrel
  by_cases hlt:k<us.length
  ·obtain⟨u,huk⟩:=some_of_lt hlt
   obtain⟨b,off,rfl,_,hbl,p0,p1,p2,p3⟩:=hu.later (Keeps.of_below hb) k u huk
   clear hu
   go_wp2_with fail
   refine (toNamed_any u _).mono ?_
   rintro e w1 ⟨rfl,hw1⟩
   have own1:=hown.later hw1
   have done1:=hdone.later hw1 hown.lt
   have B1:=hb.trans (hw1.mono hb.size)
   have R1:=own1.sets u.vals (k*4)
   have R2:=done1.step own1 (by omega) (fun _=>rfl) huk
   have R3:=Below.sets u.vals (k*4) B1 (Nat.le_refl _)
   have hn:k*4+4≤us.length*4:=by omega
   obtain⟨v0,c0⟩:=own1.cell (i:=k*4) (by omega)
   obtain⟨v1,c1⟩:=own1.cell (i:=k*4+1) (by omega)
   obtain⟨v2,c2⟩:=own1.cell (i:=k*4+2) (by omega)
   obtain⟨v3,c3⟩:=own1.cell (i:=k*4+3) (by omega)
   have f0:=own1.frozen (k*4)
   have f1:=own1.frozen (k*4+1)
   have f2:=own1.frozen (k*4+2)
   have f3:=own1.frozen (k*4+3)
   clear hown hdone hb own1 done1 B1 hw1 p0 p1 p2 p3
   unfold Md.val
   go_wp2_with fail
   go_roundw
   case rel=>exact ⟨k+1,by omega,by go_num,R1,R2,R3⟩
   case measure=>simp [intOf];omega
  ·go_wp2_with fail
   go_ret
   obtain rfl:k=us.length:=by omega
   exact⟨rfl,hdone.nams hown (Nat.le_refl _),hown,hb⟩
end Go.Proofs.YtaakadmnhpboiaaGreatDoor
