import Derived.Test.YtgopdffmnikhdaaGreatDoorProg
import Derived.WalkKit
import Derived.WalkSpells
import Derived.WalkLawsBesides
import Derived.Deep.QuietTactic
import Derived.BigQuiet
import Derived.Deep.OwnRows
import Derived.Deep.RegionHeld3
namespace Go.Proofs.YtgopdffmnikhdaaGreatDoor
open Go.RowKit Go.Deep
theorem ret_bool {a b:Bool} (h:a=b):Ending.returned (.bool a)=.returned (.bool b):=by rw [h]
theorem ret_int {k:IntKind} {a b:Int} (h:a=b):Ending.returned (.int k a)=.returned (.int k b):=by rw [h]
theorem bcell {W w1:World} (hb:Below W.heap.size W w1):(∀b o,b<W.heap.size→w1.cell? ⟨b,o,none⟩=W.cell? ⟨b,o,none⟩)∧(∀b o,b<W.heap.size→w1.frozen? ⟨b,o,none⟩=W.frozen? ⟨b,o,none⟩):=
 ⟨fun b o h=>hb.cell (p:=⟨b,o,none⟩) h,fun b o h=>hb.frozen (p:=⟨b,o,none⟩) h⟩
theorem run_store_float (P:Program) (w:World) (a:Addr) (m:Mode) (k:FloatKind) (n:Nat):(store a (.float k n) m).run P w=stored P w a (.float k n) m:=run_store P w a _ m rfl
structure Ud where
 loc:Bool
 idx:Int
structure Vd where
 kind:Int
 num:Int
 flt:Nat
 str:ByteArray
 ref:Int
structure Nd where
 op:Int
 a:Int
 b:Int
 c:Int
 d:Int
structure Md where
 name:ByteArray
 reg:Int
 fr:Int
 to:Int
structure Pd where
 name:ByteArray
 line:Int
 params:Int
 rest:Bool
 regs:Int
 ups:List Ud
 consts:List Vd
 ins:List Nd
 named:List Md
def Ud.val (u:Ud):Value:=.agg #[.bool u.loc,.int .i64 u.idx]
def Vd.val (v:Vd):Value:=.agg #[.int .i64 v.kind,.int .i64 v.num,.float .f64 v.flt,.string v.str,.int .i64 v.ref]
def Nd.val (n:Nd):Value:=.agg #[.int .i64 n.op,.int .i64 n.a,.int .i64 n.b,.int .i64 n.c,.int .i64 n.d]
def Md.val (m:Md):Value:=.agg #[.string m.name,.int .i64 m.reg,.int .i64 m.fr,.int .i64 m.to]
structure Keeps (lo:Nat) (w w':World):Prop where
 size:w.heap.size≤w'.heap.size
 block:∀k,lo≤k→k<w.heap.size→w'.heap[k]?=w.heap[k]?
theorem Keeps.of_below {lo:Nat} {w w':World} (h:Below w.heap.size w w'):Keeps lo w w':=⟨h.size,fun k _ hk=>h.block k hk⟩
theorem Keeps.refl (lo:Nat) (w:World):Keeps lo w w:=⟨Nat.le_refl _,fun _ _ _=>rfl⟩
theorem Keeps.trans {lo:Nat} {a b c:World} (h:Keeps lo a b) (k:Keeps lo b c):Keeps lo a c:=
 ⟨Nat.le_trans h.size k.size,fun i hl hi=>(k.block i hl (Nat.lt_of_lt_of_le hi h.size)).trans (h.block i hl hi)⟩
theorem Keeps.mono {lo lo':Nat} {a b:World} (h:Keeps lo a b) (hl:lo≤lo'):Keeps lo' a b:=⟨h.size,fun k hk hs=>h.block k (Nat.le_trans hl hk) hs⟩
theorem Keeps.setCell {lo:Nat} {a w:World} (h:Keeps lo a w) {p:Addr} (hp:p.block<lo) (u:Value):Keeps lo a (w.setCell p u):=
 h.trans ⟨by simp,fun k hk _=>Below.heap_setCell _ _ _ _ (by omega)⟩
theorem Keeps.alloc {lo:Nat} {a w:World} (h:Keeps lo a w) (o:Obj):Keeps lo a (w.alloc o):=
 h.trans ⟨by simp,fun k _ hs=>Below.heap_alloc _ _ _ hs⟩
theorem Keeps.cell {lo:Nat} {w w':World} (h:Keeps lo w w') {b o:Nat} (hl:lo≤b) (hb:b<w.heap.size):w'.cell? ⟨b,o,none⟩=w.cell? ⟨b,o,none⟩:=
 World.cell?_of_block (w:=w) (a:=⟨b,o,none⟩) (h.block b hl hb)
def AllAt {α:Type} (lo:Nat) (w:World) (ao:Option Addr) (k:Nat) (at_:Nat→Nat→α→Prop) (xs:List α):Prop:=
 ∀i x,xs[i]?=some x→∃b off,ao=some ⟨b,off,none⟩∧lo≤b∧b<w.heap.size∧at_ b (off+i * k) x
theorem AllAt.later {α:Type} {lo:Nat} {w w':World} {ao:Option Addr} {k:Nat} {at1 at2:Nat→Nat→α→Prop} {xs:List α} (h:AllAt lo w ao k at1 xs) (hk:Keeps lo w w')
  (hat:∀b o x,lo≤b→b<w.heap.size→x ∈ xs→at1 b o x→at2 b o x):AllAt lo w' ao k at2 xs:=by
 intro i x hx
 obtain⟨b,off,e,hl,hs,ha⟩:=h i x hx
 exact⟨b,off,e,hl,Nat.lt_of_lt_of_le hs hk.size,hat _ _ _ hl hs (List.mem_of_getElem? hx) ha⟩
theorem AllAt.lower {α:Type} {lo lo':Nat} {w:World} {ao:Option Addr} {k:Nat} {at1:Nat→Nat→α→Prop} {xs:List α} (h:AllAt lo w ao k at1 xs) (hl:lo'≤lo):AllAt lo' w ao k at1 xs:=by
 intro i x hx
 obtain⟨b,off,e,h1,hs,ha⟩:=h i x hx
 exact⟨b,off,e,Nat.le_trans hl h1,hs,ha⟩
def UpAt (w:World) (b o:Nat) (u:Ud):Prop:=w.cell? ⟨b,o,none⟩=some (.bool u.loc)∧w.cell? ⟨b,o+1,none⟩=some (.int .i64 u.idx)
def ValAt (w:World) (b o:Nat) (v:Vd):Prop:=w.cell? ⟨b,o,none⟩=some (.int .i64 v.kind)∧w.cell? ⟨b,o+1,none⟩=some (.int .i64 v.num)∧w.cell? ⟨b,o+2,none⟩=some (.float .f64 v.flt)∧w.cell? ⟨b,o+3,none⟩=some (.string v.str)∧w.cell? ⟨b,o+4,none⟩=some (.int .i64 v.ref)
def InsAt (w:World) (b o:Nat) (n:Nd):Prop:=w.cell? ⟨b,o,none⟩=some (.int .i64 n.op)∧w.cell? ⟨b,o+1,none⟩=some (.int .i64 n.a)∧w.cell? ⟨b,o+2,none⟩=some (.int .i64 n.b)∧w.cell? ⟨b,o+3,none⟩=some (.int .i64 n.c)∧w.cell? ⟨b,o+4,none⟩=some (.int .i64 n.d)
def NamAt (w:World) (b o:Nat) (m:Md):Prop:=w.cell? ⟨b,o,none⟩=some (.string m.name)∧w.cell? ⟨b,o+1,none⟩=some (.int .i64 m.reg)∧w.cell? ⟨b,o+2,none⟩=some (.int .i64 m.fr)∧w.cell? ⟨b,o+3,none⟩=some (.int .i64 m.to)
def UpsAt (lo:Nat) (w:World) (ao:Option Addr) (xs:List Ud):Prop:=AllAt lo w ao 2 (UpAt w) xs
def ValsAt (lo:Nat) (w:World) (ao:Option Addr) (xs:List Vd):Prop:=AllAt lo w ao 5 (ValAt w) xs
def InssAt (lo:Nat) (w:World) (ao:Option Addr) (xs:List Nd):Prop:=AllAt lo w ao 5 (InsAt w) xs
def NamsAt (lo:Nat) (w:World) (ao:Option Addr) (xs:List Md):Prop:=AllAt lo w ao 4 (NamAt w) xs
theorem UpsAt.later {lo:Nat} {w w':World} {ao:Option Addr} {xs:List Ud} (h:UpsAt lo w ao xs) (hk:Keeps lo w w'):UpsAt lo w' ao xs:=
 AllAt.later h hk (fun b o x hl hs _ ha=>by unfold UpAt;rw [hk.cell hl hs,hk.cell hl hs];exact ha)
theorem ValsAt.later {lo:Nat} {w w':World} {ao:Option Addr} {xs:List Vd} (h:ValsAt lo w ao xs) (hk:Keeps lo w w'):ValsAt lo w' ao xs:=
 AllAt.later h hk (fun b o x hl hs _ ha=>by unfold ValAt;rw [hk.cell hl hs,hk.cell hl hs,hk.cell hl hs,hk.cell hl hs,hk.cell hl hs];exact ha)
theorem InssAt.later {lo:Nat} {w w':World} {ao:Option Addr} {xs:List Nd} (h:InssAt lo w ao xs) (hk:Keeps lo w w'):InssAt lo w' ao xs:=
 AllAt.later h hk (fun b o x hl hs _ ha=>by unfold InsAt;rw [hk.cell hl hs,hk.cell hl hs,hk.cell hl hs,hk.cell hl hs,hk.cell hl hs];exact ha)
theorem NamsAt.later {lo:Nat} {w w':World} {ao:Option Addr} {xs:List Md} (h:NamsAt lo w ao xs) (hk:Keeps lo w w'):NamsAt lo w' ao xs:=
 AllAt.later h hk (fun b o x hl hs _ ha=>by unfold NamAt;rw [hk.cell hl hs,hk.cell hl hs,hk.cell hl hs,hk.cell hl hs];exact ha)
structure Ph where
 uo:Option Addr
 uc:Nat
 co:Option Addr
 cc:Nat
 io:Option Addr
 ic:Nat
 no:Option Addr
 nc:Nat
def Pd.cells (p:Pd) (h:Ph):Array Value:=#[.string p.name,.int .i64 p.line,.int .i64 p.params,.bool p.rest,.int .i64 p.regs,.slice h.uo p.ups.length h.uc,.slice h.co p.consts.length h.cc,.slice h.io p.ins.length h.ic,.slice h.no p.named.length h.nc]
structure PIn (lo:Nat) (w:World) (h:Ph) (p:Pd):Prop where
 ups:UpsAt lo w h.uo p.ups
 consts:ValsAt lo w h.co p.consts
 ins:InssAt lo w h.io p.ins
 named:NamsAt lo w h.no p.named
theorem PIn.later {lo:Nat} {w w':World} {h:Ph} {p:Pd} (x:PIn lo w h p) (hk:Keeps lo w w'):PIn lo w' h p:=⟨x.ups.later hk,x.consts.later hk,x.ins.later hk,x.named.later hk⟩
theorem PIn.lower {lo lo':Nat} {w:World} {h:Ph} {p:Pd} (x:PIn lo w h p) (hl:lo'≤lo):PIn lo' w h p:=⟨AllAt.lower x.ups hl,AllAt.lower x.consts hl,AllAt.lower x.ins hl,AllAt.lower x.named hl⟩
def NineAt (w:World) (b o:Nat) (h:Ph) (p:Pd):Prop:=
 w.cell? ⟨b,o,none⟩=some (.string p.name)∧w.cell? ⟨b,o+1,none⟩=some (.int .i64 p.line)∧w.cell? ⟨b,o+2,none⟩=some (.int .i64 p.params)∧w.cell? ⟨b,o+3,none⟩=some (.bool p.rest)∧w.cell? ⟨b,o+4,none⟩=some (.int .i64 p.regs)∧
  w.cell? ⟨b,o+5,none⟩=some (.slice h.uo p.ups.length h.uc)∧w.cell? ⟨b,o+6,none⟩=some (.slice h.co p.consts.length h.cc)∧w.cell? ⟨b,o+7,none⟩=some (.slice h.io p.ins.length h.ic)∧w.cell? ⟨b,o+8,none⟩=some (.slice h.no p.named.length h.nc)
def ProtoAt (lo:Nat) (w:World) (b o:Nat) (p:Pd):Prop:=∃h,NineAt w b o h p∧PIn lo w h p
def ProtosAt (lo:Nat) (w:World) (ao:Option Addr) (xs:List Pd):Prop:=AllAt lo w ao 9 (ProtoAt lo w) xs
theorem ProtosAt.later {lo:Nat} {w w':World} {ao:Option Addr} {xs:List Pd} (h:ProtosAt lo w ao xs) (hk:Keeps lo w w'):ProtosAt lo w' ao xs:=
 AllAt.later h hk (fun b o x hl hs _ ⟨g,ha,hp⟩=>⟨g,by unfold NineAt;rw [hk.cell hl hs,hk.cell hl hs,hk.cell hl hs,hk.cell hl hs,hk.cell hl hs,hk.cell hl hs,hk.cell hl hs,hk.cell hl hs,hk.cell hl hs];exact ha,hp.later hk⟩)
theorem drop_some {α:Type} {l:List α} {k:Nat} {x:α} (h:l[k]?=some x):l.drop k=x::l.drop (k+1):=by
 obtain⟨hk,rfl⟩:=List.getElem?_eq_some_iff.1 h
 exact List.drop_eq_getElem_cons hk
theorem some_of_lt {α:Type} {l:List α} {k:Nat} (h:k<l.length):∃x,l[k]?=some x:=⟨l[k],List.getElem?_eq_getElem h⟩
def I64 (x:Int):Prop:=-9223372036854775808≤x∧x≤9223372036854775807
attribute [local go_sem] run_store_float
theorem run_make_k {P:Program} (t e:TypeId) (z:Value) (size bytes:Nat) (ht:P.underlying t=some (.slice e)) (hinfo:(P.info? e).map (fun i=>(i.zero,i.size,i.bytes))=some (some z,size,bytes))
  (kl kc:IntKind) (n:Nat) (hbytes:bytes * n≤281474976710656) (h63:n≤9223372036854775807) (w:World) :
  (Instr.makeSlice t (.int kl (n:Int)) (.int kc (n:Int))).run P w=.ok (.slice (some ⟨w.heap.size,0,none⟩) n n) (w.alloc (.cells (madeCells z.cells (n * size)) e)):=by
 obtain⟨i,hi,hzz⟩:=Option.map_eq_some_iff.1 hinfo
 simp only [Prod.mk.injEq] at hzz
 obtain⟨hz,hs,hb⟩:=hzz
 have hb':(i.bytes:Int) * (n:Int)≤281474976710656:=by
  have h:((i.bytes * n:Nat):Int)≤281474976710656:=by rw [hb];omega
  rwa [Int.natCast_mul] at h
 have hr:=run_make (P:=P) w t e i z ht hi hz kl kc n n (by omega) (Int.le_refl _) hb' (by omega)
 simp only [Int.toNat_natCast,hs] at hr
 exact hr
def Own (w:World) (g:Nat) (t:TypeId) (n:Nat):Prop:=∃c:Array Value,w.heap[g]?=some (.cells c t (0,0))∧c.size=n
theorem Own.cell {w:World} {g:Nat} {t:TypeId} {n i:Nat} (h:Own w g t n) (hi:i<n):∃v,w.cell? ⟨g,i,none⟩=some v:=by
 obtain⟨c,hb,rfl⟩:=h
 exact⟨c[i],by simp [World.cell?,hb,hi]⟩
theorem Own.frozen {w:World} {g:Nat} {t:TypeId} {n:Nat} (h:Own w g t n) (i:Nat):w.frozen? ⟨g,i,none⟩=false:=by
 obtain⟨c,hb,_⟩:=h
 simp [World.frozen?,hb]
theorem Own.lt {w:World} {g:Nat} {t:TypeId} {n:Nat} (h:Own w g t n):g<w.heap.size:=by
 obtain⟨c,hb,_⟩:=h
 exact (Array.getElem?_eq_some_iff.1 hb).1
theorem Own.of_block {w w':World} {g:Nat} {t:TypeId} {n:Nat} (h:Own w g t n) (e:w'.heap[g]?=w.heap[g]?):Own w' g t n:=by
 obtain⟨c,hb,hn⟩:=h
 exact⟨c,e.trans hb,hn⟩
theorem Own.later {w w':World} {g:Nat} {t:TypeId} {n:Nat} (h:Own w g t n) (hb:Below w.heap.size w w'):Own w' g t n:=h.of_block (hb.block g h.lt)
theorem Own.set {w:World} {g:Nat} {t:TypeId} {n:Nat} (h:Own w g t n) (i:Nat) (v:Value):Own (w.setCell ⟨g,i,none⟩ v) g t n:=by
 obtain⟨c,hb,hn⟩:=h
 exact⟨c.setIfInBounds i v,by simp [World.setCell,Array.getElem?_modify,hb],by simpa using hn⟩
theorem Own.made (w:World) (zs:Array Value) (n:Nat) (t:TypeId):Own (w.alloc (.cells (madeCells zs n) t)) w.heap.size t n:=⟨_,blk_alloc_new _ _,size_madeCells _ _⟩
def Laid {α:Type} (w:World) (g m:Nat) (vals:α→List Value) (xs:List α) (k:Nat):Prop:=∀j y,j<k→xs[j]?=some y→∀i v,(vals y)[i]?=some v→w.cell? ⟨g,j * m+i,none⟩=some v
theorem Laid.zero {α:Type} (w:World) (g m:Nat) (vals:α→List Value) (xs:List α):Laid w g m vals xs 0:=fun _ _ h=>absurd h (Nat.not_lt_zero _)
theorem Laid.later {α:Type} {w w':World} {g m:Nat} {vals:α→List Value} {xs:List α} {k:Nat} (h:Laid w g m vals xs k) (hb:Below w.heap.size w w') (hg:g<w.heap.size):Laid w' g m vals xs k:=
 fun j y hj hy i v hv=>(hb.cell (p:=⟨g,j * m+i,none⟩) hg).trans (h j y hj hy i v hv)
theorem Own.sets {g:Nat} {t:TypeId} {n:Nat} : ∀(vs:List Value) (o:Nat) {w:World},Own w g t n→Own (w.setCells g o vs) g t n
 | [],_,_,h=>h
 | v::r,o,_,h=>Own.sets r (o+1) (h.set o v)
theorem Below.sets {B g:Nat} : ∀(vs:List Value) (o:Nat) {a w:World},Below B a w→B≤g→Below B a (w.setCells g o vs)
 | [],_,_,_,h,_=>h
 | v::r,o,_,_,h,hg=>Below.sets r (o+1) (h.setCell (p:=⟨g,o,none⟩) hg v) hg
theorem Laid.step {α:Type} {w:World} {g m n k:Nat} {t:TypeId} {vals:α→List Value} {xs:List α} {x:α} (h:Laid w g m vals xs k) (own:Own w g t n) (hn:k * m+m≤n) (hlen:∀y,(vals y).length=m) (hx:xs[k]?=some x) :
  Laid (w.setCells g (k * m) (vals x)) g m vals xs (k+1):=by
 intro j y hj hy i v hv
 have hi:i<m:=by rw [←hlen y];exact (List.getElem?_eq_some_iff.1 hv).1
 by_cases e:j=k
 ·subst e
  obtain rfl:x=y:=Option.some.inj (hx.symm.trans hy)
  obtain⟨hi',hv'⟩:=List.getElem?_eq_some_iff.1 hv
  rw [World.cell?_setCells_in g (vals x) (j * m) w (fun i hi2=>by
   rw [hlen] at hi2
   obtain⟨u,hu⟩:=own.cell (i:=j * m+i) (by omega)
   rw [hu];rfl) i hi',hv']
 ·have hlt:j<k:=by omega
  have:(j+1) * m≤k * m:=Nat.mul_le_mul_right m hlt
  rw [Nat.add_mul,Nat.one_mul] at this
  rw [World.cell?_setCells_out g (vals x) (k * m) w _ (fun _ _=>Or.inl (by show j * m+i<k * m;omega))]
  exact h j y hlt hy i v hv
def Blk (w:World) (b:Nat) (arr:Array Value) (t:TypeId):Prop:=w.heap[b]?=some (.cells arr t (0,0))
theorem Blk.new (w:World) (arr:Array Value) (t:TypeId):Blk (w.alloc (.cells arr t)) w.heap.size arr t:=blk_alloc_new _ _
theorem Blk.lt {w:World} {b:Nat} {arr:Array Value} {t:TypeId} (h:Blk w b arr t):b<w.heap.size:=(Array.getElem?_eq_some_iff.1 h).1
theorem Blk.alloc {w:World} {b:Nat} {arr:Array Value} {t:TypeId} (h:Blk w b arr t) (o:Obj):Blk (w.alloc o) b arr t:=(blk_alloc_lt _ _ _ h.lt).trans h
theorem Blk.later {w w':World} {b:Nat} {arr:Array Value} {t:TypeId} (h:Blk w b arr t) (hb:Below w.heap.size w w'):Blk w' b arr t:=(hb.block b h.lt).trans h
theorem Blk.set {w:World} {b:Nat} {arr:Array Value} {t:TypeId} (h:Blk w b arr t) (i:Nat) (v:Value):Blk (w.setCell ⟨b,i,none⟩ v) b (arr.setIfInBounds i v) t:=by
 unfold Blk at *
 simp [World.setCell,Array.getElem?_modify,h]
theorem Blk.setOther {w:World} {b:Nat} {arr:Array Value} {t:TypeId} (h:Blk w b arr t) {p:Addr} (hp:b≠p.block) (v:Value):Blk (w.setCell p v) b arr t:=(blk_setCell_other _ _ _ _ hp).trans h
theorem Blk.cell {w:World} {b:Nat} {arr:Array Value} {t:TypeId} (h:Blk w b arr t) (o:Nat):w.cell? ⟨b,o,none⟩=arr[o]?:=by unfold Blk at h;simp [World.cell?,h]
theorem Blk.frozen {w:World} {b:Nat} {arr:Array Value} {t:TypeId} (h:Blk w b arr t) (o:Nat):w.frozen? ⟨b,o,none⟩=false:=by unfold Blk at h;simp [World.frozen?,h]
theorem Tryz.info_Up:(Tryz.prog.info? 172).map (fun i=>(i.zero,i.size,i.bytes))=some (some (.agg #[.bool false,.int .i64 0]),2,16):=by kernel_rfl
def Ud.vals (u:Ud):List Value:=[.bool u.loc,.int .i64 u.idx]
theorem Laid.ups {w:World} {g t n:Nat} {us:List Ud} (own:Own w g t n) (h:Laid w g 2 Ud.vals us us.length) {lo:Nat} (hl:lo≤g):UpsAt lo w (some ⟨g,0,none⟩) us:=by
 intro i u hi
 have hk:=(List.getElem?_eq_some_iff.1 hi).1
 have:=h i u hk hi
 refine⟨g,0,rfl,hl,own.lt,?_⟩
 rw [Nat.zero_add]
 exact⟨this 0 _ rfl,this 1 _ rfl⟩
theorem Tryz.info_Value:(Tryz.prog.info? 44).map (fun i=>(i.zero,i.size,i.bytes))=some (some (.agg #[.int .i64 0,.int .i64 0,.float .f64 0,.string ByteArray.empty,.int .i64 0]),5,48):=by kernel_rfl
def Vd.vals (u:Vd):List Value:=[.int .i64 u.kind,.int .i64 u.num,.float .f64 u.flt,.string u.str,.int .i64 u.ref]
theorem Laid.vals {w:World} {g t n:Nat} {us:List Vd} (own:Own w g t n) (h:Laid w g 5 Vd.vals us us.length) {lo:Nat} (hl:lo≤g):ValsAt lo w (some ⟨g,0,none⟩) us:=by
 intro i u hi
 have hk:=(List.getElem?_eq_some_iff.1 hi).1
 have:=h i u hk hi
 refine⟨g,0,rfl,hl,own.lt,?_⟩
 rw [Nat.zero_add]
 exact⟨this 0 _ rfl,this 1 _ rfl,this 2 _ rfl,this 3 _ rfl,this 4 _ rfl⟩
theorem Tryz.info_Ins:(Tryz.prog.info? 48).map (fun i=>(i.zero,i.size,i.bytes))=some (some (.agg #[.int .i64 0,.int .i64 0,.int .i64 0,.int .i64 0,.int .i64 0]),5,40):=by kernel_rfl
def Nd.vals (u:Nd):List Value:=[.int .i64 u.op,.int .i64 u.a,.int .i64 u.b,.int .i64 u.c,.int .i64 u.d]
theorem Laid.inss {w:World} {g t n:Nat} {us:List Nd} (own:Own w g t n) (h:Laid w g 5 Nd.vals us us.length) {lo:Nat} (hl:lo≤g):InssAt lo w (some ⟨g,0,none⟩) us:=by
 intro i u hi
 have hk:=(List.getElem?_eq_some_iff.1 hi).1
 have:=h i u hk hi
 refine⟨g,0,rfl,hl,own.lt,?_⟩
 rw [Nat.zero_add]
 exact⟨this 0 _ rfl,this 1 _ rfl,this 2 _ rfl,this 3 _ rfl,this 4 _ rfl⟩
theorem Tryz.info_Named:(Tryz.prog.info? 365).map (fun i=>(i.zero,i.size,i.bytes))=some (some (.agg #[.string ByteArray.empty,.int .i64 0,.int .i64 0,.int .i64 0]),4,40):=by kernel_rfl
def Md.vals (u:Md):List Value:=[.string u.name,.int .i64 u.reg,.int .i64 u.fr,.int .i64 u.to]
theorem Laid.nams {w:World} {g t n:Nat} {us:List Md} (own:Own w g t n) (h:Laid w g 4 Md.vals us us.length) {lo:Nat} (hl:lo≤g):NamsAt lo w (some ⟨g,0,none⟩) us:=by
 intro i u hi
 have hk:=(List.getElem?_eq_some_iff.1 hi).1
 have:=h i u hk hi
 refine⟨g,0,rfl,hl,own.lt,?_⟩
 rw [Nat.zero_add]
 exact⟨this 0 _ rfl,this 1 _ rfl,this 2 _ rfl,this 3 _ rfl⟩
end Go.Proofs.YtgopdffmnikhdaaGreatDoor
namespace Go.Proofs.YtgopdffmnikhdaaGreatDoor
open Go.RowKit Go.Deep
theorem size_set (w:World) (p:Addr) (v:Value):(w.setCell p v).heap.size=w.heap.size:=by simp
structure PFew (p:Pd):Prop where
 ups:p.ups.length≤1048576
 consts:p.consts.length≤1048576
 ins:p.ins.length≤1048576
 named:p.named.length≤1048576
def OwnRow (lo:Nat) (w:World) (ao:Option Addr) (t:TypeId) (n:Nat):Prop:=∃g,ao=some ⟨g,0,none⟩∧lo≤g∧Own w g t n
theorem OwnRow.later {lo:Nat} {w w':World} {ao:Option Addr} {t:TypeId} {n:Nat} (h:OwnRow lo w ao t n) (hk:Keeps lo w w'):OwnRow lo w' ao t n:=by
 obtain⟨g,e,hl,ho⟩:=h
 exact⟨g,e,hl,ho.of_block (hk.block g hl ho.lt)⟩
theorem OwnRow.lower {lo lo':Nat} {w:World} {ao:Option Addr} {t:TypeId} {n:Nat} (h:OwnRow lo w ao t n) (hl:lo'≤lo):OwnRow lo' w ao t n:=by
 obtain⟨g,e,h1,ho⟩:=h
 exact⟨g,e,Nat.le_trans hl h1,ho⟩
structure PSoft (lo:Nat) (w:World) (h:Ph) (p:Pd):Prop where
 ups:OwnRow lo w h.uo 172 (p.ups.length*2)
 consts:OwnRow lo w h.co 44 (p.consts.length*5)
 ins:OwnRow lo w h.io 48 (p.ins.length*5)
 named:OwnRow lo w h.no 365 (p.named.length*4)
theorem PSoft.later {lo:Nat} {w w':World} {h:Ph} {p:Pd} (x:PSoft lo w h p) (hk:Keeps lo w w'):PSoft lo w' h p:=⟨x.ups.later hk,x.consts.later hk,x.ins.later hk,x.named.later hk⟩
theorem PSoft.lower {lo lo':Nat} {w:World} {h:Ph} {p:Pd} (x:PSoft lo w h p) (hl:lo'≤lo):PSoft lo' w h p:=⟨x.ups.lower hl,x.consts.lower hl,x.ins.lower hl,x.named.lower hl⟩
structure POwn (lo:Nat) (w:World) (h:Ph) (p:Pd):Prop where
 pin:PIn lo w h p
 soft:PSoft lo w h p
theorem POwn.later {lo:Nat} {w w':World} {h:Ph} {p:Pd} (x:POwn lo w h p) (hk:Keeps lo w w'):POwn lo w' h p:=⟨x.pin.later hk,x.soft.later hk⟩
theorem POwn.lower {lo lo':Nat} {w:World} {h:Ph} {p:Pd} (x:POwn lo w h p) (hl:lo'≤lo):POwn lo' w h p:=⟨x.pin.lower hl,x.soft.lower hl⟩
theorem Tryz.info_Proto:(Tryz.prog.info? 54).map (fun i=>(i.zero,i.size,i.bytes))=some (some (.agg #[.string ByteArray.empty,.int .i64 0,.int .i64 0,.bool false,.int .i64 0,.slice none 0 0,.slice none 0 0,.slice none 0 0,.slice none 0 0]),9,144):=by kernel_rfl
def LaidP (w:World) (g:Nat) (ps:List Pd) (k:Nat):Prop:=∀j p,j<k→ps[j]?=some p→∃h,NineAt w g (j*9) h p∧POwn (g+1) w h p
theorem NineAt.later {w w':World} {b o:Nat} {h:Ph} {p:Pd} (x:NineAt w b o h p) (hb:Below w.heap.size w w') (hl:b<w.heap.size):NineAt w' b o h p:=by
 have k:=(bcell hb).1
 unfold NineAt
 rw [k _ _ hl,k _ _ hl,k _ _ hl,k _ _ hl,k _ _ hl,k _ _ hl,k _ _ hl,k _ _ hl,k _ _ hl]
 exact x
theorem LaidP.later {w w':World} {g:Nat} {ps:List Pd} {k:Nat} (h:LaidP w g ps k) (hb:Below w.heap.size w w') (hg:g<w.heap.size):LaidP w' g ps k:=by
 intro j p hj hp
 obtain⟨x,h1,h2⟩:=h j p hj hp
 exact⟨x,h1.later hb hg,h2.later (Keeps.of_below hb)⟩
def nine (p:Pd) (h:Ph):List Value:=[.string p.name,.int .i64 p.line,.int .i64 p.params,.bool p.rest,.int .i64 p.regs,.slice h.uo p.ups.length h.uc,.slice h.co p.consts.length h.cc,.slice h.io p.ins.length h.ic,.slice h.no p.named.length h.nc]
theorem Keeps.sets {lo g:Nat} : ∀(vs:List Value) (o:Nat) {a w:World},Keeps lo a w→g<lo→Keeps lo a (w.setCells g o vs)
 | [],_,_,_,h,_=>h
 | v::r,o,_,_,h,hg=>Keeps.sets r (o+1) (h.setCell (p:=⟨g,o,none⟩) hg v) hg
theorem LaidP.step {w:World} {g n k:Nat} {t:TypeId} {ps:List Pd} {p:Pd} {x:Ph} (h:LaidP w g ps k) (own:Own w g t n) (hn:k*9+9≤n) (hp:ps[k]?=some p) (hx:POwn (g+1) w x p) :
  LaidP (w.setCells g (k*9) (nine p x)) g ps (k+1):=by
 intro j y hj hy
 have K:=Keeps.sets (nine p x) (k*9) (Keeps.refl (g+1) w) (Nat.lt_succ_self g)
 by_cases e:j=k
 ·subst e
  obtain rfl:p=y:=Option.some.inj (hp.symm.trans hy)
  have c:=World.cell?_setCells_in g (nine p x) (j*9) w (fun i hi=>by
   have hi9:i<9:=hi
   obtain⟨u,hu⟩:=own.cell (i:=j*9+i) (by omega)
   rw [hu];rfl)
  exact⟨x,⟨c 0 (by simp [nine]),c 1 (by simp [nine]),c 2 (by simp [nine]),c 3 (by simp [nine]),c 4 (by simp [nine]),c 5 (by simp [nine]),c 6 (by simp [nine]),c 7 (by simp [nine]),c 8 (by simp [nine])⟩,hx.later K⟩
 ·obtain⟨z,h1,h2⟩:=h j y (by omega) hy
  have c:∀i,i<9→(w.setCells g (k*9) (nine p x)).cell? ⟨g,j*9+i,none⟩=w.cell? ⟨g,j*9+i,none⟩:=fun i hi=>
   World.cell?_setCells_out g (nine p x) (k*9) w _ (fun _ _=>Or.inl (by show j*9+i<k*9;omega))
  refine⟨z,?_,h2.later K⟩
  have c0:=c 0 (by omega)
  rw [Nat.add_zero] at c0
  unfold NineAt
  rw [c0,c 1 (by omega),c 2 (by omega),c 3 (by omega),c 4 (by omega),c 5 (by omega),c 6 (by omega),c 7 (by omega),c 8 (by omega)]
  exact h1
theorem LaidP.all {w:World} {g n:Nat} {t:TypeId} {ps:List Pd} (own:Own w g t n) (h:LaidP w g ps ps.length) {lo:Nat} (hl:lo≤g):ProtosAt lo w (some ⟨g,0,none⟩) ps:=by
 intro i p hi
 obtain⟨x,h1,h2⟩:=h i p (List.getElem?_eq_some_iff.1 hi).1 hi
 refine⟨g,0,rfl,hl,own.lt,x,?_,h2.pin.lower (by omega)⟩
 rw [Nat.zero_add]
 exact h1
def ProtosOwn (w:World) (g:Nat) (ps:List Pd):Prop:=Own w g 54 (ps.length*9)∧LaidP w g ps ps.length
theorem ProtosOwn.later {w w':World} {g:Nat} {ps:List Pd} (h:ProtosOwn w g ps) (hk:Keeps g w w'):ProtosOwn w' g ps:=by
 refine⟨h.1.of_block (hk.block g (Nat.le_refl _) h.1.lt),fun j p hj hp=>?_⟩
 obtain⟨x,hn,ho⟩:=h.2 j p hj hp
 refine⟨x,?_,ho.later (hk.mono (Nat.le_succ g))⟩
 have c:∀o,w'.cell? ⟨g,o,none⟩=w.cell? ⟨g,o,none⟩:=fun o=>hk.cell (Nat.le_refl _) h.1.lt
 unfold NineAt
 rw [c,c,c,c,c,c,c,c,c]
 exact hn
theorem ProtosOwn.at {w:World} {g:Nat} {ps:List Pd} (h:ProtosOwn w g ps) {lo:Nat} (hl:lo≤g):ProtosAt lo w (some ⟨g,0,none⟩) ps:=h.2.all h.1 hl
theorem ProtosAt.lower {lo lo':Nat} {w:World} {ao:Option Addr} {xs:List Pd} (h:ProtosAt lo w ao xs) (hl:lo'≤lo):ProtosAt lo' w ao xs:=by
 intro i x hx
 obtain⟨b,off,e,h1,hs,g,hn,hp⟩:=h i x hx
 exact⟨b,off,e,Nat.le_trans hl h1,hs,g,hn,hp.lower hl⟩
end Go.Proofs.YtgopdffmnikhdaaGreatDoor
