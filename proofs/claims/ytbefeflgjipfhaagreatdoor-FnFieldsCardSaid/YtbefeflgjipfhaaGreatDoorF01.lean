import Derived.Test.YtbefeflgjipfhaaGreatDoorProg
import Derived.WalkKit
import Derived.WalkSpells
import Derived.WalkLawsBesides
import Derived.Deep.QuietTactic
import Derived.BigQuiet
import Derived.Deep.OwnRows
import Derived.Deep.RegionHeld3
import Derived.Laws.FloatArith
import Derived.Deep.MidRow
import Derived.Laws.BytesArg
import Derived.Maps.AppendAt
import Derived.Deep.RegionLaw
import Derived.Deep.LoopGhost
namespace Go.Proofs.YtbefeflgjipfhaaGreatDoor
open Go.Deep Go.Proofs.Tryz Go.RowKit
variable{k lo lo':Nat}{ao:Option Addr}{P:Program}{a w':World}
abbrev Kw (f:Nat) (xs:Array Value) (w:World) (v:Value):Prop:=Calls prog f xs w fun e w'=>e=.returned v/\Below w.heap.size w w'
theorem wk {Q:Exit->Act->World->Prop} {a:Act} {w:World} {x y:Code} (h:∀K:Act->World->Prop,Hid (∀a w,y.wp P Q a w->K a w)->x.wp P (Exit.then K Q) a w):(Code.seq x y).wp P Q a w:=wp_seq_k h
theorem yA:type_of% @Below.refl:=@Below.refl
theorem yB:type_of% @Nat.le_refl:=@Nat.le_refl
theorem yC:type_of% @List.setIfInBounds_toArray:=@List.setIfInBounds_toArray
theorem yD:type_of% @List.getElem?_eq_some_iff:=@List.getElem?_eq_some_iff
theorem yE:type_of% @Nat.zero_le:=@Nat.zero_le
theorem yF:type_of% @Nat.lt_of_lt_of_le:=@Nat.lt_of_lt_of_le
theorem yG:type_of% @World.cell?_setCell_far:=@World.cell?_setCell_far
theorem yH:type_of% @List.mem_of_getElem?:=@List.mem_of_getElem?
theorem yI:type_of% @Nat.le_trans:=@Nat.le_trans
theorem yJ:type_of% @List.set_cons_zero:=@List.set_cons_zero
theorem yK:type_of% @List.set_cons_succ:=@List.set_cons_succ
theorem yL:type_of% @Below.heap_setCell:=@Below.heap_setCell
theorem yM:type_of% @Nat.zero_add:=@Nat.zero_add
theorem yN:type_of% @Int.eq_ofNat_of_zero_le:=@Int.eq_ofNat_of_zero_le
theorem yO:type_of% @Option.some.inj:=@Option.some.inj
theorem yP:type_of% @Below.setCell:=@Below.setCell
theorem yQ:type_of% @List.drop_of_length_le:=@List.drop_of_length_le
theorem yR:type_of% @List.getD_eq_getElem?_getD:=@List.getD_eq_getElem?_getD
theorem yS:type_of% @World.rangeAt_setCells_same:=@World.rangeAt_setCells_same
theorem yT:type_of% @List.mem_singleton:=@List.mem_singleton
theorem yU:type_of% @World.ownsRow_nil:=@World.ownsRow_nil
theorem yV:type_of% @List.getElem?_eq_getElem:=@List.getElem?_eq_getElem
theorem yW:type_of% @List.length_eq_zero_iff:=@List.length_eq_zero_iff
theorem yX:type_of% @World.cell?_of_block:=@World.cell?_of_block
theorem yY:type_of% @Bool.and_eq_true:=@Bool.and_eq_true
theorem yZ:type_of% @List.mem_append:=@List.mem_append
theorem Ac {a b:Bool} (h:a=b):Ending.returned (.bool a)=.returned (.bool b):=by rw[h]
theorem Cr {k:IntKind} {a b:Int} (h:a=b):Ending.returned (.int k a)=.returned (.int k b):=by rw[h]
theorem Xm {W w1:World} (hb:Below W.heap.size W w1):(∀b o,b<W.heap.size->w1.cell? ⟨b,o,none⟩=W.cell? ⟨b,o,none⟩)/\(∀b o,b<W.heap.size->w1.frozen? ⟨b,o,none⟩=W.frozen? ⟨b,o,none⟩):=
 ⟨fun b o h=>hb.cell (p:=⟨b,o,none⟩) h,fun b o h=>hb.frozen (p:=⟨b,o,none⟩) h⟩
theorem A7 (P:Program) (w:World) (a:Addr) (m:Mode) (k:FloatKind) (n:Nat):(store a (.float k n) m).run P w=stored P w a (.float k n) m:=run_store P w a _ m rfl
structure Ud where
 loc:Bool
 idx:Int
structure Vd where
 kind:Int
 num:Int
 flt:Nat
 str:ByteArray
 ref:Int
structure Nd where
 op:Int
 a:Int
 b:Int
 c:Int
 d:Int
structure Md where
 name:ByteArray
 reg:Int
 fr:Int
 to:Int
structure Pd where
 name:ByteArray
 line:Int
 params:Int
 rest:Bool
 regs:Int
 ups:List Ud
 consts:List Vd
 ins:List Nd
 named:List Md
def Vd.val (v:Vd):Value:=.agg #[.int .i64 v.kind,.int .i64 v.num,.float .f64 v.flt,.string v.str,.int .i64 v.ref]
def Nd.val (n:Nd):Value:=.agg #[.int .i64 n.op,.int .i64 n.a,.int .i64 n.b,.int .i64 n.c,.int .i64 n.d]
structure Ad (lo:Nat) (w w':World):Prop where
 size:w.heap.size<=w'.heap.size
 block:∀k,lo<=k->k<w.heap.size->w'.heap[k]?=w.heap[k]?
theorem Ad.o{w:World} (h:Below w.heap.size w w'):Ad lo w w':=⟨h.size,fun k _ hk=>h.block k hk⟩
theorem Ad.refl (lo:Nat) (w:World):Ad lo w w:=⟨yB _,fun _ _ _=>rfl⟩
theorem Ad.trans{b c:World} (h:Ad lo a b) (k:Ad lo b c):Ad lo a c:=
 ⟨yI h.size k.size,fun i hl hi=>(k.block i hl (yF hi h.size)).trans (h.block i hl hi)⟩
theorem Ad.setCell{w:World} (h:Ad lo a w) {p:Addr} (hp:p.block<lo) (u:Value):Ad lo a (w.setCell p u):=
 h.trans ⟨by simp,fun k hk _=>yL _ _ _ _ (by omega)⟩
theorem Ad.cell{w:World} (h:Ad lo w w') {b o:Nat} (hl:lo<=b) (hb:b<w.heap.size):w'.cell? ⟨b,o,none⟩=w.cell? ⟨b,o,none⟩:=
 yX (w:=w) (a:=⟨b,o,none⟩) (h.block b hl hb)
def Ay {α:Type} (lo:Nat) (w:World) (ao:Option Addr) (k:Nat) (at_:Nat->Nat->α->Prop) (xs:List α):Prop:=
 ∀i x,xs[i]?=some x->∃b off,ao=some ⟨b,off,none⟩/\lo<=b/\b<w.heap.size/\at_ b (off+i*k) x
theorem Ay.l {α:Type}{w:World} {at1 at2:Nat->Nat->α->Prop} {xs:List α} (h:Ay lo w ao k at1 xs) (hk:Ad lo w w')
  (hat:∀b o x,lo<=b->b<w.heap.size->x∈xs->at1 b o x->at2 b o x):Ay lo w' ao k at2 xs:=by
 intro i x hx;obtain⟨b,off,e,hl,hs,ha⟩:=h i x hx;exact⟨b,off,e,hl,yF hs hk.size,hat _ _ _ hl hs (yH hx) ha⟩
theorem Ay.w {α:Type} {w:World} {at1:Nat->Nat->α->Prop} {xs:List α} (h:Ay lo w ao k at1 xs) (hl:lo'<=lo):Ay lo' w ao k at1 xs:=by intro i x hx;obtain⟨b,off,e,h1,hs,ha⟩:=h i x hx;exact⟨b,off,e,yI hl h1,hs,ha⟩
def UpAt (w:World) (b o:Nat) (u:Ud):Prop:=w.cell? ⟨b,o,none⟩=some (.bool u.loc)/\w.cell? ⟨b,o+1,none⟩=some (.int .i64 u.idx)
def A9f (w:World) (b o:Nat) (v:Vd):Prop:=w.cell? ⟨b,o,none⟩=some (.int .i64 v.kind)/\w.cell? ⟨b,o+1,none⟩=some (.int .i64 v.num)/\w.cell? ⟨b,o+2,none⟩=some (.float .f64 v.flt)/\w.cell? ⟨b,o+3,none⟩=some (.string v.str)/\w.cell? ⟨b,o+4,none⟩=some (.int .i64 v.ref)
def A9b (w:World) (b o:Nat) (n:Nd):Prop:=w.cell? ⟨b,o,none⟩=some (.int .i64 n.op)/\w.cell? ⟨b,o+1,none⟩=some (.int .i64 n.a)/\w.cell? ⟨b,o+2,none⟩=some (.int .i64 n.b)/\w.cell? ⟨b,o+3,none⟩=some (.int .i64 n.c)/\w.cell? ⟨b,o+4,none⟩=some (.int .i64 n.d)
def A9d (w:World) (b o:Nat) (m:Md):Prop:=w.cell? ⟨b,o,none⟩=some (.string m.name)/\w.cell? ⟨b,o+1,none⟩=some (.int .i64 m.reg)/\w.cell? ⟨b,o+2,none⟩=some (.int .i64 m.fr)/\w.cell? ⟨b,o+3,none⟩=some (.int .i64 m.to)
def Lx (lo:Nat) (w:World) (ao:Option Addr) (xs:List Ud):Prop:=Ay lo w ao 2 (UpAt w) xs
def Jd (lo:Nat) (w:World) (ao:Option Addr) (xs:List Vd):Prop:=Ay lo w ao 5 (A9f w) xs
def E5 (lo:Nat) (w:World) (ao:Option Addr) (xs:List Nd):Prop:=Ay lo w ao 5 (A9b w) xs
def Ur (lo:Nat) (w:World) (ao:Option Addr) (xs:List Md):Prop:=Ay lo w ao 4 (A9d w) xs
theorem Lx.l{w:World} {xs:List Ud} (h:Lx lo w ao xs) (hk:Ad lo w w'):Lx lo w' ao xs:=
 Ay.l h hk (fun b o x hl hs _ ha=>by unfold UpAt;rw[hk.cell hl hs,hk.cell hl hs];exact ha)
theorem Jd.l{w:World} {xs:List Vd} (h:Jd lo w ao xs) (hk:Ad lo w w'):Jd lo w' ao xs:=
 Ay.l h hk (fun b o x hl hs _ ha=>by unfold A9f;rw[hk.cell hl hs,hk.cell hl hs,hk.cell hl hs,hk.cell hl hs,hk.cell hl hs];exact ha)
theorem E5.l{w:World} {xs:List Nd} (h:E5 lo w ao xs) (hk:Ad lo w w'):E5 lo w' ao xs:=
 Ay.l h hk (fun b o x hl hs _ ha=>by unfold A9b;rw[hk.cell hl hs,hk.cell hl hs,hk.cell hl hs,hk.cell hl hs,hk.cell hl hs];exact ha)
theorem Ur.l{w:World} {xs:List Md} (h:Ur lo w ao xs) (hk:Ad lo w w'):Ur lo w' ao xs:=
 Ay.l h hk (fun b o x hl hs _ ha=>by unfold A9d;rw[hk.cell hl hs,hk.cell hl hs,hk.cell hl hs,hk.cell hl hs];exact ha)
structure Ph where
 uo:Option Addr
 uc:Nat
 co:Option Addr
 cc:Nat
 io:Option Addr
 ic:Nat
 no:Option Addr
 nc:Nat
def Pd.cells (p:Pd) (h:Ph):Array Value:=#[.string p.name,.int .i64 p.line,.int .i64 p.params,.bool p.rest,.int .i64 p.regs,.slice h.uo p.ups.length h.uc,.slice h.co p.consts.length h.cc,.slice h.io p.ins.length h.ic,.slice h.no p.named.length h.nc]
structure PIn (lo:Nat) (w:World) (h:Ph) (p:Pd):Prop where
 ups:Lx lo w h.uo p.ups
 consts:Jd lo w h.co p.consts
 ins:E5 lo w h.io p.ins
 named:Ur lo w h.no p.named
theorem PIn.l{w:World} {h:Ph} {p:Pd} (x:PIn lo w h p) (hk:Ad lo w w'):PIn lo w' h p:=⟨x.ups.l hk,x.consts.l hk,x.ins.l hk,x.named.l hk⟩
theorem PIn.w {w:World} {h:Ph} {p:Pd} (x:PIn lo w h p) (hl:lo'<=lo):PIn lo' w h p:=⟨Ay.w x.ups hl,Ay.w x.consts hl,Ay.w x.ins hl,Ay.w x.named hl⟩
def Jc (w:World) (b o:Nat) (h:Ph) (p:Pd):Prop:=
 w.cell? ⟨b,o,none⟩=some (.string p.name)/\w.cell? ⟨b,o+1,none⟩=some (.int .i64 p.line)/\w.cell? ⟨b,o+2,none⟩=some (.int .i64 p.params)/\w.cell? ⟨b,o+3,none⟩=some (.bool p.rest)/\w.cell? ⟨b,o+4,none⟩=some (.int .i64 p.regs)/\
  w.cell? ⟨b,o+5,none⟩=some (.slice h.uo p.ups.length h.uc)/\w.cell? ⟨b,o+6,none⟩=some (.slice h.co p.consts.length h.cc)/\w.cell? ⟨b,o+7,none⟩=some (.slice h.io p.ins.length h.ic)/\w.cell? ⟨b,o+8,none⟩=some (.slice h.no p.named.length h.nc)
def A7n (lo:Nat) (w:World) (b o:Nat) (p:Pd):Prop:=∃h,Jc w b o h p/\PIn lo w h p
def Az (lo:Nat) (w:World) (ao:Option Addr) (xs:List Pd):Prop:=Ay lo w ao 9 (A7n lo w) xs
theorem Az.l{w:World} {xs:List Pd} (h:Az lo w ao xs) (hk:Ad lo w w'):Az lo w' ao xs:=
 Ay.l h hk (fun b o x hl hs _ ⟨g,ha,hp⟩=>⟨g,by unfold Jc;rw[hk.cell hl hs,hk.cell hl hs,hk.cell hl hs,hk.cell hl hs,hk.cell hl hs,hk.cell hl hs,hk.cell hl hs,hk.cell hl hs,hk.cell hl hs];exact ha,hp.l hk⟩)
theorem Bg {α:Type} {l:List α} {x:α} (h:l[k]?=some x):l.drop k=x::l.drop (k+1):=by obtain⟨hk,rfl⟩:=yD.1 h;exact List.drop_eq_getElem_cons hk
theorem Ah {α:Type} {l:List α} (h:k<l.length):∃x,l[k]?=some x:=⟨l[k],yV h⟩
def I64 (x:Int):Prop:=-9223372036854775808<=x/\x<=9223372036854775807
end Go.Proofs.YtbefeflgjipfhaaGreatDoor
namespace Go.Proofs.YtbefeflgjipfhaaGreatDoor
open Go.Deep Go.Proofs.Tryz Go.RowKit
variable{p:Addr}{arr:Array Value}{us:List Ud}{b g k lo m n:Nat}{P:Program}{α:Type}{t:TypeId}{w w':World}
attribute [local go_sem] A7
theorem Ca (t e:TypeId) (z:Value) (size bytes:Nat) (ht:P.underlying t=some (.slice e)) (hinfo:(P.info? e).map (fun i=>(i.zero,i.size,i.bytes))=some (some z,size,bytes))
  (kl kc:IntKind) (n:Nat) (hbytes:bytes*n<=281474976710656) (h63:n<=9223372036854775807) (w:World) :
  (Instr.makeSlice t (.int kl (n:Int)) (.int kc (n:Int))).run P w=.ok (.slice (some ⟨w.heap.size,0,none⟩) n n) (w.alloc (.cells (madeCells z.cells (n*size)) e)):=by
 obtain⟨i,hi,hzz⟩:=Option.map_eq_some_iff.1 hinfo;simp only[Prod.mk.injEq]at hzz;obtain⟨hz,hs,hb⟩:=hzz;have hb':(i.bytes:Int)*(n:Int)<=281474976710656:=by
  have h:((i.bytes*n:Nat):Int)<=281474976710656:=by rw[hb];omega
  rwa [Int.natCast_mul]at h
 have hr:=run_make (P:=P) w t e i z ht hi hz kl kc n n (by omega) (Int.le_refl _) hb' (by omega);simp only[Int.toNat_natCast,hs]at hr;exact hr
def Own (w:World) (g:Nat) (t:TypeId) (n:Nat):Prop:=∃c:Array Value,w.heap[g]?=some (.cells c t (0,0))/\c.size=n
theorem Own.cell{i:Nat} (h:Own w g t n) (hi:i<n):∃v,w.cell? ⟨g,i,none⟩=some v:=by obtain⟨c,hb,rfl⟩:=h;exact⟨c[i],by simp[World.cell?,hb,hi]⟩
theorem Own.frozen (h:Own w g t n) (i:Nat):w.frozen? ⟨g,i,none⟩=false:=by obtain⟨c,hb,_⟩:=h;simp[World.frozen?,hb]
theorem Own.lt (h:Own w g t n):g<w.heap.size:=by obtain⟨c,hb,_⟩:=h;exact(Array.getElem?_eq_some_iff.1 hb).1
theorem Own.of_block (h:Own w g t n) (e:w'.heap[g]?=w.heap[g]?):Own w' g t n:=by obtain⟨c,hb,hn⟩:=h;exact⟨c,e.trans hb,hn⟩
theorem Own.l (h:Own w g t n) (hb:Below w.heap.size w w'):Own w' g t n:=h.of_block (hb.block g h.lt)
theorem Own.set (h:Own w g t n) (i:Nat) (v:Value):Own (w.setCell ⟨g,i,none⟩ v) g t n:=by obtain⟨c,hb,hn⟩:=h;exact⟨c.setIfInBounds i v,by simp[World.setCell,Array.getElem?_modify,hb],by simpa using hn⟩
theorem Own.made (w:World) (zs:Array Value) (n:Nat) (t:TypeId):Own (w.alloc (.cells (madeCells zs n) t)) w.heap.size t n:=⟨_,blk_alloc_new _ _,size_madeCells _ _⟩
def Lu {α:Type} (w:World) (g m:Nat) (vals:α->List Value) (xs:List α) (k:Nat):Prop:=∀j y,j<k->xs[j]?=some y->∀i v,(vals y)[i]?=some v->w.cell? ⟨g,j*m+i,none⟩=some v
theorem Lu.zero (w:World) (g m:Nat) (vals:α->List Value) (xs:List α):Lu w g m vals xs 0:=fun _ _ h=>absurd h (Nat.not_lt_zero _)
theorem Lu.l {α:Type} {vals:α->List Value} {xs:List α} (h:Lu w g m vals xs k) (hb:Below w.heap.size w w') (hg:g<w.heap.size):Lu w' g m vals xs k:=
 fun j y hj hy i v hv=>(hb.cell (p:=⟨g,j*m+i,none⟩) hg).trans (h j y hj hy i v hv)
theorem Own.sets : ∀(vs:List Value) (o:Nat) {w:World},Own w g t n->Own (w.setCells g o vs) g t n
 | [],_,_,h=>h
 | v::r,o,_,h=>Own.sets r (o+1) (h.set o v)
theorem Lu.step {α:Type} {vals:α->List Value} {xs:List α} {x:α} (h:Lu w g m vals xs k) (own:Own w g t n) (hn:k*m+m<=n) (hlen:∀y,(vals y).length=m) (hx:xs[k]?=some x) :
  Lu (w.setCells g (k*m) (vals x)) g m vals xs (k+1):=by
 intro j y hj hy i v hv;have hi:i<m:=by rw[←hlen y];exact(yD.1 hv).1
 by_cases e:j=k
 ·subst e;obtain rfl:x=y:=yO (hx.symm.trans hy);obtain⟨hi',hv'⟩:=yD.1 hv;rw[World.cell?_setCells_in g (vals x) (j*m) w (fun i hi2=>by
   rw[hlen]at hi2;obtain⟨u,hu⟩:=own.cell (i:=j*m+i) (by omega);rw[hu];rfl) i hi',hv']
 ·have hlt:j<k:=by omega
  have:(j+1)*m<=k*m:=Nat.mul_le_mul_right m hlt;rw[Nat.add_mul,Nat.one_mul]at this;rw[World.cell?_setCells_out g (vals x) (k*m) w _ (fun _ _=>Or.inl (by show j*m+i<k*m;omega))];exact h j y hlt hy i v hv
def Blk (w:World) (b:Nat) (arr:Array Value) (t:TypeId):Prop:=w.heap[b]?=some (.cells arr t (0,0))
theorem Blk.new (w:World) (arr:Array Value) (t:TypeId):Blk (w.alloc (.cells arr t)) w.heap.size arr t:=blk_alloc_new _ _
theorem Blk.lt (h:Blk w b arr t):b<w.heap.size:=(Array.getElem?_eq_some_iff.1 h).1
theorem Blk.alloc (h:Blk w b arr t) (o:Obj):Blk (w.alloc o) b arr t:=(blk_alloc_lt _ _ _ h.lt).trans h
theorem Blk.l (h:Blk w b arr t) (hb:Below w.heap.size w w'):Blk w' b arr t:=(hb.block b h.lt).trans h
theorem Blk.set (h:Blk w b arr t) (i:Nat) (v:Value):Blk (w.setCell ⟨b,i,none⟩ v) b (arr.setIfInBounds i v) t:=by unfold Blk at *;simp[World.setCell,Array.getElem?_modify,h]
theorem Blk.setOther (h:Blk w b arr t) (hp:b≠p.block) (v:Value):Blk (w.setCell p v) b arr t:=(blk_setCell_other _ _ _ _ hp).trans h
theorem Blk.cell (h:Blk w b arr t) (o:Nat):w.cell? ⟨b,o,none⟩=arr[o]?:=by unfold Blk at h;simp[World.cell?,h]
theorem Blk.frozen (h:Blk w b arr t) (o:Nat):w.frozen? ⟨b,o,none⟩=false:=by unfold Blk at h;simp[World.frozen?,h]
def Ud.vals (u:Ud):List Value:=[.bool u.loc,.int .i64 u.idx]
theorem Lu.ups{t:Nat} (own:Own w g t n) (h:Lu w g 2 Ud.vals us us.length) (hl:lo<=g):Lx lo w (some ⟨g,0,none⟩) us:=by intro i u hi;have hk:=(yD.1 hi).1;have:=h i u hk hi;refine⟨g,0,rfl,hl,own.lt,?_⟩;rw[yM];exact⟨this 0 _ rfl,this 1 _ rfl⟩
end Go.Proofs.YtbefeflgjipfhaaGreatDoor
namespace Go.Proofs.YtbefeflgjipfhaaGreatDoor
open Go.Deep Go.Proofs.Tryz Go.RowKit
theorem Gm (w:World) (p:Addr) (v:Value):(w.setCell p v).heap.size=w.heap.size:=by simp
structure Ny (p:Pd):Prop where
 ups:p.ups.length<=1048576
 consts:p.consts.length<=1048576
 ins:p.ins.length<=1048576
 named:p.named.length<=1048576
def Ut (lo:Nat) (w:World) (ao:Option Addr) (t:TypeId) (n:Nat):Prop:=∃g,ao=some ⟨g,0,none⟩/\lo<=g/\Own w g t n
structure PSoft (lo:Nat) (w:World) (h:Ph) (p:Pd):Prop where
 ups:Ut lo w h.uo 181 (p.ups.length*2)
 consts:Ut lo w h.co 52 (p.consts.length*5)
 ins:Ut lo w h.io 58 (p.ins.length*5)
 named:Ut lo w h.no 391 (p.named.length*4)
structure POwn (lo:Nat) (w:World) (h:Ph) (p:Pd):Prop where
 pin:PIn lo w h p
 soft:PSoft lo w h p
def A9c (w:World) (g:Nat) (ps:List Pd) (k:Nat):Prop:=∀j p,j<k->ps[j]?=some p->∃h,Jc w g (j*9) h p/\POwn (g+1) w h p
theorem Jc.l {w w':World} {b o:Nat} {h:Ph} {p:Pd} (x:Jc w b o h p) (hb:Below w.heap.size w w') (hl:b<w.heap.size):Jc w' b o h p:=by have k:=(Xm hb).1;unfold Jc;rw[k _ _ hl,k _ _ hl,k _ _ hl,k _ _ hl,k _ _ hl,k _ _ hl,k _ _ hl,k _ _ hl,k _ _ hl];exact x
theorem A9c.all {w:World} {g n:Nat} {t:TypeId} {ps:List Pd} (own:Own w g t n) (h:A9c w g ps ps.length) {lo:Nat} (hl:lo<=g):Az lo w (some ⟨g,0,none⟩) ps:=by intro i p hi;obtain⟨x,h1,h2⟩:=h i p (yD.1 hi).1 hi;refine⟨g,0,rfl,hl,own.lt,x,?_,h2.pin.w (by omega)⟩;rw[yM];exact h1
end Go.Proofs.YtbefeflgjipfhaaGreatDoor
namespace Go.Proofs.YtbefeflgjipfhaaGreatDoor
open Go.Proofs.Tryz
theorem A4h:FloatKind.f64.format.read 0=.number false 0 (FloatKind.f64.format.leastPlace):=by decide +kernel
theorem A05 {s:Bool} {m k:Nat} (h:Ieee.signed s m k=0):m=0:=by
 unfold Ieee.signed at h;rw[Nat.shiftLeft_eq]at h;have hp:0<2 ^ k:=Nat.two_pow_pos k;have h2:m*2 ^ k=0:=by split at h<;>omega
 rcases Nat.mul_eq_zero.1 h2 with h3|h3
 ·exact h3
 ·omega
theorem A50 (x:Nat) (hx:x<18446744073709551616) (h:(FloatKind.f64.format.order x 0==some .eq)=true):x=0∨x=9223372036854775808:=by
 have h:FloatKind.f64.format.order x 0=some .eq:=by simpa using h
 unfold Ieee.Format.order at h;rw[A4h]at h;have num:∀s m i,(Ieee.Datum.number s m i).order (.number false 0 (FloatKind.f64.format.leastPlace))=some .eq->m=0:=by
  intro s m i h;simp only[Ieee.Datum.order,Option.some.injEq]at h;have h2:=Std.LawfulEqOrd.eq_of_compare h;have h3:∀k,Ieee.signed false 0 k=0:=by intro k;simp[Ieee.signed]
  rw[h3]at h2;exact A05 h2
 have e1:FloatKind.f64.format.signWeight=9223372036854775808:=by decide +kernel
 have e2:FloatKind.f64.format.binade=4503599627370496:=by decide +kernel
 unfold Ieee.Format.read at h;simp only[e1,e2]at h;split at h
 ·have:=num _ _ _ h;omega
 ·split at h
  ·have:=num _ _ _ h;omega
  ·split at h
   ·simp only[Ieee.Datum.order,Option.some.injEq]at h;split at h<;>cases h
   ·simp[Ieee.Datum.order]at h
end Go.Proofs.YtbefeflgjipfhaaGreatDoor
namespace Go.Proofs.YtbefeflgjipfhaaGreatDoor
open Go.Deep Go.Proofs.Tryz Go.RowKit
def Flts (vs:List Vd):Prop:=∀u∈vs,u.flt<18446744073709551616
abbrev Ec (w:World) (b o:Nat) (vs:List Value):Prop:=w.rangeAt b o vs
end Go.Proofs.YtbefeflgjipfhaaGreatDoor
namespace Go.Proofs.YtbefeflgjipfhaaGreatDoor
open Go.Deep Go.Proofs.Tryz Go.RowKit
variable{g:Nat}{w w':World}
attribute [local go_sem] A7
structure Gz (g:Nat) (w w':World):Prop where
 os:w'.os=w.os
 tape:w'.tape=w.tape
 output:w'.output=w.output
 size:w.heap.size<=w'.heap.size
 block:∀b,b≠g->b<w.heap.size->w'.heap[b]?=w.heap[b]?
theorem Gz.refl (g:Nat) (w:World):Gz g w w:=⟨rfl,rfl,rfl,yB _,fun _ _ _=>rfl⟩
theorem Gz.set (h:Gz g w w') (i:Nat) (v:Value):Gz g w (w'.setCell ⟨g,i,none⟩ v):=by refine⟨h.os,h.tape,h.output,by simpa using h.size,fun b hb hl=>?_⟩;rw[yL _ _ _ _ (fun e=>hb e),h.block b hb hl]
theorem Gz.below{w'':World} (h:Gz g w w') (hb:Below w'.heap.size w' w''):Gz g w w'':=
 ⟨hb.os.trans h.os,hb.tape.trans h.tape,hb.output.trans h.output,yI h.size hb.size,fun b hne hl=>(hb.block b (yF hl h.size)).trans (h.block b hne hl)⟩
end Go.Proofs.YtbefeflgjipfhaaGreatDoor
namespace Go.Proofs.YtbefeflgjipfhaaGreatDoor
open Go.Deep Go.Proofs.Tryz Go.RowKit
theorem Own.same {w:World} {b:Nat} {t t':TypeId} {n n':Nat} (h:Own w b t n) (k:Own w b t' n'):t=t'/\n=n':=by obtain⟨c,h1,h2⟩:=h;obtain⟨c',k1,k2⟩:=k;rw[h1]at k1;simp at k1;obtain⟨rfl,rfl⟩:=k1;exact⟨rfl,h2.symm.trans k2⟩
theorem Own.only {w w':World} {b u:Nat} {t t':TypeId} {n n':Nat} (h:Own w b t' n') (ho:Gz u w w') (o1:Own w u t n) (o2:Own w' u t n):Own w' b t' n':=by
 by_cases e:b=u
 ·subst e;obtain⟨rfl,rfl⟩:=h.same o1;exact o2
 ·exact h.of_block (ho.block b e h.lt)
structure Span (g hi:Nat) (w w':World):Prop where
 os:w'.os=w.os
 tape:w'.tape=w.tape
 output:w'.output=w.output
 size:w.heap.size<=w'.heap.size
 block:∀b,b<g∨hi<=b->b<w.heap.size->w'.heap[b]?=w.heap[b]?
theorem Span.only {g hi u:Nat} {w w' w'':World} (h:Span g hi w w') (ho:Gz u w' w'') (h1:g<=u) (h2:u<hi):Span g hi w w'':=
 ⟨ho.os.trans h.os,ho.tape.trans h.tape,ho.output.trans h.output,yI h.size ho.size,fun b hb hl=>(ho.block b (by omega) (yF hl h.size)).trans (h.block b hb hl)⟩
structure A22 (hi:Nat) (w:World) (g j:Nat) (p:Pd) (h:Ph) (u c i n:Nat):Prop where
 hu:w.cell? ⟨g,j*9+5,none⟩=some (.slice (some ⟨u,0,none⟩) p.ups.length h.uc)
 hc:w.cell? ⟨g,j*9+6,none⟩=some (.slice (some ⟨c,0,none⟩) p.consts.length h.cc)
 hin:w.cell? ⟨g,j*9+7,none⟩=some (.slice (some ⟨i,0,none⟩) p.ins.length h.ic)
 hn:w.cell? ⟨g,j*9+8,none⟩=some (.slice (some ⟨n,0,none⟩) p.named.length h.nc)
 lu:g<u/\u<hi
 lc:g<c/\c<hi
 li:g<i/\i<hi
 ln:g<n/\n<hi
 ou:Own w u 181 (p.ups.length*2)
 oc:Own w c 52 (p.consts.length*5)
 oi:Own w i 58 (p.ins.length*5)
 on:Own w n 391 (p.named.length*4)
structure MkAt (hi:Nat) (w:World) (g:Nat) (ps:List Pd):Prop where
 own:Own w g 63 (ps.length*9)
 lt:g<hi
 rows:∀j p,ps[j]?=some p->∃h u c i n,A22 hi w g j p h u c i n
theorem A22.only {hi:Nat} {w w':World} {g j:Nat} {p:Pd} {h:Ph} {u c i n b:Nat} {t:TypeId} {m:Nat} (r:A22 hi w g j p h u c i n) (og:g<w.heap.size) (ho:Gz b w w') (hb:g<b) (o1:Own w b t m) (o2:Own w' b t m):A22 hi w' g j p h u c i n:=by have k:∀o,w'.cell? ⟨g,o,none⟩=w.cell? ⟨g,o,none⟩:=fun o=>yX (w:=w) (a:=⟨g,o,none⟩) (ho.block g (by omega) og);exact⟨(k _).trans r.hu,(k _).trans r.hc,(k _).trans r.hin,(k _).trans r.hn,r.lu,r.lc,r.li,r.ln,r.ou.only ho o1 o2,r.oc.only ho o1 o2,r.oi.only ho o1 o2,r.on.only ho o1 o2⟩
theorem MkAt.only {hi:Nat} {w w':World} {g:Nat} {ps:List Pd} {b:Nat} {t:TypeId} {m:Nat} (r:MkAt hi w g ps) (ho:Gz b w w') (hb:g<b) (o1:Own w b t m) (o2:Own w' b t m):MkAt hi w' g ps:=
 ⟨r.own.only ho o1 o2,r.lt,fun j p hj=>by obtain⟨h,u,c,i,n,x⟩:=r.rows j p hj;exact⟨h,u,c,i,n,x.only r.own.lt ho hb o1 o2⟩⟩
theorem Xq {w:World} {g a b:Nat} (v:Value) (h:a≠b):(w.setCell ⟨g,a,none⟩ v).cell? ⟨g,b,none⟩=w.cell? ⟨g,b,none⟩:=by
 cases hb:w.heap[g]? with
 | none=>simp[World.cell?,World.setCell,Array.getElem?_modify,hb]
 | some o=>
  cases o<;>simp[World.cell?,World.setCell,Array.getElem?_modify,hb,h]
def lst (n k:Nat):Array Bool:=(List.replicate k true++List.replicate (n-k) false).toArray
theorem Ra {n k:Nat} (h:k<n):(lst n k).setIfInBounds k true=lst n (k+1):=by unfold lst;rw[yC,List.set_append_right _ _ (by simp)];congr 1;rw[show n-k=(n-(k+1))+1 by omega,List.replicate_succ];simp[List.replicate_succ']
def Rgn (ops:Array Oper) (rest:List Oper) (Q:Exit->Act->World->Prop) (S:World->Prop) (a:Act) (w:World):Prop:=
 ops.toList.drop (ops.size-rest.length)=rest->rest.length<=ops.size->wpAnyH prog .any ops (NoPanic Q) S rest.length (lst ops.size (ops.size-rest.length)) a w
section
variable {id:Nat} {ops:Array Oper} {rest l:List Oper} {Q:Exit→Act→World→Prop} {S:World→Prop} {a:Act} {w:World} {oi:Oper}
theorem rgN (S:World->Prop) (hS:S w.drew) (h:S w.drew->Rgn l.toArray l Q S a w.drew):(Code.region id l.toArray true).wp prog Q a w:=by refine wp_region_noPanic (wp_region_held_drew (by kernel_rfl) hS fun hS=>?_);have:=h hS (by simp) (by simp);simpa[lst]using this
theorem Vf (hd:ops.toList.drop (ops.size-(oi::rest).length)=oi::rest) (hl:(oi::rest).length<=ops.size) :
  ops[ops.size-(oi::rest).length]?=some oi/\ops.toList.drop (ops.size-rest.length)=rest/\ops.size-rest.length=(ops.size-(oi::rest).length)+1:=by
 have e:ops.size-rest.length=(ops.size-(oi::rest).length)+1:=by simp at hl ⊢;omega
 refine⟨?_,?_,e⟩
 ·have:=congrArg (·[0]?) hd;simpa using this
 ·rw[e,←List.tail_drop,hd];rfl
theorem tkF (hc:(Region.noSelect ops&&Region.free .any ops (lst ops.size (ops.size-(oi::rest).length)) (ops.size-(oi::rest).length)&&(Region.ready .any ops (lst ops.size (ops.size-(oi::rest).length))).contains (ops.size-(oi::rest).length))=true)
  (hw:Region.wanted oi (yielded ops a.tmps)=true) (hS:S w)
  (h:∃v,(∀w,S w->(execOp a.eval oi).run prog w=.ok (.value v) w)/\Rgn ops rest Q S (a.put oi.dst v) w):Rgn ops (oi::rest) Q S a w:=fun hd hl=>by
 obtain⟨v,hy,h⟩:=h;obtain⟨h1,h2,h3⟩:=Vf hd hl;simp only[yY]at hc;refine wpAnyH_take h1 hc.1.1 hc.1.2 hc.2 (fun _ _ _ h=>h) (.inl ⟨hw,hy⟩) hS ?_;have h4:=h h2 (by simp at hl;omega);rw[Ra (by simp at hl ⊢;omega),←h3];exact h4
theorem tkG (hc:(Region.noSelect ops&&Region.free .any ops (lst ops.size (ops.size-(oi::rest).length)) (ops.size-(oi::rest).length)&&(Region.ready .any ops (lst ops.size (ops.size-(oi::rest).length))).contains (ops.size-(oi::rest).length))=true)
  (hw:Region.wanted oi (yielded ops a.tmps)=false) (hS:S w) (h:Rgn ops rest Q S (a.put oi.dst undef) w):Rgn ops (oi::rest) Q S a w:=fun hd hl=>by
 obtain⟨h1,h2,h3⟩:=Vf hd hl;simp only[yY]at hc;refine wpAnyH_take h1 hc.1.1 hc.1.2 hc.2 (fun _ _ _ h=>h) (.inr ⟨hw,rfl⟩) hS ?_;have h4:=h h2 (by simp at hl;omega);rw[Ra (by simp at hl ⊢;omega),←h3];exact h4
theorem doN (hr:Region.ready .any ops (lst ops.size (ops.size-(oi::rest).length))=[ops.size-(oi::rest).length]) (hw:Region.wanted oi (yielded ops a.tmps)=true)
  (h:∀K:Act->World->Prop,Shut (∀a w,S w->(S w->Rgn ops rest Q S a w)->K a w)->Oper.wp prog oi a w K (NoPanic Q)):Rgn ops (oi::rest) Q S a w:=fun hd hl=>by
 obtain⟨h1,h2,h3⟩:=Vf hd hl;refine wpAnyH_ready hr (by simp) (AllReadyH.cons h1 (fun K hK=>?_) AllReadyH.nil);rw[if_pos hw];refine h K fun a w hS hR=>hK.out a w hS fun hS=>?_;have h4:=hR hS h2 (by simp at hl;omega);rw[Ra (by simp at hl ⊢;omega),←h3];exact h4
theorem enD (hr:Region.ready .any ops (lst ops.size (ops.size-0))=[]) (h:NoPanic Q .normal a w):Rgn ops [] Q S a w:=fun _ _=>wpAnyH_done hr h _
end
end Go.Proofs.YtbefeflgjipfhaaGreatDoor
namespace Go.Proofs.YtbefeflgjipfhaaGreatDoor
open Go.Deep Go.Proofs.Tryz Go.RowKit
variable{L:List Nat}{vs:List Value}{b g o:Nat}{t:TypeId}{v:Value}{w w' w'':World}
attribute [local go_sem] A7
structure Chg (L:List Nat) (w w':World):Prop where
 os:w'.os=w.os
 tape:w'.tape=w.tape
 output:w'.output=w.output
 size:w.heap.size<=w'.heap.size
 block:∀b,b∉L->b<w.heap.size->w'.heap[b]?=w.heap[b]?
theorem Chg.refl (L:List Nat) (w:World):Chg L w w:=⟨rfl,rfl,rfl,yB _,fun _ _ _=>rfl⟩
theorem Chg.set (h:Chg L w w') (hg:g∈L) (i:Nat) (v:Value):Chg L w (w'.setCell ⟨g,i,none⟩ v):=
 ⟨h.os,h.tape,h.output,by simpa using h.size,fun b hb hl=>by rw[yL _ _ _ _ (fun (e:b=g)=>hb (e▸hg)),h.block b hb hl]⟩
theorem Chg.below (h:Chg L w w') (hb:Below w'.heap.size w' w''):Chg L w w'':=
 ⟨hb.os.trans h.os,hb.tape.trans h.tape,hb.output.trans h.output,yI h.size hb.size,fun b hne hl=>(hb.block b (yF hl h.size)).trans (h.block b hne hl)⟩
theorem Chg.trans{M:List Nat} (h:Chg L w w') (k:Chg M w' w'') (hs:∀b∈M,b∈L):Chg L w w'':=
 ⟨k.os.trans h.os,k.tape.trans h.tape,k.output.trans h.output,yI h.size k.size,fun b hb hl=>(k.block b (fun e=>hb (hs b e)) (yF hl h.size)).trans (h.block b hb hl)⟩
theorem Chg.cell (h:Chg L w w') (hb:b∉L) (hc:w.cell? ⟨b,o,none⟩=some v):w'.cell? ⟨b,o,none⟩=some v:=
 (yX (w:=w) (a:=⟨b,o,none⟩) (h.block b hb (World.block_lt_of_cell? _ _ hc))).trans hc
theorem Chg.own (h:Chg L w w'){n:Nat} (hb:b∉L) (ho:Own w b t n):Own w' b t n:=ho.of_block (h.block b hb ho.lt)
theorem Ec.chg (c:Ec w b o vs) (h:Chg L w w') (hb:b∉L):Ec w' b o vs:=fun i v hv=>h.cell hb (c i v hv)
theorem Ec.nil (w:World) (b o:Nat):Ec w b o []:=fun i v h=>by simp at h
theorem Ec.add (c:Ec w b o vs) (h:w.cell? ⟨b,o+vs.length,none⟩=some v):Ec w b o (vs++[v]):=fun i u hu=>by
 by_cases hi:i<vs.length
 ·exact c i u (by rwa [List.getElem?_append_left hi]at hu)
 ·rw[List.getElem?_append_right (by omega)]at hu;obtain⟨hk,rfl⟩:=yD.1 hu;simp at hk;obtain rfl:i=vs.length:=by omega
  simpa using h
end Go.Proofs.YtbefeflgjipfhaaGreatDoor
namespace Go.Proofs.YtbefeflgjipfhaaGreatDoor
open Go.Deep Go.Proofs.Tryz Go.RowKit
structure Elt (t e:TypeId) (z:Value) (size bytes:Nat):Prop where
 ht:prog.underlying t=some (.slice e)
 hi:(prog.info? e).map (fun i=>(i.zero,i.size,i.bytes))=some (some z,size,bytes)
 hz:z.cells.size=size
 h0:0<size
theorem eltV:Elt 35 52 (.agg #[.int .i64 0,.int .i64 0,.float .f64 0,.string ByteArray.empty,.int .i64 0]) 5 48:=⟨underlying35,by kernel_rfl,rfl,by decide⟩
theorem Ec.news {w:World} {B:Nat} {news:List Value} (h:Ec w B 0 news):∀j u,news[j]?=some u->w.cell? ((⟨B,0,none⟩:Addr).add j)=some u:=fun j u hj=>by
 have:=h j u hj;rw[Addr.add_lit];exact this
variable {t e:TypeId} {z:Value} {size bytes:Nat} {w:World} {ops:Array Oper} {o:Oper} {a:Act} {Q:Exit→Act→World→Prop}
theorem stp_app (I:Elt t e z size bytes) {K:Act->World->Prop} {E:Prop} (hgd:o.guard=none) (s x:Operand) (ho:o.op=.call {callee:=.builtin .append,args:=#[s,x],argTypes:=#[t,t]})
  (base:Nat) (v:Value) (n:Nat) (xs news:List Value) (B:Nat) (hs:a.eval s=v) (hown:w.ownsRow base e size v n xs) (hx:a.eval x=.slice (some ⟨B,0,none⟩) 1 1) (hB:Ec w B 0 news) (hl:news.length=size) (h1:∀u∈news,u.oneCell'=true)
  (hn:n<=1048576) (hby:bytes<=1024) (hbase:base<=w.heap.size)
  (h:∀v' w',w'.ownsRow base e size v' (n+1) (xs++news)->w.grownBy w' v.ownBlock->(v'.ownBlock=v.ownBlock∨v'.ownBlock=some w.heap.size)->K (a.put o.dst v') w') :
  if Region.wanted o (yielded ops a.tmps)=true then Oper.wp prog o a w K Q else E:=by
 have hw:Region.wanted o (yielded ops a.tmps)=true:=by simp[Region.wanted,hgd]
 rw[if_pos hw];obtain⟨i0,hi,hz0,hz1,hz2⟩:=info_parts I.hi;have hby2:(n+1)*bytes<=1048577*1024:=Nat.mul_le_mul (by omega) hby;obtain⟨v',w',hr,h2,h3,h4,h5⟩:=run_append_own_at (P:=prog) w base t o.type e i0 z size bytes I.ht hi hz0 hz1 hz2 I.hz I.h0 v n xs hown ⟨B,0,none⟩ 1 1 news (by omega) hB.news h1 (by unfold maxLen;omega) (by omega) hbase;unfold Oper.wp execOp;simp only[ho,resolve,invoke,builtin,Sem.run_bind,Sem.run_pure,Result.andThen_ok,List.map_toArray,List.map_cons,List.map_nil,hs,hx,hr];exact h v' w' h2 h3 h5
theorem Jy (I:Elt t e z size bytes) {rest:List Oper} (hgd:o.guard=none) (s x:Operand) (ho:o.op=.call {callee:=.builtin .append,args:=#[s,x],argTypes:=#[t,t]})
  (base:Nat) (v:Value) (n:Nat) (xs news:List Value) (B:Nat) (hs:a.eval s=v) (hown:w.ownsRow base e size v n xs) (hx:a.eval x=.slice (some ⟨B,0,none⟩) 1 1) (hB:Ec w B 0 news) (hl:news.length=size) (h1:∀u∈news,u.oneCell'=true)
  (hn:n<=1048576) (hby:bytes<=1024) (hbase:base<=w.heap.size)
  (h:∀v' w',w'.ownsRow base e size v' (n+1) (xs++news)->w.grownBy w' v.ownBlock->(v'.ownBlock=v.ownBlock∨v'.ownBlock=some w.heap.size)->wpList prog ops Q rest (a.put o.dst v') w'):wpList prog ops Q (o::rest) a w:=by
 obtain⟨i0,hi,hz0,hz1,hz2⟩:=info_parts I.hi;have hby2:(n+1)*bytes<=1048577*1024:=Nat.mul_le_mul (by omega) hby;exact wpList_append_own_at w hgd s x t ho base e i0 z size bytes I.ht hi hz0 hz1 hz2 I.hz I.h0 v n xs hs hown ⟨B,0,none⟩ 1 1 news hx (by omega) hB.news h1 (by unfold maxLen;omega) (by omega) hbase fun v' w' h2 h3 _ h5=>h v' w' h2 h3 h5
structure Gd where
 tr:Bool
 keep:Int
 hd:Int
 deriving DecidableEq
def Gd.vals (g:Gd):List Value:=[.bool g.tr,.int .i64 g.keep,.int .i64 g.hd]
def Jb (w:World) (b o:Nat) (x:Int):Prop:=w.cell? ⟨b,o,none⟩=some (.int .i64 x)
def GdAt (w:World) (b o:Nat) (g:Gd):Prop:=w.cell? ⟨b,o,none⟩=some (.bool g.tr)/\w.cell? ⟨b,o+1,none⟩=some (.int .i64 g.keep)/\w.cell? ⟨b,o+2,none⟩=some (.int .i64 g.hd)
def Cv (lo:Nat) (w:World) (ao:Option Addr) (xs:List Int):Prop:=Ay lo w ao 1 (Jb w) xs
def Er (lo:Nat) (w:World) (ao:Option Addr) (xs:List Gd):Prop:=Ay lo w ao 3 (GdAt w) xs
theorem Cv.l {lo:Nat} {w w':World} {ao:Option Addr} {xs:List Int} (h:Cv lo w ao xs) (hk:Ad lo w w'):Cv lo w' ao xs:=
 Ay.l h hk fun _ _ _ hl hb _ hx=>(hk.cell hl hb).trans hx
theorem Er.l {lo:Nat} {w w':World} {ao:Option Addr} {xs:List Gd} (h:Er lo w ao xs) (hk:Ad lo w w'):Er lo w' ao xs:=
 Ay.l h hk fun _ _ _ hl hb _ hx=>⟨(hk.cell hl hb).trans hx.1,(hk.cell hl hb).trans hx.2.1,(hk.cell hl hb).trans hx.2.2⟩
def Bj (xs:List Int):List Value:=xs.map (Value.int .i64)
def gds (xs:List Gd):List Value:=xs.flatMap Gd.vals
theorem Fx (xs:List Gd):(gds xs).length=xs.length*3:=by
 induction xs with
 | nil=>rfl
 | cons x r ih=>simp only[gds,List.flatMap_cons,List.length_append,List.length_cons]at *;rw[ih];simp[Gd.vals];omega
theorem Na:∀{xs:List Gd} {i:Nat} {g:Gd},xs[i]?=some g->∀j v,g.vals[j]?=some v->(gds xs)[i*3+j]?=some v
 | [],i,g,h,_,_,_=>by simp at h
 | x::r,0,g,h,j,v,hv=>by
  simp at h;subst h;have hj:j<3:=(yD.1 hv).1;simp only[gds,List.flatMap_cons];rw[List.getElem?_append_left (by simp[Gd.vals];omega)];simpa using hv
 | x::r,i+1,g,h,j,v,hv=>by
  simp at h;simp only[gds,List.flatMap_cons];rw[List.getElem?_append_right (by simp[Gd.vals];omega)];have:=Na h j v hv;have e:(i+1)*3+j-x.vals.length=i*3+j:=by simp[Gd.vals];omega
  rw[e];exact this
theorem Le (xs ys:List Gd):gds (xs++ys)=gds xs++gds ys:=by simp[gds]
theorem Yp (xs ys:List Int):Bj (xs++ys)=Bj xs++Bj ys:=by simp[Bj]
theorem Aj {w:World} {base e size n:Nat} {v:Value} {xs:List Value} (h:w.ownsRow base e size v n xs) :
  (v=.slice none 0 0/\n=0)∨∃g cap,v=.slice (some ⟨g,0,none⟩) n cap/\base<=g/\g<w.heap.size:=by
 obtain⟨_,h|⟨g,cap,cur,rfl,hg,hb,_⟩⟩:=h
 ·exact .inl h
 ·exact .inr ⟨g,cap,rfl,hg,(Array.getElem?_eq_some_iff.1 hb).1⟩
theorem Ai {w:World} {base e size n g cap:Nat} {xs:List Value} (h:w.ownsRow base e size (.slice (some ⟨g,0,none⟩) n cap) n xs) {j:Nat} {u:Value} (hj:xs[j]?=some u):w.cell? ⟨g,j,none⟩=some u:=by have h1:=h.1;have h2:=(yD.1 hj).1;exact(h.cellAt j (by omega)).trans hj
theorem A1h {w w':World} {base e size n:Nat} {v:Value} {xs:List Value} (h:w.ownsRow base e size v n xs) (hk:Ad base w w'):w'.ownsRow base e size v n xs:=by
 obtain⟨h1,h2|⟨g,cap,cur,e1,hg,hb,r⟩⟩:=h
 ·exact⟨h1,.inl h2⟩
 ·exact⟨h1,.inr ⟨g,cap,cur,e1,hg,(hk.block g hg (Array.getElem?_eq_some_iff.1 hb).1).trans hb,r⟩⟩
theorem Ab {w w':World} {base e size n:Nat} {v:Value} {xs:List Value} (h:w.ownsRow base e size v n xs) (hk:Below w.heap.size w w'):w'.ownsRow base e size v n xs:=A1h h (Ad.o hk)
theorem Af {w:World} {base e size n:Nat} {v:Value} {xs:List Value} (h:w.ownsRow base e size v n xs):∃ao cap,v=.slice ao n cap:=by
 rcases Aj h with ⟨rfl,rfl⟩|⟨g,cap,rfl,_⟩
 ·exact⟨_,_,rfl⟩
 ·exact⟨_,_,rfl⟩
theorem K8 {w:World} {base n cap:Nat} {ao:Option Addr} {xs:List Int} (h:w.ownsRow base 3 1 (.slice ao n cap) n (Bj xs)):Cv base w ao xs/\n=xs.length:=by
 have hl:n=xs.length:=by have:=h.1;simp[Bj]at this;omega
 refine⟨?_,hl⟩;intro i x hi;rcases Aj h with ⟨h1,h2⟩|⟨g,cap',h1,h2,h3⟩
 ·subst h2;have:xs=[]:=yW.1 hl.symm;subst this;simp at hi
 ·simp only[Value.slice.injEq]at h1;obtain⟨rfl,_,rfl⟩:=h1;refine⟨g,0,rfl,h2,h3,?_⟩;rw[yM,Nat.mul_one];exact Ai h (by simp[Bj,hi])
theorem Zo {w:World} {base n cap:Nat} {ao:Option Addr} {xs:List Gd} (h:w.ownsRow base 399 3 (.slice ao n cap) n (gds xs)):Er base w ao xs/\n=xs.length:=by
 have hl:n=xs.length:=by have:=h.1;rw[Fx]at this;omega
 refine⟨?_,hl⟩;intro i x hi;rcases Aj h with ⟨h1,h2⟩|⟨g,cap',h1,h2,h3⟩
 ·subst h2;have:xs=[]:=yW.1 hl.symm;subst this;simp at hi
 ·simp only[Value.slice.injEq]at h1;obtain⟨rfl,_,rfl⟩:=h1;refine⟨g,0,rfl,h2,h3,?_⟩;rw[yM];exact⟨Ai h (Na hi 0 _ rfl),Ai h (Na hi 1 _ rfl),Ai h (Na hi 2 _ rfl)⟩
theorem Tryz.info_int:(prog.info? 3).map (fun i=>(i.zero,i.size,i.bytes))=some (some (.int .i64 0),1,8):=by kernel_rfl
theorem Tryz.info_Guard:(prog.info? 399).map (fun i=>(i.zero,i.size,i.bytes))=some (some (.agg #[.bool false,.int .i64 0,.int .i64 0]),3,24):=by kernel_rfl
theorem Ae {w w':World} {base e size n:Nat} {v:Value} {xs:List Value} (h:w.ownsRow base e size v n xs) (hb:∀k,v.ownBlock=some k->w'.heap[k]?=w.heap[k]?):w'.ownsRow base e size v n xs:=by
 obtain⟨h1,h2|⟨g,cap,cur,rfl,hg,hh,r⟩⟩:=h
 ·exact⟨h1,.inl h2⟩
 ·exact⟨h1,.inr ⟨g,cap,cur,rfl,hg,(hb g rfl).trans hh,r⟩⟩
theorem J3 {w w':World} {base e size n:Nat} {v:Value} {xs:List Value} {row:Option Nat} (h:w.ownsRow base e size v n xs) (hg:w.grownBy w' row) (hn:∀k,v.ownBlock=some k->some k≠row):w'.ownsRow base e size v n xs:=
 Ae h fun k hk=>hg.block k (h.lt k hk).2 (hn k hk)
def Dr:List (List Nat):=[[],[11,0,0,0],[12,0,0,0],[0,0,0,0],[1,7,0,0],[1,2,0,0],[1,2,0,0],[1,5,0,0],[5,2,0,0],[1,8,0,0],[8,2,0,0],[1,9,0,0],[1,0,0,0],[4,2,2,0],[4,2,3,0],[1,2,2,0],[2,2,2,0],[1,15,2,0],[1,16,2,2],[10,0,0,0],[2,10,0,0],[2,10,0,0],[1,0,0,0],[6,2,0,0],[6,3,0,0],[1,3,0,0],[1,6,17,0],[1,6,0,0],[1,2,3,0],[3,0,0,0],[2,0,0,0],[10,14,0,0],[0,0,0,0],[13,0,0,0],[13,0,0,0],[2,3,0,0],[0,0,0,0],[18,0,0,0],[18,10,0,0],[18,10,0,0],[19,0,0,0],[20,10,1,0],[21,0,0,0]]
def Bt (op:Nat):List Nat:=Dr.getD op []
theorem A2m (n:Nat) (h1:1<=n) (h2:n<=42):n=1∨n=2∨n=3∨n=4∨n=5∨n=6∨n=7∨n=8∨n=9∨n=10∨n=11∨n=12∨n=13∨n=14∨n=15∨n=16∨n=17∨n=18∨n=19∨n=20∨n=21∨n=22∨n=23∨n=24∨n=25∨n=26∨n=27∨n=28∨n=29∨n=30∨n=31∨n=32∨n=33∨n=34∨n=35∨n=36∨n=37∨n=38∨n=39∨n=40∨n=41∨n=42:=by omega
end Go.Proofs.YtbefeflgjipfhaaGreatDoor
