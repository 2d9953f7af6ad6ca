import Derived.Test.YtjbbppblgjhapaaGreatDoorProg
import Derived.WalkKit
import Derived.WalkSpells
import Derived.WalkLawsBesides
import Derived.Deep.QuietTactic
import Derived.BigQuiet
import Derived.Deep.OwnRows
import Derived.Deep.RegionHeld3
set_option maxHeartbeats 400000
namespace Go.Proofs.YtjbbppblgjhapaaGreatDoor
open Go.Deep Go.Proofs.Tryz Go.RowKit
variable{k lo lo':Nat}{ao:Option Addr}{P:Program}{α:Type}{a b w':World}
instance iI:Coe Int Value:=⟨fun n=>.int .i64 n⟩
instance iN:Coe Nat Value:=⟨fun n=>.int .i64 (n:Int)⟩
instance iU:Coe Unit Value:=⟨fun _=>.int .i64 0⟩
instance iB:Coe Bool Value:=⟨fun b=>.bool b⟩
instance iS:Coe ByteArray Value:=⟨fun s=>.string s⟩
instance iW:Coe World Nat:=⟨fun w=>w.heap.size⟩
instance iO:Coe Nat (Option Addr):=⟨fun b=>some ⟨b,0,none⟩⟩
structure Zs where
def nS:Zs:=⟨⟩
instance iZ:Coe Zs Value:=⟨fun _=>.slice none 0 0⟩
instance iA (a b:Nat):CoeDep (Nat×Nat) (a,b) Addr:=⟨⟨a,b,none⟩⟩
abbrev Kw (f:Nat) (xs:Array Value) (w:World) (v:Value):Prop:=Calls prog f xs w fun e w'=>e=.returned v/\Below w.heap.size w w'
theorem wk {Q:Exit->Act->World->Prop} {a:Act} {w:World} {x y:Code} (h:∀K:Act->World->Prop,Hid (∀a w,y.wp P Q a w->K a w)->x.wp P (Exit.then K Q) a w):(Code.seq x y).wp P Q a w:=wp_seq_k h
theorem yA:type_of% @Below.refl:=@Below.refl
theorem yB:type_of% @Nat.le_refl:=@Nat.le_refl
theorem yC:type_of% @List.setIfInBounds_toArray:=@List.setIfInBounds_toArray
theorem yD:type_of% @List.getElem?_eq_some_iff:=@List.getElem?_eq_some_iff
theorem yE:type_of% @Nat.zero_le:=@Nat.zero_le
theorem yF:type_of% @Nat.lt_of_lt_of_le:=@Nat.lt_of_lt_of_le
theorem yG:type_of% @World.cell?_setCell_far:=@World.cell?_setCell_far
theorem yH:type_of% @List.mem_of_getElem?:=@List.mem_of_getElem?
theorem yI:type_of% @Nat.le_trans:=@Nat.le_trans
theorem yJ:type_of% @List.set_cons_zero:=@List.set_cons_zero
theorem yK:type_of% @List.set_cons_succ:=@List.set_cons_succ
theorem yL:type_of% @Below.heap_setCell:=@Below.heap_setCell
theorem yM:type_of% @Nat.zero_add:=@Nat.zero_add
theorem yN:type_of% @Int.eq_ofNat_of_zero_le:=@Int.eq_ofNat_of_zero_le
theorem yO:type_of% @Option.some.inj:=@Option.some.inj
theorem yP:type_of% @Below.setCell:=@Below.setCell
theorem yQ:type_of% @List.drop_of_length_le:=@List.drop_of_length_le
theorem yR:type_of% @List.getD_eq_getElem?_getD:=@List.getD_eq_getElem?_getD
theorem yS:type_of% @World.rangeAt_setCells_same:=@World.rangeAt_setCells_same
theorem yT:type_of% @List.mem_singleton:=@List.mem_singleton
theorem yU:type_of% @World.ownsRow_nil:=@World.ownsRow_nil
theorem yV:type_of% @List.getElem?_eq_getElem:=@List.getElem?_eq_getElem
theorem yW:type_of% @List.length_eq_zero_iff:=@List.length_eq_zero_iff
theorem yX:type_of% @World.cell?_of_block:=@World.cell?_of_block
theorem yY:type_of% @Bool.and_eq_true:=@Bool.and_eq_true
theorem yZ:type_of% @List.mem_append:=@List.mem_append
theorem Ab {a b:Bool} (h:a=b):Ending.returned (.bool a)=.returned (.bool b):=by rw[h]
theorem Ar {k:IntKind} {a b:Int} (h:a=b):Ending.returned (.int k a)=.returned (.int k b):=by rw[h]
theorem Oe {W w1:World} (hb:Below W W w1):(∀b o,b<(W:Nat)->w1.cell? ⟨b,o,none⟩=W.cell? ⟨b,o,none⟩)/\(∀b o,b<(W:Nat)->w1.frozen? ⟨b,o,none⟩=W.frozen? ⟨b,o,none⟩):=
 ⟨fun b o h=>hb.cell (p:=⟨b,o,none⟩) h,fun b o h=>hb.frozen (p:=⟨b,o,none⟩) h⟩
theorem Ac (P:Program) (w:World) (a:Addr) (m:Mode) (k:FloatKind) (n:Nat):(store a (.float k n) m).run P w=stored P w a (.float k n) m:=run_store P w a _ m rfl
structure Ud where
 loc:Bool
 idx:Int
structure Vd where
 kind:Int
 num:Int
 flt:Nat
 str:ByteArray
 ref:Int
structure Nd where
 op:Int
 a:Int
 b:Int
 c:Int
 d:Int
structure Md where
 name:ByteArray
 reg:Int
 fr:Int
 to:Int
structure Pd where
 name:ByteArray
 line:Int
 params:Int
 rest:Bool
 regs:Int
 ups:List Ud
 consts:List Vd
 ins:List Nd
 named:List Md
def Ud.val (u:Ud):Value:=.agg #[.bool u.loc,u.idx]
def Vd.val (v:Vd):Value:=.agg #[v.kind,v.num,.float .f64 v.flt,v.str,v.ref]
def Nd.val (n:Nd):Value:=.agg #[n.op,n.a,n.b,n.c,n.d]
def Md.val (m:Md):Value:=.agg #[m.name,m.reg,m.fr,m.to]
structure A7 (lo:Nat) (w w':World):Prop where
 size:(w:Nat)<=(w':Nat)
 block:∀k,lo<=k->k<(w:Nat)->w'.heap[k]?=w.heap[k]?
theorem A7.o{w:World} (h:Below w w w'):A7 lo w w':=⟨h.size,fun k _ hk=>h.block k hk⟩
theorem A7.refl (lo:Nat) (w:World):A7 lo w w:=⟨yB _,fun _ _ _=>rfl⟩
theorem A7.trans{c:World} (h:A7 lo a b) (k:A7 lo b c):A7 lo a c:=
 ⟨yI h.size k.size,fun i hl hi=>(k.block i hl (yF hi h.size)).trans (h.block i hl hi)⟩
theorem A7.mono (h:A7 lo a b) (hl:lo<=lo'):A7 lo' a b:=⟨h.size,fun k hk hs=>h.block k (yI hl hk) hs⟩
theorem A7.setCell{w:World} (h:A7 lo a w) {p:Addr} (hp:p.block<lo) (u:Value):A7 lo a (w.setCell p u):=
 h.trans ⟨by simp,fun k hk _=>yL _ _ _ _ (by omega)⟩
theorem A7.alloc{w:World} (h:A7 lo a w) (o:Obj):A7 lo a (w.alloc o):=
 h.trans ⟨by simp,fun k _ hs=>Below.heap_alloc _ _ _ hs⟩
theorem A7.cell{w:World} (h:A7 lo w w') {b o:Nat} (hl:lo<=b) (hb:b<(w:Nat)):w'.cell? (b,o)=w.cell? (b,o):=
 yX (w:=w) (a:=(b,o)) (h.block b hl hb)
def Ah {α:Type} (lo:Nat) (w:World) (ao:Option Addr) (k:Nat) (at_:Nat->Nat->α->Prop) (xs:List α):Prop:=
 ∀i x,xs[i]?=some x->∃b off,ao=some ⟨b,off,none⟩/\lo<=b/\b<(w:Nat)/\at_ b (off+i*k) x
theorem Ah.l{w:World} {at1 at2:Nat->Nat->α->Prop} {xs:List α} (h:Ah lo w ao k at1 xs) (hk:A7 lo w w')
  (hat:∀b o x,lo<=b->b<(w:Nat)->x∈xs->at1 b o x->at2 b o x):Ah lo w' ao k at2 xs:=by
 intro i x hx;obtain⟨b,off,e,hl,hs,ha⟩:=h i x hx;exact⟨b,off,e,hl,yF hs hk.size,hat _ _ _ hl hs (yH hx) ha⟩
theorem Ah.w {w:World} {at1:Nat->Nat->α->Prop} {xs:List α} (h:Ah lo w ao k at1 xs) (hl:lo'<=lo):Ah lo' w ao k at1 xs:=by intro i x hx;obtain⟨b,off,e,h1,hs,ha⟩:=h i x hx;exact⟨b,off,e,yI hl h1,hs,ha⟩
def UpAt (w:World) (b o:Nat) (u:Ud):Prop:=w.cell? (b,o)=some (.bool u.loc)/\w.cell? (b,o+1)=some (u.idx:Value)
def A6w (w:World) (b o:Nat) (v:Vd):Prop:=w.cell? (b,o)=some (v.kind:Value)/\w.cell? (b,o+1)=some (v.num:Value)/\w.cell? (b,o+2)=some (.float .f64 v.flt)/\w.cell? (b,o+3)=some (.string v.str)/\w.cell? (b,o+4)=some (v.ref:Value)
def A6u (w:World) (b o:Nat) (n:Nd):Prop:=w.cell? (b,o)=some (n.op:Value)/\w.cell? (b,o+1)=some (n.a:Value)/\w.cell? (b,o+2)=some (n.b:Value)/\w.cell? (b,o+3)=some (n.c:Value)/\w.cell? (b,o+4)=some (n.d:Value)
def A6v (w:World) (b o:Nat) (m:Md):Prop:=w.cell? (b,o)=some (.string m.name)/\w.cell? (b,o+1)=some (m.reg:Value)/\w.cell? (b,o+2)=some (m.fr:Value)/\w.cell? (b,o+3)=some (m.to:Value)
def Je (lo:Nat) (w:World) (ao:Option Addr) (xs:List Ud):Prop:=Ah lo w ao 2 (UpAt w) xs
def Ba (lo:Nat) (w:World) (ao:Option Addr) (xs:List Vd):Prop:=Ah lo w ao 5 (A6w w) xs
def Ck (lo:Nat) (w:World) (ao:Option Addr) (xs:List Nd):Prop:=Ah lo w ao 5 (A6u w) xs
def J7 (lo:Nat) (w:World) (ao:Option Addr) (xs:List Md):Prop:=Ah lo w ao 4 (A6v w) xs
theorem Je.l{w:World} {xs:List Ud} (h:Je lo w ao xs) (hk:A7 lo w w'):Je lo w' ao xs:=
 Ah.l h hk (fun b o x hl hs _ ha=>by unfold UpAt;rw[hk.cell hl hs,hk.cell hl hs];exact ha)
theorem Ba.l{w:World} {xs:List Vd} (h:Ba lo w ao xs) (hk:A7 lo w w'):Ba lo w' ao xs:=
 Ah.l h hk (fun b o x hl hs _ ha=>by unfold A6w;rw[hk.cell hl hs,hk.cell hl hs,hk.cell hl hs,hk.cell hl hs,hk.cell hl hs];exact ha)
theorem Ck.l{w:World} {xs:List Nd} (h:Ck lo w ao xs) (hk:A7 lo w w'):Ck lo w' ao xs:=
 Ah.l h hk (fun b o x hl hs _ ha=>by unfold A6u;rw[hk.cell hl hs,hk.cell hl hs,hk.cell hl hs,hk.cell hl hs,hk.cell hl hs];exact ha)
theorem J7.l{w:World} {xs:List Md} (h:J7 lo w ao xs) (hk:A7 lo w w'):J7 lo w' ao xs:=
 Ah.l h hk (fun b o x hl hs _ ha=>by unfold A6v;rw[hk.cell hl hs,hk.cell hl hs,hk.cell hl hs,hk.cell hl hs];exact ha)
structure Ph where
 uo:Option Addr
 uc:Nat
 co:Option Addr
 cc:Nat
 io:Option Addr
 ic:Nat
 no:Option Addr
 nc:Nat
def Pd.cells (p:Pd) (h:Ph):Array Value:=#[p.name,p.line,p.params,.bool p.rest,p.regs,.slice h.uo p.ups.length h.uc,.slice h.co p.consts.length h.cc,.slice h.io p.ins.length h.ic,.slice h.no p.named.length h.nc]
structure PIn (lo:Nat) (w:World) (h:Ph) (p:Pd):Prop where
 ups:Je lo w h.uo p.ups
 consts:Ba lo w h.co p.consts
 ins:Ck lo w h.io p.ins
 named:J7 lo w h.no p.named
theorem PIn.l{w:World} {h:Ph} {p:Pd} (x:PIn lo w h p) (hk:A7 lo w w'):PIn lo w' h p:=⟨x.ups.l hk,x.consts.l hk,x.ins.l hk,x.named.l hk⟩
theorem PIn.w {w:World} {h:Ph} {p:Pd} (x:PIn lo w h p) (hl:lo'<=lo):PIn lo' w h p:=⟨Ah.w x.ups hl,Ah.w x.consts hl,Ah.w x.ins hl,Ah.w x.named hl⟩
def J8 (w:World) (b o:Nat) (h:Ph) (p:Pd):Prop:=
 w.cell? (b,o)=some (.string p.name)/\w.cell? (b,o+1)=some (p.line:Value)/\w.cell? (b,o+2)=some (p.params:Value)/\w.cell? (b,o+3)=some (.bool p.rest)/\w.cell? (b,o+4)=some (p.regs:Value)/\
  w.cell? (b,o+5)=some (.slice h.uo p.ups.length h.uc)/\w.cell? (b,o+6)=some (.slice h.co p.consts.length h.cc)/\w.cell? (b,o+7)=some (.slice h.io p.ins.length h.ic)/\w.cell? (b,o+8)=some (.slice h.no p.named.length h.nc)
def Zj (lo:Nat) (w:World) (b o:Nat) (p:Pd):Prop:=∃h,J8 w b o h p/\PIn lo w h p
def Ad (lo:Nat) (w:World) (ao:Option Addr) (xs:List Pd):Prop:=Ah lo w ao 9 (Zj lo w) xs
theorem Ad.l{w:World} {xs:List Pd} (h:Ad lo w ao xs) (hk:A7 lo w w'):Ad lo w' ao xs:=
 Ah.l h hk (fun b o x hl hs _ ⟨g,ha,hp⟩=>⟨g,by unfold J8;rw[hk.cell hl hs,hk.cell hl hs,hk.cell hl hs,hk.cell hl hs,hk.cell hl hs,hk.cell hl hs,hk.cell hl hs,hk.cell hl hs,hk.cell hl hs];exact ha,hp.l hk⟩)
theorem Ao {l:List α} {x:α} (h:l[k]?=some x):l.drop k=x::l.drop (k+1):=by obtain⟨hk,rfl⟩:=yD.1 h;exact List.drop_eq_getElem_cons hk
theorem A8 {l:List α} (h:k<l.length):∃x,l[k]?=some x:=⟨l[k],yV h⟩
def I64 (x:Int):Prop:=-9223372036854775808<=x/\x<=9223372036854775807
end Go.Proofs.YtjbbppblgjhapaaGreatDoor
namespace Go.Proofs.YtjbbppblgjhapaaGreatDoor
open Go.Deep Go.Proofs.Tryz Go.RowKit
variable{arr:Array Value}{ps:List Pd}{us:List Ud}{b g k lo lo' m n:Nat}{ao:Option Addr}{p:Pd}{h:Ph}{P:Program}{α:Type}{t:TypeId}{w':World}
attribute [local go_sem] Ac
theorem Bj (t e:TypeId) (z:Value) (size bytes:Nat) (ht:P.underlying t=some (.slice e)) (hinfo:(P.info? e).map (fun i=>(i.zero,i.size,i.bytes))=some (some z,size,bytes))
  (kl kc:IntKind) (n:Nat) (hbytes:bytes*n<=281474976710656) (h63:n<=9223372036854775807) (w:World) :
  (Instr.makeSlice t (.int kl (n:Int)) (.int kc (n:Int))).run P w=.ok (.slice (w:Nat) n n) (w.alloc (.cells (madeCells z.cells (n*size)) e)):=by
 obtain⟨i,hi,hzz⟩:=Option.map_eq_some_iff.1 hinfo;simp only[Prod.mk.injEq]at hzz;obtain⟨hz,hs,hb⟩:=hzz;have hb':(i.bytes:Int)*(n:Int)<=281474976710656:=by
  have h:((i.bytes*n:Nat):Int)<=281474976710656:=by rw[hb];omega
  rwa [Int.natCast_mul]at h
 have hr:=run_make w t e i z ht hi hz kl kc n n (by omega) (Int.le_refl _) hb' (by omega);simp only[Int.toNat_natCast,hs]at hr;exact hr
def Own (w:World) (g:Nat) (t:TypeId) (n:Nat):Prop:=∃c:Array Value,w.heap[g]?=some (.cells c t (0,0))/\c.size=n
theorem Own.cell {w:World}{i:Nat} (h:Own w g t n) (hi:i<n):∃v,w.cell? (g,i)=some v:=by obtain⟨c,hb,rfl⟩:=h;exact⟨c[i],by simp[World.cell?,hb,hi]⟩
theorem Own.frozen {w:World} (h:Own w g t n) (i:Nat):w.frozen? (g,i)=false:=by obtain⟨c,hb,_⟩:=h;simp[World.frozen?,hb]
theorem Own.lt {w:World} (h:Own w g t n):g<(w:Nat):=by obtain⟨c,hb,_⟩:=h;exact(Array.getElem?_eq_some_iff.1 hb).1
theorem Own.of_block{w:World} (h:Own w g t n) (e:w'.heap[g]?=w.heap[g]?):Own w' g t n:=by obtain⟨c,hb,hn⟩:=h;exact⟨c,e.trans hb,hn⟩
theorem Own.l{w:World} (h:Own w g t n) (hb:Below w w w'):Own w' g t n:=h.of_block (hb.block g h.lt)
theorem Own.set {w:World} (h:Own w g t n) (i:Nat) (v:Value):Own (w.setCell (g,i) v) g t n:=by obtain⟨c,hb,hn⟩:=h;exact⟨c.setIfInBounds i v,by simp[World.setCell,Array.getElem?_modify,hb],by simpa using hn⟩
theorem Own.made (w:World) (zs:Array Value) (n:Nat) (t:TypeId):Own (w.alloc (.cells (madeCells zs n) t)) (w:Nat) t n:=⟨_,blk_alloc_new _ _,size_madeCells _ _⟩
def Hg {α:Type} (w:World) (g m:Nat) (vals:α->List Value) (xs:List α) (k:Nat):Prop:=∀j y,j<k->xs[j]?=some y->∀i v,(vals y)[i]?=some v->w.cell? ⟨g,j*m+i,none⟩=some v
theorem Hg.zero (w:World) (g m:Nat) (vals:α->List Value) (xs:List α):Hg w g m vals xs 0:=fun _ _ h=>absurd h (Nat.not_lt_zero _)
theorem Hg.l{w:World} {vals:α->List Value} {xs:List α} (h:Hg w g m vals xs k) (hb:Below w w w') (hg:g<(w:Nat)):Hg w' g m vals xs k:=
 fun j y hj hy i v hv=>(hb.cell (p:=⟨g,j*m+i,none⟩) hg).trans (h j y hj hy i v hv)
theorem Own.sets : ∀(vs:List Value) (o:Nat) {w:World},Own w g t n->Own (w.setCells g o vs) g t n
 | [],_,_,h=>h
 | v::r,o,_,h=>Own.sets r (o+1) (h.set o v)
theorem Below.sets{B:Nat} : ∀(vs:List Value) (o:Nat) {a w:World},Below B a w->B<=g->Below B a (w.setCells g o vs)
 | [],_,_,_,h,_=>h
 | v::r,o,_,_,h,hg=>Below.sets r (o+1) (h.setCell (p:=(g,o)) hg v) hg
theorem Hg.step {w:World} {vals:α->List Value} {xs:List α} {x:α} (h:Hg w g m vals xs k) (own:Own w g t n) (hn:k*m+m<=n) (hlen:∀y,(vals y).length=m) (hx:xs[k]?=some x) :
  Hg (w.setCells g (k*m) (vals x)) g m vals xs (k+1):=by
 intro j y hj hy i v hv;have hi:i<m:=by rw[←hlen y];exact(yD.1 hv).1
 by_cases e:j=k
 ·subst e;obtain rfl:x=y:=yO (hx.symm.trans hy);obtain⟨hi',hv'⟩:=yD.1 hv;rw[World.cell?_setCells_in g (vals x) (j*m) w (fun i hi2=>by
   rw[hlen]at hi2;obtain⟨u,hu⟩:=own.cell (i:=j*m+i) (by omega);rw[hu];rfl) i hi',hv']
 ·have hlt:j<k:=by omega
  have:(j+1)*m<=k*m:=Nat.mul_le_mul_right m hlt;rw[Nat.add_mul,Nat.one_mul]at this;rw[World.cell?_setCells_out g (vals x) (k*m) w _ (fun _ _=>Or.inl (by show j*m+i<k*m;omega))];exact h j y hlt hy i v hv
def Blk (w:World) (b:Nat) (arr:Array Value) (t:TypeId):Prop:=w.heap[b]?=some (.cells arr t (0,0))
theorem Blk.new (w:World) (arr:Array Value) (t:TypeId):Blk (w.alloc (.cells arr t)) (w:Nat) arr t:=blk_alloc_new _ _
theorem Blk.lt {w:World} (h:Blk w b arr t):b<(w:Nat):=(Array.getElem?_eq_some_iff.1 h).1
theorem Blk.alloc {w:World} (h:Blk w b arr t) (o:Obj):Blk (w.alloc o) b arr t:=(blk_alloc_lt _ _ _ h.lt).trans h
theorem Blk.l{w:World} (h:Blk w b arr t) (hb:Below w w w'):Blk w' b arr t:=(hb.block b h.lt).trans h
theorem Blk.set {w:World} (h:Blk w b arr t) (i:Nat) (v:Value):Blk (w.setCell (b,i) v) b (arr.setIfInBounds i v) t:=by unfold Blk at *;simp[World.setCell,Array.getElem?_modify,h]
theorem Blk.setOther {w:World} (h:Blk w b arr t) {p:Addr} (hp:b≠p.block) (v:Value):Blk (w.setCell p v) b arr t:=(blk_setCell_other _ _ _ _ hp).trans h
theorem Blk.cell {w:World} (h:Blk w b arr t) (o:Nat):w.cell? (b,o)=arr[o]?:=by unfold Blk at h;simp[World.cell?,h]
theorem Blk.frozen {w:World} (h:Blk w b arr t) (o:Nat):w.frozen? (b,o)=false:=by unfold Blk at h;simp[World.frozen?,h]
theorem Tryz.info_Up:(prog.info? 274).map (fun i=>(i.zero,i.size,i.bytes))=some (some (.agg #[false,()]),2,16):=by kernel_rfl
theorem Acb (u:Ud) (w:World):Kw 243 #[u.val] w u.val:=by obtain⟨l,x⟩:=u;dsimp only[Ud.val];unfold Kw;go_in;go_wp2_with fail;refine bodyPost_ret (by simp[results,results243,go_sem]) rfl ⟨rfl,?_⟩;repeat (first|exact yA _ _|refine Below.alloc ?_ (by simp;try omega) _|refine yP ?_ (by simp;try omega) _)
def Ud.vals (u:Ud):List Value:=[.bool u.loc,u.idx]
theorem Hg.ups {w:World}{t:Nat} (own:Own w g t n) (h:Hg w g 2 Ud.vals us us.length) (hl:lo<=g):Je lo w g us:=by intro i u hi;have hk:=(yD.1 hi).1;have:=h i u hk hi;refine⟨g,0,rfl,hl,own.lt,?_⟩;rw[yM];exact⟨this 0 _ rfl,this 1 _ rfl⟩
theorem A9o (ao:Option Addr) (cap:Nat) (us:List Ud) (w:World) (hm:us.length<=1048576) (hu:Je 0 w ao us) :
  Calls prog 172 #[.slice ao us.length cap] w fun e w'=>e=.returned (.slice (w:Nat) us.length us.length)/\Je (w:Nat) w' (w:Nat) us/\Own w' (w:Nat) 274 (us.length*2)/\Below w w w':=by
 have hmk:=Bj 73 274 _ 2 16 underlying73 Tryz.info_Up .i64 .i64 us.length (by omega) (by omega);go_in;go_wp2_with fail;clear hmk;go_loopw [4] (fun i wr=>∃k:Nat,k<=us.length/\i=k/\Own wr (w:Nat) 274 (us.length*2)/\Hg wr (w:Nat) 2 Ud.vals us k/\Below w w wr) (fun i _=>us.length-(intOf i).toNat);case atStart=>exact⟨0,yE _,rfl,Own.made _ _ _ _,Hg.zero _ _ _ _ _,(yA _ _).alloc (yB _) _⟩
 case round=>
  obtain⟨k,hk,rfl,hown,hdone,hb⟩:=hrel;by_cases hlt:k<us.length
  ·obtain⟨u,huk⟩:=A8 hlt;obtain⟨b,off,rfl,_,hbl,p0,p1⟩:=hu.l (A7.o hb) k u huk;clear hu;go_wp2_with fail;refine(Acb u _).mono ?_;rintro e w1 ⟨rfl,hw1⟩;have own1:=hown.l hw1;have done1:=hdone.l hw1 hown.lt;have B1:=hb.trans (hw1.mono hb.size);have R1:=own1.sets u.vals (k*2);have R2:=done1.step own1 (by omega) (fun _=>rfl) huk;have R3:=Below.sets u.vals (k*2) B1 (yB _);have hn:k*2+2<=us.length*2:=by omega
   obtain⟨v0,c0⟩:=own1.cell (i:=k*2) (by omega);obtain⟨v1,c1⟩:=own1.cell (i:=k*2+1) (by omega);have f0:=own1.frozen (k*2);have f1:=own1.frozen (k*2+1);clear hown hdone hb own1 done1 B1 hw1 p0 p1;unfold Ud.val;go_wp2;go_roundw;case rel=>exact⟨k+1,by omega,by go_num,R1,R2,R3⟩
   case measure=>simp[intOf];omega
  ·go_wp2;go_ret;obtain rfl:k=us.length:=by omega
   exact⟨rfl,hdone.ups hown (yB _),hown,hb⟩
theorem Tryz.info_Value:(prog.info? 210).map (fun i=>(i.zero,i.size,i.bytes))=some (some (.agg #[(),(),.float .f64 0,ByteArray.empty,()]),5,48):=by kernel_rfl
theorem A4p (u:Vd) (w:World):Kw 244 #[u.val] w u.val:=by obtain⟨x0,x1,x2,x3,x4⟩:=u;dsimp only[Vd.val];unfold Kw;go_in;go_wp2_with fail;refine bodyPost_ret (by simp[results,results244,go_sem]) rfl ⟨rfl,?_⟩;repeat (first|exact yA _ _|refine Below.alloc ?_ (by simp;try omega) _|refine yP ?_ (by simp;try omega) _)
def Vd.vals (u:Vd):List Value:=[u.kind,u.num,.float .f64 u.flt,u.str,u.ref]
theorem Hg.vals {w:World}{t:Nat} {us:List Vd} (own:Own w g t n) (h:Hg w g 5 Vd.vals us us.length) (hl:lo<=g):Ba lo w g us:=by intro i u hi;have hk:=(yD.1 hi).1;have:=h i u hk hi;refine⟨g,0,rfl,hl,own.lt,?_⟩;rw[yM];exact⟨this 0 _ rfl,this 1 _ rfl,this 2 _ rfl,this 3 _ rfl,this 4 _ rfl⟩
theorem A1q (ao:Option Addr) (cap:Nat) (us:List Vd) (w:World) (hm:us.length<=1048576) (hu:Ba 0 w ao us) :
  Calls prog 173 #[.slice ao us.length cap] w fun e w'=>e=.returned (.slice (w:Nat) us.length us.length)/\Ba (w:Nat) w' (w:Nat) us/\Own w' (w:Nat) 210 (us.length*5)/\Below w w w':=by
 have hmk:=Bj 51 210 _ 5 48 underlying51 Tryz.info_Value .i64 .i64 us.length (by omega) (by omega);go_in;go_wp2_with fail;clear hmk;go_loopw [4] (fun i wr=>∃k:Nat,k<=us.length/\i=k/\Own wr (w:Nat) 210 (us.length*5)/\Hg wr (w:Nat) 5 Vd.vals us k/\Below w w wr) (fun i _=>us.length-(intOf i).toNat);case atStart=>exact⟨0,yE _,rfl,Own.made _ _ _ _,Hg.zero _ _ _ _ _,(yA _ _).alloc (yB _) _⟩
 case round=>
  obtain⟨k,hk,rfl,hown,hdone,hb⟩:=hrel;by_cases hlt:k<us.length
  ·obtain⟨u,huk⟩:=A8 hlt;obtain⟨b,off,rfl,_,hbl,p0,p1,p2,p3,p4⟩:=hu.l (A7.o hb) k u huk;clear hu;go_wp2_with fail;refine(A4p u _).mono ?_;rintro e w1 ⟨rfl,hw1⟩;have own1:=hown.l hw1;have done1:=hdone.l hw1 hown.lt;have B1:=hb.trans (hw1.mono hb.size);have R1:=own1.sets u.vals (k*5);have R2:=done1.step own1 (by omega) (fun _=>rfl) huk;have R3:=Below.sets u.vals (k*5) B1 (yB _);have hn:k*5+5<=us.length*5:=by omega
   obtain⟨v0,c0⟩:=own1.cell (i:=k*5) (by omega);obtain⟨v1,c1⟩:=own1.cell (i:=k*5+1) (by omega);obtain⟨v2,c2⟩:=own1.cell (i:=k*5+2) (by omega);obtain⟨v3,c3⟩:=own1.cell (i:=k*5+3) (by omega);obtain⟨v4,c4⟩:=own1.cell (i:=k*5+4) (by omega);have f0:=own1.frozen (k*5);have f1:=own1.frozen (k*5+1);have f2:=own1.frozen (k*5+2);have f3:=own1.frozen (k*5+3);have f4:=own1.frozen (k*5+4);clear hown hdone hb own1 done1 B1 hw1 p0 p1 p2 p3 p4;unfold Vd.val;go_wp2;go_roundw;case rel=>exact⟨k+1,by omega,by go_num,R1,R2,R3⟩
   case measure=>simp[intOf];omega
  ·go_wp2;go_ret;obtain rfl:k=us.length:=by omega
   exact⟨rfl,hdone.vals hown (yB _),hown,hb⟩
theorem Tryz.info_Ins:(prog.info? 81).map (fun i=>(i.zero,i.size,i.bytes))=some (some (.agg #[(),(),(),(),()]),5,40):=by kernel_rfl
theorem A9n (u:Nd) (w:World):Kw 245 #[u.val] w u.val:=by obtain⟨x0,x1,x2,x3,x4⟩:=u;dsimp only[Nd.val];unfold Kw;go_in;go_wp2_with fail;refine bodyPost_ret (by simp[results,results245,go_sem]) rfl ⟨rfl,?_⟩;repeat (first|exact yA _ _|refine Below.alloc ?_ (by simp;try omega) _|refine yP ?_ (by simp;try omega) _)
def Nd.vals (u:Nd):List Value:=[u.op,u.a,u.b,u.c,u.d]
theorem Hg.inss {w:World}{t:Nat} {us:List Nd} (own:Own w g t n) (h:Hg w g 5 Nd.vals us us.length) (hl:lo<=g):Ck lo w g us:=by intro i u hi;have hk:=(yD.1 hi).1;have:=h i u hk hi;refine⟨g,0,rfl,hl,own.lt,?_⟩;rw[yM];exact⟨this 0 _ rfl,this 1 _ rfl,this 2 _ rfl,this 3 _ rfl,this 4 _ rfl⟩
theorem A6n (ao:Option Addr) (cap:Nat) (us:List Nd) (w:World) (hm:us.length<=1048576) (hu:Ck 0 w ao us) :
  Calls prog 174 #[.slice ao us.length cap] w fun e w'=>e=.returned (.slice (w:Nat) us.length us.length)/\Ck (w:Nat) w' (w:Nat) us/\Own w' (w:Nat) 81 (us.length*5)/\Below w w w':=by
 have hmk:=Bj 74 81 _ 5 40 underlying74 Tryz.info_Ins .i64 .i64 us.length (by omega) (by omega);go_in;go_wp2_with fail;clear hmk;go_loopw [4] (fun i wr=>∃k:Nat,k<=us.length/\i=k/\Own wr (w:Nat) 81 (us.length*5)/\Hg wr (w:Nat) 5 Nd.vals us k/\Below w w wr) (fun i _=>us.length-(intOf i).toNat);case atStart=>exact⟨0,yE _,rfl,Own.made _ _ _ _,Hg.zero _ _ _ _ _,(yA _ _).alloc (yB _) _⟩
 case round=>
  obtain⟨k,hk,rfl,hown,hdone,hb⟩:=hrel;by_cases hlt:k<us.length
  ·obtain⟨u,huk⟩:=A8 hlt;obtain⟨b,off,rfl,_,hbl,p0,p1,p2,p3,p4⟩:=hu.l (A7.o hb) k u huk;clear hu;go_wp2_with fail;refine(A9n u _).mono ?_;rintro e w1 ⟨rfl,hw1⟩;have own1:=hown.l hw1;have done1:=hdone.l hw1 hown.lt;have B1:=hb.trans (hw1.mono hb.size);have R1:=own1.sets u.vals (k*5);have R2:=done1.step own1 (by omega) (fun _=>rfl) huk;have R3:=Below.sets u.vals (k*5) B1 (yB _);have hn:k*5+5<=us.length*5:=by omega
   obtain⟨v0,c0⟩:=own1.cell (i:=k*5) (by omega);obtain⟨v1,c1⟩:=own1.cell (i:=k*5+1) (by omega);obtain⟨v2,c2⟩:=own1.cell (i:=k*5+2) (by omega);obtain⟨v3,c3⟩:=own1.cell (i:=k*5+3) (by omega);obtain⟨v4,c4⟩:=own1.cell (i:=k*5+4) (by omega);have f0:=own1.frozen (k*5);have f1:=own1.frozen (k*5+1);have f2:=own1.frozen (k*5+2);have f3:=own1.frozen (k*5+3);have f4:=own1.frozen (k*5+4);clear hown hdone hb own1 done1 B1 hw1 p0 p1 p2 p3 p4;unfold Nd.val;go_wp2;go_roundw;case rel=>exact⟨k+1,by omega,by go_num,R1,R2,R3⟩
   case measure=>simp[intOf];omega
  ·go_wp2;go_ret;obtain rfl:k=us.length:=by omega
   exact⟨rfl,hdone.inss hown (yB _),hown,hb⟩
theorem Tryz.info_Named:(prog.info? 287).map (fun i=>(i.zero,i.size,i.bytes))=some (some (.agg #[ByteArray.empty,(),(),()]),4,40):=by kernel_rfl
theorem A4m (u:Md) (w:World):Kw 246 #[u.val] w u.val:=by obtain⟨x0,x1,x2,x3⟩:=u;dsimp only[Md.val];unfold Kw;go_in;go_wp2_with fail;refine bodyPost_ret (by simp[results,results246,go_sem]) rfl ⟨rfl,?_⟩;repeat (first|exact yA _ _|refine Below.alloc ?_ (by simp;try omega) _|refine yP ?_ (by simp;try omega) _)
def Md.vals (u:Md):List Value:=[u.name,u.reg,u.fr,u.to]
theorem Hg.nams {w:World}{t:Nat} {us:List Md} (own:Own w g t n) (h:Hg w g 4 Md.vals us us.length) (hl:lo<=g):J7 lo w g us:=by intro i u hi;have hk:=(yD.1 hi).1;have:=h i u hk hi;refine⟨g,0,rfl,hl,own.lt,?_⟩;rw[yM];exact⟨this 0 _ rfl,this 1 _ rfl,this 2 _ rfl,this 3 _ rfl⟩
theorem A1o (ao:Option Addr) (cap:Nat) (us:List Md) (w:World) (hm:us.length<=1048576) (hu:J7 0 w ao us) :
  Calls prog 175 #[.slice ao us.length cap] w fun e w'=>e=.returned (.slice (w:Nat) us.length us.length)/\J7 (w:Nat) w' (w:Nat) us/\Own w' (w:Nat) 287 (us.length*4)/\Below w w w':=by
 have hmk:=Bj 75 287 _ 4 40 underlying75 Tryz.info_Named .i64 .i64 us.length (by omega) (by omega);go_in;go_wp2_with fail;clear hmk;go_loopw [4] (fun i wr=>∃k:Nat,k<=us.length/\i=k/\Own wr (w:Nat) 287 (us.length*4)/\Hg wr (w:Nat) 4 Md.vals us k/\Below w w wr) (fun i _=>us.length-(intOf i).toNat);case atStart=>exact⟨0,yE _,rfl,Own.made _ _ _ _,Hg.zero _ _ _ _ _,(yA _ _).alloc (yB _) _⟩
 case round=>
  obtain⟨k,hk,rfl,hown,hdone,hb⟩:=hrel;by_cases hlt:k<us.length
  ·obtain⟨u,huk⟩:=A8 hlt;obtain⟨b,off,rfl,_,hbl,p0,p1,p2,p3⟩:=hu.l (A7.o hb) k u huk;clear hu;go_wp2_with fail;refine(A4m u _).mono ?_;rintro e w1 ⟨rfl,hw1⟩;have own1:=hown.l hw1;have done1:=hdone.l hw1 hown.lt;have B1:=hb.trans (hw1.mono hb.size);have R1:=own1.sets u.vals (k*4);have R2:=done1.step own1 (by omega) (fun _=>rfl) huk;have R3:=Below.sets u.vals (k*4) B1 (yB _);have hn:k*4+4<=us.length*4:=by omega
   obtain⟨v0,c0⟩:=own1.cell (i:=k*4) (by omega);obtain⟨v1,c1⟩:=own1.cell (i:=k*4+1) (by omega);obtain⟨v2,c2⟩:=own1.cell (i:=k*4+2) (by omega);obtain⟨v3,c3⟩:=own1.cell (i:=k*4+3) (by omega);have f0:=own1.frozen (k*4);have f1:=own1.frozen (k*4+1);have f2:=own1.frozen (k*4+2);have f3:=own1.frozen (k*4+3);clear hown hdone hb own1 done1 B1 hw1 p0 p1 p2 p3;unfold Md.val;go_wp2;go_roundw;case rel=>exact⟨k+1,by omega,by go_num,R1,R2,R3⟩
   case measure=>simp[intOf];omega
  ·go_wp2;go_ret;obtain rfl:k=us.length:=by omega
   exact⟨rfl,hdone.nams hown (yB _),hown,hb⟩
theorem Cr (w:World) (p:Addr) (v:Value):(w.setCell p v).heap.size=(w:Nat):=by simp
structure Ie (p:Pd):Prop where
 ups:p.ups.length<=1048576
 consts:p.consts.length<=1048576
 ins:p.ins.length<=1048576
 named:p.named.length<=1048576
def Hq (lo:Nat) (w:World) (ao:Option Addr) (t:TypeId) (n:Nat):Prop:=∃g,ao=some ⟨g,0,none⟩/\lo<=g/\Own w g t n
theorem Hq.l{w:World} (h:Hq lo w ao t n) (hk:A7 lo w w'):Hq lo w' ao t n:=by obtain⟨g,e,hl,ho⟩:=h;exact⟨g,e,hl,ho.of_block (hk.block g hl ho.lt)⟩
theorem Hq.w {w:World} (h:Hq lo w ao t n) (hl:lo'<=lo):Hq lo' w ao t n:=by obtain⟨g,e,h1,ho⟩:=h;exact⟨g,e,yI hl h1,ho⟩
structure Um (lo:Nat) (w:World) (h:Ph) (p:Pd):Prop where
 ups:Hq lo w h.uo 274 (p.ups.length*2)
 consts:Hq lo w h.co 210 (p.consts.length*5)
 ins:Hq lo w h.io 81 (p.ins.length*5)
 named:Hq lo w h.no 287 (p.named.length*4)
theorem Um.l{w:World} (x:Um lo w h p) (hk:A7 lo w w'):Um lo w' h p:=⟨x.ups.l hk,x.consts.l hk,x.ins.l hk,x.named.l hk⟩
theorem Um.w {w:World} (x:Um lo w h p) (hl:lo'<=lo):Um lo' w h p:=⟨x.ups.w hl,x.consts.w hl,x.ins.w hl,x.named.w hl⟩
structure Ul (lo:Nat) (w:World) (h:Ph) (p:Pd):Prop where
 pin:PIn lo w h p
 soft:Um lo w h p
theorem Ul.l{w:World} (x:Ul lo w h p) (hk:A7 lo w w'):Ul lo w' h p:=⟨x.pin.l hk,x.soft.l hk⟩
theorem Ul.w {w:World} (x:Ul lo w h p) (hl:lo'<=lo):Ul lo' w h p:=⟨x.pin.w hl,x.soft.w hl⟩
theorem Aca (ao:Option Addr) (cap:Nat) (us:List Ud) (w:World) (hm:us.length<=1048576) (hu:Je 0 w ao us) (lo:Nat) (hl:lo<=(w:Nat)) :
  Calls prog 172 #[.slice ao us.length cap] w fun e w'=>∃g,e=.returned (.slice (some ⟨g,0,none⟩) us.length us.length)/\(Je lo w' (some ⟨g,0,none⟩) us/\Hq lo w' (some ⟨g,0,none⟩) 274 (us.length*2))/\Below w w w':=
 (A9o ao cap us w hm hu).mono fun _ _ h=>⟨_,h.1,⟨Ah.w h.2.1 hl,_,rfl,hl,h.2.2.1⟩,h.2.2.2⟩
theorem A4o (ao:Option Addr) (cap:Nat) (us:List Vd) (w:World) (hm:us.length<=1048576) (hu:Ba 0 w ao us) (lo:Nat) (hl:lo<=(w:Nat)) :
  Calls prog 173 #[.slice ao us.length cap] w fun e w'=>∃g,e=.returned (.slice (some ⟨g,0,none⟩) us.length us.length)/\(Ba lo w' (some ⟨g,0,none⟩) us/\Hq lo w' (some ⟨g,0,none⟩) 210 (us.length*5))/\Below w w w':=
 (A1q ao cap us w hm hu).mono fun _ _ h=>⟨_,h.1,⟨Ah.w h.2.1 hl,_,rfl,hl,h.2.2.1⟩,h.2.2.2⟩
theorem A9m (ao:Option Addr) (cap:Nat) (us:List Nd) (w:World) (hm:us.length<=1048576) (hu:Ck 0 w ao us) (lo:Nat) (hl:lo<=(w:Nat)) :
  Calls prog 174 #[.slice ao us.length cap] w fun e w'=>∃g,e=.returned (.slice (some ⟨g,0,none⟩) us.length us.length)/\(Ck lo w' (some ⟨g,0,none⟩) us/\Hq lo w' (some ⟨g,0,none⟩) 81 (us.length*5))/\Below w w w':=
 (A6n ao cap us w hm hu).mono fun _ _ h=>⟨_,h.1,⟨Ah.w h.2.1 hl,_,rfl,hl,h.2.2.1⟩,h.2.2.2⟩
theorem A4l (ao:Option Addr) (cap:Nat) (us:List Md) (w:World) (hm:us.length<=1048576) (hu:J7 0 w ao us) (lo:Nat) (hl:lo<=(w:Nat)) :
  Calls prog 175 #[.slice ao us.length cap] w fun e w'=>∃g,e=.returned (.slice (some ⟨g,0,none⟩) us.length us.length)/\(J7 lo w' (some ⟨g,0,none⟩) us/\Hq lo w' (some ⟨g,0,none⟩) 287 (us.length*4))/\Below w w w':=
 (A1o ao cap us w hm hu).mono fun _ _ h=>⟨_,h.1,⟨Ah.w h.2.1 hl,_,rfl,hl,h.2.2.1⟩,h.2.2.2⟩
theorem Tryz.info_Proto:(prog.info? 77).map (fun i=>(i.zero,i.size,i.bytes))=some (some (.agg #[ByteArray.empty,(),(),false,(),nS,nS,nS,nS]),9,144):=by kernel_rfl
def Od (w:World) (g:Nat) (ps:List Pd) (k:Nat):Prop:=∀j p,j<k->ps[j]?=some p->∃h,J8 w g (j*9) h p/\Ul (g+1) w h p
theorem J8.l{w:World}{o:Nat} (x:J8 w b o h p) (hb:Below w w w') (hl:b<(w:Nat)):J8 w' b o h p:=by have k:=(Oe hb).1;unfold J8;rw[k _ _ hl,k _ _ hl,k _ _ hl,k _ _ hl,k _ _ hl,k _ _ hl,k _ _ hl,k _ _ hl,k _ _ hl];exact x
theorem Od.l{w:World} (h:Od w g ps k) (hb:Below w w w') (hg:g<(w:Nat)):Od w' g ps k:=by intro j p hj hp;obtain⟨x,h1,h2⟩:=h j p hj hp;exact⟨x,h1.l hb hg,h2.l (A7.o hb)⟩
def Lb (p:Pd) (h:Ph):List Value:=[p.name,p.line,p.params,.bool p.rest,p.regs,.slice h.uo p.ups.length h.uc,.slice h.co p.consts.length h.cc,.slice h.io p.ins.length h.ic,.slice h.no p.named.length h.nc]
theorem A7.sets : ∀(vs:List Value) (o:Nat) {a w:World},A7 lo a w->g<lo->A7 lo a (w.setCells g o vs)
 | [],_,_,_,h,_=>h
 | v::r,o,_,_,h,hg=>A7.sets r (o+1) (h.setCell (p:=(g,o)) hg v) hg
theorem Od.step {w:World} {x:Ph} (h:Od w g ps k) (own:Own w g t n) (hn:k*9+9<=n) (hp:ps[k]?=some p) (hx:Ul (g+1) w x p) :
  Od (w.setCells g (k*9) (Lb p x)) g ps (k+1):=by
 intro j y hj hy;have K:=A7.sets (Lb p x) (k*9) (A7.refl (g+1) w) (Nat.lt_succ_self g);by_cases e:j=k
 ·subst e;obtain rfl:p=y:=yO (hp.symm.trans hy);have c:=World.cell?_setCells_in g (Lb p x) (j*9) w (fun i hi=>by
   have hi9:i<9:=hi;obtain⟨u,hu⟩:=own.cell (i:=j*9+i) (by omega);rw[hu];rfl)
  exact⟨x,⟨c 0 (by simp[Lb]),c 1 (by simp[Lb]),c 2 (by simp[Lb]),c 3 (by simp[Lb]),c 4 (by simp[Lb]),c 5 (by simp[Lb]),c 6 (by simp[Lb]),c 7 (by simp[Lb]),c 8 (by simp[Lb])⟩,hx.l K⟩
 ·obtain⟨z,h1,h2⟩:=h j y (by omega) hy;have c:∀i,i<9->(w.setCells g (k*9) (Lb p x)).cell? ⟨g,j*9+i,none⟩=w.cell? ⟨g,j*9+i,none⟩:=fun i hi=>
   World.cell?_setCells_out g (Lb p x) (k*9) w _ (fun _ _=>Or.inl (by show j*9+i<k*9;omega))
  refine⟨z,?_,h2.l K⟩;have c0:=c 0 (by omega);rw[Nat.add_zero]at c0;unfold J8;rw[c0,c 1 (by omega),c 2 (by omega),c 3 (by omega),c 4 (by omega),c 5 (by omega),c 6 (by omega),c 7 (by omega),c 8 (by omega)];exact h1
theorem Od.all {w:World} (own:Own w g t n) (h:Od w g ps ps.length) (hl:lo<=g):Ad lo w g ps:=by intro i p hi;obtain⟨x,h1,h2⟩:=h i p (yD.1 hi).1 hi;refine⟨g,0,rfl,hl,own.lt,x,?_,h2.pin.w (by omega)⟩;rw[yM];exact h1
def Ei (w:World) (g:Nat) (ps:List Pd):Prop:=Own w g 77 (ps.length*9)/\Od w g ps ps.length
theorem Ei.l{w:World} (h:Ei w g ps) (hk:A7 g w w'):Ei w' g ps:=by refine⟨h.1.of_block (hk.block g (yB _) h.1.lt),fun j p hj hp=>?_⟩;obtain⟨x,hn,ho⟩:=h.2 j p hj hp;refine⟨x,?_,ho.l (hk.mono (Nat.le_succ g))⟩;have c:∀o,w'.cell? ⟨g,o,none⟩=w.cell? ⟨g,o,none⟩:=fun o=>hk.cell (yB _) h.1.lt;unfold J8;rw[c,c,c,c,c,c,c,c,c];exact hn
theorem Ei.at {w:World} (h:Ei w g ps) (hl:lo<=g):Ad lo w g ps:=h.2.all h.1 hl
theorem Ad.w {w:World} {xs:List Pd} (h:Ad lo w ao xs) (hl:lo'<=lo):Ad lo' w ao xs:=by intro i x hx;obtain⟨b,off,e,h1,hs,g,hn,hp⟩:=h i x hx;exact⟨b,off,e,yI hl h1,hs,g,hn,hp.w hl⟩
end Go.Proofs.YtjbbppblgjhapaaGreatDoor
