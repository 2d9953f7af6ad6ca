import Derived.Test.YtaakadmnhpboiaaGreatDoorProg
import Derived.WalkKit
import Derived.WalkSpells
import Derived.WalkLawsBesides
import Derived.Deep.QuietTactic
import Derived.BigQuiet
import Derived.Deep.OwnRows
import Derived.Deep.RegionHeld3
import Derived.Deep.MidRow
namespace Go.Proofs.YtaakadmnhpboiaaGreatDoor
open Go.RowKit Go.Deep
theorem ret_bool {a b:Bool} (h:a=b):Ending.returned (.bool a)=.returned (.bool b):=by rw [h]
theorem ret_int {k:IntKind} {a b:Int} (h:a=b):Ending.returned (.int k a)=.returned (.int k b):=by rw [h]
theorem bcell {W w1:World} (hb:Below W.heap.size W w1):(∀b o,b<W.heap.size→w1.cell? ⟨b,o,none⟩=W.cell? ⟨b,o,none⟩)∧(∀b o,b<W.heap.size→w1.frozen? ⟨b,o,none⟩=W.frozen? ⟨b,o,none⟩):=
 ⟨fun b o h=>hb.cell (p:=⟨b,o,none⟩) h,fun b o h=>hb.frozen (p:=⟨b,o,none⟩) h⟩
theorem run_store_float (P:Program) (w:World) (a:Addr) (m:Mode) (k:FloatKind) (n:Nat):(store a (.float k n) m).run P w=stored P w a (.float k n) m:=run_store P w a _ m rfl
structure Ud where
 loc:Bool
 idx:Int
structure Vd where
 kind:Int
 num:Int
 flt:Nat
 str:ByteArray
 ref:Int
structure Nd where
 op:Int
 a:Int
 b:Int
 c:Int
 d:Int
structure Md where
 name:ByteArray
 reg:Int
 fr:Int
 to:Int
structure Pd where
 name:ByteArray
 line:Int
 params:Int
 rest:Bool
 regs:Int
 ups:List Ud
 consts:List Vd
 ins:List Nd
 named:List Md
def Ud.val (u:Ud):Value:=.agg #[.bool u.loc,.int .i64 u.idx]
def Vd.val (v:Vd):Value:=.agg #[.int .i64 v.kind,.int .i64 v.num,.float .f64 v.flt,.string v.str,.int .i64 v.ref]
def Nd.val (n:Nd):Value:=.agg #[.int .i64 n.op,.int .i64 n.a,.int .i64 n.b,.int .i64 n.c,.int .i64 n.d]
def Md.val (m:Md):Value:=.agg #[.string m.name,.int .i64 m.reg,.int .i64 m.fr,.int .i64 m.to]
structure Keeps (lo:Nat) (w w':World):Prop where
 size:w.heap.size≤w'.heap.size
 block:∀k,lo≤k→k<w.heap.size→w'.heap[k]?=w.heap[k]?
theorem Keeps.of_below {lo:Nat} {w w':World} (h:Below w.heap.size w w'):Keeps lo w w':=⟨h.size,fun k _ hk=>h.block k hk⟩
theorem Keeps.refl (lo:Nat) (w:World):Keeps lo w w:=⟨Nat.le_refl _,fun _ _ _=>rfl⟩
theorem Keeps.trans {lo:Nat} {a b c:World} (h:Keeps lo a b) (k:Keeps lo b c):Keeps lo a c:=
 ⟨Nat.le_trans h.size k.size,fun i hl hi=>(k.block i hl (Nat.lt_of_lt_of_le hi h.size)).trans (h.block i hl hi)⟩
theorem Keeps.mono {lo lo':Nat} {a b:World} (h:Keeps lo a b) (hl:lo≤lo'):Keeps lo' a b:=⟨h.size,fun k hk hs=>h.block k (Nat.le_trans hl hk) hs⟩
theorem Keeps.setCell {lo:Nat} {a w:World} (h:Keeps lo a w) {p:Addr} (hp:p.block<lo) (u:Value):Keeps lo a (w.setCell p u):=
 h.trans ⟨by simp,fun k hk _=>Below.heap_setCell _ _ _ _ (by omega)⟩
theorem Keeps.alloc {lo:Nat} {a w:World} (h:Keeps lo a w) (o:Obj):Keeps lo a (w.alloc o):=
 h.trans ⟨by simp,fun k _ hs=>Below.heap_alloc _ _ _ hs⟩
theorem Keeps.cell {lo:Nat} {w w':World} (h:Keeps lo w w') {b o:Nat} (hl:lo≤b) (hb:b<w.heap.size):w'.cell? ⟨b,o,none⟩=w.cell? ⟨b,o,none⟩:=
 World.cell?_of_block (w:=w) (a:=⟨b,o,none⟩) (h.block b hl hb)
def AllAt {α:Type} (lo:Nat) (w:World) (ao:Option Addr) (k:Nat) (at_:Nat→Nat→α→Prop) (xs:List α):Prop:=
 ∀i x,xs[i]?=some x→∃b off,ao=some ⟨b,off,none⟩∧lo≤b∧b<w.heap.size∧at_ b (off+i * k) x
theorem AllAt.later {α:Type} {lo:Nat} {w w':World} {ao:Option Addr} {k:Nat} {at1 at2:Nat→Nat→α→Prop} {xs:List α} (h:AllAt lo w ao k at1 xs) (hk:Keeps lo w w')
  (hat:∀b o x,lo≤b→b<w.heap.size→x ∈ xs→at1 b o x→at2 b o x):AllAt lo w' ao k at2 xs:=by
 intro i x hx
 obtain⟨b,off,e,hl,hs,ha⟩:=h i x hx
 exact⟨b,off,e,hl,Nat.lt_of_lt_of_le hs hk.size,hat _ _ _ hl hs (List.mem_of_getElem? hx) ha⟩
theorem AllAt.lower {α:Type} {lo lo':Nat} {w:World} {ao:Option Addr} {k:Nat} {at1:Nat→Nat→α→Prop} {xs:List α} (h:AllAt lo w ao k at1 xs) (hl:lo'≤lo):AllAt lo' w ao k at1 xs:=by
 intro i x hx
 obtain⟨b,off,e,h1,hs,ha⟩:=h i x hx
 exact⟨b,off,e,Nat.le_trans hl h1,hs,ha⟩
def UpAt (w:World) (b o:Nat) (u:Ud):Prop:=w.cell? ⟨b,o,none⟩=some (.bool u.loc)∧w.cell? ⟨b,o+1,none⟩=some (.int .i64 u.idx)
def ValAt (w:World) (b o:Nat) (v:Vd):Prop:=w.cell? ⟨b,o,none⟩=some (.int .i64 v.kind)∧w.cell? ⟨b,o+1,none⟩=some (.int .i64 v.num)∧w.cell? ⟨b,o+2,none⟩=some (.float .f64 v.flt)∧w.cell? ⟨b,o+3,none⟩=some (.string v.str)∧w.cell? ⟨b,o+4,none⟩=some (.int .i64 v.ref)
def InsAt (w:World) (b o:Nat) (n:Nd):Prop:=w.cell? ⟨b,o,none⟩=some (.int .i64 n.op)∧w.cell? ⟨b,o+1,none⟩=some (.int .i64 n.a)∧w.cell? ⟨b,o+2,none⟩=some (.int .i64 n.b)∧w.cell? ⟨b,o+3,none⟩=some (.int .i64 n.c)∧w.cell? ⟨b,o+4,none⟩=some (.int .i64 n.d)
def NamAt (w:World) (b o:Nat) (m:Md):Prop:=w.cell? ⟨b,o,none⟩=some (.string m.name)∧w.cell? ⟨b,o+1,none⟩=some (.int .i64 m.reg)∧w.cell? ⟨b,o+2,none⟩=some (.int .i64 m.fr)∧w.cell? ⟨b,o+3,none⟩=some (.int .i64 m.to)
def UpsAt (lo:Nat) (w:World) (ao:Option Addr) (xs:List Ud):Prop:=AllAt lo w ao 2 (UpAt w) xs
def ValsAt (lo:Nat) (w:World) (ao:Option Addr) (xs:List Vd):Prop:=AllAt lo w ao 5 (ValAt w) xs
def InssAt (lo:Nat) (w:World) (ao:Option Addr) (xs:List Nd):Prop:=AllAt lo w ao 5 (InsAt w) xs
def NamsAt (lo:Nat) (w:World) (ao:Option Addr) (xs:List Md):Prop:=AllAt lo w ao 4 (NamAt w) xs
theorem UpsAt.later {lo:Nat} {w w':World} {ao:Option Addr} {xs:List Ud} (h:UpsAt lo w ao xs) (hk:Keeps lo w w'):UpsAt lo w' ao xs:=
 AllAt.later h hk (fun b o x hl hs _ ha=>by unfold UpAt;rw [hk.cell hl hs,hk.cell hl hs];exact ha)
theorem ValsAt.later {lo:Nat} {w w':World} {ao:Option Addr} {xs:List Vd} (h:ValsAt lo w ao xs) (hk:Keeps lo w w'):ValsAt lo w' ao xs:=
 AllAt.later h hk (fun b o x hl hs _ ha=>by unfold ValAt;rw [hk.cell hl hs,hk.cell hl hs,hk.cell hl hs,hk.cell hl hs,hk.cell hl hs];exact ha)
theorem InssAt.later {lo:Nat} {w w':World} {ao:Option Addr} {xs:List Nd} (h:InssAt lo w ao xs) (hk:Keeps lo w w'):InssAt lo w' ao xs:=
 AllAt.later h hk (fun b o x hl hs _ ha=>by unfold InsAt;rw [hk.cell hl hs,hk.cell hl hs,hk.cell hl hs,hk.cell hl hs,hk.cell hl hs];exact ha)
theorem NamsAt.later {lo:Nat} {w w':World} {ao:Option Addr} {xs:List Md} (h:NamsAt lo w ao xs) (hk:Keeps lo w w'):NamsAt lo w' ao xs:=
 AllAt.later h hk (fun b o x hl hs _ ha=>by unfold NamAt;rw [hk.cell hl hs,hk.cell hl hs,hk.cell hl hs,hk.cell hl hs];exact ha)
structure Ph where
 uo:Option Addr
 uc:Nat
 co:Option Addr
 cc:Nat
 io:Option Addr
 ic:Nat
 no:Option Addr
 nc:Nat
def Pd.cells (p:Pd) (h:Ph):Array Value:=#[.string p.name,.int .i64 p.line,.int .i64 p.params,.bool p.rest,.int .i64 p.regs,.slice h.uo p.ups.length h.uc,.slice h.co p.consts.length h.cc,.slice h.io p.ins.length h.ic,.slice h.no p.named.length h.nc]
structure PIn (lo:Nat) (w:World) (h:Ph) (p:Pd):Prop where
 ups:UpsAt lo w h.uo p.ups
 consts:ValsAt lo w h.co p.consts
 ins:InssAt lo w h.io p.ins
 named:NamsAt lo w h.no p.named
theorem PIn.later {lo:Nat} {w w':World} {h:Ph} {p:Pd} (x:PIn lo w h p) (hk:Keeps lo w w'):PIn lo w' h p:=⟨x.ups.later hk,x.consts.later hk,x.ins.later hk,x.named.later hk⟩
theorem PIn.lower {lo lo':Nat} {w:World} {h:Ph} {p:Pd} (x:PIn lo w h p) (hl:lo'≤lo):PIn lo' w h p:=⟨AllAt.lower x.ups hl,AllAt.lower x.consts hl,AllAt.lower x.ins hl,AllAt.lower x.named hl⟩
def NineAt (w:World) (b o:Nat) (h:Ph) (p:Pd):Prop:=
 w.cell? ⟨b,o,none⟩=some (.string p.name)∧w.cell? ⟨b,o+1,none⟩=some (.int .i64 p.line)∧w.cell? ⟨b,o+2,none⟩=some (.int .i64 p.params)∧w.cell? ⟨b,o+3,none⟩=some (.bool p.rest)∧w.cell? ⟨b,o+4,none⟩=some (.int .i64 p.regs)∧
  w.cell? ⟨b,o+5,none⟩=some (.slice h.uo p.ups.length h.uc)∧w.cell? ⟨b,o+6,none⟩=some (.slice h.co p.consts.length h.cc)∧w.cell? ⟨b,o+7,none⟩=some (.slice h.io p.ins.length h.ic)∧w.cell? ⟨b,o+8,none⟩=some (.slice h.no p.named.length h.nc)
def ProtoAt (lo:Nat) (w:World) (b o:Nat) (p:Pd):Prop:=∃h,NineAt w b o h p∧PIn lo w h p
def ProtosAt (lo:Nat) (w:World) (ao:Option Addr) (xs:List Pd):Prop:=AllAt lo w ao 9 (ProtoAt lo w) xs
theorem ProtosAt.later {lo:Nat} {w w':World} {ao:Option Addr} {xs:List Pd} (h:ProtosAt lo w ao xs) (hk:Keeps lo w w'):ProtosAt lo w' ao xs:=
 AllAt.later h hk (fun b o x hl hs _ ⟨g,ha,hp⟩=>⟨g,by unfold NineAt;rw [hk.cell hl hs,hk.cell hl hs,hk.cell hl hs,hk.cell hl hs,hk.cell hl hs,hk.cell hl hs,hk.cell hl hs,hk.cell hl hs,hk.cell hl hs];exact ha,hp.later hk⟩)
theorem drop_some {α:Type} {l:List α} {k:Nat} {x:α} (h:l[k]?=some x):l.drop k=x::l.drop (k+1):=by
 obtain⟨hk,rfl⟩:=List.getElem?_eq_some_iff.1 h
 exact List.drop_eq_getElem_cons hk
theorem some_of_lt {α:Type} {l:List α} {k:Nat} (h:k<l.length):∃x,l[k]?=some x:=⟨l[k],List.getElem?_eq_getElem h⟩
def I64 (x:Int):Prop:=-9223372036854775808≤x∧x≤9223372036854775807
def lst (n k:Nat):Array Bool:=(List.replicate k true ++ List.replicate (n - k) false).toArray
theorem lst_step {n k:Nat} (h:k<n):(lst n k).setIfInBounds k true=lst n (k+1):=by
 unfold lst
 rw [List.setIfInBounds_toArray,List.set_append_right _ _ (by simp)]
 congr 1
 rw [show n - k=(n - (k+1))+1 by omega,List.replicate_succ]
 simp [List.replicate_succ']
def Rgn (ops:Array Oper) (rest:List Oper) (Q:Exit→Act→World→Prop) (S:World→Prop) (a:Act) (w:World):Prop:=
 ops.toList.drop (ops.size - rest.length)=rest→rest.length≤ops.size→wpAnyH Tryz.prog .any ops (NoPanic Q) S rest.length (lst ops.size (ops.size - rest.length)) a w
section
variable {id : Nat} {ops : Array Oper} {rest l : List Oper} {Q : Exit → Act → World → Prop} {S : World → Prop} {a : Act} {w : World} {oi : Oper}
theorem rgN (S:World→Prop) (hS:S w.drew) (h:S w.drew→Rgn l.toArray l Q S a w.drew):(Code.region id l.toArray true).wp Tryz.prog Q a w:=by
 refine wp_region_noPanic (wp_region_held_drew (by kernel_rfl) hS fun hS=>?_)
 have:=h hS (by simp) (by simp)
 simpa [lst] using this
theorem drop_at (hd:ops.toList.drop (ops.size - (oi::rest).length)=oi::rest) (hl:(oi::rest).length≤ops.size) :
  ops[ops.size - (oi::rest).length]?=some oi∧ops.toList.drop (ops.size - rest.length)=rest∧ops.size - rest.length=(ops.size - (oi::rest).length)+1:=by
 have e:ops.size - rest.length=(ops.size - (oi::rest).length)+1:=by simp at hl ⊢;omega
 refine⟨?_,?_,e⟩
 ·have:=congrArg (·[0]?) hd
  simpa using this
 ·rw [e,←List.tail_drop,hd];rfl
theorem tkF (hc:(Region.noSelect ops && Region.free .any ops (lst ops.size (ops.size - (oi::rest).length)) (ops.size - (oi::rest).length) && (Region.ready .any ops (lst ops.size (ops.size - (oi::rest).length))).contains (ops.size - (oi::rest).length))=true)
  (hw:Region.wanted oi (yielded ops a.tmps)=true) (hS:S w)
  (h:∃v,(∀w,S w→(execOp a.eval oi).run Tryz.prog w=.ok (.value v) w)∧Rgn ops rest Q S (a.put oi.dst v) w):Rgn ops (oi::rest) Q S a w:=fun hd hl=>by
 obtain⟨v,hy,h⟩:=h
 obtain⟨h1,h2,h3⟩:=drop_at hd hl
 simp only [Bool.and_eq_true] at hc
 refine wpAnyH_take h1 hc.1.1 hc.1.2 hc.2 (fun _ _ _ h=>h) (.inl ⟨hw,hy⟩) hS ?_
 have h4:=h h2 (by simp at hl;omega)
 rw [lst_step (by simp at hl ⊢;omega),←h3]
 exact h4
theorem tkG (hc:(Region.noSelect ops && Region.free .any ops (lst ops.size (ops.size - (oi::rest).length)) (ops.size - (oi::rest).length) && (Region.ready .any ops (lst ops.size (ops.size - (oi::rest).length))).contains (ops.size - (oi::rest).length))=true)
  (hw:Region.wanted oi (yielded ops a.tmps)=false) (hS:S w) (h:Rgn ops rest Q S (a.put oi.dst undef) w):Rgn ops (oi::rest) Q S a w:=fun hd hl=>by
 obtain⟨h1,h2,h3⟩:=drop_at hd hl
 simp only [Bool.and_eq_true] at hc
 refine wpAnyH_take h1 hc.1.1 hc.1.2 hc.2 (fun _ _ _ h=>h) (.inr ⟨hw,rfl⟩) hS ?_
 have h4:=h h2 (by simp at hl;omega)
 rw [lst_step (by simp at hl ⊢;omega),←h3]
 exact h4
theorem doN (hr:Region.ready .any ops (lst ops.size (ops.size - (oi::rest).length))=[ops.size - (oi::rest).length]) (hw:Region.wanted oi (yielded ops a.tmps)=true)
  (h:∀K:Act→World→Prop,Shut (∀a w,S w→(S w→Rgn ops rest Q S a w)→K a w)→Oper.wp Tryz.prog oi a w K (NoPanic Q)):Rgn ops (oi::rest) Q S a w:=fun hd hl=>by
 obtain⟨h1,h2,h3⟩:=drop_at hd hl
 refine wpAnyH_ready hr (by simp) (AllReadyH.cons h1 (fun K hK=>?_) AllReadyH.nil)
 rw [if_pos hw]
 refine h K fun a w hS hR=>hK.out a w hS fun hS=>?_
 have h4:=hR hS h2 (by simp at hl;omega)
 rw [lst_step (by simp at hl ⊢;omega),←h3]
 exact h4
theorem enD (hr:Region.ready .any ops (lst ops.size (ops.size - 0))=[]) (h:NoPanic Q .normal a w):Rgn ops [] Q S a w:=fun _ _=>wpAnyH_done hr h _
end
theorem exec_load {W:World} {op:Oper} {a:Act} {ty:TypeId} {x:Operand} {p V:Value} (h:(Instr.loadAt ty p).run Tryz.prog W=.ok V W) (ho:op.op=.load ty x) (hx:a.eval x=p):(execOp a.eval op).run Tryz.prog W=.ok (.value V) W:=by
 subst hx
 unfold execOp
 simp only [ho,Sem.run_bind,Sem.run_pure,Result.andThen_ok,h]
end Go.Proofs.YtaakadmnhpboiaaGreatDoor
