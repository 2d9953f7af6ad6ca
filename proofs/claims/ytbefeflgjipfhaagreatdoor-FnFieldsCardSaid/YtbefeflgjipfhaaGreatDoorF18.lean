import Derived.Shelf.SlSortCmp.NoneTotal
import Derived.Shelf.SlicesG.Cmp
import Derived.Shelf.Lay
import Derived.Ground.SlsfProg
import Derived.Ground.SlgcProg
import Derived.Test.YtbefeflgjipfhaaGreatDoorF16
set_option maxRecDepth 8000
set_option maxHeartbeats 4000000
namespace Go.Proofs.YtbefeflgjipfhaaGreatDoor
open Go.Deep Go.Proofs.Tryz Go.RowKit Go.Shelf
attribute [local go_sem] A7 vi
shelf_lay_g SlLaysF.n6 Slsf 6 at Tryz 299 as sortL
shelf_lay_g SlLaysC2.n5 Slgc 5 at Tryz 301 as cmpL
theorem ltI (x y:Int):Lib.compareInt x y<0 ↔ x<y:=by
 unfold Lib.compareInt
 by_cases h1:x<y
 ·simp[h1]
 ·by_cases h2:y<x<;>simp[h1,h2]
def F6 (w:World) (b:Nat):Int:=match w.cell? ⟨b,2,none⟩ with
 | some (.int .i64 i)=>i
 | _=>0
theorem swoBy {α:Type} (f:α->Int):Go.Sort.SWO (ltOf fun x y=>Lib.compareInt (f x) (f y)) where
 irrefl x:=by simp only[ltOf,ltI];simp
 trans x y z h1 h2:=by simp only[ltOf,ltI]at *;simp at *;omega
 ntrans x y z h1 h2:=by simp only[ltOf,ltI]at *;simp at *;omega
theorem A7r (a b:Nat) (w:World) (ha:Po w a) (hb:Po w b) :
  Calls prog 300 #[pv a,pv b] w fun e w'=>e=.returned (.int .i64 (Lib.compareInt (F6 w a) (F6 w b)))/\∃q,w'=w.drewN q:=by
 obtain⟨p1,x,v1,ha⟩:=ha
 obtain⟨p2,y,v2,hb⟩:=hb
 have ca:=ha.cell
 have cb1:=hb.cell
 have ea:F6 w a=x:=by simp[F6,ca]
 have eb:F6 w b=y:=by simp[F6,cb1]
 rw[ea,eb]
 have hcon:=fun W=>AnyG.cmp_Compare_int cmpL x y W
 change ∀W,Calls prog 301 _ _ _ at hcon
 generalize Lib.compareInt x y=r at hcon ⊢
 clear ea eb ha hb
 go_enter func300,ntmps300
 go_wp2_with fail
 go_region_held3 (fun W=>(∀o,W.cell? ⟨a,o,none⟩=(sa (.int .i64 p1) (.int .i64 1) (.int .i64 x) (.int .i64 v1))[o]?)/\(∀o,W.cell? ⟨b,o,none⟩=(sa (.int .i64 p2) (.int .i64 1) (.int .i64 y) (.int .i64 v2))[o]?)) (exact⟨ca,cb1⟩) (first|(go_at_call 301;refine(hcon _).mono ?_;rintro e w' ⟨rfl,rfl⟩))
 go_wp2_with fail
 go_ret
 exact⟨rfl,1,rfl⟩
theorem A1r {α:Type} [Inhabited α] (enc:α->Value) (lo g m:Nat) (d:Array α) (os:Array Obj) (W:World) (hg:lo<=g) (hs:g<W.heap.size):Below lo W (sortWorld enc W g 0 m d os):=by
 refine⟨rfl,rfl,rfl,by simp[sortWorld,Go.Sort.putRow,Go.Sort.mapBlock,Go.Sort.ahead],fun k hk=>?_⟩
 unfold sortWorld
 rw[Go.Sort.heap_grow_old _ _ (by simp[Go.Sort.putRow,Go.Sort.mapBlock,Go.Sort.ahead];omega)]
 simp only[Go.Sort.putRow,Go.Sort.mapBlock,Go.Sort.ahead,Array.getElem?_modify]
 rw[if_neg (by omega)]
theorem Tx {lo b:Nat} {W V:World} (h:Below lo W V) (hb:b<lo):F6 V b=F6 W b:=by
 unfold F6
 rw[World.cell?_of_block (h.block b hb)]
theorem Aaf (lo:Nat) (w:World):A55 lo w:=by
 intro W v n ys hB hn hR hT
 have hl:ys.length=n:=by have:=hR.1;simpa using this
 cases hys:ys with
 | nil=>
  obtain⟨so,sc,rfl⟩:=Af hR
  obtain rfl:n=0:=by rw[←hl,hys];rfl
  refine(AnyF.slices_SortFunc_none {sortL with} so sc _ W).mono ?_
  rintro e w' ⟨rfl,rfl⟩
  exact⟨rfl,Below.refl _ _,[],by rw[hys]at hR;exact hR,by simp⟩
 | cons y0 yr=>
  rcases Aj hR with ⟨rfl,h⟩|⟨g,cap,rfl,hg,hgs⟩
  ·rw[h]at hl;rw[hys]at hl;cases hl
  let α:={b:Nat // b<lo/\Po W b}
  haveI:Inhabited α:=⟨⟨y0,hT y0 (by rw[hys];simp)⟩⟩
  let d:Array α:=(ys.attach.map fun x=>(⟨x.1,hT x.1 x.2⟩:α)).toArray
  have hd:d.size=n:=by simp[d,hl]
  have hdl:d.toList.map (fun x=>x.1)=ys:=by simp[d]
  have hlg:lo<=g:=hg
  have hsw:∀m (dk:Array α) os,Below lo W (sortWorld (fun x:α=>pv x.1) W g 0 m dk os):=fun m dk os=>A1r _ lo g m dk os W hlg hgs
  have hcmp:CmpLays1 prog 300 #[] (fun x:α=>pv x.1) (fun x y=>Lib.compareInt (F6 W x.1) (F6 W y.1)) g 0 d.size W:=fun m os dk _ x y=>by
   have hV:=hsw m dk os
   refine(A7r x.1 y.1 _ (x.2.2.l x.2.1 hV) (y.2.2.l y.2.1 hV)).mono ?_
   rintro e w' ⟨rfl,q,rfl⟩
   rw[Tx hV x.2.1,Tx hV y.2.1]
   exact⟨rfl,q,#[],by simp⟩
  have hH:Go.Sort.Holds (fun x:α=>pv x.1) W g 0 d:=fun j hj=>by
   have hz:d[j]! = d[j]:=getElem!_pos d j hj
   have hyj:ys[j]?=some d[j].1:=by rw[←hdl,List.getElem?_map,Array.getElem?_toList,Array.getElem?_eq_getElem hj];rfl
   rw[hz,Nat.zero_add]
   refine⟨Ai hR (by rw[List.getElem?_map,hyj];rfl),?_⟩
   obtain⟨_,h|⟨g',cap',cur,e,_,hc,_⟩⟩:=hR
   ·cases h.1
   ·injection e with e
    injection e with e
    injection e with e
    subst e
    simp[World.frozen?,hc]
  have hcon:=Any.slices_SortFunc sortL (fun x:α=>pv x.1) (fun _=>rfl) (fun x y=>Lib.compareInt (F6 W x.1) (F6 W y.1)) (swoBy fun x:α=>F6 W x.1) 300 #[] g 0 cap d W (enters_of func300 (by kernel_rfl) rfl) hcmp hH hgs (by omega)
  rw[hd]at hcon
  refine hcon.mono ?_
  rintro e w' ⟨rfl,d',m,os,hp,_,rfl⟩
  have hsz:d'.size=n:=by rw[hp.1,hd]
  refine⟨rfl,hsw m d' os,d'.toList.map (fun x=>x.1),?_,fun b hb=>?_⟩
  ·obtain⟨_,h|⟨g',cap',cur,e,_,hc,h5,h6,h7,h8⟩⟩:=hR
   ·cases h.1
   ·injection e with e _ e2
    injection e with e
    injection e with e
    subst e
    subst e2
    refine⟨by simp[hsz],.inr ⟨g,cap,Go.Sort.putCells (fun x:α=>pv x.1) 0 d' cur,rfl,hlg,?_,h5,h6,by simp[Go.Sort.putCells,h7],?_⟩⟩
    ·unfold sortWorld
     rw[Go.Sort.heap_grow_old _ _ (by simp[Go.Sort.putRow,Go.Sort.mapBlock,Go.Sort.ahead];omega)]
     simp[Go.Sort.putRow,Go.Sort.mapBlock,Go.Sort.ahead,Array.getElem?_modify,hc,Go.Sort.onCells]
    ·apply List.ext_getElem?
     intro j
     by_cases hj:j<n
     ·have hj':j<d'.size:=by omega
      have hjc:j<cur.size:=by omega
      rw[List.getElem?_take_of_lt (by omega),Array.getElem?_toList]
      simp[Go.Sort.putCells,hj',hjc]
     ·rw[List.getElem?_eq_none (by simp;omega),List.getElem?_eq_none (by simp[hsz];omega)]
  ·obtain⟨x,hx,rfl⟩:=List.mem_map.1 hb
   have h2:=hp.2.2
   rw[←hd]at h2
   simp only[Array.extract_size]at h2
   have h3:d'.extract 0 d.size=d':=by rw[←hp.1];exact Array.extract_size
   rw[h3]at h2
   have hm:=h2.mem_iff.1 hx
   rw[←hys,←hdl]
   exact List.mem_map.2 ⟨x,hm,rfl⟩
end Go.Proofs.YtbefeflgjipfhaaGreatDoor
namespace Go.Proofs.YtbefeflgjipfhaaGreatDoor
open Go.Deep Go.Proofs.Tryz Go.RowKit
theorem A9i:Elt 86 106 (.pointer none) 1 8:=⟨underlying86,by kernel_rfl,rfl,by decide⟩
abbrev sl1 (g n:Nat):Value:=.slice (some ⟨g,0,none⟩) n n
structure GB (W0:World) (L:Nat) (A:Array Value) (o:Nat) (A1:Array Value) (l:List Nat) (v2 v3 v12 v18:Value) (W:World):Prop where
 below:Below W0.heap.size W0 W
 s:l.contains 5=false->∃g,v12=sl1 g L/\W0.heap.size<=g/\Blk W g A 127
 t:l.contains 11=false->∃g,v18=sl1 g o/\W0.heap.size<=g/\Blk W g A1 106
 sv:l.contains 12=false->∃b,v2=pv b/\W0.heap.size<=b/\Blk W b #[if l.contains 14 then .slice none 0 0 else v12] 83
 tv:l.contains 13=false->∃b,v3=pv b/\W0.heap.size<=b/\Blk W b #[if l.contains 15 then .slice none 0 0 else v18] 86
section
variable {W0 W:World} {L o:Nat} {A A1:Array Value} {l:List Nat} {v2 v3 v12 v18:Value}
theorem GB.a5 (h:GB W0 L A o A1 l v2 v3 v12 v18 W) (h14:l.contains 14=true):GB W0 L A o A1 (l.erase 5) v2 v3 (sl1 W.heap.size L) v18 (W.alloc (.cells A 127)):=by
 refine⟨h.below.alloc h.below.size _,fun _=>⟨_,rfl,h.below.size,Blk.new W _ _⟩,fun e=>?_,fun e=>?_,fun e=>?_⟩
 ·obtain⟨g,h1,h2,h3⟩:=h.t (by rwa [Ag (by decide)]at e);exact⟨g,h1,h2,h3.alloc _⟩
 ·obtain⟨g,h1,h2,h3⟩:=h.sv (by rwa [Ag (by decide)]at e);exact⟨g,h1,h2,by rw[Ag (by decide),h14];rw[h14]at h3;exact h3.alloc _⟩
 ·obtain⟨g,h1,h2,h3⟩:=h.tv (by rwa [Ag (by decide)]at e);exact⟨g,h1,h2,by rw[Ag (by decide)];exact h3.alloc _⟩
theorem GB.a11 (h:GB W0 L A o A1 l v2 v3 v12 v18 W) (h15:l.contains 15=true):GB W0 L A o A1 (l.erase 11) v2 v3 v12 (sl1 W.heap.size o) (W.alloc (.cells A1 106)):=by
 refine⟨h.below.alloc h.below.size _,fun e=>?_,fun _=>⟨_,rfl,h.below.size,Blk.new W _ _⟩,fun e=>?_,fun e=>?_⟩
 ·obtain⟨g,h1,h2,h3⟩:=h.s (by rwa [Ag (by decide)]at e);exact⟨g,h1,h2,h3.alloc _⟩
 ·obtain⟨g,h1,h2,h3⟩:=h.sv (by rwa [Ag (by decide)]at e);exact⟨g,h1,h2,by rw[Ag (by decide)];exact h3.alloc _⟩
 ·obtain⟨g,h1,h2,h3⟩:=h.tv (by rwa [Ag (by decide)]at e);exact⟨g,h1,h2,by rw[Ag (by decide),h15];rw[h15]at h3;exact h3.alloc _⟩
theorem GB.a12 (h:GB W0 L A o A1 l v2 v3 v12 v18 W) (h14:l.contains 14=true):GB W0 L A o A1 (l.erase 12) (pv W.heap.size) v3 v12 v18 (W.alloc (.cells #[.slice none 0 0] 83)):=by
 refine⟨h.below.alloc h.below.size _,fun e=>?_,fun e=>?_,fun _=>⟨_,rfl,h.below.size,by rw[Ag (by decide),h14];exact Blk.new W _ _⟩,fun e=>?_⟩
 ·obtain⟨g,h1,h2,h3⟩:=h.s (by rwa [Ag (by decide)]at e);exact⟨g,h1,h2,h3.alloc _⟩
 ·obtain⟨g,h1,h2,h3⟩:=h.t (by rwa [Ag (by decide)]at e);exact⟨g,h1,h2,h3.alloc _⟩
 ·obtain⟨g,h1,h2,h3⟩:=h.tv (by rwa [Ag (by decide)]at e);exact⟨g,h1,h2,by rw[Ag (by decide)];exact h3.alloc _⟩
theorem GB.a13 (h:GB W0 L A o A1 l v2 v3 v12 v18 W) (h15:l.contains 15=true):GB W0 L A o A1 (l.erase 13) v2 (pv W.heap.size) v12 v18 (W.alloc (.cells #[.slice none 0 0] 86)):=by
 refine⟨h.below.alloc h.below.size _,fun e=>?_,fun e=>?_,fun e=>?_,fun _=>⟨_,rfl,h.below.size,by rw[Ag (by decide),h15];exact Blk.new W _ _⟩⟩
 ·obtain⟨g,h1,h2,h3⟩:=h.s (by rwa [Ag (by decide)]at e);exact⟨g,h1,h2,h3.alloc _⟩
 ·obtain⟨g,h1,h2,h3⟩:=h.t (by rwa [Ag (by decide)]at e);exact⟨g,h1,h2,h3.alloc _⟩
 ·obtain⟨g,h1,h2,h3⟩:=h.sv (by rwa [Ag (by decide)]at e);exact⟨g,h1,h2,by rw[Ag (by decide)];exact h3.alloc _⟩
theorem GB.a14 {b:Nat} {y:Value} (h:GB W0 L A o A1 l (pv b) v3 v12 v18 W) (h14:(l.erase 14).contains 14=false) (hb:W0.heap.size<=b) (B:Blk W b #[y] 83):GB W0 L A o A1 (l.erase 14) (pv b) v3 v12 v18 (W.setCell ⟨b,0,none⟩ v12):=by
 refine⟨h.below.setCell (p:=⟨b,0,none⟩) hb _,fun e=>?_,fun e=>?_,fun _=>⟨b,rfl,hb,by rw[h14];exact B.set 0 _⟩,fun e=>?_⟩
 ·obtain⟨g,h1,h2,h3⟩:=h.s (by rwa [Ag (by decide)]at e);exact⟨g,h1,h2,h3.setOther (Aa h3 B (by decide)) _⟩
 ·obtain⟨g,h1,h2,h3⟩:=h.t (by rwa [Ag (by decide)]at e);exact⟨g,h1,h2,h3.setOther (Aa h3 B (by decide)) _⟩
 ·obtain⟨g,h1,h2,h3⟩:=h.tv (by rwa [Ag (by decide)]at e);exact⟨g,h1,h2,by rw[Ag (by decide)];exact h3.setOther (Aa h3 B (by decide)) _⟩
theorem GB.a15 {b:Nat} {y:Value} (h:GB W0 L A o A1 l v2 (pv b) v12 v18 W) (h15:(l.erase 15).contains 15=false) (hb:W0.heap.size<=b) (B:Blk W b #[y] 86):GB W0 L A o A1 (l.erase 15) v2 (pv b) v12 v18 (W.setCell ⟨b,0,none⟩ v18):=by
 refine⟨h.below.setCell (p:=⟨b,0,none⟩) hb _,fun e=>?_,fun e=>?_,fun e=>?_,fun _=>⟨b,rfl,hb,by rw[h15];exact B.set 0 _⟩⟩
 ·obtain⟨g,h1,h2,h3⟩:=h.s (by rwa [Ag (by decide)]at e);exact⟨g,h1,h2,h3.setOther (Aa h3 B (by decide)) _⟩
 ·obtain⟨g,h1,h2,h3⟩:=h.t (by rwa [Ag (by decide)]at e);exact⟨g,h1,h2,h3.setOther (Aa h3 B (by decide)) _⟩
 ·obtain⟨g,h1,h2,h3⟩:=h.sv (by rwa [Ag (by decide)]at e);exact⟨g,h1,h2,by rw[Ag (by decide)];exact h3.setOther (Aa h3 B (by decide)) _⟩
end
abbrev famG:List (List Nat):=[[5,11,12,13,14,15],[11,12,13,14,15],[5,12,13,14,15],[5,11,13,14,15],[5,11,12,14,15],[12,13,14,15],[11,13,14,15],[11,12,14,15],[5,13,14,15],[5,12,14,15],[5,11,14,15],[13,14,15],[12,14,15],[11,14,15],[5,14,15],[14,15],[11,15],[15],[]]
def depG (l:List Nat) (i:Nat):Bool:=(i==5&&l.contains 14)||(i==11&&l.contains 15)||(i==12&&l.contains 14)||(i==13&&l.contains 15)||(i==14&&!l.contains 5&&!l.contains 12)||(i==15&&!l.contains 11&&!l.contains 13)
end Go.Proofs.YtbefeflgjipfhaaGreatDoor
namespace Go.Proofs.YtbefeflgjipfhaaGreatDoor
open Go.Deep Go.Proofs.Tryz Go.RowKit
attribute [local go_sem] A7 vi Oper.semAt_some
set_option linter.unusedSimpArgs false
theorem owns0 {w:World} {lo e s n:Nat} {v:Value} {xs:List Value} (h:w.ownsRow lo e s v n xs):w.ownsRow 0 e s v n xs:=⟨h.1,h.2.imp id fun ⟨g,c,cur,h1,_,h3⟩=>⟨g,c,cur,h1,Nat.zero_le _,h3⟩⟩
theorem Tw {B:Nat} {w W:World} (h:Below B w W) (a:Addr) (v:Value):Below B (w.setCell a v) (W.setCell a v):=by
 refine⟨h.os,h.tape,h.output,by simpa[World.setCell]using h.size,fun k hk=>?_⟩
 unfold World.setCell
 simp only[Array.getElem?_modify,h.block k hk]
theorem Vg (lo bm bts bt bf fc bc br bs L n p:Nat) (k x r:Int) (f:Nat) (s:ByteArray) (st bo ve:Int) (cc:Cc) (t:Tc) (m:Mc) (xs:List Value) (w:World) (hk:k<5) (hc:bc<w.heap.size) (hr:br<w.heap.size) (hL:L<=1000000) (hn:n<=L) (hp:p<L) (h0:st≠0) (h1:st≠1)
  (S:Da lo w bm {m with tasks:=.slice (some ⟨bts,0,none⟩) 1 1,cur:=.int .i64 0,got:=.slice none 0 0,wv:=.slice none 0 0} L n xs) (TS:Blk w bts #[.pointer (some ⟨bt,0,none⟩)] 106)
  (T:TAt w bt {t with state:=.int .i64 st,fk:=.int .i64 k,fn:=.int .i64 x,ff:=.float .f64 f,fs:=.string s,fr:=.int .i64 r,frames:=.slice (some ⟨bf,0,none⟩) 1 fc,waiter:=.int .i64 (-1),dropped:=.slice none 0 0}) (F:w.cell? ⟨bf,0,none⟩=some (.iface 107 (.pointer (some ⟨bc,0,none⟩))))
  (C:CAt w bc {cc with self:=.pointer none,regs:=.slice (some ⟨br,0,none⟩) 14 14,wv:=.slice none 0 0,fences:=.slice none 0 0}) (X:RgA w br 14 (ρ4 p))
  (hxp:xs[p]?=some (pv bs)) (B:Blk w bs (sa (.int .i64 p) (.int .i64 1) (.int .i64 bo) (.int .i64 ve)) 176) (hx:∀i,i<L->xs[i]?=some (.pointer none)∨∃b,xs[i]?=some (pv b)/\b<w.heap.size/\Po w b) :
  Calls prog 95 #[.pointer (some ⟨bm,0,none⟩)] w fun e w'=>e=.returned (.tuple #[])/\Chg [bm] w w'/\∃sv fv,Da lo w' bm {m with slots:=sv,free:=fv,due:=.int .i64 0,tasks:=.slice (some ⟨bts,0,none⟩) 1 1,cur:=.int .i64 0,got:=.slice none 0 0,wv:=.slice none 0 0} (p+1) p (List.replicate p (.pointer none)++[pv bs]):=by
 obtain⟨so,sc,hms⟩:=Af S.row
 have hb:w.cell? ⟨bts,0,none⟩=some (.pointer (some ⟨bt,0,none⟩)):=TS.cell 0
 obtain⟨o1,ho1⟩:∃o1:Nat,o1=1:=⟨_,rfl⟩
 have M:MAt w bm {m with slots:=.slice so L sc,tasks:=.slice (some ⟨bts,0,none⟩) o1 o1,cur:=.int .i64 0,got:=.slice none 0 0,wv:=.slice none 0 0}:=by rw[←hms,ho1];exact S.x
 have HO:Hid (o1=1):=ho1
 clear ho1
 have Y:Blk (w.alloc (.cells #[.pointer (some ⟨bm,0,none⟩)] 71)) w.heap.size #[.pointer (some ⟨bm,0,none⟩)] 71:=Blk.new w _ _
 have Ma:=M.alloc (.cells #[.pointer (some ⟨bm,0,none⟩)] 71)
 refine(callsIn_wide (n:=3)).1 ?_
 refine callsIn_of_wp_marks func95 rfl trivial ?_ rfl
 simp only[ntmps95,List.size_toArray,List.length_cons,List.length_nil,Nat.reduceAdd,Nat.reduceSub,Array.replicate_succ,Array.replicate_zero,List.push_toArray,List.append_toArray,List.nil_append,List.cons_append]
 refine wpIn_wide.2 ?_
 go_wp2_with fail
 obtain⟨W0,hW0⟩:∃z,z=(w.alloc (.cells #[.pointer (some ⟨bm,0,none⟩)] 71)).drew:=⟨_,rfl⟩
 have Yd:Blk W0 w.heap.size #[.pointer (some ⟨bm,0,none⟩)] 71:=hW0▸Y
 have Md:MAt W0 bm {m with slots:=.slice so L sc,tasks:=.slice (some ⟨bts,0,none⟩) o1 o1,cur:=.int .i64 0,got:=.slice none 0 0,wv:=.slice none 0 0}:=hW0▸Ma
 obtain⟨A,hA⟩:∃A,madeCells #[Value.pointer none] L=A:=⟨_,rfl⟩
 obtain⟨A1,hA1⟩:∃A,madeCells #[Value.pointer none] o1=A:=⟨_,rfl⟩
 refine Js (fun a W=>∃v2 v3 v12 v18,a = {tmps:=#[.pointer (some ⟨bm,0,none⟩),.pointer (some ⟨w.heap.size,0,none⟩),v2,v3,undef,undef,undef,.pointer (some ⟨bm,0,none⟩),.pointer (some ⟨bm,0,none⟩),.pointer (some ⟨bm,5,none⟩),.slice so L sc,.int .i64 L,v12,.pointer (some ⟨bm,0,none⟩),.pointer (some ⟨bm,0,none⟩),.pointer (some ⟨bm,10,none⟩),.slice (some ⟨bts,0,none⟩) o1 o1,.int .i64 o1,v18,undef,undef,undef,undef,undef,undef,undef,undef,undef,undef,undef,undef,undef,undef,undef,undef,undef,undef,undef,undef,undef,undef,undef,undef,undef,undef,undef,undef,undef,undef,undef,undef,undef,undef,undef,undef,undef,undef,undef,undef,undef,undef,undef,undef,undef,undef,undef,undef,undef,undef,undef,undef,undef,undef,undef,undef,undef,undef],defers:=[]}/\GB W0 L A o1 A1 [] v2 v3 v12 v18 W) ?_ ?_
 ·refine rgM (fun W=>(∀o,W.cell? ⟨w.heap.size,o,none⟩=(#[.pointer (some ⟨bm,0,none⟩)]:Array Value)[o]?)/\(∀o,W.cell? ⟨bm,o,none⟩=(Mc.arr {m with slots:=.slice so L sc,tasks:=.slice (some ⟨bts,0,none⟩) o1 o1,cur:=.int .i64 0,got:=.slice none 0 0,wv:=.slice none 0 0})[o]?)) (hW0▸⟨Yd.cell,Md.cell⟩) (fun hS=>?_)
  iterate 5 (refine tkM rfl (by kernel_rfl) (by rfl) hS ⟨?_,fun W hW=>?_,?_⟩;rotate_left;(focus (obtain⟨y1,y2⟩:=hW;go_simp;with_reducible rfl));simp only[Act.put,List.getElem_toArray,List.getElem_cons_zero,List.getElem_cons_succ,List.setIfInBounds_toArray,List.set_cons_succ,List.set_cons_zero])
  refine He [6,7,8,9,10,5,11,12,13,14,15] (by kernel_rfl) ?_
  iterate 5 (refine tkM rfl (by kernel_rfl) (by rfl) hS ⟨?_,fun W hW=>?_,?_⟩;rotate_left;(focus (obtain⟨y1,y2⟩:=hW;go_simp;with_reducible rfl));simp only[Act.put,List.getElem_toArray,List.getElem_cons_zero,List.getElem_cons_succ,List.setIfInBounds_toArray,List.set_cons_succ,List.set_cons_zero])
  rw[←hW0]
  refine A9h famG depG (fun l a W=>∃v2 v3 v12 v18,a = {tmps:=#[.pointer (some ⟨bm,0,none⟩),.pointer (some ⟨w.heap.size,0,none⟩),v2,v3,undef,undef,undef,.pointer (some ⟨bm,0,none⟩),.pointer (some ⟨bm,0,none⟩),.pointer (some ⟨bm,5,none⟩),.slice so L sc,.int .i64 L,v12,.pointer (some ⟨bm,0,none⟩),.pointer (some ⟨bm,0,none⟩),.pointer (some ⟨bm,10,none⟩),.slice (some ⟨bts,0,none⟩) o1 o1,.int .i64 o1,v18,undef,undef,undef,undef,undef,undef,undef,undef,undef,undef,undef,undef,undef,undef,undef,undef,undef,undef,undef,undef,undef,undef,undef,undef,undef,undef,undef,undef,undef,undef,undef,undef,undef,undef,undef,undef,undef,undef,undef,undef,undef,undef,undef,undef,undef,undef,undef,undef,undef,undef,undef,undef,undef,undef,undef,undef,undef,undef],defers:=[]}/\GB W0 L A o1 A1 l v2 v3 v12 v18 W) (by kernel_rfl) ?hS ?step ?done 6 _ _ _ rfl rfl ⟨undef,undef,undef,undef,rfl,Below.refl _ _,by simp,by simp,by simp,by simp⟩
  case hS=>
   rintro l a W ⟨v2,v3,v12,v18,rfl,h⟩
   exact⟨(Yd.l h.below).cell,(Md.l h.below).cell⟩
  case done=>
   rintro a W ⟨v2,v3,v12,v18,rfl,h⟩
   exact⟨rfl,v2,v3,v12,v18,rfl,h⟩
  case step=>
   rintro l a W i ⟨v2,v3,v12,v18,rfl,h⟩ hd hne
   simp only[depG,Bool.or_eq_true,Bool.and_eq_true,beq_iff_eq,Bool.not_eq_true']at hd
   have HG:Hid (GB W0 L A o1 A1 l v2 v3 v12 v18 W):=h
   clear h
   rcases hd with ((((⟨rfl,h⟩|⟨rfl,h⟩)|⟨rfl,h⟩)|⟨rfl,h⟩)|⟨⟨rfl,h⟩,h'⟩)|⟨⟨rfl,h⟩,h'⟩
   ·refine⟨_,rfl,by rfl,fun K hK=>?_⟩
    have hm:=Ca (P:=prog) 83 127 _ 1 8 eltS.ht eltS.hi .i64 .i64 L (by omega) (by omega) W
    go_wp2_with fail
    exact hK.out _ _ ⟨_,_,_,_,rfl,HG.out.a5 h⟩
   ·refine⟨_,rfl,by rfl,fun K hK=>?_⟩
    have ho:o1<=1:=by rw[HO.out];omega
    have hm:=Ca (P:=prog) 86 106 _ 1 8 A9i.ht A9i.hi .i64 .i64 o1 (by omega) (by omega) W
    go_wp2_with fail
    exact hK.out _ _ ⟨_,_,_,_,rfl,HG.out.a11 h⟩
   ·refine⟨_,rfl,by rfl,fun K hK=>?_⟩
    go_wp2_with fail
    exact hK.out _ _ ⟨_,_,_,_,rfl,HG.out.a12 h⟩
   ·refine⟨_,rfl,by rfl,fun K hK=>?_⟩
    go_wp2_with fail
    exact hK.out _ _ ⟨_,_,_,_,rfl,HG.out.a13 h⟩
   ·obtain⟨b,rfl,hb1,B1⟩:=HG.out.sv h'
    obtain⟨g,rfl,_,_⟩:=HG.out.s h
    refine⟨_,rfl,by rfl,fun K hK=>?_⟩
    have bc1:=B1.cell
    have bf1:=B1.frozen
    go_wp2_with fail
    exact hK.out _ _ ⟨_,_,_,_,rfl,HG.out.a14 hne hb1 B1⟩
   ·obtain⟨b,rfl,hb1,B1⟩:=HG.out.tv h'
    obtain⟨g,rfl,_,_⟩:=HG.out.t h
    refine⟨_,rfl,by rfl,fun K hK=>?_⟩
    have bc1:=B1.cell
    have bf1:=B1.frozen
    go_wp2_with fail
    exact hK.out _ _ ⟨_,_,_,_,rfl,HG.out.a15 hne hb1 B1⟩
 ·rintro a W1 ⟨v2,v3,v12,v18,rfl,G1⟩
  obtain⟨ga,rfl,ga1,GA⟩:=G1.s (by simp)
  obtain⟨gb,rfl,gb1,GT⟩:=G1.t (by simp)
  obtain⟨b2,rfl,b21,B2⟩:=G1.sv (by simp)
  obtain⟨b3,rfl,b31,B3⟩:=G1.tv (by simp)
  have hB1:=G1.below
  have hsW:=hB1.size
  have hs0:W0.heap.size=w.heap.size+1:=by rw[hW0];simp
  have hBw:Below w.heap.size w W1:=(hW0▸((Below.refl _ w).alloc (Nat.le_refl _) _).drew:Below w.heap.size w W0).trans (hB1.mono (by omega))
  have Y1:=Yd.l hB1
  obtain rfl:=HO.out
  simp only[List.contains_nil,Bool.false_eq_true,if_false]at B2 B3
  clear HO G1 hB1
  have y1:=Y1.cell
  go_wp2_with (go_at_call 174;refine(A8a bm W1).mono ?_;rintro e W2 ⟨rfl,hW2⟩)
  rw[←hW2]
  have Z2:Blk W2 W1.heap.size #[.pointer (some ⟨bm,0,none⟩)] 71:=hW2▸Blk.new W1 _ _
  have h12:Below W1.heap.size W1 W2:=hW2▸(Below.refl _ _).alloc (Nat.le_refl _) _
  have hs2:W2.heap.size=W1.heap.size+1:=by rw[hW2];simp
  have hB2:Below w.heap.size w W2:=hBw.trans (h12.mono hBw.size)
  have GA2:=GA.l h12
  have GT2:=GT.l h12
  have B22:=B2.l h12
  have B32:=B3.l h12
  have Y2:=Y1.l h12
  have gal:=GA.lt
  have gbl:=GT.lt
  have hgab:gb≠ga:=Aa GT GA (by decide)
  have hbwl:=hBw.size
  obtain⟨fo,fcc,hmf⟩:∃fo fcc,m.free=.slice fo n fcc:=by
   rcases S.heap with ⟨rfl,fo,fcc,h⟩|⟨g,c,h,_⟩
   ·exact⟨fo,fcc,h⟩
   ·exact⟨_,_,h⟩
  have MF:MAt w bm {m with slots:=.slice so L sc,free:=.slice fo n fcc,tasks:=.slice (some ⟨bts,0,none⟩) 1 1,cur:=.int .i64 0,got:=.slice none 0 0,wv:=.slice none 0 0}:=by rw[←hmf];exact M
  obtain⟨gs,rfl⟩:∃gs,so=some ⟨gs,0,none⟩:=by
   rcases Aj S.row with ⟨_,h⟩|⟨g,c,h,_⟩
   ·omega
   ·rw[hms]at h;injection h with h _ _;exact⟨g,h⟩
  have hR:w.ownsRow 0 127 1 (.slice (some ⟨gs,0,none⟩) L sc) L xs:=owns0 (hms▸S.row)
  have hsp:=Ai hR hxp
  obtain⟨wk,hwk⟩:∃wk:Nat->World,wk=fun i=>match i with|0=>W2|1=>W2.setCell ⟨gb,0,none⟩ (pv bt)|_=>(W2.setCell ⟨gb,0,none⟩ (pv bt)).setCell ⟨ga,p,none⟩ (pv bs):=⟨_,rfl⟩
  have Bk:∀i,Below w.heap.size w (wk i):=fun i=>by
   rw[hwk]
   rcases i with _|_|i
   ·exact hB2
   ·exact hB2.setCell (p:=⟨gb,0,none⟩) (by show w.heap.size<=gb;omega) _
   ·exact(hB2.setCell (p:=⟨gb,0,none⟩) (by show w.heap.size<=gb;omega) _).setCell (p:=⟨ga,p,none⟩) (by show w.heap.size<=ga;omega) _
  have Bw:∀i W,Below W2.heap.size (wk i) W->Below w.heap.size w W:=fun i W h=>(Bk i).trans (h.mono (by omega))
  have e0:wk 0=W2:=congrFun hwk 0
  have Bw0:∀W,Below W2.heap.size W2 W->Below w.heap.size w W:=fun W h=>hB2.trans (h.mono (by omega))
  have HB:Hid (∀i W,Below W2.heap.size (wk i) W->Below w.heap.size w W):=Bw
  refine A4d W1.heap.size bm p [gb,ga] wk (fun i bq=>{tmps:=#[.pointer (some ⟨bm,0,none⟩),.pointer (some ⟨w.heap.size,0,none⟩),pv b2,pv b3,pv bq,undef,undef,.pointer (some ⟨bm,0,none⟩),.pointer (some ⟨bm,0,none⟩),.pointer (some ⟨bm,5,none⟩),.slice (some ⟨gs,0,none⟩) L sc,.int .i64 L,sl1 ga L,.pointer (some ⟨bm,0,none⟩),.pointer (some ⟨bm,0,none⟩),.pointer (some ⟨bm,10,none⟩),.slice (some ⟨bts,0,none⟩) 1 1,.int .i64 1,sl1 gb 1,.pointer (some ⟨bm,0,none⟩),.func (.func 234) #[] #[.pointer (some ⟨W1.heap.size,0,none⟩)],.agg (thc p i),undef,undef,undef,undef,undef,undef,undef,undef,undef,undef,undef,undef,undef,undef,undef,undef,undef,undef,undef,undef,undef,undef,undef,undef,undef,undef,undef,undef,undef,undef,undef,undef,undef,undef,undef,undef,undef,undef,undef,undef,undef,undef,undef,undef,undef,undef,undef,undef,undef,undef,undef,undef,undef,undef,undef],defers:=[]}) rfl rfl e0 (by omega) (by simp;omega) (Z2.cell 0) ?hU ?hF ?hN0 ?hN1 ?assign ?body ?done
  case hU=>exact fun W h=>(A7b bm {m with tasks:=.slice (some ⟨bts,0,none⟩) 1 1,cur:=.int .i64 0,got:=.slice none 0 0,wv:=.slice none 0 0} _ _ L sc n fcc W hn hL (MF.l (Bw0 W h))).mono fun e w' ⟨he,hb⟩=>⟨_,he,hb⟩
  case hF=>
   intro W h
   have hb1:=Bw0 W h
   exact Qs bm bts bt bf fc bc br k x r f s p cc {t with state:=.int .i64 st} {m with slots:=.slice (some ⟨gs,0,none⟩) L sc} W hk (by have:=hb1.size;omega) (by have:=hb1.size;omega) (M.l hb1) (cb hb hb1) (T.l hb1) (cb F hb1) (C.l hb1) (X.l hb1) (fun W' h'=>Rw bm L _ xs {m with tasks:=.slice (some ⟨bts,0,none⟩) 1 1,cur:=.int .i64 0,got:=.slice none 0 0,wv:=.slice none 0 0} W' hL (M.l (bl2 hb1 h')) (Ab hR (bl2 hb1 h')) (fun j hj=>(hx j hj).imp id fun ⟨b,h1,h2,h3⟩=>⟨b,h1,by have:=(bl2 hb1 h').size;omega,h3.l h2 (bl2 hb1 h')⟩) (Aaf _ _))
  case hN0=>exact fun no nc W h=>Wq bm bts bt nc no st {m with slots:=.slice (some ⟨gs,0,none⟩) L sc,cur:=.int .i64 0,got:=.slice none 0 0,wv:=.slice none 0 0} {t with fk:=.int .i64 k,fn:=.int .i64 x,ff:=.float .f64 f,fs:=.string s,fr:=.int .i64 r,frames:=.slice (some ⟨bf,0,none⟩) 1 fc,waiter:=.int .i64 (-1),dropped:=.slice none 0 0} W h0 h1 (M.l (Bw 2 W h)) (cb hb (Bw 2 W h)) (T.l (Bw 2 W h))
  case hN1=>exact fun no nc W h=>Zg bm gs L sc bs p nc no _ _ _ _ {m with tasks:=.slice (some ⟨bts,0,none⟩) 1 1,cur:=.int .i64 0,got:=.slice none 0 0,wv:=.slice none 0 0} W hp (M.l (Bw 2 W h)) (cb hsp (Bw 2 W h)) (B.l (Bw 2 W h))
  case assign=>
   intro i l W K hi hB hK
   clear hwk HB Bw Bk Bw0
   rcases (by omega:i=0∨i=1) with rfl|rfl
   ·dsimp only[thc]at hK ⊢
    gi_wp2
    exact hK _ _ rfl rfl
   ·dsimp only[thc]at hK ⊢
    gi_wp2
    exact hK _ _ rfl rfl
  case body=>
   intro i l bq W hi hB hbq TQ
   rcases (by omega:i=0∨i=1) with rfl|rfl
   ·rw[e0]at hB
    have TQ:Blk W bq #[.bool true,.int .i64 0] 252:=TQ
    have BQ:=B32.l hB
    have MQ:=M.l (Bw0 W hB)
    have YQ:=Y2.l hB
    have b3c:=BQ.cell
    have mc:=MQ.cell
    have yc:=YQ.cell
    have n3:b3∉[gb,ga]:=by simp;exact⟨Aa B32 GT2 (by decide),Aa B32 GA2 (by decide)⟩
    have nq:bq∉[gb,ga]:=by simp;omega
    have ny:w.heap.size∉[gb,ga]:=by simp;omega
    have nm:bm∉[gb,ga]:=by have:=M.lt;simp;omega
    have nt:bts∉[gb,ga]:=by have:=World.block_lt_of_cell? _ _ hb;simp at this ⊢;omega
    have tc:=cb hb (Bw0 W hB)
    have qc:=TQ.cell
    have GW:=GT2.l hB
    have e1:Below W2.heap.size (wk 1) ((W.drew).setCell ⟨gb,0,none⟩ (pv bt)):=(congrFun hwk 1)▸Tw hB.drew _ _
    have c1:Chg [gb,ga] W ((W.drew).setCell ⟨gb,0,none⟩ (pv bt)):=((Chg.refl _ _).below (Below.refl _ _).drew).set (by simp) _ _
    clear hwk HB Bw Bk Bw0
    gi_wp2
    refine rgR (fun W=>(∀o,W.cell? ⟨b3,o,none⟩=(#[sl1 gb 1]:Array Value)[o]?)/\(∀o,W.cell? ⟨bq,o,none⟩=(#[.bool true,.int .i64 0]:Array Value)[o]?)/\(∀o,W.cell? ⟨w.heap.size,o,none⟩=(#[.pointer (some ⟨bm,0,none⟩)]:Array Value)[o]?)/\(∀o,W.cell? ⟨bm,o,none⟩=(Mc.arr {m with slots:=.slice (some ⟨gs,0,none⟩) L sc,tasks:=.slice (some ⟨bts,0,none⟩) 1 1,cur:=.int .i64 0,got:=.slice none 0 0,wv:=.slice none 0 0})[o]?)/\W.cell? ⟨bts,0,none⟩=some (.pointer (some ⟨bt,0,none⟩))) (by kernel_rfl) (fun ⟨_,_,h⟩=>(by cases h.1)) ⟨b3c,qc,yc,mc,tc⟩ (fun hS=>?_)
    iterate 12 (refine tkM rfl (by kernel_rfl) (by rfl) hS ⟨?_,fun W hW=>?_,?_⟩;rotate_left;(focus (obtain⟨y1,y2,y3,y4,y5⟩:=hW;go_simp;with_reducible rfl));simp only[Act.put,List.getElem_toArray,List.getElem_cons_zero,List.getElem_cons_succ,List.setIfInBounds_toArray,List.set_cons_succ,List.set_cons_zero])
    refine doM rfl (by kernel_rfl) (by rfl) (fun K2 hK2=>?_)
    have gc:W.drew.cell? ⟨gb,0,none⟩=some (.pointer none):=(GW.cell 0).trans (by rw[←hA1,←Array.getElem?_toList,toList_madeCells_one];rfl)
    have gf:W.drew.frozen? ⟨gb,0,none⟩=false:=GW.frozen 0
    go_wp2_with fail
    refine hK2.out _ _ ⟨(BQ.chg c1 n3).cell,(TQ.chg c1 nq).cell,(YQ.chg c1 ny).cell,(MQ.chg c1 nm).cell,c1.cell nt tc⟩ (fun _=>enM (by kernel_rfl) (NoPanic.normal ?_))
    exact⟨rfl,e1,c1⟩
   ·have TQ:Blk W bq #[.bool false,.int .i64 p] 252:=TQ
    have hBw1:=Bw 1 W hB
    have hB':Below W2.heap.size (W2.setCell ⟨gb,0,none⟩ (pv bt)) W:=by have h:=hB;rw[hwk]at h;exact h
    have s1:(W2.setCell ⟨gb,0,none⟩ (pv bt)).heap.size=W2.heap.size:=by simp
    have hB1:Below (W2.setCell ⟨gb,0,none⟩ (pv bt)).heap.size (W2.setCell ⟨gb,0,none⟩ (pv bt)) W:=s1.symm▸hB'
    have BQ:=(B22.setOther (p:=⟨gb,0,none⟩) (Aa B22 GT2 (by decide)) (pv bt)).l hB1
    have MQ:=M.l hBw1
    have YQ:=(Y2.setOther (p:=⟨gb,0,none⟩) (Aa Y2 GT2 (by decide)) (pv bt)).l hB1
    have GW:=(GA2.setOther (p:=⟨gb,0,none⟩) (Ne.symm hgab) (pv bt)).l hB1
    have b2c:=BQ.cell
    have mc:=MQ.cell
    have yc:=YQ.cell
    have tc:=cb hsp hBw1
    have qc:=TQ.cell
    have e1:Below W2.heap.size (wk 2) ((W.drew).setCell ⟨ga,p,none⟩ (pv bs)):=(congrFun hwk 2)▸Tw hB'.drew _ _
    have c1:Chg [gb,ga] W ((W.drew).setCell ⟨ga,p,none⟩ (pv bs)):=((Chg.refl _ _).below (Below.refl _ _).drew).set (by simp) _ _
    have p0:(0:Int)<=p:=by omega
    have p1:(p:Int)<L:=by omega
    have n3:b2∉[gb,ga]:=by simp;exact⟨Aa B22 GT2 (by decide),Aa B22 GA2 (by decide)⟩
    have nq:bq∉[gb,ga]:=by simp;omega
    have ny:w.heap.size∉[gb,ga]:=by simp;omega
    have nm:bm∉[gb,ga]:=by have:=M.lt;simp;omega
    have nt:gs∉[gb,ga]:=by have:=World.block_lt_of_cell? _ _ hsp;simp at this ⊢;omega
    clear hwk HB Bw Bk Bw0
    gi_wp2
    refine rgR (fun W=>(∀o,W.cell? ⟨b2,o,none⟩=(#[sl1 ga L]:Array Value)[o]?)/\(∀o,W.cell? ⟨bq,o,none⟩=(#[.bool false,.int .i64 p]:Array Value)[o]?)/\(∀o,W.cell? ⟨w.heap.size,o,none⟩=(#[.pointer (some ⟨bm,0,none⟩)]:Array Value)[o]?)/\(∀o,W.cell? ⟨bm,o,none⟩=(Mc.arr {m with slots:=.slice (some ⟨gs,0,none⟩) L sc,tasks:=.slice (some ⟨bts,0,none⟩) 1 1,cur:=.int .i64 0,got:=.slice none 0 0,wv:=.slice none 0 0})[o]?)/\W.cell? ⟨gs,p,none⟩=some (pv bs)) (by kernel_rfl) (fun ⟨_,_,h⟩=>(by cases h.1)) ⟨b2c,qc,yc,mc,tc⟩ (fun hS=>?_)
    iterate 12 (refine tkM rfl (by kernel_rfl) (by rfl) hS ⟨?_,fun W hW=>?_,?_⟩;rotate_left;(focus (obtain⟨y1,y2,y3,y4,y5⟩:=hW;go_simp;with_reducible rfl));simp only[Act.put,List.getElem_toArray,List.getElem_cons_zero,List.getElem_cons_succ,List.setIfInBounds_toArray,List.set_cons_succ,List.set_cons_zero])
    refine doM rfl (by kernel_rfl) (by rfl) (fun K2 hK2=>?_)
    have gc:W.drew.cell? ⟨ga,p,none⟩=some (.pointer none):=(GW.cell p).trans (by rw[←hA,←Array.getElem?_toList,toList_madeCells_one];simp[hp])
    have gf:W.drew.frozen? ⟨ga,p,none⟩=false:=GW.frozen p
    go_wp2_with fail
    refine hK2.out _ _ ⟨(BQ.chg c1 n3).cell,(TQ.chg c1 nq).cell,(YQ.chg c1 ny).cell,(MQ.chg c1 nm).cell,c1.cell nt tc⟩ (fun _=>enM (by kernel_rfl) (NoPanic.normal ?_))
    exact⟨rfl,e1,c1⟩
  case done=>
   intro D W hD hB hK
   have hBw1:=Bw 2 W hB
   have hB':Below W2.heap.size ((W2.setCell ⟨gb,0,none⟩ (pv bt)).setCell ⟨ga,p,none⟩ (pv bs)) W:=by have h:=hB;rw[hwk]at h;exact h
   have s1:((W2.setCell ⟨gb,0,none⟩ (pv bt)).setCell ⟨ga,p,none⟩ (pv bs)).heap.size=W2.heap.size:=by simp
   rw[←s1]at hB'
   have hsB:=hB'.size
   rw[s1]at hsB
   have BQ2:=((B22.setOther (p:=⟨gb,0,none⟩) (Aa B22 GT2 (by decide)) (pv bt)).setOther (p:=⟨ga,p,none⟩) (Aa B22 GA2 (by decide)) (pv bs)).l hB'
   have BQ3:=((B32.setOther (p:=⟨gb,0,none⟩) (Aa B32 GT2 (by decide)) (pv bt)).setOther (p:=⟨ga,p,none⟩) (Aa B32 GA2 (by decide)) (pv bs)).l hB'
   have YQ:=((Y2.setOther (p:=⟨gb,0,none⟩) (Aa Y2 GT2 (by decide)) (pv bt)).setOther (p:=⟨ga,p,none⟩) (Aa Y2 GA2 (by decide)) (pv bs)).l hB'
   have GAQ:=((GA2.setOther (p:=⟨gb,0,none⟩) (Ne.symm hgab) (pv bt)).set p (pv bs)).l hB'
   have GTQ:=((GT2.set 0 (pv bt)).setOther (p:=⟨ga,p,none⟩) hgab (pv bs)).l hB'
   have MQ:=M.l hBw1
   have hAs:A.size=L:=by rw[←hA];exact size_madeCells _ _
   have hAl:(A.setIfInBounds p (pv bs)).toList=(List.replicate L (.pointer none)).set p (pv bs):=by rw[Array.toList_setIfInBounds,←hA,toList_madeCells_one]
   have hRW:W.ownsRow 0 127 1 (sl1 ga L) L ((List.replicate L (.pointer none)).set p (pv bs)):=⟨by simp,.inr ⟨ga,L,_,rfl,Nat.zero_le _,GAQ,Nat.le_refl _,by unfold maxLen;omega,by simp[hAs],by rw[hAl,Nat.mul_one,List.take_of_length_le (by simp)]⟩⟩
   have gtc:W.cell? ⟨gb,0,none⟩=some (pv bt):=(GTQ.cell 0).trans (by rw[←hA1,←Array.getElem?_toList,Array.toList_setIfInBounds,toList_madeCells_one];rfl)
   have tcW:=cb hb hBw1
   have bq2:=BQ2.cell
   have yc:=YQ.cell
   clear hwk HB Bw Bk Bw0 hAl GTQ hB
   have HR:Hid (W.ownsRow 0 127 1 (sl1 ga L) L ((List.replicate L (.pointer none)).set p (pv bs))):=hRW
   have HM:Hid (MAt W bm {m with slots:=.slice (some ⟨gs,0,none⟩) L sc,tasks:=.slice (some ⟨bts,0,none⟩) 1 1,cur:=.int .i64 0,got:=.slice none 0 0,wv:=.slice none 0 0}):=MQ
   clear hRW MQ
   have nts:bts∉[bm]:=by simpa using Aa TS M (by decide)
   go_wp2_with fail
   refine(T9 bm L p ga L ⟨bs,0,none⟩ _ _ W hL hp ?ks1 ?ks2 HM.out HR.out).mono ?_
   case ks1=>simp[hp]
   case ks2=>exact fun j hj hne=>by simp[hj,Ne.symm hne]
   rintro e W4 ⟨fv,rfl,C4,M4,R4⟩
   have m4:=M4.cell
   have f4:=M4.frozen
   have y4:=(YQ.chg C4 (by simpa using Aa YQ HM.out (by decide))).cell
   have b4:=(BQ3.chg C4 (by simpa using Aa BQ3 HM.out (by decide))).cell
   have t4:W4.cell? ⟨bts,0,none⟩=some (.pointer (some ⟨bt,0,none⟩)):=C4.cell nts tcW
   have g4:W4.cell? ⟨gb,0,none⟩=some (pv bt):=C4.cell (by have:=M.lt;simp;omega) gtc
   go_wp2_with fail
   refine wp_loop_rounds 2 ?_
   rw[rounds_succ]
   go_wp2_with fail
   rw[rounds_succ]
   go_wp2_with fail
   have hbm:=M.lt
   have hDl:D<W.heap.size:=(Array.getElem?_eq_some_iff.1 hK).1
   have hC4:=C4.size
   have hp1:∀(V:World) (k:Nat),k≠D->(V.putObj D (.deferred none)).heap[k]?=V.heap[k]?:=fun V k hk=>World.putObj_heap_other hk
   have hk4:∀k,k≠bm->k≠D->((W4.setCell ⟨bm,1,none⟩ (.int .i64 0)).putObj D (.deferred none)).heap[k]?=W4.heap[k]?:=fun k h h'=>(hp1 _ k h').trans (Below.heap_setCell _ _ _ k h)
   have hKD:(W4.setCell ⟨bm,1,none⟩ (.int .i64 0)).heap[D]?=some (.deferred (some [])):=(Below.heap_setCell _ _ _ D (by show D≠bm;omega)).trans ((C4.block D (by simp;omega) hDl).trans hK)
   refine⟨by simp,.inl ⟨_,_,rfl,run_takeDeferred hKD,?_⟩⟩
   have c4:Chg [bm] w (W4.setCell ⟨bm,1,none⟩ (.int .i64 0)):=(((Chg.refl _ _).below hBw1).trans C4 (fun _ h=>h)).set (by simp) _ _
   have GA4:Blk ((W4.setCell ⟨bm,1,none⟩ (.int .i64 0)).putObj D (.deferred none)) ga (A.setIfInBounds p (pv bs)) 127:=(hk4 ga (by omega) (by omega)).trans (GAQ.chg C4 (by simp;omega))
   have hAl:(A.setIfInBounds p (pv bs)).toList=(List.replicate L (.pointer none)).set p (pv bs):=by rw[Array.toList_setIfInBounds,←hA,toList_madeCells_one]
   refine⟨_,results_none rfl _ _ _,rfl,⟨c4.os,c4.tape,c4.output,by simpa using c4.size,fun b hb hl=>(hp1 _ b (by omega)).trans (c4.block b hb hl)⟩,_,fv,(hp1 _ bm (by omega)).trans (M4.set 1 _),⟨by simp,.inr ⟨ga,L,_,rfl,by have:=S.lb;omega,GA4,hp,by unfold maxLen;omega,by simp[hAs],?_⟩⟩,?_,fun g hg=>by have:=(R4.lt g hg).1;have:=S.lb;omega,S.lb⟩
   ·rw[hAl,Nat.mul_one]
    apply List.ext_getElem?
    intro j
    by_cases hj:j<p+1
    ·rw[List.getElem?_take_of_lt hj]
     by_cases e:j=p
     ·subst e;simp[hp]
     ·rw[List.getElem?_set_ne (Ne.symm e),List.getElem?_append_left (by simp;omega)]
      simp[show j<L by omega,show j<p by omega]
    ·rw[List.getElem?_eq_none (by simp;omega),List.getElem?_eq_none (by simp;omega)]
   ·rcases Bz R4 with ⟨rfl,h,_⟩|⟨g,cap,rfl,hle,hO,hcap,hC⟩
    ·exact .inl ⟨h,_,_,by rw[h]⟩
    ·have hg:=hO.lt
     have hgk:=hk4 g (by omega) (by omega)
     refine .inr ⟨g,cap,rfl,by omega,by simpa using hO.of_block hgk,fun j hj=>⟨(j:Int),(World.cell?_of_block hgk).trans (Ai R4 (by simp[hj])),by omega,by omega⟩⟩
end Go.Proofs.YtbefeflgjipfhaaGreatDoor
namespace Go.Proofs.YtbefeflgjipfhaaGreatDoor
open Go.Deep Go.Proofs.Tryz Go.RowKit
attribute [local go_sem] A7 vi
theorem A83:(prog.info? 178).map (fun i=>(i.zero,i.size,i.bytes))=some (some (.agg #[.int .i64 0,.int .i64 0,.int .i64 0,.float .f64 0,.string ByteArray.empty,.int .i64 0,.pointer none,.slice none 0 0]),8,88):=by kernel_rfl
theorem A3u:(prog.info? 141).map (fun i=>(i.zero,i.size,i.bytes))=some (some (.agg #[.int .i64 0,.int .i64 0]),2,16):=by kernel_rfl
abbrev pr6 (nm:ByteArray) (ln:Int) (s:Nat) (us ks qs ns:Value):Array Value:=#[.string nm,.int .i64 ln,.int .i64 0,.bool false,.int .i64 s,us,ks,qs,ns]
abbrev pl (x:Nat):Value:=.pointer (some ⟨x,0,none⟩)
abbrev ρ0:Nat->R8:=fun _=>.none
abbrev rz:Array Value:=#[.int .i64 0,.int .i64 0,.int .i64 0,.float .f64 0,.string ByteArray.empty,.int .i64 0,.pointer none,.slice none 0 0]
theorem A61 (n:Nat) {W:World} {b:Nat} (h:Blk W b (madeCells rz (n*8)) 178):RgA W b n ρ0:=by
 refine⟨_,h,size_madeCells _ _,fun i hi j hj=>?_⟩
 have hlt:i*8+j<n*8:=by omega
 unfold madeCells
 rw[Array.getElem?_map,Array.getElem?_range,if_pos hlt]
 have hm:(i*8+j)%rz.size=j:=by show (i*8+j)%8=j;omega
 simp only[Option.map_some,hm]
 match j,hj with
 | 0,_=>rfl
 | 1,_=>rfl
 | 2,_=>rfl
 | 3,_=>rfl
 | 4,_=>rfl
 | 5,_=>rfl
 | 6,_=>rfl
 | 7,_=>rfl
theorem A80 (nm:ByteArray) (ln:Int) (s:Nat) (h6:s=14) (u0 k0 i0 n0:Option Addr) (u1 u2 k1 k2 i1 i2 n1 n2:Nat) (w:World) :
  Calls prog 118 #[.agg (pr6 nm ln s (.slice u0 u1 u2) (.slice k0 k1 k2) (.slice i0 i1 i2) (.slice n0 n1 n2)),.slice none 0 0] w fun e w'=>∃g,e=.returned (.slice (some ⟨g,0,none⟩) 14 14)/\w.heap.size<=g/\RgA w' g 14 ρ0/\Below w.heap.size w w':=by
 have X:=Blk.new w (pr6 nm ln s (.slice u0 u1 u2) (.slice k0 k1 k2) (.slice i0 i1 i2) (.slice n0 n1 n2)) 63
 have x:=X.cell
 have xa:=fun o=>(X.alloc o).cell
 have H6:Hid (s=14):=h6
 have hs:s<=14:=by omega
 clear h6
 have hmk:=fun W=>Ca (P:=prog) 128 178 _ 8 88 underlying128 A83 .i64 .i64 s (by omega) (by omega) W
 go_enter func118,ntmps118
 go_wp2_with fail
 refine wp_loop_rounds 1 ?_
 rw[rounds_succ]
 go_wp2_with fail
 go_ret
 obtain rfl:=H6.out
 refine⟨w.heap.size+1,rfl,by omega,?_,bl2 ((Below.refl _ _).alloc (Nat.le_refl _) _) ((Below.refl _ _).alloc (Nat.le_refl _) _)⟩
 exact A61 14 (Blk.nh _ _ (by simp))
abbrev cN (b:Nat):Cc:=⟨.int .i64 1,.int .i64 0,.pointer none,.int .i64 0,.int .i64 0,.int .i64 0,.slice (some ⟨b,0,none⟩) 14 14,.slice none 0 0,.bool false,.bool false,.int .i64 0,.slice none 0 0,.string ByteArray.empty,.int .i64 (-1)⟩
theorem A46 (cp np pc s:Nat) (h6:s=14) (nm:ByteArray) (ln:Int) (u0 k0 i0 n0:Option Addr) (u1 u2 k1 k2 i1 i2 n1 n2:Nat) (w:World) (hn:0<np) (hP:∀i,i<9->w.cell? ⟨cp,i,none⟩=(pr6 nm ln s (.slice u0 u1 u2) (.slice k0 k1 k2) (.slice i0 i1 i2) (.slice n0 n1 n2))[i]?) :
  Calls prog 34 #[.agg #[.slice (some ⟨cp,0,none⟩) np pc],.int .i64 0,.pointer none,.slice none 0 0] w fun e w'=>∃bc br,e=.returned (.pointer (some ⟨bc,0,none⟩))/\w.heap.size<=bc/\w.heap.size<=br/\CAt w' bc (cN br)/\RgA w' br 14 ρ0/\Below w.heap.size w w':=by
 have B0:=(Below.refl w.heap.size w).alloc (Nat.le_refl _) (.cells #[.slice (some ⟨cp,0,none⟩) np pc] 26)
 have X:=Blk.new w #[.slice (some ⟨cp,0,none⟩) np pc] 26
 have x:=X.cell
 have q0:=cb (hP 0 (by decide)) B0
 have q1:=cb (hP 1 (by decide)) B0
 have q2:=cb (hP 2 (by decide)) B0
 have q3:=cb (hP 3 (by decide)) B0
 have q4:=cb (hP 4 (by decide)) B0
 have q5:=cb (hP 5 (by decide)) B0
 have q6:=cb (hP 6 (by decide)) B0
 have q7:=cb (hP 7 (by decide)) B0
 have q8:=cb (hP 8 (by decide)) B0
 have hi:(0:Int)<np:=by omega
 have H6:Hid (s=14):=h6
 clear hP h6
 go_enter func34,ntmps34
 go_wp2_with fail
 refine(A80 nm ln s H6.out u0 k0 i0 n0 u1 u2 k1 k2 i1 i2 n1 n2 _).mono ?_
 rintro e w1 ⟨g,rfl,hg,R1,B1⟩
 clear q0 q1 q2 q3 q4 q5 q6 q7 q8 x X
 go_wp2_with fail
 go_ret
 have s0:=B0.size
 simp only[World.size_alloc]at hg
 exact⟨w1.heap.size,g,rfl,by have:=B1.size;simp at this;omega,by omega,Blk.new w1 _ _,R1.alloc _,bl2 (bl2 B0 B1) ((Below.refl _ _).alloc (Nat.le_refl _) _)⟩
abbrev mN (pace:Int) (bts bk q:Nat):Mc:=⟨.int .i64 pace,.int .i64 0,.int .i64 0,.int .i64 0,.int .i64 0,.slice none 0 0,.slice none 0 0,.slice (some ⟨bk,0,none⟩) q q,.int .i64 0,.int .i64 0,.slice (some ⟨bts,0,none⟩) 1 1,.int .i64 0,.bool false,.slice none 0 0,.int .i64 0,.slice none 0 0,.string ByteArray.empty,.bool false,.int .i64 0,.int .i64 0,.int .i64 0,.int .i64 0,.slice none 0 0,.slice none 0 0,.string ByteArray.empty,.string ByteArray.empty,.int .i64 0,.int .i64 0⟩
abbrev tN (bf:Nat):Tc:=⟨.int .i64 2,.int .i64 0,.int .i64 0,.float .f64 0,.string ByteArray.empty,.int .i64 0,.slice (some ⟨bf,0,none⟩) 1 1,.int .i64 (-1),.bool false,.slice none 0 0⟩
structure A35 (w:World) (pace:Int) (Qk:World->Nat->Prop) (bm bts bt bf bc br g:Nat) (w':World):Prop where
 ge:w.heap.size<=bm/\w.heap.size<=bt/\w.heap.size<=bc/\w.heap.size<=br
 m:∃bk,MAt w' bm (mN pace bts bk 1)/\w.heap.size<=bk/\Blk w' bk #[.int .i64 0,.int .i64 0] 141
 ts:Blk w' bts #[.pointer (some ⟨bt,0,none⟩)] 106
 t:TAt w' bt (tN bf)
 f:Blk w' bf #[.iface 107 (.pointer (some ⟨bc,0,none⟩))] 117
 c:CAt w' bc (cN br)
 r:RgA w' br 14 ρ0
 q:Qk w' g
 b:Below w.heap.size w w'
theorem Zh (cp pcc s:Nat) (h6:s=14) (nm:ByteArray) (ln:Int) (u0 k0 i0 n0:Option Addr) (u1 u2 k1 k2 i1 i2 n1 n2:Nat) (a2:Option Addr) (l2 c1 c2:Nat) (ti de ce pace:Int) (Qk:World->Nat->Prop) (w:World) (hp0:0<=pace) (hp1:pace<=1000) (hP:∀i,i<9->w.cell? ⟨cp,i,none⟩=(pr6 nm ln s (.slice u0 u1 u2) (.slice k0 k1 k2) (.slice i0 i1 i2) (.slice n0 n1 n2))[i]?)
  (HQ:Hid (∀W W' g,Qk W g->Below W.heap.size W W'->Qk W' g))
  (HI:Hid (∀W,Below w.heap.size w W->Calls prog 31 #[.agg #[.slice none 0 c1,.slice a2 l2 c2,.int .i64 ti,.int .i64 de,.int .i64 ce]] W fun e w'=>e=.returned (.bool true)/\Below W.heap.size W w'))
  (HP:Hid (∀W,Below w.heap.size w W->Calls prog 32 #[.agg #[.slice (some ⟨cp,0,none⟩) 1 pcc]] W fun e w'=>∃g q:Nat,e=.returned (.agg #[.slice (some ⟨g,0,none⟩) 1 1,.int .i64 q])/\q=1/\Qk w' g/\Below W.heap.size W w')) :
  Calls prog 23 #[.agg #[.slice (some ⟨cp,0,none⟩) 1 pcc],.agg #[.slice none 0 c1,.slice a2 l2 c2,.int .i64 ti,.int .i64 de,.int .i64 ce],.int .i64 pace] w fun e w'=>∃bm bts bt bf bc br g,e=.returned (.tuple #[.pointer (some ⟨bm,0,none⟩),.slice (some ⟨g,0,none⟩) 1 1])/\A35 w pace Qk bm bts bt bf bc br g w':=by
 have HW:Hid (∀i,i<9->w.cell? ⟨cp,i,none⟩=(pr6 nm ln s (.slice u0 u1 u2) (.slice k0 k1 k2) (.slice i0 i1 i2) (.slice n0 n1 n2))[i]?):=hP
 have H6:Hid (s=14):=h6
 clear hP h6
 obtain⟨W,hW⟩:∃W,W=(w.alloc (.cells #[.slice (some ⟨cp,0,none⟩) 1 pcc] 26)).alloc (.cells #[.slice none 0 c1,.slice a2 l2 c2,.int .i64 ti,.int .i64 de,.int .i64 ce] 30):=⟨_,rfl⟩
 have BW:Below w.heap.size w W:=hW▸bl2 ((Below.refl _ _).alloc (Nat.le_refl _) _) ((Below.refl _ _).alloc (Nat.le_refl _) _)
 have X:Blk W w.heap.size #[.slice (some ⟨cp,0,none⟩) 1 pcc] 26:=hW▸(Blk.new w _ _).alloc _
 have Y:Blk W (w.heap.size+1) #[.slice none 0 c1,.slice a2 l2 c2,.int .i64 ti,.int .i64 de,.int .i64 ce] 30:=hW▸Blk.nh _ _ (by simp)
 go_enter func23,ntmps23
 go_wp2_with fail
 rw[←hW]
 clear hW
 have hin:inR pace 0 1000=true:=by simp[inR,hp0,hp1]
 refine(Bn pace 0 1000 W).mono ?_
 rintro e w1 ⟨rfl,rfl⟩
 rw[hin]
 have y1:=Y.cell
 go_wp2_with (go_at_call 31;refine(HI.out _ BW).mono ?_;rintro e w2 ⟨rfl,B2⟩;have x2:=(X.l B2).cell)
 refine(HP.out w2 (bl2 BW B2)).mono ?_
 rintro e w3 ⟨g,q,rfl,hq,HQ3,B3⟩
 have BT:Below w.heap.size w w3:=bl2 (bl2 BW B2) B3
 have X3:=(X.l B2).l B3
 have Y3:=(Y.l B2).l B3
 have x3:=fun o=>(X3.alloc o).cell
 have y3:=fun o=>(Y3.alloc o).cell
 have HQ0:Hid (q=1):=hq
 have HK3:Hid (Qk w3 g):=HQ3
 clear hq HQ3 x2 y1
 go_wp2_with fail
 refine wp_loop_rounds 1 ?_
 rw[rounds_succ]
 obtain⟨W4,hW4⟩:∃z,z=w3.alloc (.cells #[.slice (some ⟨g,0,none⟩) 1 1,.int .i64 q] 104):=⟨_,rfl⟩
 have B4:Below w3.heap.size w3 W4:=hW4▸(Below.refl _ _).alloc (Nat.le_refl _) _
 have Q4:Blk W4 w3.heap.size #[.slice (some ⟨g,0,none⟩) 1 1,.int .i64 q] 104:=hW4▸Blk.new w3 _ _
 rw[←hW4]
 have x4:=(X3.l B4).cell
 have hP4:∀i,i<9->W4.cell? ⟨cp,i,none⟩=(pr6 nm ln s (.slice u0 u1 u2) (.slice k0 k1 k2) (.slice i0 i1 i2) (.slice n0 n1 n2))[i]?:=fun i hi=>by
  have h:=HW.out i hi
  rw[List.getElem?_toArray,List.getElem?_eq_getElem (by simpa using hi)]at h ⊢
  exact cb h (bl2 BT B4)
 have HP4:Hid (∀i,i<9->W4.cell? ⟨cp,i,none⟩=(pr6 nm ln s (.slice u0 u1 u2) (.slice k0 k1 k2) (.slice i0 i1 i2) (.slice n0 n1 n2))[i]?):=hP4
 clear hW4 x3 y3 hP4
 go_wp2_with fail
 refine(A46 cp 1 pcc s H6.out nm ln u0 k0 i0 n0 u1 u2 k1 k2 i1 i2 n1 n2 W4 (by decide) HP4.out).mono ?_
 rintro e w5 ⟨bc,br,rfl,hbc,hbr,C5,R5,B5⟩
 have Q5:=Q4.l B5
 have q5:=fun o o'=>(Q5.l (bl2 ((Below.refl _ _).alloc (Nat.le_refl _) o) ((Below.refl _ _).alloc (Nat.le_refl _) o'))).cell
 have hq0:q<=1:=by rw[HQ0.out];omega
 have hmk:=fun W=>Ca (P:=prog) 33 141 _ 2 16 underlying33 A3u .i64 .i64 q (by omega) (by omega) W
 clear x4
 go_wp2_with fail
 have hs5:w.heap.size<=w5.heap.size:=Nat.le_trans (bl2 BT B4).size B5.size
 have hs4:w.heap.size<=W4.heap.size:=(bl2 BT B4).size
 refine Pf (S:=fun W=>A35 w pace Qk (w5.heap.size+1+1+1+1) (w5.heap.size+1+1+1) (w5.heap.size+1) w5.heap.size bc br g W/\Blk W w3.heap.size #[.slice (some ⟨g,0,none⟩) 1 1,.int .i64 q] 104) ?nm ?_
 case nm=>
  have A:∀{W:World} {o:Obj},Below W.heap.size W (W.alloc o):=(Below.refl _ _).alloc (Nat.le_refl _) _
  have BA:=bl2 (bl2 (bl2 (bl2 (A (W:=w5) (o:=.cells #[.iface 107 (.pointer (some ⟨bc,0,none⟩))] 117)) (A (o:=.cells (tN w5.heap.size).arr 111))) (A (o:=.cells (madeCells #[.int .i64 0,.int .i64 0] (q*2)) 141))) (A (o:=.cells #[.pointer (some ⟨w5.heap.size+1,0,none⟩)] 106))) (A (o:=.cells (mN pace (w5.heap.size+1+1+1) (w5.heap.size+1+1) q).arr 88))
  have F1:=Blk.new w5 #[.iface 107 (.pointer (some ⟨bc,0,none⟩))] 117
  have T1:Blk _ (w5.heap.size+1) (tN w5.heap.size).arr 111:=Blk.nh (W:=w5.alloc (.cells #[.iface 107 (.pointer (some ⟨bc,0,none⟩))] 117)) _ _ (by simp)
  have S1:Blk _ (w5.heap.size+1+1+1) #[.pointer (some ⟨w5.heap.size+1,0,none⟩)] 106:=Blk.nh (W:=((w5.alloc (.cells #[.iface 107 (.pointer (some ⟨bc,0,none⟩))] 117)).alloc (.cells (tN w5.heap.size).arr 111)).alloc (.cells (madeCells #[.int .i64 0,.int .i64 0] (q*2)) 141)) _ _ (by simp)
  have hq1:=HQ0.out
  have K1:Blk (((w5.alloc (.cells #[.iface 107 (.pointer (some ⟨bc,0,none⟩))] 117)).alloc (.cells (tN w5.heap.size).arr 111)).alloc (.cells (madeCells #[.int .i64 0,.int .i64 0] (q*2)) 141)) (w5.heap.size+1+1) #[.int .i64 0,.int .i64 0] 141:=by
   have hmd:madeCells #[.int .i64 0,.int .i64 0] (q*2)=#[.int .i64 0,.int .i64 0]:=by rw[hq1];kernel_rfl
   rw[hmd]
   exact Blk.nh (W:=(w5.alloc (.cells #[.iface 107 (.pointer (some ⟨bc,0,none⟩))] 117)).alloc (.cells (tN w5.heap.size).arr 111)) _ _ (by simp)
  have Kq:=(K1.alloc (.cells #[.pointer (some ⟨w5.heap.size+1,0,none⟩)] 106)).alloc (.cells (mN pace (w5.heap.size+1+1+1) (w5.heap.size+1+1) q).arr 88)
  have Mq:MAt ((((((w5.alloc (.cells #[.iface 107 (.pointer (some ⟨bc,0,none⟩))] 117)).alloc (.cells (tN w5.heap.size).arr 111)).alloc (.cells (madeCells #[.int .i64 0,.int .i64 0] (q*2)) 141)).alloc (.cells #[.pointer (some ⟨w5.heap.size+1,0,none⟩)] 106)).alloc (.cells (mN pace (w5.heap.size+1+1+1) (w5.heap.size+1+1) q).arr 88))) (w5.heap.size+1+1+1+1) (mN pace (w5.heap.size+1+1+1) (w5.heap.size+1+1) 1):=by
   have:=Blk.nh (W:=((((w5.alloc (.cells #[.iface 107 (.pointer (some ⟨bc,0,none⟩))] 117)).alloc (.cells (tN w5.heap.size).arr 111)).alloc (.cells (madeCells #[.int .i64 0,.int .i64 0] (q*2)) 141)).alloc (.cells #[.pointer (some ⟨w5.heap.size+1,0,none⟩)] 106))) (n:=w5.heap.size+1+1+1+1) (mN pace (w5.heap.size+1+1+1) (w5.heap.size+1+1) q).arr 88 (by simp)
   simp only[hq1]at this ⊢
   exact this
  exact⟨⟨⟨by omega,by omega,by omega,by omega⟩,⟨w5.heap.size+1+1,Mq,by omega,Kq⟩,S1.alloc _,((T1.alloc _).alloc _).alloc _,(((F1.alloc _).alloc _).alloc _).alloc _,C5.l BA,R5.l BA,HQ.out _ _ _ (HQ.out _ _ _ (HQ.out _ _ _ HK3.out B4) B5) BA,bl2 (bl2 (bl2 BT B4) B5) BA⟩,Q5.l BA⟩
 intro W6 hW6
 have HN6:Hid (A35 w pace Qk (w5.heap.size+1+1+1+1) (w5.heap.size+1+1+1) (w5.heap.size+1) w5.heap.size bc br g W6):=hW6.1
 have k6:∀i,W6.drew.cell? ⟨w3.heap.size,i,none⟩=(#[.slice (some ⟨g,0,none⟩) 1 1,.int .i64 q]:Array Value)[i]?:=hW6.2.cell
 clear hW6 q5 hmk
 go_region_held3 (fun W=>∀i,W.cell? ⟨w3.heap.size,i,none⟩=(#[.slice (some ⟨g,0,none⟩) 1 1,.int .i64 q]:Array Value)[i]?) (with_reducible exact k6) (fail)
 go_wp2_with fail
 have h:=HN6.out
 exact bodyPost_ret (v:=.tuple #[.pointer (some ⟨w5.heap.size+1+1+1+1,0,none⟩),.slice (some ⟨g,0,none⟩) 1 1]) (by simp[results,results23,go_sem]) rfl ⟨_,_,_,_,_,_,_,rfl,h.ge,h.m,h.ts,h.t,h.f,h.c,h.r,HQ.out _ _ _ h.q (Below.refl _ _).drew,h.b.drew⟩
end Go.Proofs.YtbefeflgjipfhaaGreatDoor
