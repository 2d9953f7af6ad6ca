import Derived.Test.YtbefeflgjipfhaaGreatDoorF06
set_option maxHeartbeats 1000000
namespace Go.Proofs.YtbefeflgjipfhaaGreatDoor
open Go.Deep Go.Proofs.Tryz Go.RowKit
attribute [local go_sem] A7 vi
abbrev R8.ls (r:R8):List Value:=[r.k,r.a,r.b,r.c,r.d,r.e,r.p,r.l]
def RgA (w:World) (br n:Nat) (ρ:Nat->R8):Prop:=∃A,Blk w br A 178/\A.size=n*8/\∀i,i<n->∀j,j<8->A[i*8+j]?=(ρ i).ls[j]?
def upd (ρ:Nat->R8) (i:Nat) (r:R8):Nat->R8:=fun k=>if k=i then r else ρ k
theorem Gb {ρ:Nat->R8} {i k:Nat} (r:R8) (h:k≠i):upd ρ i r k=ρ k:=if_neg h
theorem RgA.lt {w:World} {br n:Nat} {ρ:Nat->R8} (h:RgA w br n ρ):br<w.heap.size:=let ⟨_,h1,_⟩:=h;h1.lt
theorem RgA.l {w w':World} {br n:Nat} {ρ:Nat->R8} (h:RgA w br n ρ) (hb:Below w.heap.size w w'):RgA w' br n ρ:=let ⟨A,h1,h2⟩:=h;⟨A,h1.l hb,h2⟩
theorem RgA.alloc {w:World} {br n:Nat} {ρ:Nat->R8} (h:RgA w br n ρ) (o:Obj):RgA (w.alloc o) br n ρ:=let ⟨A,h1,h2⟩:=h;⟨A,h1.alloc o,h2⟩
theorem RgA.chg {L:List Nat} {w w':World} {br n:Nat} {ρ:Nat->R8} (h:RgA w br n ρ) (hc:Chg L w w') (hn:br∉L):RgA w' br n ρ:=let ⟨A,h1,h2⟩:=h;⟨A,h1.chg hc hn,h2⟩
theorem RgA.frozen {w:World} {br n:Nat} {ρ:Nat->R8} (h:RgA w br n ρ) (o:Nat):w.frozen? ⟨br,o,none⟩=false:=let ⟨_,h1,_⟩:=h;h1.frozen o
theorem RgA.at {w:World} {br n:Nat} {ρ:Nat->R8} (h:RgA w br n ρ) {i:Nat} (hi:i<n) {j:Nat} (hj:j<8):w.cell? ⟨br,i*8+j,none⟩=(ρ i).ls[j]?:=let ⟨_,h1,_,h3⟩:=h;(h1.cell _).trans (h3 i hi j hj)
theorem A6u (A:Array Value) (i n k j:Nat) (q:R8) (hA:A.size=n*8) (hi:i<n) (hk:k<n) (hj:j<8) :
  ((((((((A.setIfInBounds (i*8) q.k).setIfInBounds (i*8+1) q.a).setIfInBounds (i*8+2) q.b).setIfInBounds (i*8+3) q.c).setIfInBounds (i*8+4) q.d).setIfInBounds (i*8+5) q.e).setIfInBounds (i*8+6) q.p).setIfInBounds (i*8+7) q.l)[k*8+j]?=if k=i then q.ls[j]? else A[k*8+j]?:=by
 by_cases h:k=i
 ·subst h
  rw[if_pos rfl]
  match j,hj with
  | 0,_=>simp[Array.getElem?_setIfInBounds,hA];omega
  | 1,_=>simp[Array.getElem?_setIfInBounds,hA];omega
  | 2,_=>simp[Array.getElem?_setIfInBounds,hA];omega
  | 3,_=>simp[Array.getElem?_setIfInBounds,hA];omega
  | 4,_=>simp[Array.getElem?_setIfInBounds,hA];omega
  | 5,_=>simp[Array.getElem?_setIfInBounds,hA];omega
  | 6,_=>simp[Array.getElem?_setIfInBounds,hA];omega
  | 7,_=>simp[Array.getElem?_setIfInBounds,hA];omega
 ·rw[if_neg h]
  have ne:∀m,m<8->¬i*8+m=k*8+j:=fun m hm=>by omega
  simp[ne 1,ne 2,ne 3,ne 4,ne 5,ne 6,ne 7,show ¬i*8=k*8+j from ne 0 (by decide)]
theorem RgA.put {w:World} {br n i:Nat} {ρ:Nat->R8} (h:RgA w br n ρ) (hi:i<n) (q:R8):RgA ((((((((w.setCell ⟨br,i*8,none⟩ q.k).setCell ⟨br,i*8+1,none⟩ q.a).setCell ⟨br,i*8+2,none⟩ q.b).setCell ⟨br,i*8+3,none⟩ q.c).setCell ⟨br,i*8+4,none⟩ q.d).setCell ⟨br,i*8+5,none⟩ q.e).setCell ⟨br,i*8+6,none⟩ q.p).setCell ⟨br,i*8+7,none⟩ q.l) br n (upd ρ i q):=by
 obtain⟨A,h1,h2,h3⟩:=h
 refine⟨_,(((((((h1.set _ _).set _ _).set _ _).set _ _).set _ _).set _ _).set _ _).set _ _,by simpa using h2,fun k hk j hj=>?_⟩
 rw[A6u A i n k j q h2 hi hk hj]
 unfold upd
 by_cases e:k=i
 ·rw[if_pos e,if_pos e]
 ·rw[if_neg e,if_neg e];exact h3 k hk j hj
theorem Chg.put {w w':World} {br:Nat} {L:List Nat} (i:Nat) (q:R8) (hb:br∈L) (h:Chg L w w'):Chg L w ((((((((w'.setCell ⟨br,i*8,none⟩ q.k).setCell ⟨br,i*8+1,none⟩ q.a).setCell ⟨br,i*8+2,none⟩ q.b).setCell ⟨br,i*8+3,none⟩ q.c).setCell ⟨br,i*8+4,none⟩ q.d).setCell ⟨br,i*8+5,none⟩ q.e).setCell ⟨br,i*8+6,none⟩ q.p).setCell ⟨br,i*8+7,none⟩ q.l):=
 (((((((h.set hb _ _).set hb _ _).set hb _ _).set hb _ _).set hb _ _).set hb _ _).set hb _ _).set hb _ _
theorem RgA.blk {w:World} {br n:Nat} {ρ:Nat->R8} (h:RgA w br n ρ):Blk w br (h.choose) 178:=h.choose_spec.1
theorem A6j (bc br r n:Nat) (cc:Cc) (ρ:Nat->R8) (a b:Int) (c:Nat) (d:ByteArray) (e:Int) (w:World) (hr:r<n) (C:CAt w bc {cc with regs:=.slice (some ⟨br,0,none⟩) n n}) (X:RgA w br n ρ) :
  Calls prog 121 #[.pointer (some ⟨bc,0,none⟩),.int .i64 r,.agg #[.int .i64 a,.int .i64 b,.float .f64 c,.string d,.int .i64 e]] w fun e' w'=>e'=.returned (.tuple #[])/\Chg [br] w w'/\RgA w' br n (upd ρ r (.val a b c d e)):=by
 have x0:=fun o=>(X.alloc o).at hr (j:=0) (by decide)
 have x1:=fun o=>(X.alloc o).at hr (j:=1) (by decide)
 have x2:=fun o=>(X.alloc o).at hr (j:=2) (by decide)
 have x3:=fun o=>(X.alloc o).at hr (j:=3) (by decide)
 have x4:=fun o=>(X.alloc o).at hr (j:=4) (by decide)
 have x5:=fun o=>(X.alloc o).at hr (j:=5) (by decide)
 have x6:=fun o=>(X.alloc o).at hr (j:=6) (by decide)
 have x7:=fun o=>(X.alloc o).at hr (j:=7) (by decide)
 have f:=fun o=>(X.alloc o).frozen
 have cx:=fun o=>(C.alloc o).cell
 simp only[Nat.add_zero]at x0
 simp at x0 x1 x2 x3 x4 x5 x6 x7
 have h0:(0:Int)<=r:=by omega
 have h1:(r:Int)<n:=by omega
 go_enter func121,ntmps121
 go_wp2_with fail
 go_region
 go_wp2_with fail
 go_end0
 exact⟨rfl,(Chg.put r (.val a b c d e) (by simp) ((Chg.refl [br] w).below ((Below.refl _ _).alloc (Nat.le_refl _) _))).below (Below.refl _ _).drew,((X.alloc _).put hr (.val a b c d e)).l (Below.refl _ _).drew⟩
abbrev R8.li (lo:Option Addr) (ll lc:Nat):R8:=⟨.int .i64 3,.int .i64 0,.int .i64 0,.float .f64 0,.string ByteArray.empty,.int .i64 0,.pointer .none,.slice lo ll lc⟩
theorem U0 (bc br r n:Nat) (cc:Cc) (ρ:Nat->R8) (w:World) (hr:r<n) (C:CAt w bc {cc with regs:=.slice (some ⟨br,0,none⟩) n n}) (X:RgA w br n ρ) :
  Calls prog 159 #[.pointer (some ⟨bc,0,none⟩),.int .i64 r] w fun e' w'=>e'=.returned (.tuple #[])/\Chg [br] w w'/\RgA w' br n (upd ρ r .none):=by
 have x0:=X.at hr (j:=0) (by decide)
 have x1:=X.at hr (j:=1) (by decide)
 have x2:=X.at hr (j:=2) (by decide)
 have x3:=X.at hr (j:=3) (by decide)
 have x4:=X.at hr (j:=4) (by decide)
 have x5:=X.at hr (j:=5) (by decide)
 have x6:=X.at hr (j:=6) (by decide)
 have x7:=X.at hr (j:=7) (by decide)
 have f:=X.frozen
 have cx:=C.cell
 simp only[Nat.add_zero]at x0
 simp at x0 x1 x2 x3 x4 x5 x6 x7
 have h0:(0:Int)<=r:=by omega
 have h1:(r:Int)<n:=by omega
 go_enter func159,ntmps159
 go_wp2_with fail
 go_end0
 exact⟨rfl,Chg.put r .none (by simp) (Chg.refl [br] w),X.put hr .none⟩
theorem putL (bc br r n:Nat) (cc:Cc) (ρ:Nat->R8) (lo:Option Addr) (ll lc:Nat) (w:World) (hr:r<n) (C:CAt w bc {cc with regs:=.slice (some ⟨br,0,none⟩) n n}) (X:RgA w br n ρ) :
  Calls prog 140 #[.pointer (some ⟨bc,0,none⟩),.int .i64 r,.slice lo ll lc] w fun e' w'=>e'=.returned (.tuple #[])/\Chg [br] w w'/\RgA w' br n (upd ρ r (.li lo ll lc)):=by
 have x0:=X.at hr (j:=0) (by decide)
 have x1:=X.at hr (j:=1) (by decide)
 have x2:=X.at hr (j:=2) (by decide)
 have x3:=X.at hr (j:=3) (by decide)
 have x4:=X.at hr (j:=4) (by decide)
 have x5:=X.at hr (j:=5) (by decide)
 have x6:=X.at hr (j:=6) (by decide)
 have x7:=X.at hr (j:=7) (by decide)
 have f:=X.frozen
 have cx:=C.cell
 simp only[Nat.add_zero]at x0
 simp at x0 x1 x2 x3 x4 x5 x6 x7
 have h0:(0:Int)<=r:=by omega
 have h1:(r:Int)<n:=by omega
 go_enter func140,ntmps140
 go_wp2_with fail
 go_end0
 exact⟨rfl,Chg.put r (.li lo ll lc) (by simp) (Chg.refl [br] w),X.put hr (.li lo ll lc)⟩
abbrev R8.v5 (k:Value) (a b:Int) (c:Nat) (d:ByteArray) (e:Int) (p l:Value):R8:=⟨k,.int .i64 a,.int .i64 b,.float .f64 c,.string d,.int .i64 e,p,l⟩
abbrev opx (x:Int):Array Value:=#[.int .i64 x,.int .i64 0]
theorem Wy (x:Int) (r:Nat) (hr:r<=1000) (hx:x=r∨x = -1-r) (w:World):Calls prog 202 #[.agg (opx x)] w fun e w'=>e=.returned (.int .i64 r)/\Below w.heap.size w w':=by
 refine(Gx x 0 (by omega) (by omega) w).mono ?_
 rintro e w1 ⟨rfl,h⟩
 exact⟨Cr (by unfold Be;split<;>omega),h⟩
abbrev v0:Array Value:=#[.int .i64 0,.int .i64 0,.float .f64 0,.string ⟨#[]⟩,.int .i64 0]
abbrev va (a b:Int) (c:Nat) (d:ByteArray) (e:Int):Array Value:=#[.int .i64 a,.int .i64 b,.float .f64 c,.string d,.int .i64 e]
structure VS (bc br r n bo:Nat) (x a b:Int) (c:Nat) (d:ByteArray) (e:Int) (W:World):Prop where
 o:Blk W (bo+1) (opx x) 286
 q:Blk W bo v0 52
 cr:W.cell? ⟨bc,6,none⟩=some (.slice (some ⟨br,0,none⟩) n n)
 v1:W.cell? ⟨br,r*8+1,none⟩=some (.int .i64 a)
 v2:W.cell? ⟨br,r*8+2,none⟩=some (.int .i64 b)
 v3:W.cell? ⟨br,r*8+3,none⟩=some (.float .f64 c)
 v4:W.cell? ⟨br,r*8+4,none⟩=some (.string d)
 v5:W.cell? ⟨br,r*8+5,none⟩=some (.int .i64 e)
abbrev VT (bc br r n bo:Nat) (x a b:Int) (c:Nat) (d:ByteArray) (e:Int) (W:World):Prop:=(∀k,W.cell? ⟨bo+1,k,none⟩=(#[.int .i64 x,.int .i64 0]:Array Value)[k]?)/\W.cell? ⟨bc,6,none⟩=some (.slice (some ⟨br,0,none⟩) n n)/\W.cell? ⟨br,r*8+1,none⟩=some (.int .i64 a)/\W.cell? ⟨br,r*8+2,none⟩=some (.int .i64 b)/\W.cell? ⟨br,r*8+3,none⟩=some (.float .f64 c)/\W.cell? ⟨br,r*8+4,none⟩=some (.string d)/\W.cell? ⟨br,r*8+5,none⟩=some (.int .i64 e)
theorem VS.t {bc br r n bo:Nat} {x a b:Int} {c:Nat} {d:ByteArray} {e:Int} {W:World} (h:VS bc br r n bo x a b c d e W):VT bc br r n bo x a b c d e W:=⟨h.o.cell,h.cr,h.v1,h.v2,h.v3,h.v4,h.v5⟩
theorem VS.l {bc br r n bo:Nat} {x a b:Int} {c:Nat} {d:ByteArray} {e:Int} {W W':World} (h:VS bc br r n bo x a b c d e W) (hb:Below W.heap.size W W'):VS bc br r n bo x a b c d e W':=⟨h.o.l hb,h.q.l hb,cb h.cr hb,cb h.v1 hb,cb h.v2 hb,cb h.v3 hb,cb h.v4 hb,cb h.v5 hb⟩
theorem VS.al {bc br r n bo:Nat} {x a b:Int} {c:Nat} {d:ByteArray} {e:Int} {W:World} (h:VS bc br r n bo x a b c d e W) (o:Obj):VT bc br r n bo x a b c d e (W.alloc o):=(h.l ((Below.refl _ _).alloc (Nat.le_refl _) o)).t
theorem VS.ald {bc br r n bo:Nat} {x a b:Int} {c:Nat} {d:ByteArray} {e:Int} {W:World} (h:VS bc br r n bo x a b c d e W) (o:Obj):VT bc br r n bo x a b c d e (W.alloc o).drew:=(h.l ((Below.refl _ _).alloc (Nat.le_refl _) o).drew).t
theorem VS.chg {bc br r n bo:Nat} {x a b:Int} {c:Nat} {d:ByteArray} {e:Int} {L:List Nat} {W W':World} (h:VS bc br r n bo x a b c d e W) (hb:Chg L W W') (h1:bo+1∉L) (h0:bo∉L) (h2:bc∉L) (h3:br∉L):VS bc br r n bo x a b c d e W':=⟨h.o.chg hb h1,h.q.chg hb h0,hb.cell h2 h.cr,hb.cell h3 h.v1,hb.cell h3 h.v2,hb.cell h3 h.v3,hb.cell h3 h.v4,hb.cell h3 h.v5⟩
theorem Ib {L M:List Nat} {w w' w'':World} (h:Chg L w w') (k:Chg M w' w'') (hm:∀b∈M,w.heap.size<=b):Chg L w w'':=
 ⟨k.os.trans h.os,k.tape.trans h.tape,k.output.trans h.output,Nat.le_trans h.size k.size,fun b hb hl=>(k.block b (fun e=>absurd (hm b e) (by omega)) (Nat.lt_of_lt_of_le hl h.size)).trans (h.block b hb hl)⟩
theorem Kj {K:Exit->Act->World->Prop} {ex:Exit} {a:Act} {w:World} {S:World->Prop} (hs:S w) (h:∀W,S W->K ex a W):K ex a w:=h w hs
theorem A7d (bc br r n:Nat) (x:Int) (cc:Cc) (ρ:Nat->R8) (k:Value) (a b:Int) (c:Nat) (d:ByteArray) (e:Int) (p l:Value) (w:World) (hr:r<n) (hn:n<=100) (hx:x=r∨x = -1-r) (hρ:ρ r=.v5 k a b c d e p l) (C:CAt w bc {cc with regs:=.slice (some ⟨br,0,none⟩) n n}) (X:RgA w br n ρ) :
  Calls prog 123 #[.pointer (some ⟨bc,0,none⟩),.int .i64 x] w fun e' w'=>e'=.returned (.agg #[.int .i64 a,.int .i64 b,.float .f64 c,.string d,.int .i64 e])/\Chg [br] w w'/\RgA w' br n (if x<0 then upd ρ r .none else ρ):=by
 have h0:(0:Int)<=r:=by omega
 have h1:(r:Int)<n:=by omega
 have B0:Below w.heap.size w ((w.alloc (.cells v0 52)).alloc (.cells (opx x) 286)):=bl2 ((Below.refl _ _).alloc (Nat.le_refl _) _) ((Below.refl _ _).alloc (Nat.le_refl _) _)
 have Z:Blk ((w.alloc (.cells v0 52)).alloc (.cells (opx x) 286)) (w.heap.size+1) (opx x) 286:=by have:=Blk.new (w.alloc (.cells v0 52)) (opx x) 286;simpa using this
 have D:=C.l B0
 have Y:=X.l B0
 have y1:=Y.at hr (j:=1) (by decide)
 have y2:=Y.at hr (j:=2) (by decide)
 have y3:=Y.at hr (j:=3) (by decide)
 have y4:=Y.at hr (j:=4) (by decide)
 have y5:=Y.at hr (j:=5) (by decide)
 rw[hρ]at y1 y2 y3 y4 y5
 simp at y1 y2 y3 y4 y5
 have V:VS bc br r n w.heap.size x a b c d e ((w.alloc (.cells v0 52)).alloc (.cells (opx x) 286)):=⟨Z,(Blk.new w v0 52).alloc _,D.cell 6,y1,y2,y3,y4,y5⟩
 clear y1 y2 y3 y4 y5 D Y Z
 have HX:Hid (x=r∨x = -1-r):=hx
 clear hx
 go_enter func123,ntmps123
 go_wp2_with fail
 revert V B0
 obtain⟨W,hW⟩:∃z,z=(w.alloc (.cells v0 52)).alloc (.cells (opx x) 286):=⟨_,rfl⟩
 rw[←hW]
 clear hW
 intro B0 V
 have V1:=V.l (Below.refl _ _).drew
 have n1:w.heap.size+1∉[W.heap.size]:=by simpa using Nat.ne_of_lt V.o.lt
 have n0:w.heap.size∉[W.heap.size]:=by simpa using Nat.ne_of_lt V.q.lt
 have n2:bc∉[W.heap.size]:=by simpa using Nat.ne_of_lt (World.block_lt_of_cell? _ _ V.cr)
 have n3:br∉[W.heap.size]:=by simpa using Nat.ne_of_lt (World.block_lt_of_cell? _ _ V.v1)
 have t1:=V1.t
 go_region_held3 (fun W=>(∀k,W.cell? ⟨w.heap.size+1,k,none⟩=(#[.int .i64 x,.int .i64 0]:Array Value)[k]?)/\W.cell? ⟨bc,6,none⟩=some (.slice (some ⟨br,0,none⟩) n n)/\W.cell? ⟨br,r*8+1,none⟩=some (.int .i64 a)/\W.cell? ⟨br,r*8+2,none⟩=some (.int .i64 b)/\W.cell? ⟨br,r*8+3,none⟩=some (.float .f64 c)/\W.cell? ⟨br,r*8+4,none⟩=some (.string d)/\W.cell? ⟨br,r*8+5,none⟩=some (.int .i64 e)) (first|with_reducible exact t1|with_reducible exact V1.al _|with_reducible exact V.ald _|with_reducible exact t2|with_reducible exact V2.al _|with_reducible exact(V2.chg ((((((Chg.refl [W.heap.size] _).set (List.mem_singleton.2 rfl) _ _).set (List.mem_singleton.2 rfl) _ _).set (List.mem_singleton.2 rfl) _ _).set (List.mem_singleton.2 rfl) _ _).set (List.mem_singleton.2 rfl) _ _) n1 n0 n2 n3).t) (first|(go_at_call 202;refine(Wy x r (by omega) HX.out _).mono ?_;rintro e w1 ⟨rfl,hw1⟩;first|(have V2:=V1.l hw1;have t2:=V2.t;have HB1:Hid (Below w.heap.size w w1):=bl2 B0 (bl2 (Below.refl _ _).drew hw1))|(have V2:=(V.l ((Below.refl _ _).alloc (Nat.le_refl _) (.cells v0 52)).drew).l hw1;have t2:=V2.t;have HB1:Hid (Below w.heap.size w w1):=bl2 B0 (bl2 ((Below.refl _ _).alloc (Nat.le_refl _) (.cells v0 52)).drew hw1);have O1:Hid (Blk w1 W.heap.size v0 52):=((Blk.new W v0 52).l (Below.refl _ _).drew).l hw1;have ys:=O1.out.cell;have yf:=O1.out.frozen)))
 all_goals
  first
   | refine Kj (S:=fun U=>VS bc br r n w.heap.size x a b c d e U/\Blk U W.heap.size (va a b c d e) 52/\Below w.heap.size w U) ⟨V2.chg ((((((Chg.refl [W.heap.size] _).set (List.mem_singleton.2 rfl) _ _).set (List.mem_singleton.2 rfl) _ _).set (List.mem_singleton.2 rfl) _ _).set (List.mem_singleton.2 rfl) _ _).set (List.mem_singleton.2 rfl) _ _) n1 n0 n2 n3,((((O1.out.set 0 _).set 1 _).set 2 _).set 3 _).set 4 _,((((HB1.out.setCell (p:=⟨W.heap.size,0,none⟩) B0.size _).setCell (p:=⟨W.heap.size,1,none⟩) B0.size _).setCell (p:=⟨W.heap.size,2,none⟩) B0.size _).setCell (p:=⟨W.heap.size,3,none⟩) B0.size _).setCell (p:=⟨W.heap.size,4,none⟩) B0.size _⟩ (fun U ⟨V3,VB,HB2⟩=>?_)
   | refine Kj (S:=fun U=>VS bc br r n w.heap.size x a b c d e U/\Blk U w1.heap.size (va a b c d e) 52/\Below w.heap.size w U) ⟨V2.l ((Below.refl _ _).alloc (Nat.le_refl _) _),Blk.new w1 _ _,bl2 HB1.out ((Below.refl _ _).alloc (Nat.le_refl _) _)⟩ (fun U ⟨V3,VB,HB2⟩=>?_)
  clear V1 V2 V t1 t2
  have us:=V3.o.cell
  go_wp2_with fail
  refine(Ig x 0 _).mono ?_
  rintro e w2 ⟨rfl,hw2⟩
  have V4:=V3.l hw2
  have VB4:=VB.l hw2
  have HB4:=bl2 HB2 hw2
  clear us
  have us:=V4.o.cell
  have vs:=VB4.cell
  by_cases hneg:x<0
  ·go_wp2_with fail
   refine(Wy x r (by omega) HX.out _).mono ?_
   rintro e w3 ⟨rfl,hw3⟩
   have VB5:=VB4.l hw3
   have V5:=V4.l hw3
   have HB5:=bl2 HB4 hw3
   clear us vs
   go_wp2_with fail
   refine(U0 bc br r n cc ρ _ hr (C.l HB5) (X.l HB5)).mono ?_
   rintro e w4 ⟨rfl,hC6,hX6⟩
   have ne1:=World.block_lt_of_cell? _ _ V5.v1
   have VB6:=VB5.chg hC6 (by simpa using Aa VB5 (X.l HB5).blk (by decide))
   have Q6:=V5.q.chg hC6 (by simpa using Aa V5.q (X.l HB5).blk (by decide))
   have vs:=VB6.cell
   have qs:=Q6.cell
   have qf:=Q6.frozen
   go_wp2_with fail
   have C9:Chg [w.heap.size] w4 _:=(((((Chg.refl [w.heap.size] w4).set (List.mem_singleton.2 rfl) 0 (.int .i64 a)).set (List.mem_singleton.2 rfl) 1 (.int .i64 b)).set (List.mem_singleton.2 rfl) 2 (.float .f64 c)).set (List.mem_singleton.2 rfl) 3 (.string d)).set (List.mem_singleton.2 rfl) 4 (.int .i64 e)
   have r:=(((((Q6.set 0 (.int .i64 a)).set 1 (.int .i64 b)).set 2 (.float .f64 c)).set 3 (.string d)).set 4 (.int .i64 e)).cell
   exact bodyPost_ret (v:=.agg (va a b c d e)) (by simp[results,results123,go_sem,r]) rfl ⟨rfl,Ib (((Chg.refl [br] w).below HB5).trans hC6 (fun _ h=>h)) C9 (by simp),hX6.chg C9 (by simpa using Nat.ne_of_lt X.lt)⟩
  ·have qs:=V4.q.cell
   have qf:=V4.q.frozen
   go_wp2_with fail
   have C9:Chg [w.heap.size] w2 _:=(((((Chg.refl [w.heap.size] w2).set (List.mem_singleton.2 rfl) 0 (.int .i64 a)).set (List.mem_singleton.2 rfl) 1 (.int .i64 b)).set (List.mem_singleton.2 rfl) 2 (.float .f64 c)).set (List.mem_singleton.2 rfl) 3 (.string d)).set (List.mem_singleton.2 rfl) 4 (.int .i64 e)
   have r:=(((((V4.q.set 0 (.int .i64 a)).set 1 (.int .i64 b)).set 2 (.float .f64 c)).set 3 (.string d)).set 4 (.int .i64 e)).cell
   exact bodyPost_ret (v:=.agg (va a b c d e)) (by simp[results,results123,go_sem,r]) rfl ⟨rfl,Ib ((Chg.refl [br] w).below HB4) C9 (by simp),(X.l HB4).chg C9 (by simpa using Nat.ne_of_lt X.lt)⟩
theorem A2j (bc br r n:Nat) (x:Int) (cc:Cc) (ρ:Nat->R8) (lo:Option Addr) (ll lc:Nat) (w:World) (hr:r<n) (hn:n<=100) (hx:x = -1-r) (hρ:ρ r=.li lo ll lc) (C:CAt w bc {cc with regs:=.slice (some ⟨br,0,none⟩) n n}) (X:RgA w br n ρ) :
  Calls prog 131 #[.pointer (some ⟨bc,0,none⟩),.int .i64 x] w fun e' w'=>e'=.returned (.slice lo ll lc)/\Chg [br] w w'/\RgA w' br n (upd ρ r .none):=by
 have h0:(0:Int)<=r:=by omega
 have h1:(r:Int)<n:=by omega
 have B0:Below w.heap.size w (w.alloc (.cells (opx x) 286)).drew:=((Below.refl _ _).alloc (Nat.le_refl _) _).drew
 have Z:Blk (w.alloc (.cells (opx x) 286)).drew w.heap.size (opx x) 286:=Blk.new w _ _
 have D:=C.l B0
 have Y:=X.l B0
 have zs:=Z.cell
 have ds:_=some (Value.slice (some ⟨br,0,none⟩) n n):=D.cell 6
 have y7:_=some (Value.slice lo ll lc):=(Y.at hr (j:=7) (by decide)).trans (by rw[hρ];rfl)
 have HX:Hid (x=r∨x = -1-r):=.inr hx
 have hneg:x<0:=by omega
 clear hx
 go_enter func131,ntmps131
 go_wp2_with fail
 go_region_held3 (fun W=>W.cell? ⟨br,r*8+7,none⟩=some (.slice lo ll lc)/\W.cell? ⟨bc,6,none⟩=some (.slice (some ⟨br,0,none⟩) n n)/\(∀k,W.cell? ⟨w.heap.size,k,none⟩=(#[.int .i64 x,.int .i64 0]:Array Value)[k]?)) (with_reducible exact⟨y7,ds,zs⟩) (first|(go_at_call 202;refine(Wy x r (by omega) HX.out _).mono ?_;rintro e w1 ⟨rfl,hw1⟩;have y7:=cb y7 hw1;have ds:=cb ds hw1;have zs:=(Z.l hw1).cell))
 have B1:=bl2 B0 hw1
 have Z1:=Z.l hw1
 clear y7 ds zs B0 D Y Z hw1
 have zs:=Z1.cell
 go_wp2_with fail
 refine(Ig _ _ _).mono ?_
 rintro e w2 ⟨rfl,hw2⟩
 have B2:=bl2 B1 hw2
 have Z2:=Z1.l hw2
 clear zs B1 Z1 hw2
 have zs:=Z2.cell
 go_wp2_with fail
 refine(Wy x r (by omega) HX.out _).mono ?_
 rintro e w3 ⟨rfl,hw3⟩
 have B3:=bl2 B2 hw3
 clear zs B2 Z2 hw3
 go_wp2_with fail
 refine(U0 bc br r n cc ρ _ hr (C.l B3) (X.l B3)).mono ?_
 rintro e w4 ⟨rfl,hC4,hY4⟩
 go_wp2_with fail
 go_ret
 exact⟨rfl,((Chg.refl _ _).below B3).trans hC4 (fun _ h=>h),hY4⟩
end Go.Proofs.YtbefeflgjipfhaaGreatDoor
namespace Go.Proofs.YtbefeflgjipfhaaGreatDoor
open Go.Deep Go.Proofs.Tryz Go.RowKit
attribute [local go_sem] A7
theorem Lp {W:World} {b i:Nat} {v:Value} (h:W.cell? ⟨b,i,none⟩=some v):W.setCell ⟨b,i,none⟩ v=W:=by
 unfold World.setCell;unfold World.cell? at h;dsimp only at h ⊢;have hh:(W.heap.modify b fun|.cells c elem frozen=>.cells (if (none:Option Nat).isSome then c else c.setIfInBounds i v) elem frozen|o=>o)=W.heap:=by
  apply Array.ext_getElem?;intro j;rw[Array.getElem?_modify];split
  ·rename_i e;subst e;revert h;cases W.heap[b]? with
   | none=>intro h;rfl
   | some o=>
    cases o with
    | cells c t f=>
     intro h;simp at h;simp only[Option.map_some,Option.isSome_none,Bool.false_eq_true,if_false];congr 2;apply Array.ext_getElem?;intro k;rw[Array.getElem?_setIfInBounds];split
     ·rename_i e2;subst e2;obtain⟨hlt,_⟩:=Array.getElem?_eq_some_iff.1 h;rw[if_pos hlt,h]
     ·rfl
    | _=>intro h;simp at h
  ·rfl
 exact congrArg (fun h=>({W with heap:=h} : World)) hh
end Go.Proofs.YtbefeflgjipfhaaGreatDoor
