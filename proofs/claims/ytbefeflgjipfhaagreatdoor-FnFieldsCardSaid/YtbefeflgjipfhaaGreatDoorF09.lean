import Derived.Test.YtbefeflgjipfhaaGreatDoorF07
import Derived.Test.YtbefeflgjipfhaaGreatDoorF08
set_option maxRecDepth 8000
set_option maxHeartbeats 4000000
namespace Go.Proofs.YtbefeflgjipfhaaGreatDoor
open Go.Deep Go.Proofs.Tryz Go.RowKit
attribute [local go_sem] A7 vi
abbrev Qr:Ending:=.panicked [{v:=.iface 99 (.agg #[.int .i64 0]),recovered:=false}]
theorem Qq (bl:Nat) (tr:ByteArray) (w:World) :
  Calls prog 177 #[.pointer (some ⟨bl,0,none⟩),.agg #[.int .i64 0,.slice none 0 0,.string tr],.slice none 0 0] w fun e w'=>e=Qr/\Below w.heap.size w w':=by
 have B0:∀o,Below w.heap.size w (w.alloc o):=fun _=>(Below.refl _ _).alloc (Nat.le_refl _) _
 go_enter func177,ntmps177
 go_wp2_with fail
 refine wp_loop_rounds 1 ?_
 rw[rounds_succ]
 go_wp2_with fail
 exact⟨rfl,rfl,B0 _⟩
abbrev wyZ:Array Value:=#[.int .i64 0,.slice none 0 0,.string ByteArray.empty]
theorem Chg.sets' {L:List Nat} {g:Nat} (hg:g∈L):∀(vs:List Value) (o:Nat) {w w':World},Chg L w w'->Chg L w (w'.setCells g o vs)
 | [],_,_,_,h=>h
 | v::r,o,_,_,h=>Chg.sets' hg r (o+1) (h.set hg o v)
abbrev LtS (bm bl:Nat) (W:World):Prop:=(W.cell? ⟨bm,14,none⟩=some (.int .i64 0)/\W.cell? ⟨bm,15,none⟩=some (.slice none 0 0)/\W.cell? ⟨bm,16,none⟩=some (.string ByteArray.empty))/\W.cell? ⟨bl,0,none⟩=some (.pointer (some ⟨bm,0,none⟩))
theorem LtS.alloc {bm bl:Nat} {W:World} (h:LtS bm bl W) (o:Obj):LtS bm bl (W.alloc o):=⟨⟨ca h.1.1 o,ca h.1.2.1 o,ca h.1.2.2 o⟩,ca h.2 o⟩
theorem LtS.allocD {bm bl:Nat} {W:World} (h:LtS bm bl W) (o:Obj):LtS bm bl (W.alloc o).drew:=h.alloc o
theorem LtS.chg {bm bl:Nat} {L:List Nat} {W W':World} (h:LtS bm bl W) (hc:Chg L W W') (h1:bm∉L) (h2:bl∉L):LtS bm bl W':=⟨⟨hc.cell h1 h.1.1,hc.cell h1 h.1.2.1,hc.cell h1 h.1.2.2⟩,hc.cell h2 h.2⟩
theorem Ta (bl bm:Nat) (v:Value) (m:Mc) (w:World) (hl:w.cell? ⟨bl,0,none⟩=some (.pointer (some ⟨bm,0,none⟩))) (hbm:bl∉[bm])
  (X:MAt w bm {m with cur:=.int .i64 0,got:=.slice none 0 0,wk:=.int .i64 0,wv:=.slice none 0 0,wt:=.string ByteArray.empty}) :
  Calls prog 97 #[.pointer (some ⟨bl,0,none⟩),v] w fun e w'=>e=Qr/\Chg [bm] w w'/\MAt w' bm {m with cur:=.int .i64 0,has:=.bool false,got:=.slice none 0 0,wk:=.int .i64 0,wv:=.slice none 0 0,wt:=.string ByteArray.empty}:=by
 have HX:Hid (MAt w bm {m with cur:=.int .i64 0,got:=.slice none 0 0,wk:=.int .i64 0,wv:=.slice none 0 0,wt:=.string ByteArray.empty}):=X
 have p0:LtS bm bl w:=⟨⟨X.cell 14,X.cell 15,X.cell 16⟩,hl⟩
 have p:LtS bm bl w.drew:=⟨⟨X.cell 14,X.cell 15,X.cell 16⟩,hl⟩
 have hlt:=World.block_lt_of_cell? _ _ hl
 have hlm:=X.lt
 have hn1:bm∉[w.heap.size]:=by simp;omega
 have hn2:bl∉[w.heap.size]:=by simp;exact Nat.ne_of_lt hlt
 have HL:Hid (w.cell? ⟨bl,0,none⟩=some (.pointer (some ⟨bm,0,none⟩))):=hl
 clear X hl
 go_enter func97,ntmps97
 go_wp2_with fail
 go_region_held3 (fun W=>(W.cell? ⟨bm,14,none⟩=some (.int .i64 0)/\W.cell? ⟨bm,15,none⟩=some (.slice none 0 0)/\W.cell? ⟨bm,16,none⟩=some (.string ByteArray.empty))/\W.cell? ⟨bl,0,none⟩=some (.pointer (some ⟨bm,0,none⟩))) (first|with_reducible exact p|with_reducible exact p.alloc _|with_reducible exact p0.allocD _|with_reducible exact p.chg ((((Chg.refl [w.heap.size] _).set (List.mem_singleton.2 rfl) _ _).set (List.mem_singleton.2 rfl) _ _).set (List.mem_singleton.2 rfl) _ _) hn1 hn2) (first|(go_at_call 104;refine(Nu bm {m with cur:=.int .i64 0,wk:=.int .i64 0,wv:=.slice none 0 0,wt:=.string ByteArray.empty} none 0 0 _ (by first|exact HX.out|exact HX.out.alloc _)).mono ?_;rintro e w1 ⟨rfl,C1,X1⟩;have HS1:Hid (w.heap.size<=w1.heap.size):=(by have:=C1.size;simp at this;show _<=_;omega);have p:LtS bm bl w1:=⟨⟨X1.cell 14,X1.cell 15,X1.cell 16⟩,(by first|exact C1.cell hbm HL.out|exact C1.cell hbm (ca HL.out _))⟩;try (have O1:Hid (Blk w1 w.heap.size wyZ 37):=((Blk.new w wyZ 37).l (Below.refl _ _).drew).chg C1 (by simp;omega);have ys:=O1.out.cell;have yf:=O1.out.frozen)))
 rotate_left
 ·have o0:=O1.out.cell 0
  have o1:=O1.out.cell 1
  have o2:=O1.out.cell 2
  rw[Lp (v:=.int .i64 0) o0,Lp (v:=.slice none 0 0) o1,Lp (v:=.string ByteArray.empty) o2]
  have D:Chg [bm] w w1:=((Chg.refl [bm] w).below ((Below.refl _ _).alloc (Nat.le_refl _) _).drew).trans C1 (fun _ h=>h)
  have XX:MAt w1 bm {m with cur:=.int .i64 0,has:=.bool false,got:=.slice none 0 0,wk:=.int .i64 0,wv:=.slice none 0 0,wt:=.string ByteArray.empty}:=X1
  have BB:Blk w1 w.heap.size wyZ 37:=O1.out
  have ll:=p.2
  clear o0 o1 o2 ys yf
  revert D XX BB ll
  clear O1
  obtain⟨W,hW⟩:∃z,z=w1:=⟨_,rfl⟩
  rw[←hW]
  clear hW
  intro D XX BB ll
  have us:=BB.cell
  have xs:=XX.cell
  have xf:=XX.frozen
  have hu:w.heap.size∉[bm]:=by simpa using Aa BB XX (by decide)
  have C9:Chg [bm] W (((W.setCell ⟨bm,14,none⟩ (.int .i64 0)).setCell ⟨bm,15,none⟩ (.slice none 0 0)).setCell ⟨bm,16,none⟩ (.string ByteArray.empty)):=(((Chg.refl _ _).set (List.mem_singleton.2 rfl) _ _).set (List.mem_singleton.2 rfl) _ _).set (List.mem_singleton.2 rfl) _ _
  have X9:MAt (((W.setCell ⟨bm,14,none⟩ (.int .i64 0)).setCell ⟨bm,15,none⟩ (.slice none 0 0)).setCell ⟨bm,16,none⟩ (.string ByteArray.empty)) bm {m with cur:=.int .i64 0,has:=.bool false,got:=.slice none 0 0,wk:=.int .i64 0,wv:=.slice none 0 0,wt:=.string ByteArray.empty}:=((XX.set 14 _).set 15 _).set 16 _
  have U9:=(BB.chg C9 hu).cell
  have l9:=C9.cell hbm ll
  have x9:=X9.cell
  clear HX p p0 HL X1 C1 hn1 hn2
  go_wp2_with fail
  refine(Qq bl ByteArray.empty _).mono ?_
  rintro e w2 ⟨rfl,hw2⟩
  exact⟨rfl,rfl,(D.trans C9 (fun _ h=>h)).below hw2,X9.l hw2⟩
 ·have D:Chg [bm] w (w1.alloc (.cells wyZ 37)):=(((Chg.refl [bm] w).below (Below.refl _ _).drew).trans C1 (fun _ h=>h)).below ((Below.refl _ _).alloc (Nat.le_refl _) _)
  have XX:MAt (w1.alloc (.cells wyZ 37)) bm {m with cur:=.int .i64 0,has:=.bool false,got:=.slice none 0 0,wk:=.int .i64 0,wv:=.slice none 0 0,wt:=.string ByteArray.empty}:=X1.alloc _
  have BB:Blk (w1.alloc (.cells wyZ 37)) w1.heap.size wyZ 37:=Blk.new w1 _ _
  have ll:=(p.alloc (.cells wyZ 37)).2
  revert D XX BB ll
  obtain⟨W,hW⟩:∃z,z=w1.alloc (.cells wyZ 37):=⟨_,rfl⟩
  rw[←hW]
  clear hW
  intro D XX BB ll
  have us:=BB.cell
  have xs:=XX.cell
  have xf:=XX.frozen
  have hu:w1.heap.size∉[bm]:=by simpa using Aa BB XX (by decide)
  have C9:Chg [bm] W (((W.setCell ⟨bm,14,none⟩ (.int .i64 0)).setCell ⟨bm,15,none⟩ (.slice none 0 0)).setCell ⟨bm,16,none⟩ (.string ByteArray.empty)):=(((Chg.refl _ _).set (List.mem_singleton.2 rfl) _ _).set (List.mem_singleton.2 rfl) _ _).set (List.mem_singleton.2 rfl) _ _
  have X9:MAt (((W.setCell ⟨bm,14,none⟩ (.int .i64 0)).setCell ⟨bm,15,none⟩ (.slice none 0 0)).setCell ⟨bm,16,none⟩ (.string ByteArray.empty)) bm {m with cur:=.int .i64 0,has:=.bool false,got:=.slice none 0 0,wk:=.int .i64 0,wv:=.slice none 0 0,wt:=.string ByteArray.empty}:=((XX.set 14 _).set 15 _).set 16 _
  have U9:=(BB.chg C9 hu).cell
  have l9:=C9.cell hbm ll
  have x9:=X9.cell
  clear HX p p0 HL X1 C1 hn1 hn2
  go_wp2_with fail
  refine(Qq bl ByteArray.empty _).mono ?_
  rintro e w2 ⟨rfl,hw2⟩
  exact⟨rfl,rfl,(D.trans C9 (fun _ h=>h)).below hw2,X9.l hw2⟩
theorem A64 (bl bm bt bts fc:Nat) (fo:Option Addr) (m:Mc) (t:Tc) (w:World) (hl:w.cell? ⟨bl,0,none⟩=some (.pointer (some ⟨bm,0,none⟩))) (hbm:bl∉[bm])
  (X:MAt w bm {m with tasks:=.slice (some ⟨bts,0,none⟩) 1 1,cur:=.int .i64 0,got:=.slice none 0 0,wk:=.int .i64 0,wv:=.slice none 0 0,wt:=.string ByteArray.empty}) (h:w.cell? ⟨bts,0,none⟩=some (.pointer (some ⟨bt,0,none⟩)))
  (Y:TAt w bt {t with frames:=.slice fo 0 fc}) :
  Calls prog 28 #[.pointer (some ⟨bl,0,none⟩)] w fun e w'=>e=Qr/\Chg [bm] w w'/\MAt w' bm {m with tasks:=.slice (some ⟨bts,0,none⟩) 1 1,cur:=.int .i64 0,has:=.bool false,got:=.slice none 0 0,wk:=.int .i64 0,wv:=.slice none 0 0,wt:=.string ByteArray.empty}:=by
 go_enter func28,ntmps28
 go_wp2_with fail
 refine(Gl bm bt bts {m with got:=.slice none 0 0,wk:=.int .i64 0,wv:=.slice none 0 0,wt:=.string ByteArray.empty} _ X h).mono ?_
 rintro e w1 ⟨rfl,hw1⟩
 have Y1:=Y.l hw1
 have X1:=X.l hw1
 have ys:=Y1.cell
 have l1:=cb hl hw1
 go_wp2_with fail
 refine(Ta bl bm _ {m with tasks:=.slice (some ⟨bts,0,none⟩) 1 1} _ l1 hbm X1).mono ?_
 rintro e w2 ⟨rfl,C2,X2⟩
 exact⟨rfl,rfl,((Chg.refl [bm] w).below hw1).trans C2 (fun _ h=>h),X2⟩
theorem A67 (bm:Nat) (m:Mc) (p d:Int) (w:World) (h0:0<=p) (h:p=0∨d<p) (X:MAt w bm {m with pace:=.int .i64 p,due:=.int .i64 d}) :
  Calls prog 27 #[.pointer (some ⟨bm,0,none⟩)] w fun e w'=>e=.returned (.tuple #[])/\Below w.heap.size w w':=by
 have xs:=X.cell
 by_cases hp:0<p
 ·have hd:¬(p<=d):=by omega
  go_enter func27,ntmps27
  go_wp2_with fail
  go_region
  go_wp2_with fail
  go_end0
  exact⟨rfl,(Below.refl _ _).drew⟩
 ·obtain rfl:p=0:=by omega
  go_enter func27,ntmps27
  go_wp2_with fail
  go_region
  go_wp2_with fail
  go_end0
  exact⟨rfl,(Below.refl _ _).drew⟩
theorem isDue (bm:Nat) (m:Mc) (p d:Int) (P:World->Prop) (w:World) (hp:0<p) (hd:p<=d) (X:MAt w bm {m with pace:=.int .i64 p,due:=.int .i64 d}) (HG:Hid (∀W,Below w.heap.size w W->Calls prog 95 #[.pointer (some ⟨bm,0,none⟩)] W fun e w'=>e=.returned (.tuple #[])/\P w')) :
  Calls prog 27 #[.pointer (some ⟨bm,0,none⟩)] w fun e w'=>e=.returned (.tuple #[])/\P w':=by
 have xs:=X.cell
 go_enter func27,ntmps27
 go_wp2_with fail
 go_region
 go_wp2_with fail
 refine(HG.out _ (Below.refl _ _).drew).mono ?_
 rintro e w1 ⟨rfl,hP⟩
 go_wp2_with fail
 go_end0
 exact⟨rfl,hP⟩
theorem A1q (bt:Nat) (t:Tc) (s:Int) (w:World) (Y:TAt w bt {t with state:=.int .i64 s}):Calls prog 176 #[.pointer (some ⟨bt,0,none⟩)] w fun e w'=>e=.returned (.bool (decide (s=0∨s=1)))/\w'=w:=by
 have ys:=Y.cell
 by_cases h0:s=0
 ·subst h0
  go_enter func176,ntmps176
  go_wp2_with fail
  go_ret
  exact⟨rfl,rfl⟩
 ·have g0:(s==0)=false:=by simpa using h0
  go_enter func176,ntmps176
  go_wp2_with fail
  go_ret
  exact⟨Ac (by rw[Bool.eq_iff_iff];simp[h0]),rfl⟩
theorem eltI:Elt 64 3 (.int .i64 0) 1 8:=⟨underlying64,by kernel_rfl,rfl,by decide⟩
theorem A48 {w w':World} {v:Value} {n e lo:Nat} {xs:List Value} {L:List Nat} (h:w.ownsRow lo e 1 v n xs) (hc:Chg L w w') (hn:∀g,v.ownBlock=some g->g∉L):w'.ownsRow lo e 1 v n xs:=Ae h fun k hk=>hc.block k (hn k hk) (h.lt k hk).2
theorem A2w {w:World} {v:Value} {n e lo:Nat} {xs:List Value} {b:Nat} {arr:Array Value} {t:TypeId} (h:w.ownsRow lo e 1 v n xs) (X:Blk w b arr t) (ht:e≠t):∀g,v.ownBlock=some g->g≠b:=fun g hg=>by
 rcases Bz h with ⟨rfl,_,_⟩|⟨g',c,rfl,_,h3,_,_⟩
 ·simp[Value.ownBlock]at hg
 ·simp[Value.ownBlock]at hg
  subst hg
  exact Cx h3 X ht
abbrev iv (x:Nat):Value:=.int .i64 x
theorem Vn (bm j i lo:Nat) (fv:Value) (ys:List Nat) (m:Mc) (w:World) (hj:j<=1000000) (hlo:lo<=w.heap.size) (hy:∀y∈ys,y<i) (X:MAt w bm {m with free:=fv}) (hR:w.ownsRow lo 3 1 fv j (ys.map iv)) :
  Calls prog 241 #[.pointer (some ⟨bm,6,none⟩),.int .i64 i] w fun e w'=>∃v',e=.returned (.tuple #[])/\Chg (bm::fv.ownBlock.toList) w w'/\MAt w' bm {m with free:=v'}/\w'.ownsRow lo 3 1 v' (j+1) ((ys++[i]).map iv):=by
 obtain⟨so,sc,rfl⟩:=Af hR
 have hyl:ys.length=j:=by have:=hR.1;simpa using this
 have hbm:=X.lt
 have HR:Hid (w.ownsRow lo 3 1 (.slice so j sc) j (ys.map iv)):=hR
 have HX:Hid (MAt w bm {m with free:=.slice so j sc}):=X
 have x:=X.cell
 have xa:=fun o=>(X.alloc o).cell
 clear hR X
 go_enter func241,ntmps241
 go_wp2_with (at_builtin;refine Jy eltI rfl _ _ rfl lo _ j _ [.int .i64 i] w.heap.size rfl (Ab HR.out ((Below.refl _ _).alloc (Nat.le_refl _) _)) rfl ?qc0 rfl ?qc1 ?qc2 (by decide) (Nat.le_trans hlo (Nat.le_of_lt (by simp))) ?_)
 case qc0=>exact fun k v hv=>by rw[Nat.zero_add,(Blk.new w #[.int .i64 i] 3).cell];simpa using hv
 case qc1=>simp[Value.oneCell']
 case qc2=>omega
 intro v' w3 ho3 hg3 _
 have hne:=A2w HR.out HX.out (by decide)
 have B1:∀o,Below w.heap.size w (w.alloc o):=fun o=>(Below.refl _ _).alloc (Nat.le_refl _) o
 have C3:Chg (bm::(Value.slice so j sc).ownBlock.toList) w w3:=((Chg.refl _ _).below (B1 _)).trans (Chg.grown (L:=(Value.slice so j sc).ownBlock.toList) hg3 (fun k hk=>by rw[hk];simp)) (fun b hb=>List.mem_cons_of_mem _ hb)
 have X3:MAt w3 bm _:=(HX.out.alloc _).chg (Chg.grown (L:=(Value.slice so j sc).ownBlock.toList) hg3 (fun k hk=>by rw[hk];simp)) (fun hb=>by
  cases hq:(Value.slice so j sc).ownBlock with
  | none=>rw[hq]at hb;simp at hb
  | some g=>rw[hq]at hb;simp at hb;exact hne g hq hb.symm)
 obtain⟨so',sc',rfl⟩:=Af ho3
 obtain⟨g,rfl⟩:∃g,so'=some ⟨g,0,none⟩:=by
  rcases Bz ho3 with ⟨_,h0,_⟩|⟨g,c,he,_⟩
  ·omega
  ·injection he with he;exact⟨g,he⟩
 have hne3:=A2w ho3 X3 (by decide)
 have ho4:w3.ownsRow lo 3 1 (.slice (some ⟨g,0,none⟩) (j+1) sc') (j+1) ((ys++[i]).map iv):=by simpa using ho3
 have HO3:Hid (w3.ownsRow lo 3 1 (.slice (some ⟨g,0,none⟩) (j+1) sc') (j+1) ((ys++[i]).map iv)):=ho4
 have hgm:g∉[bm]:=by simpa using hne3 g rfl
 have C4:Chg [bm] w3 (w3.setCell ⟨bm,6,none⟩ (.slice (some ⟨g,0,none⟩) (j+1) sc')):=(Chg.refl _ _).set (by simp) _ _
 have HO4:Hid ((w3.setCell ⟨bm,6,none⟩ (.slice (some ⟨g,0,none⟩) (j+1) sc')).ownsRow lo 3 1 (.slice (some ⟨g,0,none⟩) (j+1) sc') (j+1) ((ys++[i]).map iv)):=A48 HO3.out C4 (fun k hk=>by simpa using hne3 k hk)
 have hlast:=Ai (j:=j) (u:=.int .i64 i) HO4.out (by simp[hyl])
 obtain⟨q,hq⟩:∃q:Nat,q=if j=0 then 0 else (j-1) / 2:=⟨_,rfl⟩
 obtain⟨z,hz,hzi⟩:∃z:Nat,(w3.setCell ⟨bm,6,none⟩ (.slice (some ⟨g,0,none⟩) (j+1) sc')).cell? ⟨g,q,none⟩=some (.int .i64 z)/\i>=z:=by
  by_cases h0:j=0
  ·subst h0
   simp at hq
   subst hq
   exact⟨i,hlast,by omega⟩
  ·have hql:q<ys.length:=by rw[hq,if_neg h0];omega
   refine⟨ys[q],Ai HO4.out (by rw[List.getElem?_map,List.getElem?_append_left hql,List.getElem?_eq_getElem hql];rfl),?_⟩
   have:=hy _ (List.getElem_mem hql)
   omega
 have hq1:(q:Int)<j+1:=by split at hq<;>omega
 have hq0:(0:Int)<=q:=by omega
 have HC3:Hid (Chg (bm::(Value.slice so j sc).ownBlock.toList) w w3):=C3
 have HX3:Hid (MAt w3 bm {m with free:=.slice so j sc}):=X3
 have x3:=X3.cell
 have f3:=X3.frozen
 have x4:=(X3.set 6 (.slice (some ⟨g,0,none⟩) (j+1) sc')).cell
 have e1:IntKind.i64.wrap ((j:Int)+1-1)=j:=by rw[wr (by omega) (by omega)];omega
 have e2:IntKind.i64.wrap (((j+1:Nat):Int)-1)=j:=by rw[wr (by omega) (by omega)];omega
 have e3:IntKind.i64.wrap ((j:Int)-1)=j-1:=by rw[wr (by omega) (by omega)]
 have e4:IntKind.i64.wrap (((j:Int)-1).tdiv 2)=q:=by
  by_cases h0:j=0
  ·subst h0;simp at hq;subst hq;decide
  ·rw[if_neg h0]at hq
   have:((j:Int)-1).tdiv 2=q:=by rw[Int.tdiv_eq_ediv_of_nonneg (by omega)];omega
   rw[this];exact wr (by omega) (by omega)
 have hzl:¬((i:Int)<z):=by omega
 have HQ:Hid (q=if j=0 then 0 else (j-1) / 2):=hq
 clear ho3 ho4 C3 X3 hg3 x xa HR HX hne hq
 go_wp2_with fail
 refine wp_loop_rounds 1 ?_
 rw[rounds_succ]
 go_wp2_with fail
 go_region
 go_wp2_with fail
 go_end0
 exact⟨.slice (some ⟨g,0,none⟩) (j+1) sc',rfl,(HC3.out.set (by simp) _ _).below (Below.refl _ _).drew,(HX3.out.set 6 _).l (Below.refl _ _).drew,Ab HO4.out (Below.refl _ _).drew⟩
theorem wq {x:Int} (h1 : -9000000000000000000<=x) (h2:x<=9000000000000000000):IntKind.i64.wrap x=x:=wr h1 h2
theorem T9 (bm L p g sc:Nat) (a:Addr) (xs:List Value) (m:Mc) (w:World) (hL:L<=1000000) (hp:p<L) (hxp:xs[p]?=some (.pointer (some a))) (hx:∀i,i<L->i≠p->xs[i]?=some (.pointer none)) (X:MAt w bm m) (hR:w.ownsRow 0 127 1 (.slice (some ⟨g,0,none⟩) L sc) L xs) :
  Calls prog 175 #[.pointer (some ⟨bm,0,none⟩),.slice (some ⟨g,0,none⟩) L sc] w fun e w'=>∃fv,e=.returned (.tuple #[])/\Chg [bm] w w'/\MAt w' bm {m with slots:=.slice (some ⟨g,0,none⟩) (p+1) sc,free:=fv}/\w'.ownsRow w.heap.size 3 1 fv p ((List.range p).map iv):=by
 have HX:Hid (MAt w bm m):=X
 have HR:Hid (w.ownsRow 0 127 1 (.slice (some ⟨g,0,none⟩) L sc) L xs):=hR
 have hgm:g∉[bm]:=by simpa using Ia hR X (by decide) g rfl
 have hcap:L<=sc:=by
  rcases Bz hR with ⟨h,_,_⟩|⟨g',c,h,_,_,h5,_⟩
  ·cases h
  ·injection h with _ _ h;omega
 clear X hR
 go_enter func175,ntmps175
 go_wp2_with fail
 go_loopw [1] (fun x wr=>∃k:Nat,p<k/\k<=L/\x=.slice (some ⟨g,0,none⟩) k sc/\w=wr) (fun x _=>match x with|.slice _ k _=>k|_=>0)
 case atStart=>exact⟨L,hp,Nat.le_refl _,rfl,rfl⟩
 case round=>
  obtain⟨k,hk1,hk2,rfl,rfl⟩:=hrel
  have k0:(0:Int)<k:=by omega
  have e1:IntKind.i64.wrap ((k:Int)-1)=(k-1:Nat):=by rw[wq (by omega) (by omega)];omega
  have b0:(0:Int)<=(k-1:Nat):=by omega
  have b1:((k-1:Nat):Int)<k:=by omega
  by_cases hkp:k=p+1
  ·have hc:=Ai (j:=p) HR.out (u:=.pointer (some a)) hxp
   have x:=HX.out.cell
   have f:=HX.out.frozen
   subst hkp
   have C0:Chg [bm] w ((w.setCell ⟨bm,5,none⟩ (.slice (some ⟨g,0,none⟩) (p+1) sc)).setCell ⟨bm,6,none⟩ (.slice none 0 0)):=((Chg.refl _ _).set (by simp) _ _).set (by simp) _ _
   have X0:MAt ((w.setCell ⟨bm,5,none⟩ (.slice (some ⟨g,0,none⟩) (p+1) sc)).setCell ⟨bm,6,none⟩ (.slice none 0 0)) bm {m with slots:=.slice (some ⟨g,0,none⟩) (p+1) sc,free:=.slice none 0 0}:=(HX.out.set 5 _).set 6 _
   have HC0:Hid (Chg [bm] w ((w.setCell ⟨bm,5,none⟩ (.slice (some ⟨g,0,none⟩) (p+1) sc)).setCell ⟨bm,6,none⟩ (.slice none 0 0))):=C0
   have HX0:Hid (MAt ((w.setCell ⟨bm,5,none⟩ (.slice (some ⟨g,0,none⟩) (p+1) sc)).setCell ⟨bm,6,none⟩ (.slice none 0 0)) bm {m with slots:=.slice (some ⟨g,0,none⟩) (p+1) sc,free:=.slice none 0 0}):=X0
   have HW:Hid (∀i:Nat,i<=1000000->IntKind.i64.wrap ((i:Int)+1)=((i+1:Nat):Int)):=fun i hi=>by rw[wq (by omega) (by omega)];omega
   clear C0 X0
   go_wp2_with fail
   go_loopw [33] (fun y ws=>∃(i:Nat) (fv:Value),i<=p+1/\y=.int .i64 i/\Hid (Chg [bm] w ws/\MAt ws bm {m with slots:=.slice (some ⟨g,0,none⟩) (p+1) sc,free:=fv}/\ws.ownsRow w.heap.size 3 1 fv (min i p) ((List.range (min i p)).map iv))) (fun y _=>p+1-(intOf y).toNat)
   case atStart=>exact⟨0,.slice none 0 0,by omega,rfl,HC0.out,HX0.out,by simp[World.ownsRow]⟩
   case round=>
    obtain⟨i,fv,hi,rfl,HS⟩:=hrel
    obtain⟨hC,hX,hF⟩:=HS.out
    have hR2:=Gj HR.out hC (fun k hk=>by simp[Value.ownBlock]at hk;subst hk;exact hgm)
    have HX2:Hid (MAt wr bm {m with slots:=.slice (some ⟨g,0,none⟩) (p+1) sc,free:=fv}):=hX
    have HC2:Hid (Chg [bm] w wr):=hC
    have HF2:Hid (wr.ownsRow w.heap.size 3 1 fv (min i p) ((List.range (min i p)).map iv)):=hF
    have hsz:=hC.size
    have i0:(0:Int)<=i:=by omega
    have ew:=HW.out i (by omega)
    clear hC hX hF HS
    obtain hi1|hi2|hi3:i=p+1∨i=p∨i<p:=by omega
    ·subst hi1
     clear hR2
     go_wp2_with fail
     go_end0
     exact⟨fv,rfl,HC2.out,HX2.out,by have h:=HF2.out;rwa [Nat.min_eq_right (by omega)]at h⟩
    ·subst hi2
     have hc2:=Ai (j:=i) hR2 (u:=.pointer (some a)) hxp
     have i1:(i:Int)<i+1:=by omega
     clear hR2
     go_wp2_with fail
     go_roundw
     case rel=>exact⟨i+1,fv,by omega,by go_num,HC2.out,HX2.out,by have h:=HF2.out;rw[Nat.min_eq_right (by omega)]at h ⊢;exact h⟩
     case measure=>simp[intOf]
    ·have hc2:=Ai (j:=i) hR2 (u:=.pointer none) (hx i (by omega) (by omega))
     have i1:(i:Int)<p+1:=by omega
     clear hR2
     go_wp2_with fail
     refine(Vn bm i i w.heap.size fv (List.range i) {m with slots:=.slice (some ⟨g,0,none⟩) (p+1) sc} _ (by omega) hsz (fun y hy=>List.mem_range.1 hy) HX2.out (by have h:=HF2.out;rwa [Nat.min_eq_left (by omega)]at h)).mono ?_
     rintro e w2 ⟨v2,rfl,hC3,hX3,hF3⟩
     have hC4:Chg [bm] w w2:=by
      refine⟨hC3.os.trans HC2.out.os,hC3.tape.trans HC2.out.tape,hC3.output.trans HC2.out.output,Nat.le_trans hsz hC3.size,fun b hb hl=>(hC3.block b (fun hm=>?_) (Nat.lt_of_lt_of_le hl hsz)).trans (HC2.out.block b hb hl)⟩
      rcases List.mem_cons.1 hm with h|h
      ·exact hb (by simp[h])
      ·have:=(HF2.out.lt b (by simpa using h)).1
       omega
     go_wp2_with fail
     go_roundw
     case rel=>exact⟨i+1,v2,by omega,by go_num,hC4,hX3,by rw[Nat.min_eq_left (by omega),List.range_succ];exact hF3⟩
     case measure=>simp[intOf];omega
  ·have hc:=Ai (j:=k-1) HR.out (u:=.pointer none) (hx _ (by omega) (by omega))
   have ks:k-1<=sc:=by omega
   go_wp2_with fail
   go_roundw
   case rel=>exact⟨k-1,by omega,by omega,by simp,trivial⟩
   case measure=>simp;omega
end Go.Proofs.YtbefeflgjipfhaaGreatDoor
namespace Go.Proofs.YtbefeflgjipfhaaGreatDoor
open Go.Deep Go.Proofs.Tryz Go.RowKit
def RgD (ops:Array Oper) (d:Array Bool) (k:Nat) (Q:Exit->Act->World->Prop) (S:World->Prop) (a:Act) (w:World):Prop:=wpAnyH prog .any ops (NoPanic Q) S k d a w
section
variable {ops:Array Oper} {rest:List Oper} {Q:Exit→Act→World→Prop} {S:World→Prop} {a:Act} {w:World} {oi oj:Oper} {d:Array Bool} {k i j:Nat}
theorem rgD (h:RgD ops (lst ops.size (ops.size-rest.length)) rest.length Q S a w):Rgn ops rest Q S a w:=fun _ _=>h
theorem tkD (i:Nat) (h1:ops[i]?=some oi) (hc:(Region.noSelect ops&&Region.free .any ops d i&&(Region.ready .any ops d).contains i)=true) (hw:Region.wanted oi (yielded ops a.tmps)=true) (hS:S w)
  (h:∃v,(∀w,S w->(execOp a.eval oi).run prog w=.ok (.value v) w)/\RgD ops (d.setIfInBounds i true) k Q S (a.put oi.dst v) w):RgD ops d (k+1) Q S a w:=by
 obtain⟨v,hy,h⟩:=h;simp only[yY]at hc;exact wpAnyH_take h1 hc.1.1 hc.1.2 hc.2 (fun _ _ _ h=>h) (.inl ⟨hw,hy⟩) hS h
theorem doD (i:Nat) (h1:ops[i]?=some oi) (hr:Region.ready .any ops d=[i]) (hw:Region.wanted oi (yielded ops a.tmps)=true)
  (h:∀K:Act->World->Prop,Shut (∀a w,S w->(S w->RgD ops (d.setIfInBounds i true) k Q S a w)->K a w)->Oper.wp prog oi a w K (NoPanic Q)):RgD ops d (k+1) Q S a w:=by
 refine wpAnyH_ready hr (by simp) (AllReadyH.cons h1 (fun K hK=>?_) AllReadyH.nil);rw[if_pos hw];exact h K hK
theorem doD2 (i j:Nat) (h1:ops[i]?=some oi) (h2:ops[j]?=some oj) (hr:Region.ready .any ops d=[i,j]) (hw:Region.wanted oi (yielded ops a.tmps)=true) (hw2:Region.wanted oj (yielded ops a.tmps)=true)
  (h:∀K:Act->World->Prop,Shut (∀a w,S w->(S w->RgD ops (d.setIfInBounds i true) k Q S a w)->K a w)->Oper.wp prog oi a w K (NoPanic Q))
  (g:∀K:Act->World->Prop,Shut (∀a w,S w->(S w->RgD ops (d.setIfInBounds j true) k Q S a w)->K a w)->Oper.wp prog oj a w K (NoPanic Q)):RgD ops d (k+1) Q S a w:=by
 refine wpAnyH_ready hr (by simp) (AllReadyH.cons h1 (fun K hK=>?_) (AllReadyH.cons h2 (fun K hK=>?_) AllReadyH.nil))
 ·rw[if_pos hw];exact h K hK
 ·rw[if_pos hw2];exact g K hK
theorem enDD (hr:Region.ready .any ops d=[]) (h:NoPanic Q .normal a w):RgD ops d k Q S a w:=wpAnyH_done hr h _
end
def mkd (n:Nat) (l:List Nat):Array Bool:=((List.range n).map fun i=>!l.contains i).toArray
theorem Wm (n:Nat) (l:List Nat) (i:Nat):(mkd n l)[i]?=if i<n then some (!l.contains i) else none:=by unfold mkd;by_cases h:i<n<;>simp[h]
theorem Jo {n i:Nat} {l:List Nat} (hl:l.contains i=false):(mkd n (i::l)).setIfInBounds i true=mkd n l:=by
 apply Array.ext_getElem?;intro j;rw[Array.getElem?_setIfInBounds,Wm,Wm];by_cases e:i=j
 ·subst e;by_cases hi:i<n
  ·simp only[hi,if_true,mkd,List.size_toArray,List.length_map,List.length_range,hl,Bool.not_false]
  ·simp[hi,mkd]
 ·rw[if_neg e];simp[Ne.symm e]
theorem Re {n:Nat} {l m:List Nat} (h:∀i,l.contains i=m.contains i):mkd n l=mkd n m:=by unfold mkd;simp only[h]
def Rgm (ops:Array Oper) (l:List Nat) (Q:Exit->Act->World->Prop) (S:World->Prop) (a:Act) (w:World):Prop:=RgD ops (mkd ops.size l) l.length Q S a w
section
variable {id:Nat} {ops:Array Oper} {l:List Nat} {Q:Exit→Act→World→Prop} {S:World→Prop} {a:Act} {w:World} {oi oj:Oper} {i j:Nat}
theorem rgM {k:List Oper} (S:World->Prop) (hS:S w.drew) (h:S w.drew->Rgm k.toArray (List.range k.length) Q S a w.drew):(Code.region id k.toArray true).wp prog Q a w:=by
 refine rgN S hS fun hS=>rgD ?_;have h:=h hS;unfold Rgm at h;have e:mkd k.toArray.size (List.range k.length)=lst k.toArray.size (k.toArray.size-k.length):=by
  unfold mkd lst;congr 1;simp;apply List.ext_getElem?;intro j;by_cases hj:j<k.length
  ·simp[hj]
  ·simp[hj]
 rw[e,List.length_range]at h;exact h
theorem tkM (h1:ops[i]?=some oi) (hc:(Region.noSelect ops&&Region.free .any ops (mkd ops.size (i::l)) i&&(Region.ready .any ops (mkd ops.size (i::l))).contains i&&!l.contains i)=true) (hw:Region.wanted oi (yielded ops a.tmps)=true) (hS:S w)
  (h:∃v,(∀w,S w->(execOp a.eval oi).run prog w=.ok (.value v) w)/\Rgm ops l Q S (a.put oi.dst v) w):Rgm ops (i::l) Q S a w:=by
 simp only[yY]at hc;obtain⟨v,hy,h⟩:=h;refine tkD i h1 (by simp only[yY];exact hc.1) hw hS ⟨v,hy,?_⟩;rw[Jo (by simpa using hc.2)];exact h
theorem doM (h1:ops[i]?=some oi) (hr:(Region.ready .any ops (mkd ops.size (i::l))==[i]&&!l.contains i)=true) (hw:Region.wanted oi (yielded ops a.tmps)=true)
  (h:∀K:Act->World->Prop,Shut (∀a w,S w->(S w->Rgm ops l Q S a w)->K a w)->Oper.wp prog oi a w K (NoPanic Q)):Rgm ops (i::l) Q S a w:=by
 simp only[yY,beq_iff_eq]at hr;refine doD i h1 hr.1 hw fun K hK=>h K fun a w hS hR=>hK.out a w hS fun hS=>?_;rw[Jo (by simpa using hr.2)];exact hR hS
theorem Sn (h1:ops[i]?=some oi) (h2:ops[j]?=some oj) (hr:((Region.ready .any ops (mkd ops.size (i::j::l))==[i,j]||Region.ready .any ops (mkd ops.size (i::j::l))==[j,i])&&!(j::l).contains i&&!l.contains j)=true) (hw:Region.wanted oi (yielded ops a.tmps)=true) (hw2:Region.wanted oj (yielded ops a.tmps)=true)
  (h:∀K:Act->World->Prop,Shut (∀a w,S w->(S w->Rgm ops (j::l) Q S a w)->K a w)->Oper.wp prog oi a w K (NoPanic Q))
  (g:∀K:Act->World->Prop,Shut (∀a w,S w->(S w->Rgm ops (i::l) Q S a w)->K a w)->Oper.wp prog oj a w K (NoPanic Q)):Rgm ops (i::j::l) Q S a w:=by
 simp only[yY,Bool.or_eq_true,beq_iff_eq,Bool.not_eq_true']at hr;have h':∀K:Act->World->Prop,Shut (∀a w,S w->(S w->RgD ops ((mkd ops.size (i::j::l)).setIfInBounds i true) (l.length+1) Q S a w)->K a w)->Oper.wp prog oi a w K (NoPanic Q):=fun K hK=>h K fun a w hS hR=>hK.out a w hS fun hS=>by
  rw[Jo hr.1.2];exact hR hS
 have hij:∀x,(i::j::l).contains x=(j::i::l).contains x:=fun x=>by simp[Bool.or_left_comm]
 have hi:(i::l).contains j=false:=by have h3:=hr.1.2;have h4:=hr.2;simp at h3 h4 ⊢;exact⟨fun e=>h3.1 e.symm,h4⟩
 have g':∀K:Act->World->Prop,Shut (∀a w,S w->(S w->RgD ops ((mkd ops.size (i::j::l)).setIfInBounds j true) (l.length+1) Q S a w)->K a w)->Oper.wp prog oj a w K (NoPanic Q):=fun K hK=>g K fun a w hS hR=>hK.out a w hS fun hS=>by
  rw[Re hij,Jo hi];exact hR hS
 rcases hr.1.1 with e|e
 ·exact doD2 i j h1 h2 e hw hw2 h' g'
 ·exact doD2 j i h2 h1 e hw2 hw g' h'
theorem He (m:List Nat) (hp:(l.length==m.length&&l.all m.contains&&m.all l.contains)=true) (h:Rgm ops m Q S a w):Rgm ops l Q S a w:=by
 simp only[yY,beq_iff_eq,List.all_eq_true]at hp;unfold Rgm at *;rw[hp.1.1,Re (m:=m) (fun i=>?_)]
 ·exact h
 ·rw[Bool.eq_iff_iff];exact⟨fun h=>hp.1.2 i (by simpa using h),fun h=>hp.2 i (by simpa using h)⟩
theorem enM (hr:Region.ready .any ops (mkd ops.size [])=[]) (h:NoPanic Q .normal a w):Rgm ops [] Q S a w:=enDD hr h
end
end Go.Proofs.YtbefeflgjipfhaaGreatDoor
namespace Go.Proofs.YtbefeflgjipfhaaGreatDoor
open Go.Deep Go.Proofs.Tryz Go.RowKit
attribute [local go_sem] A7 vi
theorem Tf (bn:Nat) (k x r:Int) (f:Nat) (s:ByteArray) (w:World) (hk:k<5):Calls prog 296 #[.pointer (some ⟨bn,0,none⟩),.agg #[.int .i64 k,.int .i64 x,.float .f64 f,.string s,.int .i64 r]] w fun e w'=>e=.returned (.tuple #[])/\Below w.heap.size w w':=by
 have B0:∀o,Below w.heap.size w (w.alloc o):=fun _=>(Below.refl _ _).alloc (Nat.le_refl _) _
 have h5:(k==5)=false:=by rw[beq_eq_false_iff_ne];omega
 have h6:(k==6)=false:=by rw[beq_eq_false_iff_ne];omega
 have h7:(k==7)=false:=by rw[beq_eq_false_iff_ne];omega
 go_enter func296,ntmps296
 go_wp2_with fail
 go_end0
 exact⟨rfl,B0 _⟩
theorem Gv (bn:Nat) (w:World):Calls prog 294 #[.pointer (some ⟨bn,0,none⟩),.slice none 0 0] w fun e w'=>e=.returned (.tuple #[])/\w'=w:=by
 go_enter func294,ntmps294
 go_wp2_with fail
 refine wp_loop_rounds 1 ?_
 rw[rounds_succ]
 go_wp2_with fail
 go_end0
 exact⟨rfl,rfl⟩
theorem Nn (bn:Nat) (w:World):Calls prog 295 #[.pointer (some ⟨bn,0,none⟩),.pointer none] w fun e w'=>e=.returned (.tuple #[])/\w'=w:=by
 go_enter func295,ntmps295
 go_wp2_with fail
 go_end0
 exact⟨rfl,rfl⟩
theorem Wo (bn:Nat) (w:World):Calls prog 379 #[.pointer (some ⟨bn,0,none⟩),.agg #[.int .i64 0,.int .i64 0,.int .i64 0,.float .f64 0,.string ByteArray.empty,.int .i64 0,.pointer none,.slice none 0 0]] w fun e w'=>e=.returned (.tuple #[])/\Below w.heap.size w w':=by
 have B0:∀o,Below w.heap.size w (w.alloc o):=fun _=>(Below.refl _ _).alloc (Nat.le_refl _) _
 go_enter func379,ntmps379
 go_wp2_with fail
 go_end0
 exact⟨rfl,B0 _⟩
theorem Pk (p:Int) (w:World):Calls prog 233 #[.agg #[.int .i64 5,.int .i64 0,.float .f64 0,.string ByteArray.empty,.int .i64 p]] w fun e w'=>e=.returned (.agg #[.bool false,.int .i64 p])/\Below w.heap.size w w':=by
 have B0:∀o,Below w.heap.size w (w.alloc o):=fun _=>(Below.refl _ _).alloc (Nat.le_refl _) _
 go_enter func233,ntmps233
 go_wp2_with fail
 exact bodyPost_ret (v:=.agg #[.bool false,.int .i64 p]) (by simp[results,results233,go_sem]) rfl ⟨rfl,bl2 (B0 _) ((Below.refl _ _).alloc (Nat.le_refl _) _)⟩
theorem eltT:Elt 319 252 (.agg #[.bool false,.int .i64 0]) 2 16:=⟨underlying319,by kernel_rfl,rfl,by decide⟩
theorem Zk {o:Oper} {a:Act} {w:World} {t e:TypeId} {z:Value} {size bytes:Nat} {K:Act->World->Prop} {Q:Exit->Act->World->Prop} (I:Elt t e z size bytes) (s x:Operand) (ho:o.op=.call {callee:=.builtin .append,args:=#[s,x],argTypes:=#[t,t]})
  (base:Nat) (v:Value) (n:Nat) (xs news:List Value) (B:Nat) (hs:a.eval s=v) (hown:w.ownsRow base e size v n xs) (hx:a.eval x=.slice (some ⟨B,0,none⟩) 1 1) (hB:Ec w B 0 news) (hl:news.length=size) (h1:∀u∈news,u.oneCell'=true)
  (hn:n<=1048576) (hby:bytes<=1024) (hbase:base<=w.heap.size)
  (h:∀v' w',w'.ownsRow base e size v' (n+1) (xs++news)->w.grownBy w' v.ownBlock->(v'.ownBlock=v.ownBlock∨v'.ownBlock=some w.heap.size)->K (a.put o.dst v') w'):Oper.wp prog o a w K Q:=by
 obtain⟨i0,hi,hz0,hz1,hz2⟩:=info_parts I.hi
 have hby2:(n+1)*bytes<=1048577*1024:=Nat.mul_le_mul (by omega) hby
 obtain⟨v',w',hr,h2,h3,h4,h5⟩:=run_append_own_at (P:=prog) w base t o.type e i0 z size bytes I.ht hi hz0 hz1 hz2 I.hz I.h0 v n xs hown ⟨B,0,none⟩ 1 1 news (by omega) hB.news h1 (by unfold maxLen;omega) (by omega) hbase
 unfold Oper.wp execOp
 simp only[ho,resolve,invoke,builtin,Sem.run_bind,Sem.run_pure,Result.andThen_ok,List.map_toArray,List.map_cons,List.map_nil,hs,hx,hr]
 exact h v' w' h2 h3 h5
theorem Dh {w:World} {v:Value} {n e lo size:Nat} {xs:List Value} {b:Nat} {arr:Array Value} {t:TypeId} (h:w.ownsRow lo e size v n xs) (X:Blk w b arr t) (ht:e≠t):b∉v.ownBlock.toList:=fun hb=>by
 rcases Bz h with ⟨rfl,_,_⟩|⟨g',c,rfl,_,h3,_,_⟩
 ·simp[Value.ownBlock]at hb
 ·simp[Value.ownBlock]at hb
  exact Cx h3 X ht hb.symm
theorem blo {L:List Nat} {lo:Nat} {w w' w'':World} (h:Below lo w w') (hc:Chg L w' w'') (hl:∀b∈L,lo<=b) (hs:lo<=w.heap.size):Below lo w w'':=
 {os:=hc.os.trans h.os,tape:=hc.tape.trans h.tape,output:=hc.output.trans h.output,size:=Nat.le_trans h.size hc.size,block:=fun b hb=>(hc.block b (fun e=>by have:=hl b e;omega) (Nat.lt_of_lt_of_le (Nat.lt_of_lt_of_le hb hs) h.size)).trans (h.block b hb)}
theorem Wz {w:World} {v:Value} {n e lo size:Nat} {xs:List Value} (h:w.ownsRow lo e size v n xs):∀b∈v.ownBlock.toList,lo<=b:=fun b hb=>(h.lt b (by simpa using hb)).1
structure NAt (w:World) (lo bn:Nat) (n:Nat) (xs:List Value):Prop where
 v:∃v,Blk w bn #[v] 319/\w.ownsRow lo 252 2 v n xs
theorem Ze (bn lo n:Nat) (p:Int) (xs:List Value) (w:World) (hn:n<=1000) (hlo:lo<=w.heap.size) (hlb:lo<=bn) (N:NAt w lo bn n xs):Calls prog 296 #[.pointer (some ⟨bn,0,none⟩),.agg #[.int .i64 5,.int .i64 0,.float .f64 0,.string ByteArray.empty,.int .i64 p]] w fun e w'=>e=.returned (.tuple #[])/\NAt w' lo bn (n+1) (xs++[.bool false,.int .i64 p])/\Below lo w w':=by
 obtain⟨v,hB,hR⟩:=N
 obtain⟨so,sc,rfl⟩:=Af hR
 have Z:Blk (w.alloc (.cells #[.int .i64 5,.int .i64 0,.float .f64 0,.string ByteArray.empty,.int .i64 p] 52)).drew w.heap.size #[.int .i64 5,.int .i64 0,.float .f64 0,.string ByteArray.empty,.int .i64 p] 52:=Blk.new w _ _
 have Y:Blk (w.alloc (.cells #[.int .i64 5,.int .i64 0,.float .f64 0,.string ByteArray.empty,.int .i64 p] 52)).drew bn #[.slice so n sc] 319:=hB.alloc _
 have zs:=Z.cell
 have ys:=Y.cell
 go_enter func296,ntmps296
 go_wp2_with fail
 have hbn:w.heap.size≠bn:=Aa Z Y (by decide)
 have hs0:lo<=(w.alloc (.cells #[.int .i64 5,.int .i64 0,.float .f64 0,.string ByteArray.empty,.int .i64 p] 52)).drew.heap.size:=Nat.le_trans hlo ((Below.refl _ _).alloc (Nat.le_refl _) _).drew.size
 have R0:(w.alloc (.cells #[.int .i64 5,.int .i64 0,.float .f64 0,.string ByteArray.empty,.int .i64 p] 52)).drew.ownsRow lo 252 2 (.slice so n sc) n xs:=Ab hR ((Below.refl _ _).alloc (Nat.le_refl _) _).drew
 refine rgM (fun W=>(∀o,W.cell? ⟨w.heap.size,o,none⟩=(#[.int .i64 5,.int .i64 0,.float .f64 0,.string ByteArray.empty,.int .i64 p]:Array Value)[o]?)) zs (fun hS=>?_)
 iterate 3 (refine tkM rfl (by kernel_rfl) (by rfl) hS ⟨?_,fun W hW=>?_,?_⟩;rotate_left;(focus (go_simp;with_reducible rfl));try simp only[Act.put,List.setIfInBounds_toArray])
 refine He [4,3,5,6,7,8,9] (by kernel_rfl) ?_
 refine tkM rfl (by kernel_rfl) (by rfl) hS ⟨?_,fun W hW=>?_,?_⟩
 rotate_left
 ·go_simp
  with_reducible rfl
 try simp only[Act.put]
 have BW:Below lo w (w.alloc (.cells #[.int .i64 5,.int .i64 0,.float .f64 0,.string ByteArray.empty,.int .i64 p] 52)).drew:=(((Below.refl _ _).alloc (Nat.le_refl _) _).drew).mono hlo
 obtain⟨W0,hW0⟩:∃z,z=(w.alloc (.cells #[.int .i64 5,.int .i64 0,.float .f64 0,.string ByteArray.empty,.int .i64 p] 52)).drew:=⟨_,rfl⟩
 rw[←hW0]at Z Y R0 hs0 hS BW ⊢
 clear hW0 zs ys
 have ys:=Y.cell
 refine Sn rfl rfl (by kernel_rfl) (by rfl) (by rfl) (fun K2 hK2=>?a1) (fun K2 hK2=>?b1)
 case' a1=>
  go_wp2_with fail;refine hK2.out _ _ hS (fun _=>?_);clear hK2 K2
  refine doM rfl (by kernel_rfl) (by rfl) (fun K2 hK2=>?_)
  go_wp2_with fail;refine(Pk p _).mono ?_;rintro e w1 ⟨rfl,hw1⟩;go_wp2_with fail;refine hK2.out _ _ (Z.l hw1).cell (fun hS=>?_);clear hK2 K2
  refine doM rfl (by kernel_rfl) (by rfl) (fun K2 hK2=>?_)
  go_wp2_with fail;refine hK2.out _ _ ((Z.l hw1).alloc _).cell (fun hS=>?_);clear hK2 K2
 case' b1=>
  go_wp2_with fail;refine(Pk p _).mono ?_;rintro e w1 ⟨rfl,hw1⟩;go_wp2_with fail;refine hK2.out _ _ (Z.l hw1).cell (fun hS=>?_);clear hK2 K2
  have ys:=(Y.l hw1).cell
  have yz:=fun o=>((Y.l hw1).alloc o).cell
  refine Sn rfl rfl (by kernel_rfl) (by rfl) (by rfl) (fun K2 hK2=>?b2) (fun K2 hK2=>?b3)
  case' b2=>
   go_wp2_with fail;refine hK2.out _ _ (Z.l hw1).cell (fun hS=>?_);clear hK2 K2
   refine doM rfl (by kernel_rfl) (by rfl) (fun K2 hK2=>?_)
   go_wp2_with fail;refine hK2.out _ _ ((Z.l hw1).alloc _).cell (fun hS=>?_);clear hK2 K2
  case' b3=>
   go_wp2_with fail;refine hK2.out _ _ ((Z.l hw1).alloc _).cell (fun hS=>?_);clear hK2 K2
   refine doM rfl (by kernel_rfl) (by rfl) (fun K2 hK2=>?_)
   go_wp2_with fail;refine hK2.out _ _ ((Z.l hw1).alloc _).cell (fun hS=>?_);clear hK2 K2
 all_goals
  refine doM rfl (by kernel_rfl) (by rfl) (fun K2 hK2=>?_)
  have Z1:=(Z.l hw1).alloc (.cells #[.bool false,.int .i64 p] 252)
  have Y1:=(Y.l hw1).alloc (.cells #[.bool false,.int .i64 p] 252)
  have R1:=Ab (Ab R0 hw1) ((Below.refl _ _).alloc (Nat.le_refl _) (.cells #[.bool false,.int .i64 p] 252))
  refine Zk eltT (.tmp 13) (.tmp 16) rfl lo (.slice so n sc) n xs [.bool false,.int .i64 p] w1.heap.size (by simp[Act.eval]) R1 (by simp[Act.eval]) (fun k v hv=>by rw[Nat.zero_add,(Blk.new w1 #[.bool false,.int .i64 p] 252).cell];simpa using hv) rfl (by simp[Value.oneCell']) (by omega) (by decide) (Nat.le_trans hs0 (Nat.le_trans hw1.size ((Below.refl _ _).alloc (Nat.le_refl _) _).size)) ?_
  intro v' w3 ho3 hg3 _
  obtain⟨so',sc',rfl⟩:=Af ho3
  have gC:Chg (Value.slice so n sc).ownBlock.toList (w1.alloc (.cells #[.bool false,.int .i64 p] 252)) w3:=Chg.grown hg3 (fun k hk=>by rw[hk];simp)
  have Z3:=Z1.chg gC (Dh R1 Z1 (by decide))
  have Y3:=Y1.chg gC (Dh R1 Y1 (by decide))
  refine hK2.out _ _ Z3.cell (fun hS=>?_)
  clear hK2 K2
  refine tkM rfl (by kernel_rfl) (by rfl) hS ⟨?_,fun W hW=>?_,?_⟩
  rotate_left
  (focus (go_simp;with_reducible rfl))
  try simp only[Act.put,List.setIfInBounds_toArray]
  refine doM rfl (by kernel_rfl) (by rfl) (fun K2 hK2=>?_)
  have y3:=Y3.cell
  have f3:=Y3.frozen
  have C4:Chg [bn] w3 (w3.setCell ⟨bn,0,none⟩ (.slice so' (n+1) sc')):=(Chg.refl _ _).set (by simp) _ _
  go_wp2_with fail
  refine hK2.out _ _ (Z3.chg C4 (by simpa using hbn)).cell (fun _=>enM (by kernel_rfl) (NoPanic.normal ?_))
  clear hK2 K2
  go_wp2_with fail
  go_end0
  exact⟨rfl,⟨_,Y3.set 0 _,Ae ho3 fun k hk=>C4.block k (by intro e;simp at e;subst e;exact Dh ho3 Y3 (by decide) (by simp[hk])) (ho3.lt k hk).2⟩,blo (blo (BW.trans ((bl2 hw1 ((Below.refl _ _).alloc (Nat.le_refl _) _)).mono hs0)) gC (Wz R1) hlo) C4 (by simpa using hlb) hlo⟩
theorem NAt.l {w w':World} {lo bn n:Nat} {xs:List Value} (h:NAt w lo bn n xs) (hb:Below w.heap.size w w'):NAt w' lo bn n xs:=by
 obtain⟨v,h1,h2⟩:=h
 exact⟨v,h1.l hb,Ab h2 hb⟩
theorem Zd (bn lo n:Nat) (p:Int) (xs:List Value) (w:World) (hn:n<=1000) (hlo:lo<=w.heap.size) (hlb:lo<=bn) (N:NAt w lo bn n xs):Calls prog 379 #[.pointer (some ⟨bn,0,none⟩),.agg #[.int .i64 1,.int .i64 5,.int .i64 0,.float .f64 0,.string ByteArray.empty,.int .i64 p,.pointer none,.slice none 0 0]] w fun e w'=>e=.returned (.tuple #[])/\NAt w' lo bn (n+1) (xs++[.bool false,.int .i64 p])/\Below lo w w':=by
 have B0:∀o,Below w.heap.size w (w.alloc o):=fun _=>(Below.refl _ _).alloc (Nat.le_refl _) _
 go_enter func379,ntmps379
 go_wp2_with fail
 refine(Ze bn lo n p xs _ hn (Nat.le_trans hlo (B0 _).size) hlb (N.l (B0 _))).mono ?_
 rintro e w1 ⟨rfl,hN,hw1⟩
 go_wp2_with fail
 go_end0
 exact⟨rfl,hN,((B0 _).mono hlo).trans hw1⟩
abbrev ρ4 (p:Int):Nat->R8:=upd (fun _=>.none) 4 (.val 5 0 0 ByteArray.empty p)
theorem RgA.low {w W:World} {br n lo:Nat} {ρ:Nat->R8} (h:RgA w br n ρ) (hr:br<lo) (hB:Below lo w W):RgA W br n ρ:=let ⟨A,h1,h2⟩:=h;⟨A,(hB.block _ hr).trans h1,h2⟩
theorem Wn (bn lo bc br:Nat) (p:Int) (xs:List Value) (n:Nat) (cc:Cc) (w:World) (hn:n<=1000) (hlo:lo<=w.heap.size) (hlb:lo<=bn) (hc:bc<lo) (hr:br<lo) (N:NAt w lo bn n xs)
  (C:CAt w bc {cc with self:=.pointer none,regs:=.slice (some ⟨br,0,none⟩) 14 14,wv:=.slice none 0 0,fences:=.slice none 0 0}) (X:RgA w br 14 (ρ4 p)) :
  Calls prog 353 #[.pointer (some ⟨bn,0,none⟩),.pointer (some ⟨bc,0,none⟩)] w fun e w'=>e=.returned (.tuple #[])/\NAt w' lo bn (n+1) (xs++[.bool false,.int .i64 p])/\Below lo w w':=by
 have lat:∀{b:Nat} {A:Array Value} {t:TypeId} {W:World},b<lo->Blk w b A t->Below lo w W->Blk W b A t:=fun hb h hB=>(hB.block _ hb).trans h
 have HC:Hid (CAt w bc {cc with self:=.pointer none,regs:=.slice (some ⟨br,0,none⟩) 14 14,wv:=.slice none 0 0,fences:=.slice none 0 0}):=C
 have HX:Hid (RgA w br 14 (ρ4 p)):=X
 have HN:Hid (NAt w lo bn n xs):=N
 have cs:=C.cell
 clear C X N
 go_enter func353,ntmps353
 go_wp2_with fail
 refine(Nn bn _).mono ?_
 rintro e w1 ⟨rfl,rfl⟩
 go_wp2_with fail
 go_loopw [21] (fun x ws=>∃k:Nat,k<=14/\x=.int .i64 k/\Hid (Below lo w1 ws/\(k<=4/\NAt ws lo bn n xs∨4<k/\NAt ws lo bn (n+1) (xs++[.bool false,.int .i64 p])))) (fun x _=>14-(intOf x).toNat)
 case atStart=>exact⟨0,by omega,rfl,Below.refl _ _,.inl ⟨by omega,HN.out⟩⟩
 case round=>
  obtain⟨k,hk,rfl,HK⟩:=hrel
  obtain⟨hB,hA⟩:=HK.out
  have hs:lo<=wr.heap.size:=Nat.le_trans hlo hB.size
  have B1:∀o,Below lo w1 (wr.alloc o):=fun o=>hB.trans (((Below.refl _ _).alloc (Nat.le_refl _) o).mono hs)
  have c2:=(lat hc HC.out hB).cell
  have hw:IntKind.i64.wrap ((k:Int)+1)=((k+1:Nat):Int):=by rw[wq (by omega) (by omega)];rfl
  clear cs
  clear HK
  by_cases hk14:k=14
  ·subst hk14
   have HN1:Hid (NAt wr lo bn (n+1) (xs++[.bool false,.int .i64 p])):=by
    rcases hA with ⟨h,_⟩|⟨_,h⟩
    ·omega
    ·exact h
   clear hA
   go_wp2_with fail
   refine(Gv bn _).mono ?_
   rintro e w2 ⟨rfl,rfl⟩
   go_wp2_with fail
   refine wp_loop_rounds 1 ?_
   rw[rounds_succ]
   go_wp2_with fail
   go_end0
   exact⟨rfl,HN1.out,hB⟩
  ·have hk1:(k:Int)<14:=by omega
   have hk2:k<14:=by omega
   have hk0:(0:Int)<=k:=by omega
   have hsz:=fun o=>((Below.refl _ _).alloc (Nat.le_refl wr.heap.size) o).size
   by_cases h4:k=4
   ·subst h4
    have HN1:Hid (∀o,NAt (wr.alloc o) lo bn n xs):=fun o=>by
     rcases hA with ⟨_,h⟩|⟨h,_⟩
     ·exact h.l ((Below.refl _ _).alloc (Nat.le_refl _) _)
     ·omega
    have x0:=(HX.out.low hr hB).at hk2 (j:=0) (by decide)
    have x1:=(HX.out.low hr hB).at hk2 (j:=1) (by decide)
    have x2:=(HX.out.low hr hB).at hk2 (j:=2) (by decide)
    have x3:=(HX.out.low hr hB).at hk2 (j:=3) (by decide)
    have x4:=(HX.out.low hr hB).at hk2 (j:=4) (by decide)
    have x5:=(HX.out.low hr hB).at hk2 (j:=5) (by decide)
    have x6:=(HX.out.low hr hB).at hk2 (j:=6) (by decide)
    have x7:=(HX.out.low hr hB).at hk2 (j:=7) (by decide)
    simp[ρ4,upd]at x0 x1 x2 x3 x4 x5 x6 x7
    clear hA
    go_wp2_with fail
    refine(Zd bn lo n p xs _ hn (Nat.le_trans hs (hsz _)) hlb (HN1.out _)).mono ?_
    rintro e w2 ⟨rfl,hN2,hw2⟩
    go_wp2_with fail
    go_roundw
    case rel=>exact⟨5,by decide,by go_num,(B1 _).trans hw2,.inr ⟨by decide,hN2⟩⟩
    case measure=>simp[intOf]
   ·have HA:Hid (∀W,Below wr.heap.size wr W->(k<=4/\NAt W lo bn n xs∨4<k/\NAt W lo bn (n+1) (xs++[.bool false,.int .i64 p]))):=fun W hW=>hA.imp (fun ⟨h,h'⟩=>⟨h,h'.l hW⟩) (fun ⟨h,h'⟩=>⟨h,h'.l hW⟩)
    have hρ:(ρ4 p) k=.none:=if_neg h4
    have x0:=(HX.out.low hr hB).at hk2 (j:=0) (by decide)
    have x1:=(HX.out.low hr hB).at hk2 (j:=1) (by decide)
    have x2:=(HX.out.low hr hB).at hk2 (j:=2) (by decide)
    have x3:=(HX.out.low hr hB).at hk2 (j:=3) (by decide)
    have x4:=(HX.out.low hr hB).at hk2 (j:=4) (by decide)
    have x5:=(HX.out.low hr hB).at hk2 (j:=5) (by decide)
    have x6:=(HX.out.low hr hB).at hk2 (j:=6) (by decide)
    have x7:=(HX.out.low hr hB).at hk2 (j:=7) (by decide)
    simp only[Nat.add_zero]at x0
    simp[hρ]at x0 x1 x2 x3 x4 x5 x6 x7
    have H4:Hid (k≠4):=h4
    clear hA hρ h4
    go_wp2_with fail
    refine(Wo bn _).mono ?_
    rintro e w2 ⟨rfl,hw2⟩
    go_wp2_with fail
    go_roundw
    case rel=>exact⟨k+1,by omega,by go_num,(B1 _).trans (hw2.mono (Nat.le_trans hs (hsz _))),(HA.out _ (bl2 ((Below.refl _ _).alloc (Nat.le_refl _) _) hw2)).elim (fun ⟨h,h'⟩=>.inl ⟨by have:=H4.out;omega,h'⟩) (fun ⟨h,h'⟩=>.inr ⟨by omega,h'⟩)⟩
    case measure=>simp[intOf];omega
theorem Wp (bn lo bt bf fc bc br:Nat) (k x r:Int) (f:Nat) (s:ByteArray) (p:Int) (xs:List Value) (n:Nat) (cc:Cc) (t:Tc) (w:World) (hk:k<5) (hn:n<=1000) (hlo:lo<=w.heap.size) (hlb:lo<=bn) (hc:bc<lo) (hr:br<lo) (N:NAt w lo bn n xs)
  (T:TAt w bt {t with fk:=.int .i64 k,fn:=.int .i64 x,ff:=.float .f64 f,fs:=.string s,fr:=.int .i64 r,frames:=.slice (some ⟨bf,0,none⟩) 1 fc,dropped:=.slice none 0 0}) (F:w.cell? ⟨bf,0,none⟩=some (.iface 107 (.pointer (some ⟨bc,0,none⟩))))
  (C:CAt w bc {cc with self:=.pointer none,regs:=.slice (some ⟨br,0,none⟩) 14 14,wv:=.slice none 0 0,fences:=.slice none 0 0}) (X:RgA w br 14 (ρ4 p)) :
  Calls prog 293 #[.pointer (some ⟨bn,0,none⟩),.pointer (some ⟨bt,0,none⟩)] w fun e w'=>e=.returned (.tuple #[])/\NAt w' lo bn (n+1) (xs++[.bool false,.int .i64 p])/\Below lo w w':=by
 have ts:=T.cell
 have HN:Hid (NAt w lo bn n xs):=N
 have HX:Hid (RgA w br 14 (ρ4 p)):=X
 have HC:Hid (CAt w bc {cc with self:=.pointer none,regs:=.slice (some ⟨br,0,none⟩) 14 14,wv:=.slice none 0 0,fences:=.slice none 0 0}):=C
 clear N X C
 go_enter func293,ntmps293
 go_wp2_with fail
 refine(Tf bn k x r f s _ hk).mono ?_
 rintro e w1 ⟨rfl,hw1⟩
 have ts1:=(T.l hw1).cell
 have F1:=cb F hw1
 clear ts F
 go_wp2_with fail
 refine(Gv bn _).mono ?_
 rintro e w2 ⟨rfl,rfl⟩
 go_wp2_with fail
 refine wp_loop_rounds 2 ?_
 rw[rounds_succ]
 go_wp2_with fail
 refine(Wn bn lo bc br p xs n cc _ hn (Nat.le_trans hlo hw1.size) hlb hc hr (HN.out.l hw1) (HC.out.l hw1) (HX.out.l hw1)).mono ?_
 rintro e w3 ⟨rfl,hN3,hw3⟩
 go_wp2_with fail
 rw[rounds_succ]
 go_wp2_with fail
 go_end0
 exact⟨rfl,hN3,(hw1.mono hlo).trans hw3⟩
theorem Wq (bm bts bt nc:Nat) (no:Option Addr) (st:Int) (m:Mc) (t:Tc) (w:World) (h0:st≠0) (h1:st≠1) (X:MAt w bm {m with tasks:=.slice (some ⟨bts,0,none⟩) 1 1}) (hb:w.cell? ⟨bts,0,none⟩=some (.pointer (some ⟨bt,0,none⟩))) (T:TAt w bt {t with state:=.int .i64 st}) :
  Calls prog 237 #[.pointer (some ⟨bm,0,none⟩),.slice no 0 nc,.agg #[.bool true,.int .i64 0]] w fun e w'=>e=.returned (.slice no 0 nc)/\Below w.heap.size w w':=by
 have B1:∀o,Below w.heap.size w (w.alloc o):=fun _=>(Below.refl _ _).alloc (Nat.le_refl _) _
 have B2:∀o u,Below w.heap.size w ((w.alloc o).alloc u):=fun o u=>bl2 (B1 o) ((Below.refl _ _).alloc (Nat.le_refl _) _)
 have xs:=fun o u=>(X.l (B2 o u)).cell
 have hs:=fun o u=>cb hb (B2 o u)
 have hd:decide (st=0∨st=1)=false:=by simp[h0,h1]
 go_enter func237,ntmps237
 go_wp2_with fail
 go_region
 go_wp2_with fail
 refine(A1q bt t st _ (T.l ((B2 _ _).drew))).mono ?_
 rintro e w1 ⟨rfl,rfl⟩
 rw[hd]
 go_wp2_with fail
 go_ret
 exact⟨rfl,(B2 _ _).drew⟩
theorem Zg (bm g L sc bs p nc:Nat) (no:Option Addr) (pv kv bo ve:Value) (m:Mc) (w:World) (hp:p<L) (X:MAt w bm {m with slots:=.slice (some ⟨g,0,none⟩) L sc}) (hb:w.cell? ⟨g,p,none⟩=some (.pointer (some ⟨bs,0,none⟩))) (S:Blk w bs (sa pv kv bo ve) 176) :
  Calls prog 237 #[.pointer (some ⟨bm,0,none⟩),.slice no 0 nc,.agg #[.bool false,.int .i64 p]] w fun e w'=>e=.returned (.slice no 0 nc)/\Below w.heap.size w w':=by
 have B1:∀o,Below w.heap.size w (w.alloc o):=fun _=>(Below.refl _ _).alloc (Nat.le_refl _) _
 have B2:∀o u,Below w.heap.size w ((w.alloc o).alloc u):=fun o u=>bl2 (B1 o) ((Below.refl _ _).alloc (Nat.le_refl _) _)
 have xs:=fun o u=>(X.l (B2 o u)).cell
 have hs:=fun o u=>cb hb (B2 o u)
 have ss:=fun o u=>(S.l (B2 o u)).cell
 have p0:(0:Int)<=p:=by omega
 have p1:(p:Int)<L:=by omega
 go_enter func237,ntmps237
 go_wp2_with fail
 go_region
 go_wp2_with fail
 refine(Nn _ _).mono ?_
 rintro e w1 ⟨rfl,rfl⟩
 go_wp2_with fail
 refine wp_loop_rounds 1 ?_
 rw[rounds_succ]
 go_wp2_with fail
 refine wp_loop_rounds 1 ?_
 rw[rounds_succ]
 go_wp2_with fail
 go_ret
 exact⟨rfl,(B2 _ _).drew⟩
theorem eltU:Elt 316 252 (.agg #[.bool false,.int .i64 0]) 2 16:=⟨underlying316,by kernel_rfl,rfl,by decide⟩
structure QAt (w:World) (lo bq n:Nat) (gone:Int) (xs:List Value) (A:List Nat):Prop where
 v:∃v,Blk w bq #[v,.int .i64 gone] 318/\w.ownsRow lo 252 2 v n xs/\∀k,v.ownBlock=some k->k∉A
theorem QAt.l {w w':World} {lo bq n:Nat} {gone:Int} {xs:List Value} {A:List Nat} (h:QAt w lo bq n gone xs A) (hb:Below w.heap.size w w'):QAt w' lo bq n gone xs A:=by
 obtain⟨v,h1,h2,h3⟩:=h
 exact⟨v,h1.l hb,Ab h2 hb,h3⟩
theorem Ll (lo bq n:Nat) (A:List Nat) (gone:Int) (xs:List Value) (w:World) (hn:n<=1000) (h0:0<=gone) (h1:gone<=1000) (H:QAt w lo bq n gone xs A):Calls prog 240 #[.pointer (some ⟨bq,0,none⟩)] w fun e w'=>e=.returned (.int .i64 (n-gone))/\Below w.heap.size w w':=by
 obtain⟨v,hB,hR,_⟩:=H
 obtain⟨so,sc,rfl⟩:=Af hR
 have bs:=hB.cell
 have ew:IntKind.i64.wrap ((n:Int)-gone)=n-gone:=wr (by omega) (by omega)
 go_enter func240,ntmps240
 go_wp2_with fail
 go_region
 go_wp2_with fail
 go_ret
 exact⟨rfl,(Below.refl _ _).drew⟩
theorem Uh (bq lo n:Nat) (A:List Nat) (gone p:Int) (b:Bool) (xs:List Value) (w:World) (hn:n<=1000) (hlo:lo<=w.heap.size) (hlb:lo<=bq) (hA:∀k∈A,k<w.heap.size/\k≠bq) (N:QAt w lo bq n gone xs A):Calls prog 239 #[.pointer (some ⟨bq,0,none⟩),.agg #[.bool b,.int .i64 p]] w fun e w'=>e=.returned (.tuple #[])/\QAt w' lo bq (n+1) gone (xs++[.bool b,.int .i64 p]) A/\Below lo w w'/\∀k∈A,w'.heap[k]?=w.heap[k]?:=by
 obtain⟨v,hB,hR,hV⟩:=N
 obtain⟨so,sc,rfl⟩:=Af hR
 have Z:Blk (w.alloc (.cells #[.bool b,.int .i64 p] 252)).drew w.heap.size #[.bool b,.int .i64 p] 252:=Blk.new w _ _
 have Y:Blk (w.alloc (.cells #[.bool b,.int .i64 p] 252)).drew bq #[.slice so n sc,.int .i64 gone] 318:=hB.alloc _
 have zs:=Z.cell
 go_enter func239,ntmps239
 go_wp2_with fail
 have hbn:w.heap.size≠bq:=Aa Z Y (by decide)
 have hs0:lo<=(w.alloc (.cells #[.bool b,.int .i64 p] 252)).drew.heap.size:=Nat.le_trans hlo ((Below.refl _ _).alloc (Nat.le_refl _) _).drew.size
 have R0:(w.alloc (.cells #[.bool b,.int .i64 p] 252)).drew.ownsRow lo 252 2 (.slice so n sc) n xs:=Ab hR ((Below.refl _ _).alloc (Nat.le_refl _) _).drew
 have BW:Below lo w (w.alloc (.cells #[.bool b,.int .i64 p] 252)).drew:=(((Below.refl _ _).alloc (Nat.le_refl _) _).drew).mono hlo
 have BG:Below w.heap.size w (w.alloc (.cells #[.bool b,.int .i64 p] 252)).drew:=((Below.refl _ _).alloc (Nat.le_refl _) _).drew
 have hown:w.heap.size∉(Value.slice so n sc).ownBlock.toList:=fun hm=>Nat.lt_irrefl _ (hR.lt _ (by simpa using hm)).2
 refine rgM (fun W=>(∀o,W.cell? ⟨w.heap.size,o,none⟩=(#[.bool b,.int .i64 p]:Array Value)[o]?)) zs (fun hS=>?_)
 iterate 4 (refine tkM rfl (by kernel_rfl) (by rfl) hS ⟨?_,fun W hW=>?_,?_⟩;rotate_left;(focus (go_simp;with_reducible rfl));try simp only[Act.put,List.setIfInBounds_toArray])
 refine He [5,4,6,7,8,9,10] (by kernel_rfl) ?_
 refine tkM rfl (by kernel_rfl) (by rfl) hS ⟨?_,fun W hW=>?_,?_⟩
 rotate_left
 ·go_simp
  with_reducible rfl
 try simp only[Act.put]
 obtain⟨W0,hW0⟩:∃z,z=(w.alloc (.cells #[.bool b,.int .i64 p] 252)).drew:=⟨_,rfl⟩
 rw[←hW0]at Z Y R0 hs0 hS BW BG ⊢
 clear hW0 zs
 have ys:=Y.cell
 have ya:=fun o=>(Y.alloc o).cell
 refine Sn rfl rfl (by kernel_rfl) (by rfl) (by rfl) (fun K2 hK2=>?a1) (fun K2 hK2=>?b1)
 case' a1=>
  go_wp2_with fail;refine hK2.out _ _ hS (fun _=>?_);clear hK2 K2
  refine doM rfl (by kernel_rfl) (by rfl) (fun K2 hK2=>?_)
  go_wp2_with fail;refine hK2.out _ _ (Z.alloc _).cell (fun hS=>?_);clear hK2 K2
 case' b1=>
  go_wp2_with fail;refine hK2.out _ _ (Z.alloc _).cell (fun hS=>?_);clear hK2 K2
  refine doM rfl (by kernel_rfl) (by rfl) (fun K2 hK2=>?_)
  go_wp2_with fail;refine hK2.out _ _ (Z.alloc _).cell (fun hS=>?_);clear hK2 K2
 all_goals
  refine doM rfl (by kernel_rfl) (by rfl) (fun K2 hK2=>?_)
  have Z1:=Z.alloc (.cells #[.bool b,.int .i64 p] 252)
  have Y1:=Y.alloc (.cells #[.bool b,.int .i64 p] 252)
  have R1:=Ab R0 ((Below.refl _ _).alloc (Nat.le_refl _) (.cells #[.bool b,.int .i64 p] 252))
  refine Zk eltU (.tmp 8) (.tmp 10) rfl lo (.slice so n sc) n xs [.bool b,.int .i64 p] W0.heap.size (by simp[Act.eval]) R1 (by simp[Act.eval]) (fun k v hv=>by rw[Nat.zero_add,(Blk.new W0 #[.bool b,.int .i64 p] 252).cell];simpa using hv) rfl (by simp[Value.oneCell']) (by omega) (by decide) (Nat.le_trans hs0 ((Below.refl _ _).alloc (Nat.le_refl _) _).size) ?_
  intro v' w3 ho3 hg3 h5
  have hsz:=BG.size
  have hV':∀k,v'.ownBlock=some k->k∉A:=fun k hk hm=>by
   rcases h5 with h5|h5
   ·exact hV k (h5▸hk) hm
   ·have:=(hA k hm).1;rw[h5]at hk;simp at hk;omega
  obtain⟨so',sc',rfl⟩:=Af ho3
  have gC:Chg (Value.slice so n sc).ownBlock.toList (W0.alloc (.cells #[.bool b,.int .i64 p] 252)) w3:=Chg.grown hg3 (fun k hk=>by rw[hk];simp)
  have Z3:=Z1.chg gC hown
  have Y3:=Y1.chg gC (Dh R1 Y1 (by decide))
  refine hK2.out _ _ Z3.cell (fun hS=>?_)
  clear hK2 K2
  iterate 2 (refine tkM rfl (by kernel_rfl) (by rfl) hS ⟨?_,fun W hW=>?_,?_⟩;rotate_left;(focus (go_simp;with_reducible rfl));try simp only[Act.put,List.setIfInBounds_toArray])
  refine doM rfl (by kernel_rfl) (by rfl) (fun K2 hK2=>?_)
  have y3:=Y3.cell
  have f3:=Y3.frozen
  have C4:Chg [bq] w3 (w3.setCell ⟨bq,0,none⟩ (.slice so' (n+1) sc')):=(Chg.refl _ _).set (by simp) _ _
  go_wp2_with fail
  refine hK2.out _ _ (Z3.chg C4 (by simpa using hbn)).cell (fun _=>enM (by kernel_rfl) (NoPanic.normal ?_))
  clear hK2 K2
  go_wp2_with fail
  go_end0
  exact⟨rfl,⟨_,Y3.set 0 _,Ae ho3 fun k hk=>C4.block k (by intro e;simp at e;subst e;exact Dh ho3 Y3 (by decide) (by simp[hk])) (ho3.lt k hk).2,hV'⟩,blo (blo (BW.trans (((Below.refl _ _).alloc (Nat.le_refl _) _).mono hs0)) gC (Wz R1) hlo) C4 (by simpa using hlb) hlo,fun G hG=>(C4.block G (by simpa using (hA G hG).2) (by have:=gC.size;have:=(hA G hG).1;simp at *;omega)).trans ((gC.block G (fun hm=>hV G (by simpa using hm) hG) (by have:=(hA G hG).1;simp;omega)).trans (((Below.refl _ _).alloc (Nat.le_refl _) _).block G (by have:=(hA G hG).1;omega) |>.trans (BG.block G (hA G hG).1)))⟩
theorem Zv (bq lo n gone:Nat) (A:List Nat) (p:Int) (b:Bool) (xs:List Value) (w:World) (hn:n<=1000) (hg:gone<n) (h0:xs[gone*2]?=some (.bool b)) (h1:xs[gone*2+1]?=some (.int .i64 p)) (N:QAt w lo bq n gone xs A):Calls prog 238 #[.pointer (some ⟨bq,0,none⟩)] w fun e w'=>e=.returned (.agg #[.bool b,.int .i64 p])/\Chg [bq] w w'/\QAt w' lo bq n ((gone:Int)+1) xs A:=by
 obtain⟨v,hB,hR,hV⟩:=N
 rcases Aj hR with ⟨rfl,h⟩|⟨g,sc,rfl,hr⟩
 ·omega
 have B1:∀o,Below w.heap.size w (w.alloc o):=fun _=>(Below.refl _ _).alloc (Nat.le_refl _) _
 have B2:∀o u,Below w.heap.size w ((w.alloc o).alloc u):=fun o u=>bl2 (B1 o) ((Below.refl _ _).alloc (Nat.le_refl _) _)
 have c0:=Ai hR h0
 have c1:=Ai hR h1
 have bs:=hB.cell
 have bs1:=fun o=>(hB.alloc o).cell
 have bs2:=fun o u=>(hB.l (B2 o u)).cell
 have bf2:=fun o u=>(hB.l (B2 o u)).frozen
 have d0:=ca c0
 have d1:=ca c1
 have e0:=fun o u=>cb c0 (B2 o u)
 have e1:=fun o u=>cb c1 (B2 o u)
 have g0:(0:Int)<=gone:=by omega
 have g1:(gone:Int)<n:=by omega
 have ew:IntKind.i64.wrap ((gone:Int)+1)=gone+1:=wr (by omega) (by omega)
 go_enter func238,ntmps238
 go_wp2_with fail
 go_region
 have hq:=hB.lt
 have T2:Blk ((w.alloc (.cells #[.bool false,.int .i64 0] 252)).alloc (.cells #[.bool b,.int .i64 p] 252)) (w.heap.size+1) #[.bool b,.int .i64 p] 252:=by simpa using Blk.new (w.alloc (.cells #[.bool false,.int .i64 0] 252)) #[.bool b,.int .i64 p] 252
 have Z2:Blk ((w.alloc (.cells #[.bool false,.int .i64 0] 252)).alloc (.cells #[.bool b,.int .i64 p] 252)) w.heap.size #[.bool false,.int .i64 0] 252:=(Blk.new w _ _).alloc _
 have C2:Chg [bq] ((w.alloc (.cells #[.bool false,.int .i64 0] 252)).alloc (.cells #[.bool b,.int .i64 p] 252)) (((w.alloc (.cells #[.bool false,.int .i64 0] 252)).alloc (.cells #[.bool b,.int .i64 p] 252)).setCell ⟨bq,1,none⟩ (.int .i64 ((gone:Int)+1))).drew:=((Chg.refl _ _).set (by simp) _ _).below (Below.refl _ _).drew
 have T3:=T2.chg C2 (by simp;omega)
 have Z3:=Z2.chg C2 (by simp;omega)
 have t3:=T3.cell
 have z3:=Z3.cell
 have zf:=Z3.frozen
 go_wp2_with fail
 have C5:Chg [bq] w (w.setCell ⟨bq,1,none⟩ (.int .i64 ((gone:Int)+1))):=(Chg.refl _ _).set (by simp) _ _
 have R5:=Ae hR (fun k hk=>C5.block k (by intro e;simp at e;subst e;exact Dh hR hB (by decide) (by simp[hk])) (hR.lt k hk).2)
 have Aw:∀(W:World) o u,Below W.heap.size W ((W.alloc o).alloc u).drew:=fun W o u=>(bl2 ((Below.refl _ _).alloc (Nat.le_refl _) o) ((Below.refl _ _).alloc (Nat.le_refl _) u)).drew
 exact bodyPost_ret (v:=.agg #[.bool b,.int .i64 p]) (by simp[results,results238,go_sem]) rfl ⟨rfl,C5.below (Aw _ _ _),⟨_,(hB.set 1 _).l (Aw _ _ _),Ab R5 (Aw _ _ _),hV⟩⟩
def A0e (w:World) (so:Option Addr) (k:Nat):Prop:=k=0∨∃g,so=some ⟨g,0,none⟩/\∀i,i<k->∃b,w.cell? ⟨g,i,none⟩=some (.pointer (some ⟨b,0,none⟩))/\w.cell? ⟨b,7,none⟩=some (.bool false)
theorem NAt.put {w:World} {lo bn n sc:Nat} {so so':Option Addr} {sc':Nat} {xs:List Value} (Y:Blk w bn #[.slice so n sc] 319) (h:w.ownsRow lo 252 2 (.slice so' (n+1) sc') (n+1) xs):NAt (w.setCell ⟨bn,0,none⟩ (.slice so' (n+1) sc')) lo bn (n+1) xs:=by
 have C4:Chg [bn] w (w.setCell ⟨bn,0,none⟩ (.slice so' (n+1) sc')):=(Chg.refl _ _).set (by simp) _ _
 exact⟨_,Y.set 0 _,Ae h fun k hk=>C4.block k (by intro e;simp at e;subst e;exact Dh h Y (by decide) (by simp[hk])) (h.lt k hk).2⟩
theorem Qs (bm bts bt bf fc bc br:Nat) (k x r:Int) (f:Nat) (s:ByteArray) (p:Int) (cc:Cc) (t:Tc) (m:Mc) (w:World) (hk:k<5) (hc:bc<w.heap.size) (hr:br<w.heap.size)
  (M:MAt w bm {m with tasks:=.slice (some ⟨bts,0,none⟩) 1 1,cur:=.int .i64 0,got:=.slice none 0 0,wv:=.slice none 0 0}) (hb:w.cell? ⟨bts,0,none⟩=some (.pointer (some ⟨bt,0,none⟩)))
  (T:TAt w bt {t with fk:=.int .i64 k,fn:=.int .i64 x,ff:=.float .f64 f,fs:=.string s,fr:=.int .i64 r,frames:=.slice (some ⟨bf,0,none⟩) 1 fc,waiter:=.int .i64 (-1),dropped:=.slice none 0 0}) (F:w.cell? ⟨bf,0,none⟩=some (.iface 107 (.pointer (some ⟨bc,0,none⟩))))
  (C:CAt w bc {cc with self:=.pointer none,regs:=.slice (some ⟨br,0,none⟩) 14 14,wv:=.slice none 0 0,fences:=.slice none 0 0}) (X:RgA w br 14 (ρ4 p))
  (HT:Hid (∀W,Below w.heap.size w W->Calls prog 243 #[.pointer (some ⟨bm,0,none⟩)] W fun e w'=>∃so n sc,e=.returned (.slice so n sc)/\n<=1000000/\Below W.heap.size W w'/\A0e w' so n)) :
  Calls prog 236 #[.pointer (some ⟨bm,0,none⟩)] w fun e w'=>∃so sc,e=.returned (.slice so 2 sc)/\w'.ownsRow w.heap.size 252 2 (.slice so 2 sc) 2 [.bool true,.int .i64 0,.bool false,.int .i64 p]/\Below w.heap.size w w':=by
 have B0:∀o,Below w.heap.size w (w.alloc o):=fun _=>(Below.refl _ _).alloc (Nat.le_refl _) _
 have lat:∀{b:Nat} {A:Array Value} {t:TypeId} {W:World},Blk w b A t->Below w.heap.size w W->Blk W b A t:=fun h hB=>h.l hB
 have HM:Hid (MAt w bm {m with tasks:=.slice (some ⟨bts,0,none⟩) 1 1,cur:=.int .i64 0,got:=.slice none 0 0,wv:=.slice none 0 0}):=M
 have ms:=fun o=>(M.alloc o).cell
 have ms2:=fun o u=>(M.l (bl2 (B0 o) ((Below.refl _ _).alloc (Nat.le_refl _) u))).cell
 have Y:Blk (w.alloc (.cells #[.slice none 0 0] 319)) w.heap.size #[.slice none 0 0] 319:=Blk.new w _ _
 go_enter func236,ntmps236
 go_wp2_with fail
 refine wp_loop_rounds 2 ?_
 rw[rounds_succ]
 go_wp2_with (at_builtin;refine Jy eltT rfl _ _ rfl w.heap.size _ 0 _ [.bool true,.int .i64 0] (w.heap.size+1) rfl (World.ownsRow_nil _ _ _ _) rfl ?qc0 rfl ?qc1 ?qc2 (by decide) ?qc3 ?_)
 case qc0=>
  have h:Blk ((w.alloc (.cells #[.slice none 0 0] 319)).alloc (.cells #[.bool true,.int .i64 0] 252)) (w.heap.size+1) #[.bool true,.int .i64 0] 252:=by simpa using Blk.new (w.alloc (.cells #[.slice none 0 0] 319)) #[.bool true,.int .i64 0] 252
  exact fun k v hv=>by rw[Nat.zero_add,h.cell];simpa using hv
 case qc1=>simp[Value.oneCell']
 case qc2=>omega
 case qc3=>simp;omega
 intro v' w3 ho3 hg3 _
 obtain⟨so1,sc1,rfl⟩:=Af ho3
 have C1:Chg [] ((w.alloc (.cells #[.slice none 0 0] 319)).alloc (.cells #[.bool true,.int .i64 0] 252)) w3:=Chg.grown (L:=[]) hg3 (fun k hk=>by simp[Value.ownBlock]at hk)
 have B3:Below w.heap.size w w3:=blo (bl2 (B0 _) ((Below.refl _ _).alloc (Nat.le_refl _) _)) C1 (by simp) (Nat.le_refl _)
 have Y3:Blk w3 w.heap.size #[.slice none 0 0] 319:=(Y.alloc _).chg C1 (by simp)
 have N4:=NAt.put (so:=none) (sc:=0) Y3 ho3
 have B4:Below w.heap.size w (w3.setCell ⟨w.heap.size,0,none⟩ (.slice so1 1 sc1)):=blo B3 ((Chg.refl [w.heap.size] _).set (by simp) _ _) (by simp) (Nat.le_refl _)
 have y3:=Y3.cell
 have yf:=Y3.frozen
 have m4:=(HM.out.l B4).cell
 have h4:=cb hb B4
 clear ms ms2 ho3 hg3
 go_wp2_with fail
 refine(Wp w.heap.size w.heap.size bt bf fc bc br k x r f s p [.bool true,.int .i64 0] 1 cc {t with waiter:=.int .i64 (-1)} _ hk (by decide) B4.size (Nat.le_refl _) hc hr N4 (T.l B4) (cb F B4) (C.l B4) (X.l B4)).mono ?_
 rintro e w5 ⟨rfl,N5,hw5⟩
 have B5:Below w.heap.size w w5:=B4.trans hw5
 have m5:=(HM.out.l B5).cell
 have h5:=cb hb B5
 have t5:=(T.l B5).cell
 clear m4 h4 y3 yf
 go_wp2_with fail
 rw[rounds_succ]
 go_wp2_with fail
 refine(Gv _ _).mono ?_
 rintro e w6 ⟨rfl,rfl⟩
 go_wp2_with fail
 refine(Gv _ _).mono ?_
 rintro e w6 ⟨rfl,rfl⟩
 go_wp2_with fail
 refine(HT.out _ B5).mono ?_
 rintro e w7 ⟨so,n,sc,rfl,hn,hw7,hT⟩
 have HN7:Hid (NAt w7 w.heap.size w.heap.size 2 [.bool true,.int .i64 0,.bool false,.int .i64 p]):=N5.l hw7
 have HB7:Hid (Below w.heap.size w w7):=bl2 B5 hw7
 have HT7:Hid (A0e w7 so n):=hT
 clear m5 h5 t5 hw7 hT N5
 go_wp2_with fail
 go_loopw [50] (fun y ws=>∃j:Nat,j<=n/\y=.int .i64 j/\w7=ws) (fun y _=>n-(intOf y).toNat)
 case atStart=>exact⟨0,by omega,rfl,rfl⟩
 case round=>
  obtain⟨j,hj,rfl,rfl⟩:=hrel
  obtain⟨v,hY,hR⟩:=HN7.out
  obtain⟨so2,sc2,rfl⟩:=Af hR
  have y7:=hY.cell
  by_cases hjn:j=n
  ·subst hjn
   go_wp2_with fail
   go_ret
   exact⟨so2,sc2,rfl,hR,HB7.out⟩
  ·have j0:(0:Int)<=j:=by omega
   have j1:(j:Int)<n:=by omega
   have ew:IntKind.i64.wrap ((j:Int)+1)=((j+1:Nat):Int):=by rw[wq (by omega) (by omega)];omega
   rcases HT7.out with h|⟨g,rfl,h⟩
   ·omega
   ·obtain⟨b,h1,h2⟩:=h j (by omega)
    clear h
    go_wp2_with fail
    go_roundw
    case rel=>exact⟨j+1,by omega,by go_num,trivial⟩
    case measure=>simp[intOf];omega
abbrev pv (b:Nat):Value:=.pointer (some ⟨b,0,none⟩)
def Po (w:World) (b:Nat):Prop:=∃p bo ve:Int,Blk w b (sa (.int .i64 p) (.int .i64 1) (.int .i64 bo) (.int .i64 ve)) 176
theorem Po.l {w w':World} {b lo:Nat} (h:Po w b) (hlo:b<lo) (hb:Below lo w w'):Po w' b:=by
 obtain⟨p,bo,ve,h⟩:=h
 exact⟨p,bo,ve,(hb.block b hlo).trans h⟩
def A55 (lo:Nat) (w:World):Prop:=∀(W:World) (v:Value) (n:Nat) (ys:List Nat),Below lo w W->n<=1000000->W.ownsRow lo 127 1 v n (ys.map pv)->(∀b∈ys,b<lo/\Po W b)->Calls prog 299 #[v,.func (.func 300) #[] #[]] W fun e w'=>e=.returned (.tuple #[])/\Below lo W w'/\∃zs:List Nat,w'.ownsRow lo 127 1 v n (zs.map pv)/\∀b∈zs,b∈ys
theorem Rw (bm L:Nat) (sv:Value) (xs:List Value) (m:Mc) (w:World) (hL:L<=1000000) (M:MAt w bm {m with slots:=sv}) (hR:w.ownsRow 0 127 1 sv L xs) (hx:∀i,i<L->xs[i]?=some (.pointer none)∨∃b,xs[i]?=some (pv b)/\b<w.heap.size/\Po w b) (HS:Hid (A55 w.heap.size w)) :
  Calls prog 243 #[.pointer (some ⟨bm,0,none⟩)] w fun e w'=>∃so n sc,e=.returned (.slice so n sc)/\n<=1000000/\Below w.heap.size w w'/\A0e w' so n:=by
 obtain⟨so,sc,rfl⟩:=Af hR
 have ms:=M.cell
 have HR:Hid (w.ownsRow 0 127 1 (.slice so L sc) L xs):=hR
 have HX:Hid (∀i,i<L->xs[i]?=some (.pointer none)∨∃b,xs[i]?=some (pv b)/\b<w.heap.size/\Po w b):=hx
 clear hR hx
 go_enter func243,ntmps243
 go_wp2_with fail
 clear ms
 go_loopw [3,11] (fun v y ws=>∃(j n:Nat) (ys:List Nat),j<=L/\n<=j/\y=.int .i64 j/\Hid (Below w.heap.size w ws/\ws.ownsRow w.heap.size 127 1 v n (ys.map pv)/\∀b∈ys,b<w.heap.size/\Po w b)) (fun _ y _=>L-(intOf y).toNat)
 case atStart=>exact⟨0,0,[],by omega,by omega,rfl,Below.refl _ _,World.ownsRow_nil _ _ _ _,by simp⟩
 case round=>
  obtain⟨j,n,ys,hj,hnj,rfl,HK⟩:=hrel
  obtain⟨hB,hO,hG⟩:=HK.out
  obtain⟨vo,vc,rfl⟩:=Af hO
  have HB:Hid (Below w.heap.size w wr):=hB
  have HO:Hid (wr.ownsRow w.heap.size 127 1 (.slice vo n vc) n (ys.map pv)):=hO
  have HG:Hid (∀b∈ys,b<w.heap.size/\Po w b):=hG
  have hsz:=hB.size
  clear HK hB hO hG
  by_cases hjL:j=L
  ·subst hjL
   go_wp2_with fail
   refine(HS.out wr (.slice vo n vc) n ys HB.out (by omega) HO.out (fun b hb=>⟨(HG.out b hb).1,(HG.out b hb).2.l (HG.out b hb).1 HB.out⟩)).mono ?_
   rintro e w2 ⟨rfl,hw2,zs,hz,hm⟩
   go_wp2_with fail
   go_ret
   refine⟨vo,n,vc,rfl,by omega,HB.out.trans hw2,?_⟩
   rcases Aj hz with ⟨h,h0⟩|⟨g,c,h,_⟩
   ·exact .inl h0
   ·injection h with h _ _
    subst h
    refine .inr ⟨g,rfl,fun i hi=>?_⟩
    have hl:zs.length=n:=by have:=hz.1;simpa using this
    have hzi:zs[i]?=some zs[i]:=List.getElem?_eq_getElem (by omega)
    have hb:=hm _ (List.getElem_mem (by omega:i<zs.length))
    obtain⟨p,bo,ve,hT⟩:=(HG.out _ hb).2.l (HG.out _ hb).1 (HB.out.trans hw2)
    exact⟨zs[i],Ai hz (by rw[List.getElem?_map,hzi];rfl),hT.cell 7⟩
  ·have j0:(0:Int)<=j:=by omega
   have j1:(j:Int)<L:=by omega
   have ew:IntKind.i64.wrap ((j:Int)+1)=((j+1:Nat):Int):=by rw[wq (by omega) (by omega)];omega
   rcases Aj HR.out with ⟨h,h0⟩|⟨g,c,h,_⟩
   ·omega
   ·injection h with h _ h3
    subst h
    clear h3
    rcases HX.out j (by omega) with h|⟨b,h,hb,hT⟩
    ·have hc:=cb (Ai HR.out h) HB.out
     go_wp2_with fail
     go_roundw
     case rel=>exact⟨j+1,n,ys,by omega,by omega,by go_num,HB.out,HO.out,HG.out⟩
     case measure=>simp[intOf];omega
    ·have hc:=cb (Ai HR.out h) HB.out
     obtain⟨p,bo,ve,hT1⟩:=hT
     have hk:=(hT1.l HB.out).cell
     go_wp2_with (at_builtin;refine Jy eltS rfl _ _ rfl w.heap.size _ n _ [pv b] wr.heap.size rfl (Ab HO.out ((Below.refl _ _).alloc (Nat.le_refl _) _)) rfl ?qc0 rfl ?qc1 ?qc2 (by decide) ?qc3 ?_)
     case qc0=>exact fun k v hv=>by rw[Nat.zero_add,(Blk.new wr #[pv b] 127).cell];simpa using hv
     case qc1=>simp[Value.oneCell']
     case qc2=>omega
     case qc3=>omega
     intro v' w3 ho3 hg3 _
     have C3:Chg (Value.slice vo n vc).ownBlock.toList (wr.alloc (.cells #[pv b] 127)) w3:=Chg.grown hg3 (fun k hk=>by rw[hk];simp)
     have B3:Below w.heap.size w w3:=blo (bl2 HB.out ((Below.refl _ _).alloc (Nat.le_refl _) _)) C3 (Wz HO.out) (Nat.le_refl _)
     obtain⟨so',sc',rfl⟩:=Af ho3
     have HO3:Hid (w3.ownsRow w.heap.size 127 1 (.slice so' (n+1) sc') (n+1) ((ys++[b]).map pv)):=by simpa[Hid]using ho3
     clear ho3 hg3 hk hc
     go_wp2_with fail
     go_roundw
     case rel=>exact⟨j+1,n+1,ys++[b],by omega,by omega,by go_num,B3,HO3.out,fun q hq=>by
      rcases List.mem_append.1 hq with h|h
      ·exact HG.out q h
      ·simp at h;subst h;exact⟨hb,p,bo,ve,hT1⟩⟩
     case measure=>simp[intOf];omega
end Go.Proofs.YtbefeflgjipfhaaGreatDoor
