import Derived.Test.YtgopdffmnikhdaaGreatDoorT02
import Derived.Test.YtgopdffmnikhdaaGreatDoorT01
import Derived.Laws.FloatArith
import Derived.Test.YtgopdffmnikhdaaGreatDoorT05
import Derived.Laws.StructEq
import Derived.Deep.RegionHeld3
import Derived.Test.YtgopdffmnikhdaaGreatDoorT03
namespace Go.Proofs.YtgopdffmnikhdaaGreatDoor
open Go.RowKit Go.Deep
def fitsR (np:Nat) (p:Pd) (role:Nat) (x:Int):Bool:=
 match role with
 | 0=>x == 0
 | 1=>inR x 0 (p.regs - 1)
 | 2=>inR x (-p.regs) (p.regs - 1)
 | 3=>inR x (-p.regs) (p.regs - 1)
 | 4=>inR x 0 (p.regs - 1)
 | 5=>inR x 0 (p.regs - 1)
 | 6=>inR x 0 (p.regs - 1)
 | 7=>inR x 0 (p.consts.length - 1)
 | 8=>inR x 0 (p.ups.length - 1)
 | 9=>inR x 0 (np - 1)
 | 10=>inR x 0 (p.ins.length - 1)
 | 11=>inR x 1 100000
 | 12=>inR x 0 100000
 | 13=>inR x 0 p.regs
 | 14=>inR x 0 (p.regs - 2)
 | 15=>inR x 19 22
 | 16=>inR x 1 18
 | 17=>inR x 0 250
 | 18=>inR x 0 (p.regs - 3)
 | 21=>inR x 0 (p.regs - 1)
 | _=>inR x 0 (p.regs - 2)
theorem roles_all (n:Nat) (h:n≤21):n=0∨n=1∨n=2∨n=3∨n=4∨n=5∨n=6∨n=7∨n=8∨n=9∨n=10∨n=11∨n=12∨n=13∨n=14∨n=15∨n=16∨n=17∨n=18∨n=19∨n=20∨n=21:=by omega
def roleTab:List (List Nat):=[[],[11,0,0,0],[12,0,0,0],[0,0,0,0],[1,7,0,0],[1,2,0,0],[1,2,0,0],[1,5,0,0],[5,2,0,0],[1,8,0,0],[8,2,0,0],[1,9,0,0],[1,0,0,0],[4,2,2,0],[4,2,3,0],[1,2,2,0],[2,2,2,0],[1,15,2,0],[1,16,2,2],[10,0,0,0],[2,10,0,0],[2,10,0,0],[1,0,0,0],[6,2,0,0],[6,3,0,0],[1,3,0,0],[1,6,17,0],[1,6,0,0],[1,2,3,0],[3,0,0,0],[2,0,0,0],[10,14,0,0],[0,0,0,0],[13,0,0,0],[13,0,0,0],[2,3,0,0],[0,0,0,0],[18,0,0,0],[18,10,0,0],[18,10,0,0],[19,0,0,0],[20,10,1,0],[21,0,0,0]]
def rolesOf (op:Nat):List Nat:=roleTab.getD op []
theorem ops_all (n:Nat) (h1:1≤n) (h2:n≤42):n=1∨n=2∨n=3∨n=4∨n=5∨n=6∨n=7∨n=8∨n=9∨n=10∨n=11∨n=12∨n=13∨n=14∨n=15∨n=16∨n=17∨n=18∨n=19∨n=20∨n=21∨n=22∨n=23∨n=24∨n=25∨n=26∨n=27∨n=28∨n=29∨n=30∨n=31∨n=32∨n=33∨n=34∨n=35∨n=36∨n=37∨n=38∨n=39∨n=40∨n=41∨n=42:=by omega
def fitAll (np:Nat) (p:Pd):List Nat→List Int→Bool
 | r::rs,x::xs=>fitsR np p r x && fitAll np p rs xs
 | _,_=>true
def Nd.fs (n:Nd):List Int:=[n.a,n.b,n.c,n.d]
def lastB (p:Pd) (i:Nat) (n:Nd):Bool:=!decide (i+1=p.ins.length) || (n.op == 19 || n.op == 29 || n.op == 30)
def insB (np:Nat) (p:Pd) (i:Nat) (n:Nd):Bool:=inR n.op 1 42 && (fitAll np p (rolesOf n.op.toNat) n.fs && lastB p i n)
theorem roles_four {n:Nat} (h1:1≤n) (h2:n≤42):∃r0 r1 r2 r3,rolesOf n=[r0,r1,r2,r3]∧r0≤21∧r1≤21∧r2≤21∧r3≤21:=by
 have h:∀k,k<43→1≤k→(rolesOf k).length=4∧∀r ∈ rolesOf k,r≤21:=by decide
 obtain⟨hl,hr⟩:=h n (by omega) h1
 match hm:rolesOf n,hl,hr with
 | [r0,r1,r2,r3],_,hr=>exact ⟨r0,r1,r2,r3,rfl,hr _ (by simp),hr _ (by simp),hr _ (by simp),hr _ (by simp)⟩
theorem fit_drop {np:Nat} {p:Pd} {rs:List Nat} {xs:List Int} {k r:Nat} {x:Int} (h1:rs[k]?=some r) (h2:xs[k]?=some x):fitAll np p (rs.drop k) (xs.drop k)=(fitsR np p r x && fitAll np p (rs.drop (k+1)) (xs.drop (k+1))):=by
 rw [drop_some h1,drop_some h2];rfl
theorem four_at (r0 r1 r2 r3:Nat) (n:Nd) (k:Nat) (hk:k<4) (g0:r0≤21) (g1:r1≤21) (g2:r2≤21) (g3:r3≤21):∃(r:Nat) (x:Int),r≤21∧[r0,r1,r2,r3][k]?=some r∧n.fs[k]?=some x∧
  (#[.int .i64 r0,.int .i64 r1,.int .i64 r2,.int .i64 r3]:Array Value)[k]?=some (.int .i64 r)∧(#[.int .i64 n.a,.int .i64 n.b,.int .i64 n.c,.int .i64 n.d]:Array Value)[k]?=some (.int .i64 x):=by
 rcases (by omega:k=0∨k=1∨k=2∨k=3) with rfl | rfl | rfl | rfl
 ·exact⟨r0,n.a,g0,rfl,rfl,rfl,rfl⟩
 ·exact⟨r1,n.b,g1,rfl,rfl,rfl,rfl⟩
 ·exact⟨r2,n.c,g2,rfl,rfl,rfl,rfl⟩
 ·exact⟨r3,n.d,g3,rfl,rfl,rfl,rfl⟩
theorem grown_trans {a b c:World} {row:Option Nat} (h:a.grownBy b row) (k:b.grownBy c row):a.grownBy c row:=
 ⟨k.os.trans h.os,k.tape.trans h.tape,k.output.trans h.output,Nat.le_trans h.size k.size,fun i hi hn=>(k.block i (Nat.lt_of_lt_of_le hi h.size) hn).trans (h.block i hi hn)⟩
theorem grown_of_below {a b:World} (h:Below a.heap.size a b) (row:Option Nat):a.grownBy b row:=⟨h.os,h.tape,h.output,h.size,fun i hi _=>h.block i hi⟩
theorem blk_grown {a b:World} {row:Option Nat} {g:Nat} {arr:Array Value} {t:TypeId} (h:Blk a g arr t) (hg:a.grownBy b row) (hn:some g≠row):Blk b g arr t:=(hg.block g h.lt hn).trans h
structure InsFit (np:Nat) (p:Pd) (n:Nd):Prop where
 lo:1≤n.op
 hi:n.op≤42
 fit:fitAll np p (rolesOf n.op.toNat) n.fs=true
def writeT (n:Nd) (ts:List Int):List Int:=
 if n.op=6 then ts.set n.a.toNat 2
 else if n.op=22∨n.op=27∨n.op=28 then ts.set n.a.toNat 3
 else if n.op=40 then ts.set (n.a.toNat+1) 1
 else if n.op=42 then ts.set n.a.toNat 0
 else if n.op=41 then ts.set n.c.toNat 3
 else if (rolesOf n.op.toNat).getD 0 0=1 then ts.set n.a.toNat 1 else ts
theorem fit_into {np:Nat} {p:Pd} {n:Nd} (h:InsFit np p n) (h1:(rolesOf n.op.toNat).getD 0 0=1∨(rolesOf n.op.toNat).getD 0 0=21):0≤n.a∧n.a<p.regs:=by
 obtain⟨r0,r1,r2,r3,hr,_⟩:=roles_four (n:=n.op.toNat) (by have:=h.lo;omega) (by have:=h.hi;omega)
 have hf:=h.fit
 rw [hr] at hf h1
 simp only [List.getD_cons_zero] at h1
 simp only [fitAll,Nd.fs,Bool.and_eq_true] at hf
 have h0:=hf.1
 rcases h1 with rfl | rfl
 ·simp [fitsR,inR] at h0;omega
 ·simp [fitsR,inR] at h0;omega
theorem ints_set (ts:List Int) (i:Nat) (x:Int):(ints ts).set i (.int .i64 x)=ints (ts.set i x):=by simp [ints,List.map_set]
theorem ints_get {ts:List Int} {i:Nat} (h:i<ts.length):(ints ts)[i]?=some (.int .i64 (ts.getD i 0)):=by simp [ints,h]
attribute [local go_sem] run_store_float
theorem owns_parts {w:World} {base e size n:Nat} {v:Value} {xs:List Value} (h:w.ownsRow base e size v n xs):(v=.slice none 0 0∧n=0∧xs=[])∨∃g cap,v=.slice (some ⟨g,0,none⟩) n cap∧base≤g∧Own w g e (cap * size)∧n * size≤cap * size∧CRow w g 0 xs:=by
 obtain⟨h1,⟨rfl,rfl⟩ | ⟨g,cap,cur,rfl,h3,h4,h5,_,h6,h7⟩⟩:=h
 ·exact .inl ⟨rfl,rfl,by simpa using h1⟩
 ·refine .inr ⟨g,cap,rfl,h3,⟨cur,h4,h6⟩,Nat.mul_le_mul_right _ h5,fun i u hu=>?_⟩
  rw [Nat.zero_add]
  have hi:i<n * size:=by have:=(List.getElem?_eq_some_iff.1 hu).1;omega
  rw [←h7,List.getElem?_take_of_lt hi,Array.getElem?_toList] at hu
  simpa [World.cell?,h4] using hu
theorem vals_flat {lo:Nat} {w:World} {b o:Nat} {vs:List Vd} (h:ValsAt lo w (some ⟨b,o,none⟩) vs):∀j u,(vs.flatMap Vd.vals)[j]?=some u→w.cell? ((⟨b,o,none⟩:Addr).add j)=some u:=fun j u hj=>by
 rw [Addr.add_lit]
 induction vs generalizing o j with
 | nil=>simp at hj
 | cons x xs ih=>
  have h0:=h 0 x rfl
  rw [List.flatMap_cons] at hj
  by_cases hlt:j<5
  ·rw [List.getElem?_append_left (by simpa [Vd.vals] using hlt)] at hj
   obtain⟨b',o',e,_,_,q0,q1,q2,q3,q4⟩:=h0
   obtain⟨rfl,rfl⟩:b=b'∧o=o':=by injection e with e;injection e with e1 e2;exact ⟨e1,e2⟩
   match j,hlt,hj with
   | 0,_,hj=>simp [Vd.vals] at hj;rw [←hj];simpa using q0
   | 1,_,hj=>simp [Vd.vals] at hj;rw [←hj];simpa using q1
   | 2,_,hj=>simp [Vd.vals] at hj;rw [←hj];simpa using q2
   | 3,_,hj=>simp [Vd.vals] at hj;rw [←hj];simpa using q3
   | 4,_,hj=>simp [Vd.vals] at hj;rw [←hj];simpa using q4
  ·rw [List.getElem?_append_right (by simp [Vd.vals];omega)] at hj
   have:=ih (o:=o+5) (fun i y hy=>by
    obtain⟨b',o',e,p1,p2,p3⟩:=h (i+1) y (by simpa using hy)
    obtain⟨rfl,rfl⟩:b=b'∧o=o':=by injection e with e;injection e with e1 e2;exact ⟨e1,e2⟩
    exact⟨b,o+5,rfl,p1,p2,by rw [show o+5+i*5=o+(i+1)*5 by omega];exact p3⟩) (j - 5) (by simpa [Vd.vals] using hj)
   rw [show o+5+(j - 5)=o+j by omega] at this
   exact this
theorem vals_one {vs:List Vd} : ∀u ∈ vs.flatMap Vd.vals,u.oneCell'=true:=fun u hu=>by
 obtain⟨x,_,hx⟩:=List.mem_flatMap.1 hu
 simp [Vd.vals] at hx
 rcases hx with rfl | rfl | rfl | rfl | rfl <;> rfl
set_option maxHeartbeats 400000 in
theorem copied_nil (w:World):Calls Tryz.prog 198 #[.slice none 0 0] w fun e w'=>e=.returned (.slice none 0 0)∧w'=w:=by
 go_enter Tryz.func198,Tryz.ntmps198
 go_wp2_with fail
 go_ret
 exact⟨rfl,rfl⟩
set_option maxHeartbeats 400000 in
theorem copied_any (b o cap:Nat) (vs:List Vd) (w:World) (hn:vs.length≤1048576) (h:ValsAt 0 w (some ⟨b,o,none⟩) vs) :
  Calls Tryz.prog 198 #[.slice (some ⟨b,o,none⟩) vs.length cap] w fun e w'=>∃v,e=.returned v∧w'.ownsRow w.heap.size 44 5 v vs.length (vs.flatMap Vd.vals)∧Below w.heap.size w w':=by
 obtain⟨i0,hi,hz0,hz1,hz2⟩:=info_parts eltV.hi
 have HC:Hid (∀j u,(vs.flatMap Vd.vals)[j]?=some u→w.cell? ((⟨b,o,none⟩:Addr).add j)=some u):=vals_flat h
 have HL:Hid ((vs.flatMap Vd.vals).length=vs.length*5):=flat_len (f:=Vd.vals) (m:=5) (fun _=>rfl) vs
 have HO:Hid (∀u ∈ vs.flatMap Vd.vals,u.oneCell'=true):=vals_one
 generalize vs.flatMap Vd.vals=L at *
 generalize vs.length=n at *
 clear h
 go_enter Tryz.func198,Tryz.ntmps198
 go_wp2_with (at_builtin;refine wpList_append_own_at _ rfl _ _ 50 rfl w.heap.size 44 i0 _ 5 48 eltV.ht hi hz0 hz1 hz2 rfl (by decide) _ 0 [] rfl (World.ownsRow_nil _ _ _ _) ⟨b,o,none⟩ n cap L rfl HL.out HC.out HO.out ?qc4 ?qc5 (Nat.le_refl _) ?_)
 case qc4=>unfold maxLen;omega
 case qc5=>omega
 intro v' w1 hown hgrow _ _
 replace hown:w1.ownsRow w.heap.size 44 5 v' n L:=by simpa using hown
 have B1:Below w.heap.size w w1:=(Below.refl _ w).grown hgrow (Nat.le_refl _) (by intro k hk;simp [Value.ownBlock] at hk)
 obtain⟨vo,vc,rfl⟩:=owns_slice hown
 go_wp2_with fail
 go_ret
 exact⟨_,rfl,hown,B1⟩
set_option maxHeartbeats 800000 in
set_option maxHeartbeats 800000 in
theorem textValue_any (s:ByteArray) (w:World):Calls Tryz.prog 32 #[.string s] w fun e w'=>e=.returned (.agg #[.int .i64 4,.int .i64 0,.float .f64 0,.string s,.int .i64 0])∧Below w.heap.size w w':=by
 go_enter Tryz.func32,Tryz.ntmps32
 go_wp2_with fail
 refine bodyPost_ret (v:=.agg #[.int .i64 4,.int .i64 0,.float .f64 0,.string s,.int .i64 0]) (by simp [results,Tryz.results32,go_sem]) rfl ⟨rfl,?_⟩
 repeat (first | exact Below.refl _ _ | refine Below.alloc ?_ (by simp;try omega) _ | refine Below.setCell ?_ (by simp;try omega) _)
end Go.Proofs.YtgopdffmnikhdaaGreatDoor
namespace Go.Proofs.YtgopdffmnikhdaaGreatDoor
open Go.RowKit Go.Deep
attribute [local go_sem] run_store_float
theorem cells_same {W:World} {b:Nat} {arr:Array Value} (h:∀o,W.cell? ⟨b,o,none⟩=arr[o]?) {i:Nat} {v:Value} (hv:arr[i]?=some v):∀o,(W.setCell ⟨b,i,none⟩ v).cell? ⟨b,o,none⟩=arr[o]?:=fun o=>by
 by_cases e:i=o
 ·subst e;rw [World.cell?_setCell_same _ _ _ ((h i).trans hv),hv]
 ·rw [cell_set_nv v e];exact h o
theorem Blk.newHere {W:World} {n:Nat} (arr:Array Value) (t:TypeId) (h:W.heap.size=n):Blk (W.alloc (.cells arr t)) n arr t:=h▸Blk.new W arr t
theorem Blk.there {w:World} {b:Nat} {arr:Array Value} {t:TypeId} (h:Blk w b arr t):w.there b 0 arr.size:=fun j hj=>⟨by rw [Nat.zero_add,h.cell];simp [hj],by rw [Nat.zero_add];exact h.frozen j⟩
theorem Own.there {w:World} {g:Nat} {t:TypeId} {m:Nat} (h:Own w g t m):w.there g 0 m:=fun j hj=>⟨by rw [Nat.zero_add];obtain ⟨v,hv⟩:=h.cell hj;rw [hv];rfl,by rw [Nat.zero_add];exact h.frozen j⟩
theorem res_cell {f:Func} {tmps:Array Value} {w:World} {k:Nat} {ty:TypeId} {b:Nat} {cs:List Value} {d:TypeDesc} (hf:f.results=#[.cell k ty]) (hk:tmps.getD k undef=.pointer (some ⟨b,0,none⟩)) (hc:w.rangeAt b 0 cs)
  (hu:Tryz.prog.underlying ty=some d) (hd:d.isRow=true) (hi:(Tryz.prog.info? ty).map (·.size)=some cs.length):(results f tmps).run Tryz.prog w=.ok (.agg cs.toArray) w:=by
 unfold results
 rw [hf]
 have h1:=run_loadVar_mid (P:=Tryz.prog) w b 0 ty cs d hc hu hd hi
 rw [show (#[ResultVar.cell k ty]:Array ResultVar)=[ResultVar.cell k ty].toArray from rfl]
 simp only [List.mapM_toArray,List.mapM_cons,List.mapM_nil,hk,asAddr]
 simp [h1]
theorem caV_one {vs:List (Int × Int)} : ∀u ∈ vs.flatMap caV,u.oneCell'=true:=fun u hu=>by
 obtain⟨x,_,hx⟩:=List.mem_flatMap.1 hu
 simp [caV] at hx
 rcases hx with rfl | rfl <;> rfl
theorem eltC:Elt 76 220 (.agg #[.int .i64 0,.int .i64 0]) 2 16:=⟨Tryz.underlying76,by kernel_rfl,rfl,by decide⟩
end Go.Proofs.YtgopdffmnikhdaaGreatDoor
namespace Go.Proofs.YtgopdffmnikhdaaGreatDoor
open Go.RowKit Go.Deep
attribute [local go_sem] run_store_float
section
variable {ops : Array Oper} {rest : List Oper} {Q : Exit → Act → World → Prop} {a : Act} {w : World} {oi : Oper}
theorem rgL {id:Nat} {l:List Oper} (h:wpList Tryz.prog l.toArray Q l a w):(Code.region id l.toArray false).wp Tryz.prog Q a w:=wp_region_list h
theorem plF (hgd:oi.guard=none) (h:∃v,(execOp a.eval oi).run Tryz.prog w=.ok (.value v) w∧wpList Tryz.prog ops Q rest (a.put oi.dst v) w):wpList Tryz.prog ops Q (oi::rest) a w:=by
 obtain⟨v,h1,h2⟩:=h
 refine wpList_plain hgd fun K hK=>?_
 unfold Oper.wp
 rw [h1]
 exact hK _ _ h2
theorem plS (hgd:oi.guard=none) (h:∃w',(execOp a.eval oi).run Tryz.prog w=.ok .skip w'∧wpList Tryz.prog ops Q rest (a.put oi.dst undef) w'):wpList Tryz.prog ops Q (oi::rest) a w:=by
 obtain⟨w',h1,h2⟩:=h
 refine wpList_plain hgd fun K hK=>?_
 unfold Oper.wp
 rw [h1]
 exact hK _ _ h2
end
theorem exec_store {W:World} {op:Oper} {a:Act} {ty:TypeId} {x y:Operand} {b o:Nat} {cells:Array Value} (ht:W.there b o cells.size) (hi:(Tryz.prog.info? ty).map (·.size)=some cells.size) (h1:cells.all (·.oneCell')=true) (ho:op.op=.store ty x y) (hx:a.eval x=.pointer (some ⟨b,o,none⟩)) (hy:a.eval y=.agg cells) :
  (execOp a.eval op).run Tryz.prog W=.ok .skip (W.setCells b o cells.toList):=by
 unfold execOp
 simp only [ho,hx,hy,Instr.storeAt,Instr.sureAddr,Sem.run_bind,Sem.run_pure,Result.andThen_ok,run_storeVar_mid W b o ty cells ht hi h1]
end Go.Proofs.YtgopdffmnikhdaaGreatDoor
namespace Go.Proofs.YtgopdffmnikhdaaGreatDoor
open Go.RowKit Go.Deep
attribute [local go_sem] run_store_float
theorem setCell_id {W:World} {b i:Nat} {v:Value} (h:W.cell? ⟨b,i,none⟩=some v):W.setCell ⟨b,i,none⟩ v=W:=by
 unfold World.setCell
 unfold World.cell? at h
 dsimp only at h ⊢
 have hh:(W.heap.modify b fun | .cells c elem frozen=>.cells (if (none:Option Nat).isSome then c else c.setIfInBounds i v) elem frozen | o=>o)=W.heap:=by
  apply Array.ext_getElem?
  intro j
  rw [Array.getElem?_modify]
  split
  ·rename_i e
   subst e
   revert h
   cases W.heap[b]? with
   | none=>intro h;rfl
   | some o=>
    cases o with
    | cells c t f=>
     intro h
     simp at h
     simp only [Option.map_some,Option.isSome_none,Bool.false_eq_true,if_false]
     congr 2
     apply Array.ext_getElem?
     intro k
     rw [Array.getElem?_setIfInBounds]
     split
     ·rename_i e2;subst e2
      obtain⟨hlt,_⟩:=Array.getElem?_eq_some_iff.1 h
      rw [if_pos hlt,h]
     ·rfl
    | _=>intro h;simp at h
  ·rfl
 exact congrArg (fun h=>({W with heap:=h} : World)) hh
def oneMap:Obj:=.map #[{key:=.pointer none,val:=.int .i64 (-1),born:=0}] 1
theorem checkKey_ptr (e:Bool) (w:World):(Instr.checkKey e 10000 94 (.pointer none)).run Tryz.prog w=.ok () w:=by
 show (Instr.checkKey e (9999+1) 94 (.pointer none)).run Tryz.prog w=_
 unfold Instr.checkKey
 simp [run_underlying Tryz.underlying94]
theorem push_set (h:Array Obj) (a o:Obj):(h.push a).setIfInBounds h.size o=h.push o:=by
 apply Array.ext_getElem?
 intro i
 rw [Array.getElem?_setIfInBounds,Array.getElem?_push,Array.getElem?_push]
 by_cases e:i=h.size
 ·subst e;simp
 ·simp [e,Ne.symm e]
theorem run_insert_nil (w:World) {n:Nat} (hn:w.heap.size=n):(Instr.mapUpdate 499 (.map (some n)) (.pointer none) (.int .i64 (-1))).run Tryz.prog (w.alloc (.map #[] 0))=.ok () (w.alloc oneMap):=by
 subst hn
 have hh:(w.alloc (.map #[] 0)).heap[w.heap.size]?=some (.map #[] 0):=blk_alloc_new _ _
 have g:=Go.run_getObj_map (P:=Tryz.prog) (w:=w.alloc (.map #[] 0)) (hb:=hh)
 have g2:∀o,(setObj w.heap.size o).run Tryz.prog (w.alloc (.map #[] 0))=.ok () (w.alloc o):=fun o=>by
  show (match (w.alloc (.map #[] 0)).heap[w.heap.size]? with | some (.cells _ _ _)=>_ | some _=>_ | none=>_)=_
  rw [hh]
  exact congrArg (fun h=>Result.ok () {w with heap:=h}) (push_set w.heap _ o)
 simp only [Instr.mapUpdate,Sem.run_bind,run_underlying Tryz.underlying499,Result.andThen_ok,g,checkKey_ptr,Instr.findKey,run_underlying Tryz.underlying94,Instr.findNow,Sem.run_pure,g2]
 simp [oneMap]
theorem run_lookup_nil {W:World} {b:Nat} (h:W.heap[b]?=some oneMap):(Instr.lookup 499 (.map (some b)) (.pointer none) false).run Tryz.prog W=.ok (.int .i64 (-1)) W:=by
 unfold oneMap at h
 have g:=Go.run_getObj_map (P:=Tryz.prog) (w:=W) (hb:=h)
 simp only [Instr.lookup,Sem.run_bind,run_underlying Tryz.underlying499,Result.andThen_ok,g,checkKey_ptr,Instr.findKey,run_underlying Tryz.underlying94,Instr.findNow,Instr.sameNow,Instr.findAsking,Sem.run_pure]
 rw [run_equal_pointer_nil W 94 none (by kernel_rfl)]
 rfl
end Go.Proofs.YtgopdffmnikhdaaGreatDoor
namespace Go.Proofs.YtgopdffmnikhdaaGreatDoor
open Go.RowKit Go.Deep

/-- The first n cells of a row are ints from 0 up to below B. -/
def IntsIn (w : World) (g n : Nat) (B : Int) : Prop := ∀ i, i < n → ∃ x : Int, w.cell? ⟨g, i, none⟩ = some (.int .i64 x) ∧ 0 ≤ x ∧ x < B
theorem IntsIn.later {w w' : World} {g n : Nat} {B : Int} (h : IntsIn w g n B) (hb : Below w.heap.size w w') : IntsIn w' g n B := fun i hi => by
  obtain ⟨x, h1, h2⟩ := h i hi
  exact ⟨x, cb h1 hb, h2⟩
theorem IntsIn.less {w : World} {g n k : Nat} {B : Int} (h : IntsIn w g n B) (hk : k ≤ n) : IntsIn w g k B := fun i hi => h i (by omega)
theorem IntsIn.set {w : World} {g n k c : Nat} {B x : Int} (h : IntsIn w g n B) (ho : Own w g 3 c) (hk : k < c) (h0 : 0 ≤ x) (h1 : x < B) : IntsIn (w.setCell ⟨g, k, none⟩ (.int .i64 x)) g n B := fun i hi => by
  by_cases e : i = k
  · subst e
    obtain ⟨u, hu⟩ := ho.cell hk
    exact ⟨x, World.cell?_setCell_same _ _ _ hu, h0, h1⟩
  · obtain ⟨y, h2, h3⟩ := h i hi
    exact ⟨y, (World.cell?_setCell_other _ _ _ _ (by intro h; injection h with _ h; exact e h.symm)).trans h2, h3⟩
theorem heapSwap_any (b o g n c i j : Nat) (B : Int) (w : World) (hi : i < n) (hj : j < n) (hn : n ≤ c) (h : w.cell? ⟨b, o, none⟩ = some (.slice (some ⟨g, 0, none⟩) n c)) (hO : Own w g 3 c) (hI : IntsIn w g n B) :
    Calls Tryz.prog 189 #[.pointer (some ⟨b, o, none⟩), .int .i64 i, .int .i64 j] w fun e w' => e = .returned (.tuple #[]) ∧ Chg [g] w w' ∧ Own w' g 3 c ∧ IntsIn w' g n B := by
  obtain ⟨x, hx, hx0, hx1⟩ := hI i hi
  obtain ⟨y, hy, hy0, hy1⟩ := hI j hj
  have f1 := hO.frozen i
  have f2 := hO.frozen j
  have i0 : (0 : Int) ≤ i := by omega
  have i1 : (i : Int) < n := by omega
  have j0 : (0 : Int) ≤ j := by omega
  have j1 : (j : Int) < n := by omega
  have s1 : (w.setCell ⟨g, i, none⟩ (.int .i64 y)).cell? ⟨g, j, none⟩ = some (.int .i64 y) := by
    by_cases e : j = i
    · subst e; exact World.cell?_setCell_same _ _ _ hx
    · exact (World.cell?_setCell_other _ _ _ _ (by intro h; injection h with _ h; exact e h.symm)).trans hy
  have s2 := (hO.set i (.int .i64 y)).frozen j
  have HI : Hid (IntsIn w g n B) := hI
  have HO : Hid (Own w g 3 c) := hO
  clear hI hO
  go_enter Tryz.func189, Tryz.ntmps189
  go_region
  go_wp2_with fail
  go_end0
  exact ⟨rfl, (((Chg.refl _ _).set (by simp) _ _).set (by simp) _ _).below (Below.refl _ _).drew, ((HO.out.set i _).set j _).later (Below.refl _ _).drew, ((HI.out.set HO.out (by omega) hy0 hy1).set (HO.out.set i _) (by omega) hx0 hx1).later (Below.refl _ _).drew⟩
/-- The place of the least of three. -/
theorem leastFrom_any (b o g n c k : Nat) (B : Int) (w : World) (hk : k < n ∨ k = 0) (hm : n ≤ 1000000) (h : w.cell? ⟨b, o, none⟩ = some (.slice (some ⟨g, 0, none⟩) n c)) (hI : IntsIn w g n B) :
    Calls Tryz.prog 318 #[.pointer (some ⟨b, o, none⟩), .int .i64 k] w fun e w' => ∃ r : Nat, e = .returned (.int .i64 r) ∧ (r = k ∨ k < r ∧ r < n) ∧ Below w.heap.size w w' := by
  have w1 : IntKind.i64.wrap (2 * (k : Int)) = 2 * k := wr (by omega) (by omega)
  have w2 : IntKind.i64.wrap (2 * (k : Int) + 1) = 2 * k + 1 := wr (by omega) (by omega)
  have w3 : IntKind.i64.wrap (2 * (k : Int) + 2) = 2 * k + 2 := wr (by omega) (by omega)
  go_enter Tryz.func318, Tryz.ntmps318
  go_wp2_with fail
  have HI : Hid (IntsIn w g n B) := hI
  have HW : Hid (IntKind.i64.wrap (2 * (k : Int)) = 2 * k) := w1
  clear hI w1 w2 w3
  go_loopw [5, 17] (fun y x wr => ∃ i r : Nat, i ≤ 2 ∧ x = .int .i64 i ∧ y = .int .i64 r ∧ (r = k ∨ k < r ∧ r < n) ∧ Hid (Below w.heap.size w wr) ∧ Hid (Blk wr w.heap.size #[.int .i64 (2 * (k : Int) + 1), .int .i64 (2 * (k : Int) + 2)] 3)) (fun _ x _ => 2 - (intOf x).toNat)
  case atStart => exact ⟨0, k, by omega, rfl, rfl, .inl rfl, (Below.refl _ _).alloc (Nat.le_refl _) _, Blk.new w _ _⟩
  case round =>
    obtain ⟨i, r, hi, rfl, rfl, hr, HB, HR⟩ := hrel
    have hs := HB.out.size
    have hc : wr.cell? ⟨b, o, none⟩ = some (.slice (some ⟨g, 0, none⟩) n c) := cb h HB.out
    have HI' : Hid (IntsIn wr g n B) := HI.out.later HB.out
    have hrk : r < n ∨ n ≤ 1 := by omega
    clear h HI
    obtain rfl | ⟨v, hv⟩ : i = 2 ∨ ∃ v : Nat, v = 2 * k + 1 + i ∧ i < 2 := by by_cases h : i = 2; exact .inl h; exact .inr ⟨_, rfl, by omega⟩
    · go_wp2_with fail
      go_ret
      exact ⟨r, rfl, hr, HB.out⟩
    · obtain ⟨hv, hi2⟩ := hv
      have hrow : wr.cell? ⟨w.heap.size, i, none⟩ = some (.int .i64 v) := by
        rw [HR.out.cell i, hv]
        obtain rfl | rfl : i = 0 ∨ i = 1 := by omega
        · simp
        · simp; omega
      have i0 : (0 : Int) ≤ i := by omega
      have i1 : (i : Int) < 2 := by omega
      have v0 : (0 : Int) ≤ v := by omega
      have HV : Hid (v = 2 * k + 1 + i) := hv
      clear hv
      by_cases hvn : v < n
      · have v1 : (v : Int) < n := by omega
        obtain ⟨x, hx, _, _⟩ := HI'.out v hvn
        have hrn : r < n := by have := HV.out; omega
        have r0 : (0 : Int) ≤ r := by omega
        have r1 : (r : Int) < n := by omega
        obtain ⟨y, hy, _, _⟩ := HI'.out r hrn
        go_wp2_with fail
        go_region
        by_cases hxy : x < y
        · go_wp2_with fail
          go_roundw
          case rel => exact ⟨i + 1, v, by omega, by go_num, rfl, .inr ⟨by have := HV.out; omega, hvn⟩, HB.out.drew, HR.out.later (Below.refl _ _).drew⟩
          case measure => simp [intOf]; omega
        · go_wp2_with fail
          go_roundw
          case rel => exact ⟨i + 1, r, by omega, by go_num, rfl, hr, HB.out.drew, HR.out.later (Below.refl _ _).drew⟩
          case measure => simp [intOf]; omega
      · have v1 : ¬ (v : Int) < n := by omega
        go_wp2_with fail
        go_region
        go_wp2_with fail
        go_roundw
        case rel => exact ⟨i + 1, r, by omega, by go_num, rfl, hr, HB.out.drew, HR.out.later (Below.refl _ _).drew⟩
        case measure => simp [intOf]; omega
set_option maxHeartbeats 2000000 in
theorem heapPop_any (b o g m c : Nat) (B : Int) (w : World) (arr : Array Value) (tb : TypeId) (hb : b ≠ g) (hn : m + 1 ≤ c) (hm : m ≤ 1000000) (hA : Blk w b arr tb) (h : arr[o]? = some (.slice (some ⟨g, 0, none⟩) (m + 1) c)) (hO : Own w g 3 c) (hI : IntsIn w g (m + 1) B) :
    Calls Tryz.prog 259 #[.pointer (some ⟨b, o, none⟩)] w fun e w' => ∃ x : Int, e = .returned (.int .i64 x) ∧ 0 ≤ x ∧ x < B ∧ Chg [b, g] w w' ∧ Blk w' b (arr.setIfInBounds o (.slice (some ⟨g, 0, none⟩) m c)) tb ∧ Own w' g 3 c ∧ IntsIn w' g m B := by
  obtain ⟨x, hx, hx0, hx1⟩ := hI 0 (by omega)
  have hc : w.cell? ⟨b, o, none⟩ = some (.slice (some ⟨g, 0, none⟩) (m + 1) c) := (hA.cell o).trans h
  have n1 : (0 : Int) < ((m + 1 : Nat) : Int) := by omega
  have w1 : IntKind.i64.wrap (((m + 1 : Nat) : Int) - 1) = (m : Int) := by rw [wr (by omega) (by omega)]; omega
  have w1' : IntKind.i64.wrap ((m : Int) + 1 - 1) = (m : Int) := by rw [wr (by omega) (by omega)]; omega
  have HI : Hid (IntsIn w g (m + 1) B) := hI
  have HO : Hid (Own w g 3 c) := hO
  have HA : Hid (Blk w b arr tb) := hA
  have HH : Hid (arr[o]? = some (.slice (some ⟨g, 0, none⟩) (m + 1) c)) := h
  clear hI hO hA h
  go_enter Tryz.func259, Tryz.ntmps259
  go_wp2_with fail
  go_region
  go_wp2_with fail
  refine (heapSwap_any b o g (m + 1) c 0 m B _ (by omega) (by omega) hn (cb hc (Below.refl _ _).drew) (HO.out.later (Below.refl _ _).drew) (HI.out.later (Below.refl _ _).drew)).mono ?_
  rintro e w2 ⟨rfl, hC2, hO2, hI2⟩
  have A2 := (HA.out.later (Below.refl _ _).drew).chg hC2 (by simpa using hb)
  have c2 : w2.cell? ⟨b, o, none⟩ = some (.slice (some ⟨g, 0, none⟩) (m + 1) c) := (A2.cell o).trans HH.out
  have f2 := A2.frozen o
  have mi0 : (0 : Int) ≤ m := by omega
  have mi1 : (m : Int) ≤ c := by omega
  have HC2 : Hid (Chg [b, g] w w2) := ((Chg.refl _ _).below (Below.refl _ _).drew).trans hC2 (by simp)
  have HO2 : Hid (Own w2 g 3 c) := hO2
  have HI2 : Hid (IntsIn w2 g (m + 1) B) := hI2
  have HA2 : Hid (Blk w2 b arr tb) := A2
  clear hC2 hO2 hI2 A2 HA HO HI hx hc
  go_wp2_with fail
  have hI3 : IntsIn (w2.setCell ⟨b, o, none⟩ (.slice (some ⟨g, 0, none⟩) m c)) g m B := fun i hi => by
    obtain ⟨y, h1, h2⟩ := HI2.out i (by omega)
    exact ⟨y, (World.cell?_setCell_other _ _ _ _ (by intro h; injection h with h _; exact hb h)).trans h1, h2⟩
  have hA3 := HA2.out.set o (.slice (some ⟨g, 0, none⟩) m c)
  have hO3 : Own (w2.setCell ⟨b, o, none⟩ (.slice (some ⟨g, 0, none⟩) m c)) g 3 c := HO2.out.of_block (Below.heap_setCell _ _ _ _ (Ne.symm hb))
  have hC3 := HC2.out.set (g := b) (by simp) o (.slice (some ⟨g, 0, none⟩) m c)
  have hh : ∀ {W : World}, Blk W b (arr.setIfInBounds o (.slice (some ⟨g, 0, none⟩) m c)) tb → W.cell? ⟨b, o, none⟩ = some (.slice (some ⟨g, 0, none⟩) m c) := fun {W} hW => by rw [hW.cell o, Array.getElem?_setIfInBounds_self]; obtain ⟨hl, _⟩ := Array.getElem?_eq_some_iff.1 HH.out; simp [hl]
  clear HC2 HO2 HI2 HA2
  refine (leastFrom_any b o g m c 0 B _ (.inr rfl) hm (hh hA3) hI3).mono ?_
  rintro e w3 ⟨r, rfl, hr, hw3⟩
  have HS : Hid (Chg [b, g] w w3 ∧ Blk w3 b (arr.setIfInBounds o (.slice (some ⟨g, 0, none⟩) m c)) tb ∧ Own w3 g 3 c ∧ IntsIn w3 g m B) := ⟨hC3.below hw3, hA3.later hw3, hO3.later hw3, hI3.later hw3⟩
  have Hh : Hid (∀ {W : World}, Blk W b (arr.setIfInBounds o (.slice (some ⟨g, 0, none⟩) m c)) tb → W.cell? ⟨b, o, none⟩ = some (.slice (some ⟨g, 0, none⟩) m c)) := hh
  clear hC3 hA3 hO3 hI3 hw3 hh c2 f2
  go_wp2_with fail
  go_loopw [5, 6] (fun y z wr => ∃ a r : Nat, y = .int .i64 a ∧ z = .int .i64 r ∧ (r = a ∨ a < r ∧ r < m) ∧ Hid (Chg [b, g] w wr ∧ Blk wr b (arr.setIfInBounds o (.slice (some ⟨g, 0, none⟩) m c)) tb ∧ Own wr g 3 c ∧ IntsIn wr g m B)) (fun y _ _ => m - (intOf y).toNat)
  case atStart => exact ⟨0, r, rfl, rfl, hr, HS.out⟩
  case round =>
    obtain ⟨a, r, rfl, rfl, hr, HS⟩ := hrel
    rcases hr with rfl | ⟨hr1, hr2⟩
    · go_wp2_with fail
      go_ret
      obtain ⟨h1, h2, h3, h4⟩ := HS.out
      exact ⟨x, rfl, hx0, hx1, h1, h2, h3, h4⟩
    · have hne : ((r : Int) == (a : Int)) = false := by simp; omega
      have hne2 : ¬ (r : Int) = (a : Int) := by omega
      go_wp2_with fail
      obtain ⟨h1, h2, h3, h4⟩ := HS.out
      refine (heapSwap_any b o g m c a r B _ (by omega) hr2 (by omega) (Hh.out h2) h3 h4).mono ?_
      rintro e w4 ⟨rfl, hC4, hO4, hI4⟩
      have A4 := h2.chg hC4 (by simpa using hb)
      have C4 := h1.trans hC4 (by simp)
      clear h1 h2 h3 h4 HS
      have HC4 : Hid (Chg [b, g] w w4) := C4
      clear hC4 C4
      go_wp2_with fail
      refine (leastFrom_any b o g m c r B _ (.inl hr2) hm (Hh.out A4) hI4).mono ?_
      rintro e w5 ⟨r', rfl, hr', hw5⟩
      have HS : Hid (Chg [b, g] w w5 ∧ Blk w5 b (arr.setIfInBounds o (.slice (some ⟨g, 0, none⟩) m c)) tb ∧ Own w5 g 3 c ∧ IntsIn w5 g m B) := ⟨HC4.out.below hw5, A4.later hw5, hO4.later hw5, hI4.later hw5⟩
      clear HC4 A4 hO4 hI4 hw5
      go_wp2_with fail
      go_roundw
      case rel => exact ⟨r, r', rfl, rfl, hr', HS.out⟩
      case measure => simp [intOf]; omega

theorem eltS : Elt 73 94 (.pointer none) 1 8 := ⟨Tryz.underlying73, by kernel_rfl, rfl, by decide⟩
theorem Chg.grown {L : List Nat} {w w' : World} {row : Option Nat} (h : w.grownBy w' row) (hr : ∀ k, row = some k → k ∈ L) : Chg L w w' :=
  ⟨h.os, h.tape, h.output, h.size, fun b hb hl => h.block b hl (fun e => hb (hr b e.symm))⟩
/-- Blocks of two types are two. -/
theorem own_blk_ne {w : World} {g b n : Nat} {t t' : TypeId} {arr : Array Value} (h : Own w g t n) (k : Blk w b arr t') (ht : t ≠ t') : g ≠ b := by
  rintro rfl
  obtain ⟨c, hc, _⟩ := h
  have e := hc.symm.trans k
  injection e with e
  injection e with _ e
  exact ht e
theorem own_own_ne {w : World} {g b n m : Nat} {t t' : TypeId} (h : Own w g t n) (k : Own w b t' m) (ht : t ≠ t') : g ≠ b := by
  obtain ⟨c, hc, _⟩ := k
  exact own_blk_ne h (t' := t') (arr := c) hc ht
theorem row_ne {w : World} {v : Value} {n b e lo : Nat} {xs : List Value} {arr : Array Value} {t : TypeId} (h : w.ownsRow lo e 1 v n xs) (k : Blk w b arr t) (ht : e ≠ t) : ∀ g, v.ownBlock = some g → g ≠ b := fun g hg => by
  rcases owns_parts h with ⟨rfl, _, _⟩ | ⟨g', c, rfl, _, ho, _, _⟩
  · simp [Value.ownBlock] at hg
  · simp [Value.ownBlock] at hg
    subst hg
    exact own_blk_ne ho k ht
theorem owns_chg {w w' : World} {v : Value} {n e lo : Nat} {xs : List Value} {L : List Nat} (h : w.ownsRow lo e 1 v n xs) (hc : Chg L w w') (hn : ∀ g, v.ownBlock = some g → g ∉ L) : w'.ownsRow lo e 1 v n xs := owns_other h fun k hk => hc.block k (hn k hk) (h.lt k hk).2
theorem roomPop_any (bm g k c : Nat) (B : Int) (m : Mc) (w : World) (hn : k + 1 ≤ c) (hm : k ≤ 1000000) (X : MAt w bm { m with free := .slice (some ⟨g, 0, none⟩) (k + 1) c }) (hO : Own w g 3 c) (hI : IntsIn w g (k + 1) B) :
    Calls Tryz.prog 202 #[.pointer (some ⟨bm, 0, none⟩)] w fun e w' => ∃ x : Int, e = .returned (.int .i64 x) ∧ 0 ≤ x ∧ x < B ∧ Chg [bm, g] w w' ∧ MAt w' bm { m with free := .slice (some ⟨g, 0, none⟩) k c } ∧ Own w' g 3 c ∧ IntsIn w' g k B := by
  have hne : bm ≠ g := Ne.symm (own_blk_ne hO X (by decide))
  have k0 : (0 : Int) < ((k + 1 : Nat) : Int) := by omega
  go_enter Tryz.func202, Tryz.ntmps202
  go_wp2_with fail
  refine (heapCount_any bm 6 _ _ _ _ (X.cell 6)).mono ?_
  rintro e w1 ⟨rfl, rfl⟩
  go_wp2_with fail
  refine (heapPop_any bm 6 g k c B _ _ _ hne hn hm X rfl hO hI).mono ?_
  rintro e w2 ⟨x, rfl, hx0, hx1, hC, hA, hO2, hI2⟩
  go_wp2_with fail
  go_ret
  exact ⟨x, rfl, hx0, hx1, hC, hA, hO2, hI2⟩
theorem roomApp_any (lo bm L fc : Nat) (fo : Option Addr) (sv : Value) (xs : List Value) (m : Mc) (w : World) (hm : L ≤ 1000000) (hlo : lo ≤ w.heap.size) (X : MAt w bm { m with slots := sv, free := .slice fo 0 fc }) (hR : w.ownsRow lo 94 1 sv L xs) :
    Calls Tryz.prog 202 #[.pointer (some ⟨bm, 0, none⟩)] w fun e w' => ∃ v', e = .returned (.int .i64 L) ∧ Chg (bm :: sv.ownBlock.toList) w w' ∧ MAt w' bm { m with slots := v', free := .slice fo 0 fc } ∧ w'.ownsRow lo 94 1 v' (L + 1) (xs ++ [.pointer none]) := by
  obtain ⟨so, sc, rfl⟩ := owns_slice hR
  have hbm := X.lt
  have HR : Hid (w.ownsRow lo 94 1 (.slice so L sc) L xs) := hR
  have HX : Hid (MAt w bm { m with slots := .slice so L sc, free := .slice fo 0 fc }) := X
  have x := X.cell
  clear hR X
  go_enter Tryz.func202, Tryz.ntmps202
  go_wp2_with fail
  refine (heapCount_any bm 6 _ _ _ _ (x 6)).mono ?_
  rintro e w1 ⟨rfl, rfl⟩
  go_wp2_with (at_builtin; refine app_one eltS rfl _ _ rfl lo _ L _ [.pointer none] w1.heap.size rfl (owns_below HR.out ((Below.refl _ _).alloc (Nat.le_refl _) _)) rfl ?qc0 rfl ?qc1 ?qc2 (by decide) ?qc3 ?_)
  case qc0 => exact fun i v hv => by rw [Nat.zero_add, (Blk.new w1 #[.pointer none] 94).cell]; simpa using hv
  case qc1 => simp [Value.oneCell']
  case qc2 => omega
  case qc3 => simp; omega
  intro v' w3 ho3 hg3 _
  have hne := row_ne HR.out HX.out (by decide)
  have B1 : ∀ o, Below w1.heap.size w1 (w1.alloc o) := fun o => (Below.refl _ _).alloc (Nat.le_refl _) o
  have C3 : Chg (bm :: (Value.slice so L sc).ownBlock.toList) w1 w3 := ((Chg.refl _ _).below (B1 _)).trans (Chg.grown (L := (Value.slice so L sc).ownBlock.toList) hg3 (fun k hk => by rw [hk]; simp)) (fun b hb => List.mem_cons_of_mem _ hb)
  have X3 : MAt w3 bm _ := (HX.out.alloc _).chg (Chg.grown (L := (Value.slice so L sc).ownBlock.toList) hg3 (fun k hk => by rw [hk]; simp)) (fun hb => by
    cases hq : (Value.slice so L sc).ownBlock with
    | none => rw [hq] at hb; simp at hb
    | some g => rw [hq] at hb; simp at hb; exact hne g hq hb.symm)
  obtain ⟨so', sc', rfl⟩ := owns_slice ho3
  have hne3 := row_ne ho3 X3 (by decide)
  have HO3 : Hid (w3.ownsRow lo 94 1 (.slice so' (L + 1) sc') (L + 1) (xs ++ [.pointer none])) := ho3
  have HC3 : Hid (Chg (bm :: (Value.slice so L sc).ownBlock.toList) w1 w3) := C3
  have HX3 : Hid (MAt w3 bm _) := X3
  have x3 := X3.cell
  have f3 := X3.frozen
  have x4 := (X3.set 5 (.slice so' (L + 1) sc')).cell
  have e1 : IntKind.i64.wrap ((L : Int) + 1 - 1) = L := by rw [wr (by omega) (by omega)]; omega
  have e2 : IntKind.i64.wrap (((L + 1 : Nat) : Int) - 1) = L := by rw [wr (by omega) (by omega)]; omega
  clear ho3 C3 X3 hg3 x HR HX hne
  go_wp2_with fail
  go_ret
  exact ⟨_, rfl, HC3.out.set (by simp) _ _, HX3.out.set 5 _, owns_chg HO3.out ((Chg.refl [bm] _).set (by simp) 5 _) (fun g hg => by simpa using hne3 g hg)⟩
/-- Nothing but blocks of the types ts has changed. -/
structure FrT (ts : List TypeId) (w w' : World) : Prop where
  os : w'.os = w.os
  tape : w'.tape = w.tape
  output : w'.output = w.output
  size : w.heap.size ≤ w'.heap.size
  block : ∀ (b : Nat) (c : Array Value) (t : TypeId) (f : Nat × Nat), w.heap[b]? = some (Obj.cells c t f) → t ∉ ts → w'.heap[b]? = some (Obj.cells c t f)
theorem FrT.refl (ts : List TypeId) (w : World) : FrT ts w w := ⟨rfl, rfl, rfl, Nat.le_refl _, fun _ _ _ _ h _ => h⟩
theorem FrT.trans {ts us : List TypeId} {a b c : World} (h : FrT ts a b) (k : FrT us b c) (hs : ∀ t ∈ us, t ∈ ts) : FrT ts a c :=
  ⟨k.os.trans h.os, k.tape.trans h.tape, k.output.trans h.output, Nat.le_trans h.size k.size, fun i x t f hx ht => k.block i x t f (h.block i x t f hx ht) (fun e => ht (hs t e))⟩
theorem FrT.chg {ts : List TypeId} {L : List Nat} {w w' : World} (h : Chg L w w') (hL : ∀ b ∈ L, ∃ (c : Array Value) (t : TypeId) (f : Nat × Nat), w.heap[b]? = some (Obj.cells c t f) ∧ t ∈ ts) : FrT ts w w' :=
  ⟨h.os, h.tape, h.output, h.size, fun b c t f hb ht => (h.block b (fun hm => by
    obtain ⟨c', t', f', h1, h2⟩ := hL b hm
    have e := h1.symm.trans hb
    injection e with e
    injection e with _ e
    exact ht (e ▸ h2)) (Array.getElem?_eq_some_iff.1 hb).1).trans hb⟩
theorem FrT.below {ts : List TypeId} {w w' : World} (h : Below w.heap.size w w') : FrT ts w w' := FrT.chg (L := []) ((Chg.refl [] w).below h) (by simp)
theorem Blk.fr {ts : List TypeId} {w w' : World} {b : Nat} {arr : Array Value} {t : TypeId} (h : Blk w b arr t) (k : FrT ts w w') (ht : t ∉ ts) : Blk w' b arr t := k.block _ _ _ _ h ht
theorem Own.fr {ts : List TypeId} {w w' : World} {b n : Nat} {t : TypeId} (h : Own w b t n) (k : FrT ts w w') (ht : t ∉ ts) : Own w' b t n := by
  obtain ⟨c, hc, hn⟩ := h
  exact ⟨c, k.block _ _ _ _ hc ht, hn⟩
/-- The slots of a machine, and those that are free. -/
structure SlSt (lo : Nat) (w : World) (bm : Nat) (m : Mc) (L n : Nat) (xs : List Value) : Prop where
  x : MAt w bm m
  row : w.ownsRow lo 94 1 m.slots L xs
  heap : (n = 0 ∧ ∃ fo fc, m.free = .slice fo 0 fc) ∨ ∃ g c, m.free = .slice (some ⟨g, 0, none⟩) n c ∧ n ≤ c ∧ Own w g 3 c ∧ IntsIn w g n L
  hl : ∀ g, m.free.ownBlock = some g → lo ≤ g
  lb : lo ≤ bm
theorem Chg.low {lo : Nat} {L : List Nat} {w w' : World} (h : Chg L w w') (hs : lo ≤ w.heap.size) (hL : ∀ b ∈ L, lo ≤ b) : Below lo w w' := ⟨h.os, h.tape, h.output, h.size, fun k hk => h.block k (fun e => by have := hL k e; omega) (by omega)⟩
abbrev tsS : List TypeId := [81, 94, 3]
theorem row_ty {w : World} {v : Value} {n e lo : Nat} {xs : List Value} (h : w.ownsRow lo e 1 v n xs) : ∀ g, v.ownBlock = some g → ∃ (c : Array Value) (f : Nat × Nat), w.heap[g]? = some (Obj.cells c e f) := fun g hg => by
  rcases owns_parts h with ⟨rfl, _, _⟩ | ⟨g', c, rfl, _, ⟨d, hd, _⟩, _, _⟩
  · simp [Value.ownBlock] at hg
  · simp [Value.ownBlock] at hg
    subst hg
    exact ⟨d, _, hd⟩
theorem room_any (lo bm L n : Nat) (xs : List Value) (m : Mc) (w : World) (hm : L ≤ 1000000) (hn : n ≤ 1000000) (S : SlSt lo w bm m L n xs) :
    Calls Tryz.prog 202 #[.pointer (some ⟨bm, 0, none⟩)] w fun e w' => ∃ (p L' n' : Nat) (xs' : List Value) (sv fv : Value), e = .returned (.int .i64 p) ∧ p < L' ∧ (n = 0 ∧ L' = L + 1 ∧ n' = 0 ∧ xs' = xs ++ [.pointer none] ∨ n = n' + 1 ∧ L' = L ∧ xs' = xs) ∧ FrT tsS w w' ∧ Below lo w w' ∧ SlSt lo w' bm { m with slots := sv, free := fv } L' n' xs' := by
  obtain ⟨X, hR, hh, hhl, hlb⟩ := S
  have hlo : lo ≤ w.heap.size := Nat.le_trans hlb (Nat.le_of_lt X.lt)
  have tX : ∃ (c : Array Value) (t : TypeId) (f : Nat × Nat), w.heap[bm]? = some (Obj.cells c t f) ∧ t ∈ tsS := ⟨_, _, _, X, by simp⟩
  cases n with
  | zero =>
    obtain ⟨fo, fc, hf⟩ : ∃ fo fc, m.free = .slice fo 0 fc := by
      rcases hh with ⟨_, h⟩ | ⟨g, c, h, _⟩
      · exact h
      · exact ⟨_, _, h⟩
    have X' : MAt w bm { m with slots := m.slots, free := .slice fo 0 fc } := by rw [← hf]; exact X
    refine (roomApp_any lo bm L fc fo m.slots xs m w hm hlo X' hR).mono ?_
    rintro e w1 ⟨v', rfl, hC, hX, hR1⟩
    refine ⟨L, L + 1, 0, _, v', .slice fo 0 fc, rfl, by omega, .inl ⟨rfl, rfl, rfl, rfl⟩, FrT.chg hC ?_, hC.low hlo (fun b hb => ?_), hX, hR1, .inl ⟨rfl, fo, fc, rfl⟩, by rw [← hf]; exact hhl, hlb⟩
    rotate_left
    · rcases List.mem_cons.1 hb with rfl | hb
      · exact hlb
      · exact (hR.lt b (by simpa using hb)).1
    intro b hb
    rcases List.mem_cons.1 hb with rfl | hb
    · exact tX
    · obtain ⟨c, f, h⟩ := row_ty hR b (by simpa using hb)
      exact ⟨c, _, f, h, by simp⟩
  | succ k =>
    obtain ⟨g, c, hf, hc, hO, hI⟩ : ∃ g c, m.free = .slice (some ⟨g, 0, none⟩) (k + 1) c ∧ k + 1 ≤ c ∧ Own w g 3 c ∧ IntsIn w g (k + 1) L := by
      rcases hh with ⟨h, _⟩ | h
      · omega
      · exact h
    have X' : MAt w bm { m with free := .slice (some ⟨g, 0, none⟩) (k + 1) c } := by rw [← hf]; exact X
    have hgm := own_blk_ne hO X (by decide)
    have hrm := row_ne hR X (by decide)
    have hrg : ∀ q, m.slots.ownBlock = some q → q ≠ g := fun q hq => by
      obtain ⟨d, f, h⟩ := row_ty hR q hq
      rintro rfl
      obtain ⟨c', h', _⟩ := hO
      have e := h.symm.trans h'
      injection e with e
      injection e with _ e
      exact absurd e (by decide)
    refine (roomPop_any bm g k c L m w hc (by omega) X' hO hI).mono ?_
    rintro e w1 ⟨x, rfl, hx0, hx1, hC, hX, hO1, hI1⟩
    obtain ⟨p, rfl⟩ := Int.eq_ofNat_of_zero_le hx0
    refine ⟨p, L, k, xs, m.slots, .slice (some ⟨g, 0, none⟩) k c, rfl, by omega, .inr ⟨rfl, rfl, rfl⟩, FrT.chg hC ?_, hC.low hlo (fun b hb => ?_), hX, owns_chg hR hC (fun q hq => by simp; exact ⟨hrm q hq, hrg q hq⟩), .inr ⟨g, c, rfl, by omega, hO1, hI1⟩, fun q hq => hhl q (by rw [hf]; exact hq), hlb⟩
    rotate_left
    · simp at hb
      rcases hb with rfl | rfl
      · exact hlb
      · exact hhl b (by rw [hf]; rfl)
    intro b hb
    simp at hb
    rcases hb with rfl | rfl
    · exact tX
    · obtain ⟨d, hd, _⟩ := hO
      exact ⟨d, _, _, hd, by simp⟩
/-- Nothing but blocks of the types ts, and those of X, has changed. -/
structure FrX (X : List Nat) (ts : List TypeId) (w w' : World) : Prop where
  os : w'.os = w.os
  tape : w'.tape = w.tape
  output : w'.output = w.output
  size : w.heap.size ≤ w'.heap.size
  block : ∀ (b : Nat) (c : Array Value) (t : TypeId) (f : Nat × Nat), b ∉ X → w.heap[b]? = some (Obj.cells c t f) → t ∉ ts → w'.heap[b]? = some (Obj.cells c t f)
theorem FrT.x {X : List Nat} {ts : List TypeId} {w w' : World} (h : FrT ts w w') : FrX X ts w w' := ⟨h.os, h.tape, h.output, h.size, fun b c t f _ hb ht => h.block b c t f hb ht⟩
theorem FrX.trans {X Y : List Nat} {ts us : List TypeId} {a b c : World} (h : FrX X ts a b) (k : FrX Y us b c) (hy : ∀ i ∈ Y, i ∈ X) (hs : ∀ t ∈ us, t ∈ ts) : FrX X ts a c :=
  ⟨k.os.trans h.os, k.tape.trans h.tape, k.output.trans h.output, Nat.le_trans h.size k.size, fun i x t f hX hx ht => k.block i x t f (fun e => hX (hy i e)) (h.block i x t f hX hx ht) (fun e => ht (hs t e))⟩
theorem FrX.chg {X L : List Nat} {ts : List TypeId} {w w' : World} (h : Chg L w w') (hL : ∀ b ∈ L, b ∈ X ∨ ∃ (c : Array Value) (t : TypeId) (f : Nat × Nat), w.heap[b]? = some (Obj.cells c t f) ∧ t ∈ ts) : FrX X ts w w' :=
  ⟨h.os, h.tape, h.output, h.size, fun b c t f hX hb ht => (h.block b (fun hm => by
    rcases hL b hm with h0 | ⟨c', t', f', h1, h2⟩
    · exact hX h0
    have e := h1.symm.trans hb
    injection e with e
    injection e with _ e
    exact ht (e ▸ h2)) (Array.getElem?_eq_some_iff.1 hb).1).trans hb⟩
theorem FrX.below {X : List Nat} {ts : List TypeId} {w w' : World} (h : Below w.heap.size w w') : FrX X ts w w' := FrX.chg (L := []) ((Chg.refl [] w).below h) (by simp)
theorem Blk.fx {X : List Nat} {ts : List TypeId} {w w' : World} {b : Nat} {arr : Array Value} {t : TypeId} (h : Blk w b arr t) (k : FrX X ts w w') (hb : b ∉ X) (ht : t ∉ ts) : Blk w' b arr t := k.block _ _ _ _ hb h ht
theorem SlSt.later {lo : Nat} {w w' : World} {bm : Nat} {m : Mc} {L n : Nat} {xs : List Value} (h : SlSt lo w bm m L n xs) (hb : Below w.heap.size w w') : SlSt lo w' bm m L n xs :=
  ⟨h.x.later hb, owns_below h.row hb, h.heap.imp id fun ⟨g, c, h1, h2, h3, h4⟩ => ⟨g, c, h1, h2, h3.later hb, h4.later hb⟩, h.hl, h.lb⟩
/-- Another cell of the machine is written. -/
theorem SlSt.setM {lo : Nat} {w : World} {bm : Nat} {m m' : Mc} {L n : Nat} {xs : List Value} (h : SlSt lo w bm m L n xs) (i : Nat) (v : Value) (he : m.arr.setIfInBounds i v = m'.arr) (h1 : m'.slots = m.slots) (h2 : m'.free = m.free) : SlSt lo (w.setCell ⟨bm, i, none⟩ v) bm m' L n xs :=
  ⟨(by have := h.x.set i v; rw [he] at this; exact this), h1 ▸ owns_chg h.row ((Chg.refl [bm] w).set (by simp) i v) (fun g hg => by simpa using row_ne h.row h.x (by decide) g hg), h2 ▸ h.heap.imp id fun ⟨g, c, e1, e2, e3, e4⟩ => ⟨g, c, e1, e2, e3.of_block (Below.heap_setCell _ _ _ _ (own_blk_ne e3 h.x (by decide))), fun j hj => by
    obtain ⟨y, a1, a2⟩ := e4 j hj
    exact ⟨y, (World.cell?_setCell_other _ _ _ _ (by intro h'; injection h' with h' _; exact own_blk_ne e3 h.x (by decide) h'.symm)).trans a1, a2⟩⟩, h2 ▸ h.hl, h.lb⟩
/-- A block of another type is written. -/
theorem SlSt.chg {lo : Nat} {w w' : World} {bm b : Nat} {m : Mc} {L n : Nat} {xs : List Value} {arr : Array Value} {t : TypeId} (h : SlSt lo w bm m L n xs) (hB : Blk w b arr t) (ht : t ∉ tsS) (hc : Chg [b] w w') : SlSt lo w' bm m L n xs := by
  simp [tsS] at ht
  have hbm : bm ≠ b := by rintro rfl; have e := (show w.heap[bm]? = _ from h.x).symm.trans hB; injection e with e; injection e with _ e; exact ht.1 e.symm
  refine ⟨h.x.chg hc (by simpa using hbm), owns_chg h.row hc (fun g hg => by simpa using row_ne h.row hB (Ne.symm ht.2.1) g hg), h.heap.imp id fun ⟨g, c, e1, e2, e3, e4⟩ => ?_, h.hl, h.lb⟩
  have hg := own_blk_ne e3 hB (Ne.symm ht.2.2)
  exact ⟨g, c, e1, e2, e3.of_block (hc.block g (by simpa using hg) e3.lt), fun j hj => by
    obtain ⟨y, a1, a2⟩ := e4 j hj
    exact ⟨y, hc.cell (by simpa using hg) a1, a2⟩⟩
attribute [local go_sem] run_store_float vi

theorem hidW3 {K : Act → World → Prop} {a : Act} {w : World} {S : World → Prop} (hs : S w) (h : ∀ W, S W → K a W) : K a w := h w hs
/-- The cells of a slot that holds a table of no pairs. -/
abbrev sa (p k bo ve : Value) : Array Value := #[p, k, bo, ve, .slice none 0 0, .int .i64 0, .pointer none, .bool false, .int .i64 0, .slice none 0 0, .int .i64 0, .int .i64 0, .float .f64 0, .string ByteArray.empty, .int .i64 0]
/-- A place of the slots is written. -/
theorem SlSt.put {lo : Nat} {w : World} {bm g sc p : Nat} {m : Mc} {L n : Nat} {xs : List Value} (h : SlSt lo w bm m L n xs) (hs : m.slots = .slice (some ⟨g, 0, none⟩) L sc) (v : Value) : SlSt lo (w.setCell ⟨g, p, none⟩ v) bm m L n (xs.set p v) := by
  have hr := h.row
  rw [hs] at hr
  obtain ⟨cc, f, hg⟩ := row_ty hr g rfl
  have hgm : g ≠ bm := row_ne hr h.x (by decide) g rfl
  have hst := hr.stored p v
  refine ⟨h.x.setOther (by simpa using Ne.symm hgm) v, by rw [hs]; exact hst.1, h.heap.imp id fun ⟨q, c, e1, e2, e3, e4⟩ => ?_, h.hl, h.lb⟩
  have hqg : q ≠ g := by
    rintro rfl
    obtain ⟨d, hd, _⟩ := e3
    have e := hd.symm.trans hg
    injection e with e
    injection e with _ e
    exact absurd e (by decide)
  exact ⟨q, c, e1, e2, e3.of_block (Below.heap_setCell _ _ _ _ (by simpa using hqg)), fun j hj => by
    obtain ⟨y, a1, a2⟩ := e4 j hj
    exact ⟨y, (World.cell?_setCell_other _ _ _ _ (by intro h'; injection h' with h' _; exact hqg h'.symm)).trans a1, a2⟩⟩
set_option maxHeartbeats 2000000 in
theorem hold_any (lo bm bs L n : Nat) (xs : List Value) (m : Mc) (b d : Int) (p0 k0 b0 v0 : Value) (w : World) (hb0 : 0 ≤ b) (hb1 : b ≤ 1000000) (hd0 : 0 ≤ d) (hd1 : d ≤ 1000000) (hm : L ≤ 1000000) (hn : n ≤ 1000000) (hbs : lo ≤ bs) (S : SlSt lo w bm { m with births := .int .i64 b, due := .int .i64 d } L n xs) (Y : Blk w bs (sa p0 k0 b0 v0) 167) :
    Calls Tryz.prog 122 #[.pointer (some ⟨bm, 0, none⟩), .pointer (some ⟨bs, 0, none⟩)] w fun e w' => ∃ (p L' n' : Nat) (xs' : List Value) (sv fv : Value), e = .returned (.pointer (some ⟨bs, 0, none⟩)) ∧ p < L' ∧ (n = 0 ∧ L' = L + 1 ∧ n' = 0 ∧ xs' = xs ++ [.pointer none] ∨ n = n' + 1 ∧ L' = L ∧ xs' = xs) ∧ FrX [bs] tsS w w' ∧ Below lo w w' ∧ SlSt lo w' bm { m with births := .int .i64 (b + 1), due := .int .i64 (d + 1), slots := sv, free := fv } L' n' (xs'.set p (.pointer (some ⟨bs, 0, none⟩))) ∧ Blk w' bs (sa (.int .i64 p) k0 (.int .i64 (b + 1)) v0) 167 := by
  have x := S.x.cell
  have f := S.x.frozen
  have HS : Hid (SlSt lo w bm { m with births := .int .i64 b, due := .int .i64 d } L n xs) := S
  have HY : Hid (Blk w bs (sa p0 k0 b0 v0) 167) := Y
  clear S Y
  go_enter Tryz.func122, Tryz.ntmps122
  go_wp2_with fail
  refine hidW3 (S := fun W => SlSt lo W bm { m with births := .int .i64 (b + 1), due := .int .i64 (d + 1) } L n xs ∧ Blk W bs (sa p0 k0 b0 v0) 167 ∧ FrX [bs] tsS w W ∧ Below lo w W) ?_ (fun W hS => ?_)
  · have hne : bs ≠ bm := by rintro rfl; have e := (show w.heap[bs]? = _ from HY.out).symm.trans HS.out.x; injection e with e; injection e with _ e; exact absurd e (by decide)
    refine ⟨(HS.out.setM (m' := { m with births := .int .i64 (b + 1), due := .int .i64 d }) 3 (.int .i64 (b + 1)) rfl rfl rfl).setM (m' := { m with births := .int .i64 (b + 1), due := .int .i64 (d + 1) }) 1 (.int .i64 (d + 1)) rfl rfl rfl, (HY.out.setOther (by simpa using hne) _).setOther (by simpa using hne) _, FrX.chg (((Chg.refl [bm] w).set (by simp) _ _).set (by simp) _ _) (fun q hq => .inr ⟨_, _, _, by simp at hq; subst hq; exact HS.out.x, by simp⟩), ((Below.refl lo w).setCell (p := ⟨bm, 3, none⟩) HS.out.lb _).setCell (p := ⟨bm, 1, none⟩) HS.out.lb _⟩
  obtain ⟨S, Y, FR, LW⟩ := hS
  clear HS HY x f
  have xs0 : W.drew.cell? ⟨bm, 3, none⟩ = some (.int .i64 (b + 1)) := S.x.cell 3
  have hne : bm ≠ bs := by rintro rfl; have e := (show W.heap[bm]? = _ from Y).symm.trans S.x; injection e with e; injection e with _ e; exact absurd e (by decide)
  have HS : Hid (SlSt lo W bm { m with births := .int .i64 (b + 1), due := .int .i64 (d + 1) } L n xs) := S
  have HY : Hid (Blk W bs (sa p0 k0 b0 v0) 167) := Y
  have HF : Hid (FrX [bs] tsS w W) := FR
  clear S Y FR
  go_region_held3 (fun W => W.cell? ⟨bm, 3, none⟩ = some (.int .i64 (b + 1))) (first | with_reducible exact xs0 | exact (World.cell?_setCell_other _ _ _ _ (by intro h; injection h with h _; exact hne h.symm)).trans xs0 | exact (World.cell?_setCell_other _ _ _ _ (by intro h; injection h with h _; exact hne h.symm)).trans ((World.cell?_setCell_other _ _ _ _ (by intro h; injection h with h _; exact hne h.symm)).trans xs0)) (first | (go_at_call 202; refine (room_any lo bm L n xs _ _ hm hn (HS.out.later (Below.refl _ _).drew)).mono ?_; rintro e w1 ⟨p, L', n', xs', sv, fv, rfl, hp, hc, hF1, L1, S1⟩; have xs0 : w1.cell? ⟨bm, 3, none⟩ = some (.int .i64 (b + 1)) := S1.x.cell 3; have Y1 := (HY.out.later (Below.refl _ _).drew).fr hF1 (by decide); have y := Y1.cell; have yf := Y1.frozen))
  have C2 : Chg [bs] w1 ((w1.setCell ⟨bs, 2, none⟩ (.int .i64 (b + 1))).setCell ⟨bs, 0, none⟩ (.int .i64 p)) := ((Chg.refl _ _).set (by simp) _ _).set (by simp) _ _
  have S2 := S1.chg Y1 (by decide) C2
  have Y2 := (Y1.set 2 (.int .i64 (b + 1))).set 0 (.int .i64 p)
  have F2 : FrX [bs] tsS w ((w1.setCell ⟨bs, 2, none⟩ (.int .i64 (b + 1))).setCell ⟨bs, 0, none⟩ (.int .i64 p)) := (HF.out.trans ((FrX.below (X := [bs]) (Below.refl _ _).drew).trans hF1.x (fun _ h => h) (fun _ h => h)) (fun _ h => h) (fun _ h => h)).trans (FrX.chg C2 (fun q hq => .inl hq)) (fun _ h => h) (fun _ h => h)
  have LW2 : Below lo w ((w1.setCell ⟨bs, 2, none⟩ (.int .i64 (b + 1))).setCell ⟨bs, 0, none⟩ (.int .i64 p)) := (((LW.drew).trans L1).setCell (p := ⟨bs, 2, none⟩) hbs _).setCell (p := ⟨bs, 0, none⟩) hbs _
  clear C2 S1 Y1 xs0 y yf HF HS HY hF1 LW L1
  generalize (w1.setCell ⟨bs, 2, none⟩ (.int .i64 (b + 1))).setCell ⟨bs, 0, none⟩ (.int .i64 p) = W2 at *
  obtain ⟨g, sc, hsv, hO, hR⟩ : ∃ g sc, sv = .slice (some ⟨g, 0, none⟩) L' sc ∧ Own W2 g 94 (sc * 1) ∧ L' * 1 ≤ sc * 1 := by
    rcases owns_parts S2.row with ⟨_, h, _⟩ | ⟨g, c, h1, _, h2, h3, _⟩
    · omega
    · exact ⟨g, c, h1, h2, h3⟩
  have m5 : W2.cell? ⟨bm, 5, none⟩ = some (.slice (some ⟨g, 0, none⟩) L' sc) := (S2.x.cell 5).trans (by rw [← hsv]; rfl)
  have s0 : W2.cell? ⟨bs, 0, none⟩ = some (.int .i64 p) := (Y2.cell 0).trans rfl
  obtain ⟨u, hu⟩ := hO.cell (i := p) (by omega)
  have hf := hO.frozen p
  have p0 : (0 : Int) ≤ p := by omega
  have p1 : (p : Int) < L' := by omega
  have HS2 : Hid (SlSt lo W2 bm { m with births := .int .i64 (b + 1), due := .int .i64 (d + 1), slots := sv, free := fv } L' n' xs') := S2
  have HY2 : Hid (Blk W2 bs (sa (.int .i64 p) k0 (.int .i64 (b + 1)) v0) 167) := Y2
  have HF2 : Hid (FrX [bs] tsS w W2) := F2
  have HC : Hid (n = 0 ∧ L' = L + 1 ∧ n' = 0 ∧ xs' = xs ++ [.pointer none] ∨ n = n' + 1 ∧ L' = L ∧ xs' = xs) := hc
  clear S2 Y2 F2 hO hc hR
  go_wp2_with fail
  go_region
  go_wp2_with fail
  go_ret
  have hgb : bs ≠ g := by
    obtain ⟨cc, f, hg⟩ := row_ty HS2.out.row g (by rw [hsv]; rfl)
    rintro rfl
    have e := (show W2.heap[bs]? = _ from HY2.out).symm.trans hg
    injection e with e
    injection e with _ e
    exact absurd e (by decide)
  have hlg : lo ≤ g := (HS2.out.row.lt g (by rw [hsv]; rfl)).1
  have FG : FrX [bs] tsS W2 (W2.setCell ⟨g, p, none⟩ (.pointer (some ⟨bs, 0, none⟩))) := FrX.chg ((Chg.refl [g] W2).set (by simp) _ _) (fun q hq => by
    obtain ⟨cc, f, hg⟩ := row_ty HS2.out.row g (by rw [hsv]; rfl)
    simp at hq
    subst hq
    exact .inr ⟨_, _, _, hg, by simp⟩)
  exact ⟨p, L', n', xs', sv, fv, rfl, hp, HC.out, (HF2.out.trans FG (fun _ h => h) (fun _ h => h)).trans (FrX.below (Below.refl _ _).drew) (fun _ h => h) (fun _ h => h), (LW2.setCell (p := ⟨g, p, none⟩) hlg _).drew, (HS2.out.put hsv _).later (Below.refl _ _).drew, (HY2.out.setOther (by simpa using hgb) _).later (Below.refl _ _).drew⟩
theorem SlSt.two {lo : Nat} {w w' : World} {bm b : Nat} {m m' : Mc} {L n : Nat} {xs : List Value} {arr : Array Value} {t : TypeId} (h : SlSt lo w bm m L n xs) (hB : Blk w b arr t) (ht : t ∉ tsS) (hc : Chg [bm, b] w w') (hX : MAt w' bm m') (h1 : m'.slots = m.slots) (h2 : m'.free = m.free) : SlSt lo w' bm m' L n xs := by
  simp [tsS] at ht
  refine ⟨hX, h1 ▸ owns_chg h.row hc (fun g hg => by simp; exact ⟨row_ne h.row h.x (by decide) g hg, row_ne h.row hB (Ne.symm ht.2.1) g hg⟩), h2 ▸ h.heap.imp id fun ⟨g, c, e1, e2, e3, e4⟩ => ?_, h2 ▸ h.hl, h.lb⟩
  have hg := own_blk_ne e3 hB (Ne.symm ht.2.2)
  have hg2 := own_blk_ne e3 h.x (by decide)
  exact ⟨g, c, e1, e2, e3.of_block (hc.block g (by simp; exact ⟨hg2, hg⟩) e3.lt), fun j hj => by
    obtain ⟨y, a1, a2⟩ := e4 j hj
    exact ⟨y, hc.cell (by simp; exact ⟨hg2, hg⟩) a1, a2⟩⟩
theorem FrX.fresh {b : Nat} {ts : List TypeId} {w w1 w' : World} (h0 : Below w.heap.size w w1) (h : FrX [b] ts w1 w') (hb : w.heap.size ≤ b) : FrT ts w w' :=
  ⟨h.os.trans h0.os, h.tape.trans h0.tape, h.output.trans h0.output, Nat.le_trans h0.size h.size, fun i c t f hi ht => by
    have hl := (Array.getElem?_eq_some_iff.1 hi).1
    exact h.block i c t f (by simp; omega) ((h0.block i hl).trans hi) ht⟩
set_option maxHeartbeats 2000000 in
theorem holdTable_any (lo bm L n : Nat) (xs : List Value) (m : Mc) (b d v : Int) (w : World) (hb0 : 0 ≤ b) (hb1 : b ≤ 1000000) (hd0 : 0 ≤ d) (hd1 : d ≤ 1000000) (hv0 : 0 ≤ v) (hv1 : v ≤ 1000000) (hm : L ≤ 1000000) (hn : n ≤ 1000000) (S : SlSt lo w bm { m with births := .int .i64 b, due := .int .i64 d, vers := .int .i64 v } L n xs) :
    Calls Tryz.prog 125 #[.pointer (some ⟨bm, 0, none⟩), .slice none 0 0] w fun e w' => ∃ (bs p L' n' : Nat) (xs' : List Value) (sv fv : Value), e = .returned (.pointer (some ⟨bs, 0, none⟩)) ∧ w.heap.size ≤ bs ∧ p < L' ∧ (n = 0 ∧ L' = L + 1 ∧ n' = 0 ∧ xs' = xs ++ [.pointer none] ∨ n = n' + 1 ∧ L' = L ∧ xs' = xs) ∧ FrT tsS w w' ∧ Below lo w w' ∧ SlSt lo w' bm { m with births := .int .i64 (b + 1), due := .int .i64 (d + 1), vers := .int .i64 (v + 1), slots := sv, free := fv } L' n' (xs'.set p (.pointer (some ⟨bs, 0, none⟩))) ∧ Blk w' bs (sa (.int .i64 p) (.int .i64 1) (.int .i64 (b + 1)) (.int .i64 (v + 1))) 167 := by
  have B0 : ∀ o, Below w.heap.size w (w.alloc o) := fun o => (Below.refl _ _).alloc (Nat.le_refl _) o
  have hlo : lo ≤ w.heap.size := Nat.le_trans S.lb (Nat.le_of_lt S.x.lt)
  have HS : Hid (SlSt lo w bm { m with births := .int .i64 b, due := .int .i64 d, vers := .int .i64 v } L n xs) := S
  clear S
  go_enter Tryz.func125, Tryz.ntmps125
  go_wp2_with fail
  refine (hold_any lo bm w.heap.size L n xs { m with vers := .int .i64 v } b d (.int .i64 0) (.int .i64 1) (.int .i64 0) (.int .i64 0) _ hb0 hb1 hd0 hd1 hm hn hlo (HS.out.later (B0 _)) (Blk.new w _ _)).mono ?_
  rintro e w1 ⟨p, L', n', xs', sv, fv, rfl, hp, hc, hF, LW1, S1, Y1⟩
  have HF : Hid (FrX [w.heap.size] tsS _ w1) := hF
  have HS1 : Hid (SlSt lo w1 bm { m with births := .int .i64 (b + 1), due := .int .i64 (d + 1), vers := .int .i64 v, slots := sv, free := fv } L' n' (xs'.set p (.pointer (some ⟨w.heap.size, 0, none⟩)))) := S1
  have HC : Hid (n = 0 ∧ L' = L + 1 ∧ n' = 0 ∧ xs' = xs ++ [.pointer none] ∨ n = n' + 1 ∧ L' = L ∧ xs' = xs) := hc
  have hne : bm ≠ w.heap.size := by have := HS.out.x.lt; omega
  clear hc S1 hF
  go_wp2_with fail
  refine (changed_any bm w.heap.size { m with births := .int .i64 (b + 1), due := .int .i64 (d + 1), slots := sv, free := fv } v _ _ _ _ _ _ _ _ _ _ _ _ _ _ _ _ hv0 hv1 hne HS1.out.x Y1).mono ?_
  rintro e w2 ⟨rfl, hC2, hX2, hY2⟩
  have HC2 : Hid (Chg [bm, w.heap.size] w1 w2) := hC2
  have HX2 : Hid (MAt w2 bm _) := hX2
  have HY2 : Hid (Blk w2 w.heap.size _ 167) := hY2
  have HY1 : Hid (Blk w1 w.heap.size _ 167) := Y1
  clear hC2 hX2 hY2 Y1
  go_wp2_with fail
  go_ret
  have FG : FrX [w.heap.size] tsS w1 w2 := FrX.chg HC2.out (fun q hq => by
    simp at hq
    rcases hq with rfl | rfl
    · exact .inr ⟨_, _, _, HS1.out.x, by simp⟩
    · exact .inl (by simp))
  exact ⟨w.heap.size, p, L', n', xs', sv, fv, rfl, Nat.le_refl _, hp, HC.out, FrX.fresh (B0 _) (HF.out.trans FG (fun _ h => h) (fun _ h => h)) (Nat.le_refl _), (((B0 _).mono hlo).trans LW1).trans (HC2.out.low (Nat.le_trans HS1.out.lb (Nat.le_of_lt HS1.out.x.lt)) (fun q hq => by simp at hq; rcases hq with rfl | rfl; exact HS1.out.lb; exact hlo)), HS1.out.two HY1.out (by decide) HC2.out HX2.out rfl rfl, HY2.out⟩
end Go.Proofs.YtgopdffmnikhdaaGreatDoor
namespace Go.Proofs.YtgopdffmnikhdaaGreatDoor
open Go.RowKit Go.Deep
attribute [local go_sem] run_store_float vi

theorem named_any (bs : Nat) (p : Nat) (b v : Value) (w : World) (Y : Blk w bs (sa (.int .i64 p) (.int .i64 1) b v) 167) :
    Calls Tryz.prog 124 #[.pointer (some ⟨bs, 0, none⟩)] w fun e w' => e = .returned (.agg #[.int .i64 5, .int .i64 0, .float .f64 0, .string ByteArray.empty, .int .i64 p]) ∧ Below w.heap.size w w' := by
  have y := fun o => (Y.alloc o).cell
  go_enter Tryz.func124, Tryz.ntmps124
  go_wp2_with fail
  exact bodyPost_ret (v := .agg #[.int .i64 5, .int .i64 0, .float .f64 0, .string ByteArray.empty, .int .i64 p]) (by simp [results, Tryz.results124, go_sem]; rfl) rfl ⟨rfl, (Below.refl _ _).alloc (Nat.le_refl _) _⟩
/-- The machine alone is written. -/
theorem SlSt.mach {lo : Nat} {w w' : World} {bm : Nat} {m m' : Mc} {L n : Nat} {xs : List Value} (h : SlSt lo w bm m L n xs) (hc : Chg [bm] w w') (hX : MAt w' bm m') (h1 : m'.slots = m.slots) (h2 : m'.free = m.free) : SlSt lo w' bm m' L n xs := by
  refine ⟨hX, h1 ▸ owns_chg h.row hc (fun g hg => by simpa using row_ne h.row h.x (by decide) g hg), h2 ▸ h.heap.imp id fun ⟨g, c, e1, e2, e3, e4⟩ => ?_, h2 ▸ h.hl, h.lb⟩
  have hg2 := own_blk_ne e3 h.x (by decide)
  exact ⟨g, c, e1, e2, e3.of_block (hc.block g (by simpa using hg2) e3.lt), fun j hj => by
    obtain ⟨y, a1, a2⟩ := e4 j hj
    exact ⟨y, hc.cell (by simpa using hg2) a1, a2⟩⟩
theorem blk_ne {w : World} {b c : Nat} {A B : Array Value} {t u : TypeId} (h : Blk w b A t) (k : Blk w c B u) (ht : t ≠ u) : b ≠ c := by
  rintro rfl
  have e := (show w.heap[b]? = _ from h).symm.trans k
  injection e with e
  injection e with _ e
  exact ht e
/-- What a loom is made of. -/
structure Lm (la : Array Value) (bm cp qb : Nat) (pc qc : Nat) (ti ce : Int) : Prop where
  m : la[0]? = some (.pointer (some ⟨bm, 0, none⟩))
  p : la[1]? = some (.slice (some ⟨cp, 0, none⟩) 1 pc)
  q : la[2]? = some (.slice (some ⟨qb, 0, none⟩) 1 qc)
  ti : la[5]? = some (.int .i64 ti)
  ce : la[7]? = some (.int .i64 ce)
abbrev tsT : List TypeId := [169, 81, 94, 3]
set_option maxHeartbeats 2000000 in
theorem doTable_any (lo bl bm bc br L n : Nat) (cp qb pc qc : Nat) (ti ce : Int) (la : Array Value) (xs : List Value) (m : Mc) (cc : Cc) (r : Rs) (b d v k : Int) (o q2 q3 q4 q5 q6 : Int) (w : World) (hb0 : 0 ≤ b) (hb1 : b ≤ 1000000) (hd0 : 0 ≤ d) (hd1 : d ≤ 1000000) (hv0 : 0 ≤ v) (hv1 : v ≤ 1000000) (hm : L ≤ 1000000) (hn : n ≤ 1000000) (hk : 0 ≤ k) (hkc : k < ce) (hce : ce ≤ 20000) (hbr : lo ≤ br)
    (hL : Lm la bm cp qb pc qc ti ce) (BL : Blk w bl la 72) (C : CAt w bc { cc with regs := .slice (some ⟨br, 0, none⟩) 6 6 }) (X : RAt w br r)
    (S : SlSt lo w bm { m with births := .int .i64 b, due := .int .i64 d, vers := .int .i64 v, live := .int .i64 0, since := .int .i64 k, rm := .int .i64 k } L n xs) :
    Calls Tryz.prog 45 #[.pointer (some ⟨bl, 0, none⟩), .pointer (some ⟨bc, 0, none⟩), .agg (qa o 3 q2 q3 q4 q5 q6)] w fun e w' => ∃ (bs p L' n' : Nat) (xs' : List Value) (sv fv : Value), e = .returned .nilIface ∧ w.heap.size ≤ bs ∧ p < L' ∧ (n = 0 ∧ L' = L + 1 ∧ n' = 0 ∧ xs' = xs ++ [.pointer none] ∨ n = n' + 1 ∧ L' = L ∧ xs' = xs) ∧ FrT tsT w w' ∧ Below lo w w' ∧ SlSt lo w' bm { m with births := .int .i64 (b + 1), due := .int .i64 (d + 1), vers := .int .i64 (v + 1), live := .int .i64 0, since := .int .i64 (k + 1), rm := .int .i64 (k + 1), slots := sv, free := fv } L' n' (xs'.set p (.pointer (some ⟨bs, 0, none⟩))) ∧ Blk w' bs (sa (.int .i64 p) (.int .i64 1) (.int .i64 (b + 1)) (.int .i64 (v + 1))) 167 ∧ RAt w' br { r with r3 := .val 5 0 0 ByteArray.empty p } := by
  have B0 : Below w.heap.size w (w.alloc (.cells (qa o 3 q2 q3 q4 q5 q6) 149)) := (Below.refl _ _).alloc (Nat.le_refl _) _
  have HB0 : Hid (Below w.heap.size w (w.alloc (.cells (qa o 3 q2 q3 q4 q5 q6) 149))) := B0
  have HBL : Hid (Blk w bl la 72) := BL
  have HC : Hid (CAt w bc { cc with regs := .slice (some ⟨br, 0, none⟩) 6 6 }) := C
  have HX : Hid (RAt w br r) := X
  have HS : Hid (SlSt lo w bm { m with births := .int .i64 b, due := .int .i64 d, vers := .int .i64 v, live := .int .i64 0, since := .int .i64 k, rm := .int .i64 k } L n xs) := S
  have Z := Blk.new w (qa o 3 q2 q3 q4 q5 q6) 149
  clear BL C X S B0
  go_enter Tryz.func45, Tryz.ntmps45
  go_wp2_with fail
  refine (spend_any bl bm { m with births := .int .i64 b, due := .int .i64 d, vers := .int .i64 v } k ce _ (((HBL.out.later HB0.out).cell 0).trans hL.m) (((HBL.out.later HB0.out).cell 7).trans hL.ce) hk hkc hce (HS.out.x.later HB0.out)).mono ?_
  rintro e w1 ⟨rfl, hC1, hX1⟩
  have Z1 := Z.chg hC1 (by have := HS.out.x.lt; simp; omega)
  have F1 : FrT tsT w w1 := (FrT.below HB0.out).trans (FrT.chg (ts := tsT) hC1 (fun q hq => by simp at hq; subst hq; exact ⟨_, _, _, HS.out.x.later HB0.out, by simp⟩)) (fun _ h => h)
  have S1 := (HS.out.later HB0.out).mach (m' := { m with births := .int .i64 b, due := .int .i64 d, vers := .int .i64 v, live := .int .i64 0, since := .int .i64 (k + 1), rm := .int .i64 (k + 1) }) hC1 hX1 rfl rfl
  have HX1 : Hid (RAt w1 br r) := (HX.out.later HB0.out).chg hC1 (by simpa using blk_ne HX.out HS.out.x (by decide))
  have HC1 : Hid (CAt w1 bc { cc with regs := .slice (some ⟨br, 0, none⟩) 6 6 }) := HC.out.fr F1 (by decide)
  have HBL1 : Hid (Blk w1 bl la 72) := HBL.out.fr F1 (by decide)
  have HS1 : Hid (SlSt lo w1 bm { m with births := .int .i64 b, due := .int .i64 d, vers := .int .i64 v, live := .int .i64 0, since := .int .i64 (k + 1), rm := .int .i64 (k + 1) } L n xs) := S1
  have HF1 : Hid (FrT tsT w w1) := F1
  have zs : ∀ i, w1.drew.cell? ⟨w.heap.size, i, none⟩ = (qa o 3 q2 q3 q4 q5 q6)[i]? := Z1.cell
  have ls : w1.drew.cell? ⟨bl, 0, none⟩ = some (.pointer (some ⟨bm, 0, none⟩)) := (HBL1.out.cell 0).trans hL.m
  have HZ1 : Hid (Blk w1.drew w.heap.size (qa o 3 q2 q3 q4 q5 q6) 149) := Z1
  have hs1 : w.heap.size ≤ w1.heap.size := F1.size
  have hlo : lo ≤ w.heap.size := Nat.le_trans HS.out.lb (Nat.le_of_lt HS.out.x.lt)
  have LW1 : Below lo w w1.drew := ((HB0.out.mono hlo).trans (hC1.low (by simp; omega) (by simpa using HS.out.lb))).drew
  clear Z Z1 hC1 hX1 F1 S1 HS HX HC HBL HB0
  go_wp2_with fail
  go_region_held3 (fun W => (∀ i, W.cell? ⟨w.heap.size, i, none⟩ = (qa o 3 q2 q3 q4 q5 q6)[i]?) ∧ W.cell? ⟨bl, 0, none⟩ = some (.pointer (some ⟨bm, 0, none⟩))) (with_reducible exact ⟨zs, ls⟩) (first
    | (go_at_call 125; refine (holdTable_any lo bm L n xs { m with live := .int .i64 0, since := .int .i64 (k + 1), rm := .int .i64 (k + 1) } b d v _ hb0 hb1 hd0 hd1 hv0 hv1 hm hn (HS1.out.later (Below.refl _ _).drew)).mono ?_; rintro e w2 ⟨bs, p, L', n', xs', sv, fv, rfl, hbs, hp, hc, hF2, LW2, S2, Y2⟩; have Z2 := HZ1.out.fr hF2 (by decide); have L2 := (HBL1.out.later (Below.refl _ _).drew).fr hF2 (by decide); have zs := Z2.cell; have ls : w2.cell? ⟨bl, 0, none⟩ = some (.pointer (some ⟨bm, 0, none⟩)) := (L2.cell 0).trans hL.m)
    | (go_at_call 124; refine (named_any bs p _ _ _ Y2).mono ?_; rintro e w3 ⟨rfl, hw3⟩; have zs := (Z2.later hw3).cell; have ls : w3.cell? ⟨bl, 0, none⟩ = some (.pointer (some ⟨bm, 0, none⟩)) := cb ls hw3)
    | (go_at_call 119; refine (putValue3 bc br cc r 5 0 0 ByteArray.empty p _ (((HC1.out.later (Below.refl _ _).drew).fr hF2 (by decide)).later hw3) (((HX1.out.later (Below.refl _ _).drew).fr hF2 (by decide)).later hw3)).mono ?_; rintro e w4 ⟨rfl, hC4, hX4⟩; have hz4 : w.heap.size ∉ [br] := (by simpa using blk_ne HZ1.out (HX1.out.later (Below.refl _ _).drew) (by decide)); have hl4 : bl ∉ [br] := (by simpa using blk_ne HBL1.out HX1.out (by decide)); have zs := ((Z2.later hw3).chg hC4 hz4).cell; have ls : w4.cell? ⟨bl, 0, none⟩ = some (.pointer (some ⟨bm, 0, none⟩)) := hC4.cell hl4 ls))
  have X3 := ((HX1.out.later (Below.refl _ _).drew).fr hF2 (by decide)).later hw3
  have F : FrT tsT w w4 := (((HF1.out.trans (FrT.below (ts := tsT) (Below.refl _ _).drew) (fun _ h => h)).trans hF2 (fun t h => by simp [tsS] at h; rcases h with h | h | h <;> simp [h])).trans (FrT.below (ts := tsT) hw3) (fun _ h => h)).trans (FrT.chg (ts := tsT) hC4 (fun q hq => by simp at hq; subst hq; exact ⟨_, _, _, X3, by simp⟩)) (fun _ h => h)
  have S4 := (S2.later hw3).chg X3 (by decide) hC4
  have Y4 := (Y2.later hw3).chg hC4 (by simpa using blk_ne (Y2.later hw3) X3 (by decide))
  have hb4 : w.heap.size ≤ bs := Nat.le_trans hs1 hbs
  have LW4 : Below lo w w4 := ((LW1.trans LW2).trans (hw3.mono (by have := LW2.size; simp at this; omega))).trans (hC4.low (by have := LW2.size; have := hw3.size; simp at *; omega) (by simpa using hbr))
  go_wp2_with fail
  go_ret
  exact ⟨bs, p, L', n', xs', sv, fv, rfl, hb4, hp, hc, F, LW4, S4, Y4, hX4⟩
end Go.Proofs.YtgopdffmnikhdaaGreatDoor
