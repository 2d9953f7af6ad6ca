import Derived.Test.YtaakadmnhpboiaaGreatDoorM02
import Derived.Deep.LoopGhost
import Derived.Laws.FloatArith
import Derived.Test.YtaakadmnhpboiaaGreatDoorM05
import Derived.Laws.StructEq
import Derived.Test.YtaakadmnhpboiaaGreatDoorM06
import Derived.Test.YtaakadmnhpboiaaGreatDoorM10
namespace Go.Proofs.YtaakadmnhpboiaaGreatDoor
open Go.RowKit Go.Deep
structure Gd where
 tr:Bool
 keep:Int
 hd:Int
 deriving DecidableEq
def Gd.vals (g:Gd):List Value:=[.bool g.tr,.int .i64 g.keep,.int .i64 g.hd]
def Gd.val (g:Gd):Value:=.agg #[.bool g.tr,.int .i64 g.keep,.int .i64 g.hd]
def IntAt (w:World) (b o:Nat) (x:Int):Prop:=w.cell? ⟨b,o,none⟩=some (.int .i64 x)
def GdAt (w:World) (b o:Nat) (g:Gd):Prop:=w.cell? ⟨b,o,none⟩=some (.bool g.tr)∧w.cell? ⟨b,o+1,none⟩=some (.int .i64 g.keep)∧w.cell? ⟨b,o+2,none⟩=some (.int .i64 g.hd)
def IntsAt (lo:Nat) (w:World) (ao:Option Addr) (xs:List Int):Prop:=AllAt lo w ao 1 (IntAt w) xs
def GdsAt (lo:Nat) (w:World) (ao:Option Addr) (xs:List Gd):Prop:=AllAt lo w ao 3 (GdAt w) xs
theorem IntsAt.later {lo:Nat} {w w':World} {ao:Option Addr} {xs:List Int} (h:IntsAt lo w ao xs) (hk:Keeps lo w w'):IntsAt lo w' ao xs:=
 AllAt.later h hk fun _ _ _ hl hb _ hx=>(hk.cell hl hb).trans hx
theorem GdsAt.later {lo:Nat} {w w':World} {ao:Option Addr} {xs:List Gd} (h:GdsAt lo w ao xs) (hk:Keeps lo w w'):GdsAt lo w' ao xs:=
 AllAt.later h hk fun _ _ _ hl hb _ hx=>⟨(hk.cell hl hb).trans hx.1,(hk.cell hl hb).trans hx.2.1,(hk.cell hl hb).trans hx.2.2⟩
def ints (xs:List Int):List Value:=xs.map (Value.int .i64)
def gds (xs:List Gd):List Value:=xs.flatMap Gd.vals
theorem gds_length (xs:List Gd):(gds xs).length=xs.length*3:=by
 induction xs with
 | nil=>rfl
 | cons x r ih=>simp only [gds,List.flatMap_cons,List.length_append,List.length_cons] at *;rw [ih];simp [Gd.vals];omega
theorem gds_get:∀{xs:List Gd} {i:Nat} {g:Gd},xs[i]?=some g→∀j v,g.vals[j]?=some v→(gds xs)[i*3+j]?=some v
 | [],i,g,h,_,_,_=>by simp at h
 | x::r,0,g,h,j,v,hv=>by
  simp at h;subst h
  have hj:j<3:=(List.getElem?_eq_some_iff.1 hv).1
  simp only [gds,List.flatMap_cons]
  rw [List.getElem?_append_left (by simp [Gd.vals];omega)]
  simpa using hv
 | x::r,i+1,g,h,j,v,hv=>by
  simp at h
  simp only [gds,List.flatMap_cons]
  rw [List.getElem?_append_right (by simp [Gd.vals];omega)]
  have:=gds_get h j v hv
  have e:(i+1)*3+j - x.vals.length=i*3+j:=by simp [Gd.vals];omega
  rw [e]
  exact this
theorem gds_append (xs ys:List Gd):gds (xs ++ ys)=gds xs ++ gds ys:=by simp [gds]
theorem ints_append (xs ys:List Int):ints (xs ++ ys)=ints xs ++ ints ys:=by simp [ints]
theorem owns_form {w:World} {base e size n:Nat} {v:Value} {xs:List Value} (h:w.ownsRow base e size v n xs) :
  (v=.slice none 0 0∧n=0)∨∃g cap,v=.slice (some ⟨g,0,none⟩) n cap∧base≤g∧g<w.heap.size:=by
 obtain⟨_,h | ⟨g,cap,cur,rfl,hg,hb,_⟩⟩:=h
 ·exact .inl h
 ·exact .inr ⟨g,cap,rfl,hg,(Array.getElem?_eq_some_iff.1 hb).1⟩
theorem owns_cell {w:World} {base e size n g cap:Nat} {xs:List Value} (h:w.ownsRow base e size (.slice (some ⟨g,0,none⟩) n cap) n xs) {j:Nat} {u:Value} (hj:xs[j]?=some u):w.cell? ⟨g,j,none⟩=some u:=by
 have h1:=h.1
 have h2:=(List.getElem?_eq_some_iff.1 hj).1
 exact (h.cellAt j (by omega)).trans hj
theorem owns_later {w w':World} {base e size n:Nat} {v:Value} {xs:List Value} (h:w.ownsRow base e size v n xs) (hk:Keeps base w w'):w'.ownsRow base e size v n xs:=by
 obtain⟨h1,h2 | ⟨g,cap,cur,e1,hg,hb,r⟩⟩:=h
 ·exact⟨h1,.inl h2⟩
 ·exact⟨h1,.inr ⟨g,cap,cur,e1,hg,(hk.block g hg (Array.getElem?_eq_some_iff.1 hb).1).trans hb,r⟩⟩
theorem owns_below {w w':World} {base e size n:Nat} {v:Value} {xs:List Value} (h:w.ownsRow base e size v n xs) (hk:Below w.heap.size w w'):w'.ownsRow base e size v n xs:=owns_later h (Keeps.of_below hk)
theorem owns_slice {w:World} {base e size n:Nat} {v:Value} {xs:List Value} (h:w.ownsRow base e size v n xs):∃ao cap,v=.slice ao n cap:=by
 rcases owns_form h with ⟨rfl,rfl⟩ | ⟨g,cap,rfl,_⟩
 ·exact⟨_,_,rfl⟩
 ·exact⟨_,_,rfl⟩
theorem owns_ints {w:World} {base n cap:Nat} {ao:Option Addr} {xs:List Int} (h:w.ownsRow base 3 1 (.slice ao n cap) n (ints xs)):IntsAt base w ao xs∧n=xs.length:=by
 have hl:n=xs.length:=by have:=h.1;simp [ints] at this;omega
 refine⟨?_,hl⟩
 intro i x hi
 rcases owns_form h with ⟨h1,h2⟩ | ⟨g,cap',h1,h2,h3⟩
 ·subst h2
  have:xs=[]:=List.length_eq_zero_iff.1 hl.symm
  subst this
  simp at hi
 ·simp only [Value.slice.injEq] at h1
  obtain⟨rfl,_,rfl⟩:=h1
  refine⟨g,0,rfl,h2,h3,?_⟩
  rw [Nat.zero_add,Nat.mul_one]
  exact owns_cell h (by simp [ints,hi])
theorem owns_gds {w:World} {base n cap:Nat} {ao:Option Addr} {xs:List Gd} (h:w.ownsRow base 163 3 (.slice ao n cap) n (gds xs)):GdsAt base w ao xs∧n=xs.length:=by
 have hl:n=xs.length:=by have:=h.1;rw [gds_length] at this;omega
 refine⟨?_,hl⟩
 intro i x hi
 rcases owns_form h with ⟨h1,h2⟩ | ⟨g,cap',h1,h2,h3⟩
 ·subst h2
  have:xs=[]:=List.length_eq_zero_iff.1 hl.symm
  subst this
  simp at hi
 ·simp only [Value.slice.injEq] at h1
  obtain⟨rfl,_,rfl⟩:=h1
  refine⟨g,0,rfl,h2,h3,?_⟩
  rw [Nat.zero_add]
  exact⟨owns_cell h (gds_get hi 0 _ rfl),owns_cell h (gds_get hi 1 _ rfl),owns_cell h (gds_get hi 2 _ rfl)⟩
theorem Tryz.info_int:(Tryz.prog.info? 3).map (fun i=>(i.zero,i.size,i.bytes))=some (some (.int .i64 0),1,8):=by kernel_rfl
theorem Tryz.info_Guard:(Tryz.prog.info? 163).map (fun i=>(i.zero,i.size,i.bytes))=some (some (.agg #[.bool false,.int .i64 0,.int .i64 0]),3,24):=by kernel_rfl
set_option maxRecDepth 100000 in
set_option maxHeartbeats 400000 in
theorem l3copy_any (ao:Option Addr) (cap:Nat) (xs:List Int) (w:World) (hm:xs.length≤1048576) (hx:IntsAt 0 w ao xs) :
  Calls Tryz.prog 46 #[.slice ao xs.length cap] w fun e w'=>∃v,e=.returned v∧w'.ownsRow w.heap.size 3 1 v xs.length (ints xs)∧Below w.heap.size w w':=by
 obtain⟨i0,hi,hz0,hz1,hz2⟩:=info_parts Tryz.info_int
 go_enter Tryz.func46,Tryz.ntmps46
 go_wp2_with fail
 go_loopw [3,8] (fun v y wr=>∃k:Nat,k≤xs.length∧y=.int .i64 k∧wr.ownsRow w.heap.size 3 1 v k (ints (xs.take k))∧Below w.heap.size w wr) (fun _ y _=>xs.length - (intOf y).toNat)
 case atStart=>exact ⟨0,Nat.zero_le _,rfl,World.ownsRow_nil _ _ _ _,Below.refl _ _⟩
 case round=>
  obtain⟨k,hk,rfl,hown,hb⟩:=hrel
  by_cases hkl:k<xs.length
  ·obtain⟨x,hxk⟩:=some_of_lt hkl
   obtain⟨b,off,rfl,_,hbl,q0⟩:=hx.later (Keeps.of_below hb) k x hxk
   unfold IntAt at q0
   rw [Nat.mul_one] at q0
   have hT:Hid (ints (xs.take (k+1))=ints (xs.take k) ++ [.int .i64 x]):=by
    show _=_
    rw [List.take_add_one,hxk,ints_append]
    rfl
   go_wp2_with (at_builtin;refine wpList_append_own _ rfl _ _ 72 rfl w.heap.size 3 i0 (.int .i64 0) 1 8 Tryz.underlying72 hi hz0 hz1 hz2 rfl (by decide) _ _ _ rfl (hown.alloc _) ⟨wr.heap.size,0,none⟩ 1 1 [.int .i64 x] rfl rfl ?c1 ?c2 ?c3 ?c4 ?c5 ?_)
   case c1=>
    intro j u hj
    match j,hj with
    | 0,hj=>simp at hj;subst hj;simp [Addr.add]
   case c2=>intro u hu;simp at hu;subst hu;rfl
   case c3=>unfold maxLen;omega
   case c4=>omega
   case c5=>have:=hb.size;simp;omega
   ·intro v' w1 hown' hgrow _
    have B1:=(hb.alloc hb.size _).grown hgrow (by have:=hb.size;simp;omega) (fun k hk=>(hown.lt k hk).1)
    rw [←hT.out] at hown'
    clear hgrow hown hT q0
    go_wp2_with fail
    go_roundw
    case rel=>exact ⟨k+1,by omega,by go_num,hown',B1⟩
    case measure=>simp [intOf];omega
  ·go_wp2_with fail
   go_ret
   obtain rfl:k=xs.length:=by omega
   rw [List.take_length] at hown
   exact⟨_,rfl,hown,hb⟩
theorem owns_other {w w':World} {base e size n:Nat} {v:Value} {xs:List Value} (h:w.ownsRow base e size v n xs) (hb:∀k,v.ownBlock=some k→w'.heap[k]?=w.heap[k]?):w'.ownsRow base e size v n xs:=by
 obtain⟨h1,h2 | ⟨g,cap,cur,rfl,hg,hh,r⟩⟩:=h
 ·exact⟨h1,.inl h2⟩
 ·exact⟨h1,.inr ⟨g,cap,cur,rfl,hg,(hb g rfl).trans hh,r⟩⟩
theorem owns_grown {w w':World} {base e size n:Nat} {v:Value} {xs:List Value} {row:Option Nat} (h:w.ownsRow base e size v n xs) (hg:w.grownBy w' row) (hn:∀k,v.ownBlock=some k→some k≠row):w'.ownsRow base e size v n xs:=
 owns_other h fun k hk=>hg.block k (h.lt k hk).2 (hn k hk)
set_option maxRecDepth 100000 in
set_option maxHeartbeats 800000 in
theorem l3guards_any (ao:Option Addr) (cap:Nat) (xs:List Gd) (w:World) (hm:xs.length≤1048576) (hx:GdsAt 0 w ao xs) :
  Calls Tryz.prog 52 #[.slice ao xs.length cap] w fun e w'=>∃v,e=.returned v∧w'.ownsRow w.heap.size 163 3 v xs.length (gds xs)∧Below w.heap.size w w':=by
 obtain⟨i0,hi,hz0,hz1,hz2⟩:=info_parts Tryz.info_Guard
 go_enter Tryz.func52,Tryz.ntmps52
 go_wp2_with fail
 go_loopw [3,8] (fun v y wr=>∃k:Nat,k≤xs.length∧y=.int .i64 k∧wr.ownsRow w.heap.size 163 3 v k (gds (xs.take k))∧Below w.heap.size w wr) (fun _ y _=>xs.length - (intOf y).toNat)
 case atStart=>exact ⟨0,Nat.zero_le _,rfl,World.ownsRow_nil _ _ _ _,Below.refl _ _⟩
 case round=>
  obtain⟨k,hk,rfl,hown,hb⟩:=hrel
  by_cases hkl:k<xs.length
  ·obtain⟨x,hxk⟩:=some_of_lt hkl
   obtain⟨b,off,rfl,_,hbl,q0,q1,q2⟩:=hx.later (Keeps.of_below hb) k x hxk
   have hT:Hid (gds (xs.take (k+1))=gds (xs.take k) ++ [.bool x.tr,.int .i64 x.keep,.int .i64 x.hd]):=by
    show _=_
    rw [List.take_add_one,hxk,gds_append]
    rfl
   obtain⟨x0,x1,x2⟩:=x
   dsimp only at *
   go_wp2_with (at_builtin;refine wpList_append_own _ rfl _ _ 96 rfl w.heap.size 163 i0 (.agg #[.bool false,.int .i64 0,.int .i64 0]) 3 24 Tryz.underlying96 hi hz0 hz1 hz2 rfl (by decide) _ _ _ rfl ((hown.alloc _).alloc _) ⟨wr.heap.size+1,0,none⟩ 1 1 [.bool x0,.int .i64 x1,.int .i64 x2] (by first | rfl | simp) rfl ?c1 ?c2 ?c3 ?c4 ?c5 ?_)
   case c1=>
    intro j u hj
    match j,hj with
    | 0,hj=>simp at hj;subst hj;simp [Addr.add]
    | 1,hj=>simp at hj;subst hj;simp [Addr.add]
    | 2,hj=>simp at hj;subst hj;simp [Addr.add]
   case c2=>intro u hu;simp at hu;rcases hu with rfl | rfl | rfl <;> rfl
   case c3=>unfold maxLen;omega
   case c4=>omega
   case c5=>have:=hb.size;simp;omega
   ·intro v' w1 hown' hgrow _
    have B1:=((hb.alloc hb.size _).alloc (by have:=hb.size;simp;omega) _).grown hgrow (by have:=hb.size;simp;omega) (fun k hk=>(hown.lt k hk).1)
    rw [←hT.out] at hown'
    clear hgrow hown hT q0 q1 q2
    go_wp2_with fail
    go_roundw
    case rel=>exact ⟨k+1,by omega,by go_num,hown',B1⟩
    case measure=>simp [intOf];omega
  ·go_wp2_with fail
   go_ret
   obtain rfl:k=xs.length:=by omega
   rw [List.take_length] at hown
   exact⟨_,rfl,hown,hb⟩
def wantsR (r:Nat):Int × Bool:=
 match r with
 | 2=>(1,true)
 | 3=>(3,true)
 | 4=>(1,false)
 | 18=>(1,false)
 | 19=>(1,false)
 | 20=>(1,false)
 | 5=>(2,false)
 | 6=>(3,false)
 | _=>(0,false)
set_option maxRecDepth 100000 in
set_option maxHeartbeats 2000000 in
theorem l3wants_any (r:Nat) (w:World) (hr:r≤21):Calls Tryz.prog 98 #[.int .i64 r] w fun e w'=>e=.returned (.tuple #[.int .i64 (wantsR r).1,.bool (wantsR r).2])∧w'=w:=by
 rcases roles_all r hr with rfl | rfl | rfl | rfl | rfl | rfl | rfl | rfl | rfl | rfl | rfl | rfl | rfl | rfl | rfl | rfl | rfl | rfl | rfl | rfl | rfl | rfl
 all_goals
  go_enter Tryz.func98,Tryz.ntmps98
  go_wp2_with fail
  go_ret2
  exact⟨rfl,rfl⟩
def aboveB (gs:List Gd) (keep:Int):Bool:=gs.all fun g=>!(g.tr && decide (keep<g.keep))
theorem aboveB_drop {gs:List Gd} {k:Nat} {g:Gd} {keep:Int} (h:gs[k]?=some g):aboveB (gs.drop k) keep=(!(g.tr && decide (keep<g.keep)) && aboveB (gs.drop (k+1)) keep):=by
 rw [drop_some h];rfl
set_option maxRecDepth 100000 in
set_option maxHeartbeats 800000 in
theorem l3above_any (ao:Option Addr) (cap:Nat) (gs:List Gd) (keep:Int) (w:World) (hm:gs.length≤1048576) (hx:GdsAt 0 w ao gs) :
  Calls Tryz.prog 99 #[.slice ao gs.length cap,.int .i64 keep] w fun e w'=>e=.returned (.bool (aboveB gs keep))∧Below w.heap.size w w':=by
 go_enter Tryz.func99,Tryz.ntmps99
 go_wp2_with fail
 go_loopw [9] (fun y wr=>∃k:Nat,k≤gs.length∧y=.int .i64 k∧Hid (aboveB (gs.drop k) keep=aboveB gs keep)∧Below w.heap.size w wr) (fun y _=>gs.length - (intOf y).toNat)
 case atStart=>exact ⟨0,Nat.zero_le _,rfl,rfl,Below.refl _ _⟩
 case round=>
  obtain⟨k,hk,rfl,HQ,hb⟩:=hrel
  by_cases hkl:k<gs.length
  ·obtain⟨x,hxk⟩:=some_of_lt hkl
   obtain⟨b,off,rfl,_,hbl,q0,q1,q2⟩:=hx.later (Keeps.of_below hb) k x hxk
   have HD:Hid (aboveB gs keep=_):=HQ.out.symm.trans (aboveB_drop hxk)
   have hba:∀o,Below w.heap.size w (wr.alloc o):=fun o=>hb.alloc hb.size o
   obtain⟨x0,x1,x2⟩:=x
   dsimp only at *
   clear hx HQ hxk
   cases x0
   ·have HN:Hid (aboveB (gs.drop (k+1)) keep=aboveB gs keep):=by show _=_;rw [HD.out];simp
    clear HD
    go_wp2_with fail
    go_roundw
    case rel=>exact ⟨k+1,by omega,by go_num,HN.out,hba _⟩
    case measure=>simp [intOf];omega
   ·by_cases hlt:keep<x1
    ·have HN:Hid (aboveB gs keep=false):=by show _=_;rw [HD.out];simp [hlt]
     clear HD
     go_wp2_with fail
     go_ret
     exact⟨ret_bool HN.out.symm,hba _⟩
    ·have HN:Hid (aboveB (gs.drop (k+1)) keep=aboveB gs keep):=by show _=_;rw [HD.out];simp [hlt]
     clear HD
     go_wp2_with fail
     go_roundw
     case rel=>exact ⟨k+1,by omega,by go_num,HN.out,hba _⟩
     case measure=>simp [intOf];omega
  ·have HN:Hid (aboveB gs keep=true):=by
    have h1:=HQ.out
    rw [List.drop_of_length_le (by omega)] at h1
    exact h1.symm
   clear HQ
   go_wp2_with fail
   go_ret
   exact⟨ret_bool HN.out.symm,hb⟩
theorem Tryz.guard_und:Tryz.prog.underlying 163=some (.struct (Tryz.prog.fieldsOf 163)):=by kernel_rfl
theorem Tryz.guard_held:Tryz.prog.stoodInHeld 163=false:=by kernel_rfl
theorem Tryz.guard_eqg:Tryz.prog.eqGuardType Tryz.prog.depth 163=false:=by kernel_rfl
theorem run_eqg_Guard (x y:Operand) (xs ys:Array Value) (w:World):(eqGuard .neq 163 x y (.agg xs) (.agg ys)).run Tryz.prog w=.ok () w:=run_eqGuard_agg w .neq _ x y xs ys Tryz.guard_eqg
theorem Tryz.guard_fields : (Tryz.prog.fieldsOf 163).toList.map (fun f => (f.name == "_", f.type, f.offset)) = [(false, 4, 0), (false, 3, 1), (false, 3, 2)] := by kernel_rfl
theorem Tryz.und_bool:Tryz.prog.underlying 4=some .bool:=by kernel_rfl
theorem Tryz.und_int:Tryz.prog.underlying 3=some (.int .i64):=by kernel_rfl
set_option maxRecDepth 100000 in
theorem run_neq_Guard (a0 b0:Bool) (a1 a2 b1 b2:Int) (w:World):(binOp .neq 163 (.agg #[.bool a0,.int .i64 a1,.int .i64 a2]) (.agg #[.bool b0,.int .i64 b1,.int .i64 b2])).run Tryz.prog w=.ok (.bool (!(a0 == b0 && (a1 == b1 && a2 == b2)))) w:=by
 rw [run_neq_struct,run_equalIn_struct w 9999 _ _ _ Tryz.guard_und Tryz.guard_held]
 have hf:=Tryz.guard_fields
 generalize (Tryz.prog.fieldsOf 163).toList=fs at hf
 obtain⟨⟨n0,t0,o0,e0,g0,p0,y0⟩,r0,rfl,h0,hf⟩:=List.map_eq_cons_iff.1 hf
 obtain⟨⟨n1,t1,o1,e1,g1,p1,y1⟩,r1,rfl,h1,hf⟩:=List.map_eq_cons_iff.1 hf
 obtain⟨⟨n2,t2,o2,e2,g2,p2,y2⟩,r2,rfl,h2,hf⟩:=List.map_eq_cons_iff.1 hf
 obtain rfl:=List.map_eq_nil_iff.1 hf
 simp only [Prod.mk.injEq] at h0 h1 h2
 obtain⟨h0,rfl,rfl⟩:=h0
 obtain⟨h1,rfl,rfl⟩:=h1
 obtain⟨h2,rfl,rfl⟩:=h2
 have i0 : ¬ n0 = "_" := by simpa using h0
 have i1 : ¬ n1 = "_" := by simpa using h1
 have i2 : ¬ n2 = "_" := by simpa using h2
 simp [go_sem,part,i0,i1,i2]
 by_cases z0:a0=b0 <;> by_cases z1:a1=b1 <;> by_cases z2:a2=b2 <;> simp [z0,z1,z2]
attribute [local go_sem] run_eqg_Guard run_neq_Guard
def stV (r:Bool) (to:Option Addr) (tn tc:Nat) (go:Option Addr) (gn gc:Nat):Value:=.agg #[.bool r,.slice to tn tc,.slice go gn gc]
theorem drop_eq_step {α:Type} {a b:List α} {k:Nat} {x y:α} (hx:a[k]?=some x) (hy:b[k]?=some y):(a.drop k=b.drop k) ↔ (x=y∧a.drop (k+1)=b.drop (k+1)):=by
 rw [drop_some hx,drop_some hy,List.cons.injEq]
set_option maxRecDepth 100000 in
set_option maxHeartbeats 1600000 in
theorem l3same_any (r1 r2:Bool) (o1 o2 p1 p2:Option Addr) (c1 c2 d1 d2:Nat) (t1 t2:List Int) (g1 g2:List Gd) (w:World) (l1:t1.length≤1048576) (l3:g1.length≤1048576)
  (h1:IntsAt 0 w o1 t1) (h2:IntsAt 0 w o2 t2) (h3:GdsAt 0 w p1 g1) (h4:GdsAt 0 w p2 g2) :
  Calls Tryz.prog 53 #[stV r1 o1 t1.length c1 p1 g1.length d1,stV r2 o2 t2.length c2 p2 g2.length d2] w fun e w'=>e=.returned (.bool (decide (t1=t2) && decide (g1=g2)))∧Below w.heap.size w w':=by
 unfold stV
 have X0:=(Blk.new w #[.bool r1,.slice o1 t1.length c1,.slice p1 g1.length d1] 98).alloc (.cells #[.bool r2,.slice o2 t2.length c2,.slice p2 g2.length d2] 98)
 have Y0:=Blk.new (w.alloc (.cells #[.bool r1,.slice o1 t1.length c1,.slice p1 g1.length d1] 98)) #[.bool r2,.slice o2 t2.length c2,.slice p2 g2.length d2] 98
 rw [nblk_alloc] at Y0
 have hb2:∀o1 o2,Below w.heap.size w ((w.alloc o1).alloc o2):=fun o1 o2=>((Below.refl _ _).alloc (Nat.le_refl _) o1).alloc (by simp) o2
 have HB:Hid (∀o1 o2,Below w.heap.size w ((w.alloc o1).alloc o2)):=hb2
 clear hb2
 go_enter Tryz.func53,Tryz.ntmps53
 by_cases e1:t1.length=t2.length
 rotate_left
 ·have k1:((t1.length:Int) != t2.length)=true:=by simp;omega
  have HN:Hid (¬t1=t2):=fun h=>e1 (by rw [h])
  clear e1
  go_wp2_with fail
  go_ret
  refine⟨ret_bool ?_,HB.out _ _⟩
  simp [HN.out]
 ·have k1:((t1.length:Int) != t2.length)=false:=by simp;omega
  by_cases e2:g1.length=g2.length
  rotate_left
  ·have k2:((g1.length:Int) != g2.length)=true:=by simp;omega
   have HN:Hid (¬g1=g2):=fun h=>e2 (by rw [h])
   clear e1 e2
   go_wp2_with fail
   go_ret
   refine⟨ret_bool ?_,HB.out _ _⟩
   simp [HN.out]
  ·have k2:((g1.length:Int) != g2.length)=false:=by simp;omega
   have E1:Hid (t1.length=t2.length):=e1
   have E2:Hid (g1.length=g2.length):=e2
   clear e1 e2
   go_wp2_with fail
   have B0:=HB.out (.cells #[.bool r1,.slice o1 t1.length c1,.slice p1 g1.length d1] 98) (.cells #[.bool r2,.slice o2 t2.length c2,.slice p2 g2.length d2] 98)
   clear HB
   go_loopw [26] (fun y wr=>∃k:Nat,k≤t1.length∧y=.int .i64 k∧Hid ((t1=t2) ↔ (t1.drop k=t2.drop k))∧Below w.heap.size w wr∧Blk wr w.heap.size #[.bool r1,.slice o1 t1.length c1,.slice p1 g1.length d1] 98∧Blk wr (w.heap.size+1) #[.bool r2,.slice o2 t2.length c2,.slice p2 g2.length d2] 98) (fun y _=>t1.length - (intOf y).toNat)
   case atStart=>exact ⟨0,Nat.zero_le _,rfl,Iff.rfl,B0,X0,Y0⟩
   case round=>
    obtain⟨k,hk,rfl,HQ,hb,X1,Y1⟩:=hrel
    clear B0 X0 Y0
    have x1:=X1.cell
    have y1:=Y1.cell
    by_cases hkl:k<t1.length
    ·obtain⟨x,hxk⟩:=some_of_lt hkl
     have hkl2:k<t2.length:=by rw [←E1.out];exact hkl
     obtain⟨y,hyk⟩:=some_of_lt hkl2
     obtain⟨b,off,rfl,_,hbl,q0⟩:=h1.later (Keeps.of_below hb) k x hxk
     obtain⟨b',off',rfl,_,hbl',q1⟩:=h2.later (Keeps.of_below hb) k y hyk
     have HD:Hid ((t1=t2) ↔ (x=y∧t1.drop (k+1)=t2.drop (k+1))):=HQ.out.trans (drop_eq_step hxk hyk)
     unfold IntAt at q0 q1
     rw [Nat.mul_one] at q0 q1
     have k3:(k:Int)<t2.length:=by omega
     clear HQ h1 h2 h3 h4 hxk hyk
     by_cases hxy:x=y
     ·subst hxy
      have HN:Hid ((t1=t2) ↔ t1.drop (k+1)=t2.drop (k+1)):=by
       show _ ↔ _
       rw [HD.out]
       exact⟨fun h=>h.2,fun h=>⟨rfl,h⟩⟩
      clear HD
      go_wp2_with fail
      go_quiet (fail)
      go_wp2_with fail
      go_roundw
      case rel=>exact ⟨k+1,by omega,by go_num,HN.out,below_drewN hb _,X1,Y1⟩
      case measure=>simp [intOf];omega
     ·have k4:(x != y)=true:=by simpa using hxy
      have HN:Hid (¬t1=t2):=by
       intro h
       exact hxy (HD.out.1 h).1
      clear HD hxy
      go_wp2_with fail
      go_quiet (fail)
      go_wp2_with fail
      go_ret
      refine⟨ret_bool ?_,below_drewN hb _⟩
      simp [HN.out]
    ·have HT:Hid (t1=t2):=by
      show _=_
      rw [HQ.out,List.drop_of_length_le (by omega),List.drop_of_length_le (by rw [←E1.out];omega)]
     clear HQ
     go_wp2_with fail
     go_loopw [44] (fun y wr=>∃k:Nat,k≤g1.length∧y=.int .i64 k∧Hid ((g1=g2) ↔ (g1.drop k=g2.drop k))∧Below w.heap.size w wr∧Blk wr w.heap.size #[.bool r1,.slice o1 t1.length c1,.slice p1 g1.length d1] 98∧Blk wr (w.heap.size+1) #[.bool r2,.slice o2 t2.length c2,.slice p2 g2.length d2] 98) (fun y _=>g1.length - (intOf y).toNat)
     case atStart=>exact ⟨0,Nat.zero_le _,rfl,Iff.rfl,hb,X1,Y1⟩
     case round=>
      obtain⟨k',hk',rfl,HQ,hb',X2,Y2⟩:=hrel
      clear hb X1 Y1 x1 y1
      have x2:=X2.cell
      have y2:=Y2.cell
      by_cases hkl2:k'<g1.length
      ·obtain⟨x,hxk⟩:=some_of_lt hkl2
       have hkl3:k'<g2.length:=by rw [←E2.out];exact hkl2
       obtain⟨y,hyk⟩:=some_of_lt hkl3
       obtain⟨b,off,rfl,_,hbl,q0,q1,q2⟩:=h3.later (Keeps.of_below hb') k' x hxk
       obtain⟨b',off',rfl,_,hbl',q3,q4,q5⟩:=h4.later (Keeps.of_below hb') k' y hyk
       have HD:Hid ((g1=g2) ↔ (x=y∧g1.drop (k'+1)=g2.drop (k'+1))):=HQ.out.trans (drop_eq_step hxk hyk)
       have k3:(k':Int)<g2.length:=by omega
       obtain⟨x0,x1,x2'⟩:=x
       obtain⟨y0,y1,y2'⟩:=y
       dsimp only at *
       clear HQ h1 h2 h3 h4 hxk hyk
       by_cases hxy:(⟨x0,x1,x2'⟩:Gd)=⟨y0,y1,y2'⟩
       ·have HN:Hid ((g1=g2) ↔ g1.drop (k'+1)=g2.drop (k'+1)):=by
         show _ ↔ _
         rw [HD.out]
         exact⟨fun h=>h.2,fun h=>⟨hxy,h⟩⟩
        simp only [Gd.mk.injEq] at hxy
        obtain⟨rfl,rfl,rfl⟩:=hxy
        clear HD
        go_wp2_with fail
        go_quiet (fail)
        go_wp2_with fail
        go_roundw
        case rel=>exact ⟨k'+1,by omega,by go_num,HN.out,below_drewN hb' _,X2,Y2⟩
        case measure=>simp [intOf];omega
       ·have HN:Hid (¬g1=g2):=by
         intro h
         exact hxy (HD.out.1 h).1
        have k4:(¬x0=y0)∨(x0=y0∧¬x1=y1)∨(x0=y0∧x1=y1∧¬x2'=y2'):=by
         simp only [Gd.mk.injEq] at hxy
         by_cases z0:x0=y0 <;> by_cases z1:x1=y1 <;> by_cases z2:x2'=y2' <;> simp_all
        clear HD hxy
        rcases k4 with k4 | ⟨rfl,k4⟩ | ⟨rfl,rfl,k4⟩
        ·have k5:(x0 == y0)=false:=by simpa using k4
         go_wp2_with fail
         go_quiet (fail)
         go_wp2_with fail
         go_ret
         refine⟨ret_bool ?_,below_drewN hb' _⟩
         simp [HN.out]
        ·have k5:(x1 == y1)=false:=by simpa using k4
         go_wp2_with fail
         go_quiet (fail)
         go_wp2_with fail
         go_ret
         refine⟨ret_bool ?_,below_drewN hb' _⟩
         simp [HN.out]
        ·have k5:(x2' == y2')=false:=by simpa using k4
         go_wp2_with fail
         go_quiet (fail)
         go_wp2_with fail
         go_ret
         refine⟨ret_bool ?_,below_drewN hb' _⟩
         simp [HN.out]
      ·have HG:Hid (g1=g2):=by
        show _=_
        rw [HQ.out,List.drop_of_length_le (by omega),List.drop_of_length_le (by rw [←E2.out];omega)]
       clear HQ
       go_wp2_with fail
       go_ret
       refine⟨ret_bool ?_,hb'⟩
       simp [HT.out,HG.out]
end Go.Proofs.YtaakadmnhpboiaaGreatDoor
namespace Go.Proofs.YtaakadmnhpboiaaGreatDoor
open Go.RowKit Go.Deep
theorem grown_trans {a b c:World} {row:Option Nat} (h:a.grownBy b row) (k:b.grownBy c row):a.grownBy c row:=
 ⟨k.os.trans h.os,k.tape.trans h.tape,k.output.trans h.output,Nat.le_trans h.size k.size,fun i hi hn=>(k.block i (Nat.lt_of_lt_of_le hi h.size) hn).trans (h.block i hi hn)⟩
theorem grown_of_below {a b:World} (h:Below a.heap.size a b) (row:Option Nat):a.grownBy b row:=⟨h.os,h.tape,h.output,h.size,fun i hi _=>h.block i hi⟩
theorem below_of_grown {B:Nat} {a b:World} {row:Option Nat} (h:a.grownBy b row) (hB:B≤a.heap.size) (hr:∀k,row=some k→B≤k):Below B a b:=(Below.refl _ _).grown h hB hr
theorem blk_grown {a b:World} {row:Option Nat} {g:Nat} {arr:Array Value} {t:TypeId} (h:Blk a g arr t) (hg:a.grownBy b row) (hn:some g≠row):Blk b g arr t:=(hg.block g h.lt hn).trans h
structure InsFit (np:Nat) (p:Pd) (n:Nd):Prop where
 lo:1≤n.op
 hi:n.op≤42
 fit:fitAll np p (rolesOf n.op.toNat) n.fs=true
def writeT (n:Nd) (ts:List Int):List Int:=
 if n.op=6 then ts.set n.a.toNat 2
 else if n.op=22∨n.op=27∨n.op=28 then ts.set n.a.toNat 3
 else if n.op=40 then ts.set (n.a.toNat+1) 1
 else if n.op=42 then ts.set n.a.toNat 0
 else if n.op=41 then ts.set n.c.toNat 3
 else if (rolesOf n.op.toNat).getD 0 0=1 then ts.set n.a.toNat 1 else ts
theorem fit_into {np:Nat} {p:Pd} {n:Nd} (h:InsFit np p n) (h1:(rolesOf n.op.toNat).getD 0 0=1∨(rolesOf n.op.toNat).getD 0 0=21):0≤n.a∧n.a<p.regs:=by
 obtain⟨r0,r1,r2,r3,hr,_⟩:=roles_four (n:=n.op.toNat) (by have:=h.lo;omega) (by have:=h.hi;omega)
 have hf:=h.fit
 rw [hr] at hf h1
 simp only [List.getD_cons_zero] at h1
 simp only [fitAll,Nd.fs,Bool.and_eq_true] at hf
 have h0:=hf.1
 rcases h1 with rfl | rfl
 ·simp [fitsR,inR] at h0;omega
 ·simp [fitsR,inR] at h0;omega
theorem ints_set (ts:List Int) (i:Nat) (x:Int):(ints ts).set i (.int .i64 x)=ints (ts.set i x):=by simp [ints,List.map_set]
theorem ints_get {ts:List Int} {i:Nat} (h:i<ts.length):(ints ts)[i]?=some (.int .i64 (ts.getD i 0)):=by simp [ints,h]
set_option maxRecDepth 100000 in
set_option maxHeartbeats 4000000 in
theorem l3write_any (np:Nat) (p:Pd) (n:Nd) (v:Value) (base:Nat) (ts:List Int) (w:World) (hn:InsFit np p n) (hl:(ts.length:Int)=p.regs) (hr:p.regs≤250) (hown:w.ownsRow base 3 1 v ts.length (ints ts)) :
  Calls Tryz.prog 49 #[n.val,v] w fun e w'=>e=.returned (.tuple #[])∧w'.ownsRow base 3 1 v ts.length (ints (writeT n ts))∧w.grownBy w' v.ownBlock:=by
 have hf:=hn.fit
 have ho1:=hn.lo
 have ho2:=hn.hi
 obtain⟨ao,cap,rfl⟩:=owns_slice hown
 have hst:∀(i:Nat) (x:Int) (W:World),Below w.heap.size w W→i<ts.length→∃g,ao=some ⟨g,0,none⟩∧W.cell? ⟨g,i,none⟩=some (.int .i64 (ts.getD i 0))∧W.frozen? ⟨g,i,none⟩=false∧
   (W.setCell ⟨g,i,none⟩ (.int .i64 x)).ownsRow base 3 1 (.slice ao ts.length cap) ts.length (ints (ts.set i x))∧w.grownBy (W.setCell ⟨g,i,none⟩ (.int .i64 x)) (Value.slice ao ts.length cap).ownBlock:=by
  intro i x W hW hi
  rcases owns_form hown with ⟨h1,h2⟩ | ⟨g,cap',h1,h2,h3⟩
  ·omega
  ·simp only [Value.slice.injEq] at h1
   obtain⟨rfl,_,rfl⟩:=h1
   have ho:=owns_below hown hW
   obtain⟨s1,s2⟩:=ho.stored i (.int .i64 x)
   rw [ints_set] at s1
   exact⟨g,rfl,(ho.cellAt i (by omega)).trans (ints_get hi),ho.frozenAt i,s1,grown_trans (grown_of_below hW _) s2⟩
 have HST:Hid _:=hst
 have HGR:Hid (∀W,Below w.heap.size w W→W.ownsRow base 3 1 (.slice ao ts.length cap) ts.length (ints ts)∧w.grownBy W (Value.slice ao ts.length cap).ownBlock):=fun W hW=>⟨owns_below hown hW,grown_of_below hW _⟩
 have HI:Hid _:=@fit_into np p n hn
 obtain⟨op,a,b,c,d⟩:=n
 dsimp only at *
 obtain⟨opN,rfl⟩:∃k:Nat,op=k:=Int.eq_ofNat_of_zero_le (by omega)
 simp only [Int.toNat_natCast] at *
 unfold Nd.val
 dsimp only
 have hw:∀q:Nat,((opN:Int)=(q:Int)) ↔ opN=q:=fun q=>by omega
 clear hst hown
 by_cases h6:opN=6
 ·subst h6
  obtain⟨ha1,ha2⟩:=HI.out (by decide)
  obtain⟨aN,rfl⟩:=Int.eq_ofNat_of_zero_le ha1
  obtain⟨g,rfl,c1,f1,S1,S2⟩:=HST.out aN 2 (w.alloc (.cells #[.int .i64 6,.int .i64 aN,.int .i64 b,.int .i64 c,.int .i64 d] 93)) ((Below.refl _ _).alloc (Nat.le_refl _) _) (by omega)
  clear HST HGR HI
  have k1:(aN:Int)<ts.length:=by omega
  go_enter Tryz.func49,Tryz.ntmps49
  go_wp2_with fail
  go_end0
  exact⟨rfl,S1,S2⟩
 by_cases h22:opN=22
 ·subst h22
  obtain⟨ha1,ha2⟩:=HI.out (by decide)
  obtain⟨aN,rfl⟩:=Int.eq_ofNat_of_zero_le ha1
  obtain⟨g,rfl,c1,f1,S1,S2⟩:=HST.out aN 3 (w.alloc (.cells #[.int .i64 22,.int .i64 aN,.int .i64 b,.int .i64 c,.int .i64 d] 93)) ((Below.refl _ _).alloc (Nat.le_refl _) _) (by omega)
  clear HST HGR HI
  have k1:(aN:Int)<ts.length:=by omega
  go_enter Tryz.func49,Tryz.ntmps49
  go_wp2_with fail
  go_end0
  exact⟨rfl,S1,S2⟩
 by_cases h27:opN=27
 ·subst h27
  obtain⟨ha1,ha2⟩:=HI.out (by decide)
  obtain⟨aN,rfl⟩:=Int.eq_ofNat_of_zero_le ha1
  obtain⟨g,rfl,c1,f1,S1,S2⟩:=HST.out aN 3 (w.alloc (.cells #[.int .i64 27,.int .i64 aN,.int .i64 b,.int .i64 c,.int .i64 d] 93)) ((Below.refl _ _).alloc (Nat.le_refl _) _) (by omega)
  clear HST HGR HI
  have k1:(aN:Int)<ts.length:=by omega
  go_enter Tryz.func49,Tryz.ntmps49
  go_wp2_with fail
  go_end0
  exact⟨rfl,S1,S2⟩
 by_cases h28:opN=28
 ·subst h28
  obtain⟨ha1,ha2⟩:=HI.out (by decide)
  obtain⟨aN,rfl⟩:=Int.eq_ofNat_of_zero_le ha1
  obtain⟨g,rfl,c1,f1,S1,S2⟩:=HST.out aN 3 (w.alloc (.cells #[.int .i64 28,.int .i64 aN,.int .i64 b,.int .i64 c,.int .i64 d] 93)) ((Below.refl _ _).alloc (Nat.le_refl _) _) (by omega)
  clear HST HGR HI
  have k1:(aN:Int)<ts.length:=by omega
  go_enter Tryz.func49,Tryz.ntmps49
  go_wp2_with fail
  go_end0
  exact⟨rfl,S1,S2⟩
 by_cases h42:opN=42
 ·subst h42
  obtain⟨ha1,ha2⟩:=HI.out (by decide)
  obtain⟨aN,rfl⟩:=Int.eq_ofNat_of_zero_le ha1
  obtain⟨g,rfl,c1,f1,S1,S2⟩:=HST.out aN 0 (w.alloc (.cells #[.int .i64 42,.int .i64 aN,.int .i64 b,.int .i64 c,.int .i64 d] 93)) ((Below.refl _ _).alloc (Nat.le_refl _) _) (by omega)
  clear HST HGR HI
  have k1:(aN:Int)<ts.length:=by omega
  go_enter Tryz.func49,Tryz.ntmps49
  go_wp2_with fail
  go_end0
  exact⟨rfl,S1,S2⟩
 by_cases h40:opN=40
 ·subst h40
  simp [fitAll,Nd.fs,rolesOf,roleTab,fitsR,inR] at hf
  obtain⟨aN,rfl⟩:=Int.eq_ofNat_of_zero_le hf.1.1
  obtain⟨g,rfl,c1,f1,S1,S2⟩:=HST.out (aN+1) 1 (w.alloc (.cells #[.int .i64 40,.int .i64 aN,.int .i64 b,.int .i64 c,.int .i64 d] 93)) ((Below.refl _ _).alloc (Nat.le_refl _) _) (by omega)
  clear HST HGR HI
  have k1:(aN:Int)+1<ts.length:=by omega
  clear hf
  go_enter Tryz.func49,Tryz.ntmps49
  go_wp2_with fail
  go_end0
  exact⟨rfl,S1,S2⟩
 by_cases h41:opN=41
 ·subst h41
  simp [fitAll,Nd.fs,rolesOf,roleTab,fitsR,inR] at hf
  obtain⟨cN,rfl⟩:=Int.eq_ofNat_of_zero_le hf.2.2.1.1
  obtain⟨g,rfl,c1,f1,S1,S2⟩:=HST.out cN 3 (w.alloc (.cells #[.int .i64 41,.int .i64 a,.int .i64 b,.int .i64 cN,.int .i64 d] 93)) ((Below.refl _ _).alloc (Nat.le_refl _) _) (by omega)
  clear HST HGR HI
  have k1:(cN:Int)<ts.length:=by omega
  clear hf
  go_enter Tryz.func49,Tryz.ntmps49
  go_wp2_with fail
  go_end0
  exact⟨rfl,S1,S2⟩
 have hW:writeT ⟨opN,a,b,c,d⟩ ts=if (rolesOf opN).getD 0 0=1 then ts.set a.toNat 1 else ts:=by
  unfold writeT
  dsimp only
  rw [if_neg (by omega),if_neg (by omega),if_neg (by omega),if_neg (by omega),if_neg (by omega),Int.toNat_natCast]
 have HW:Hid _:=hW
 clear hW
 obtain⟨r0,r1,r2,r3,hro,_⟩:=roles_four (n:=opN) (by omega) (by omega)
 rw [hro] at HW HI
 have HR:Hid _:=fun W=>l3roles_any opN r0 r1 r2 r3 W (by omega) (by omega) hro
 have t1:((opN:Int) == 6)=false:=by simp;omega
 have t2:((opN:Int) == 22)=false:=by simp;omega
 have t3:((opN:Int) == 27)=false:=by simp;omega
 have t4:((opN:Int) == 28)=false:=by simp;omega
 have t5:((opN:Int) == 40)=false:=by simp;omega
 have t6:((opN:Int) == 41)=false:=by simp;omega
 have t7:((opN:Int) == 42)=false:=by simp;omega
 clear hf hro hw h6 h22 h27 h28 h40 h41 h42
 by_cases hr0:r0=1
 ·subst hr0
  obtain⟨ha1,ha2⟩:=HI.out (Or.inl rfl)
  obtain⟨aN,rfl⟩:=Int.eq_ofNat_of_zero_le ha1
  have HW2:Hid (writeT ⟨opN,aN,b,c,d⟩ ts=ts.set aN 1):=HW.out
  obtain⟨g,rfl,c1,f1,S1,S2⟩:=HST.out aN 1 ((w.alloc (.cells #[.int .i64 opN,.int .i64 aN,.int .i64 b,.int .i64 c,.int .i64 d] 93)).alloc (.cells #[.int .i64 1,.int .i64 r1,.int .i64 r2,.int .i64 r3] 3)) (((Below.refl _ _).alloc (Nat.le_refl _) _).alloc (by simp) _) (by omega)
  have k1:(aN:Int)<ts.length:=by omega
  clear HI HW HST HGR
  go_enter Tryz.func49,Tryz.ntmps49
  go_wp2_with fail
  refine (HR.out _).mono ?_
  rintro e w' ⟨rfl,rfl⟩
  go_wp2_with fail
  go_end0
  refine⟨rfl,?_,S2⟩
  rw [HW2.out]
  exact S1
 ·have HW2:Hid (writeT ⟨opN,a,b,c,d⟩ ts=ts):=HW.out.trans (if_neg hr0)
  have k0:((r0:Int) == 1)=false:=by simp;omega
  obtain⟨S1,S2⟩:=HGR.out ((w.alloc (.cells #[.int .i64 opN,.int .i64 a,.int .i64 b,.int .i64 c,.int .i64 d] 93)).alloc (.cells #[.int .i64 r0,.int .i64 r1,.int .i64 r2,.int .i64 r3] 3)) (((Below.refl _ _).alloc (Nat.le_refl _) _).alloc (by simp) _)
  clear HI HW HST HGR hr0
  go_enter Tryz.func49,Tryz.ntmps49
  go_wp2_with fail
  refine (HR.out _).mono ?_
  rintro e w' ⟨rfl,rfl⟩
  go_wp2_with fail
  go_end0
  refine⟨rfl,?_,S2⟩
  rw [HW2.out]
  exact S1
structure St where
 types:List Int
 guards:List Gd
 deriving DecidableEq
structure Rd where
 types:List Int
 stay:List Int
 taken:List Int
def tyAt (ts:List Int) (x:Int):Int:=ts.getD x.toNat 0
def rdOp (want x:Int) (s:Rd):Option Rd:=
 if tyAt s.types (regOf x)=want then
  if x<0 then (if regOf x ∈ s.stay then none else some ⟨s.types.set (regOf x).toNat 0,s.stay,s.taken ++ [regOf x]⟩) else some s
 else none
def rdPlace (want x:Int) (s:Rd):Option Rd:=if tyAt s.types x=want then some ⟨s.types,s.stay ++ [x],s.taken⟩ else none
def rdS (r:Nat) (x:Int) (s:Rd):Option Rd:=
 match r with
 | 2=>rdOp 1 x s
 | 3=>rdOp 3 x s
 | 4=>rdPlace 1 x s
 | 5=>rdPlace 2 x s
 | 6=>rdPlace 3 x s
 | 18=>if tyAt s.types x=1∧tyAt s.types (x+1)=1∧tyAt s.types (x+2)=1 then some ⟨s.types,s.stay ++ [x],s.taken⟩ else none
 | 19=>if tyAt s.types x=1∧tyAt s.types (x+1)=0 then some ⟨s.types,s.stay ++ [x],s.taken ++ [x]⟩ else none
 | 20=>if tyAt s.types x=1∧tyAt s.types (x+1)=1 then some ⟨s.types,s.stay ++ [x],s.taken⟩ else none
 | _=>some s
def rdsS:List Nat→List Int→Rd→Option Rd
 | r::rs,x::xs,s=>(rdS r x s).bind (rdsS rs xs)
 | _,_,s=>some s
def upsBoxedB (ts:List Int) (us:List Ud):Bool:=us.all fun u=>!(u.loc && decide (tyAt ts u.idx≠2))
def fnUps (ps:List Pd) (n:Nd):List Ud:=if n.op=11 then (match ps[n.b.toNat]? with | some q=>q.ups | none=>[]) else []
def readF (ps:List Pd) (n:Nd) (ts:List Int):Option (List Int × List Int):=
 match rdsS (rolesOf n.op.toNat) n.fs ⟨ts,[],[]⟩ with
 | none=>none
 | some r=>if upsBoxedB r.types (fnUps ps n) then some (r.types,r.taken) else none
def lastTr (gs:List Gd):Option Bool:=gs.getLast?.map Gd.tr
def keepLast (gs:List Gd) (k:Int):List Gd:=gs.modify (gs.length - 1) fun g=>⟨g.tr,k,g.hd⟩
def changeF (n:Nd) (gs:List Gd):Option (List Gd):=
 if n.op=31 then (if decide (gs.length<50) && aboveB gs n.b then some (gs ++ [⟨true,n.b,n.a⟩]) else none)
 else if n.op=33 then (if decide (gs.length<50) && aboveB gs n.a then some (gs ++ [⟨false,n.a,0⟩]) else none)
 else if n.op=32 then (if lastTr gs=some true then some gs.dropLast else none)
 else if n.op=34 then (if lastTr gs=some false∧aboveB gs n.a=true then some (keepLast gs n.a) else none)
 else if n.op=35 then (if lastTr gs=some false then some gs else none)
 else if n.op=36 then (if lastTr gs=some false then some gs.dropLast else none)
 else some gs
def sameBelow (k:Int) (b a:List Int):Bool:=decide (b.take k.toNat=a.take k.toNat)
def notBelow (k:Int) (taken:List Int):Bool:=taken.all fun x=>!decide (x<k)
def keptL (e:Bool) (taken b a:List Int):List Gd→Bool
 | []=>true
 | g::r=>(!g.tr || (notBelow g.keep taken && ((e && r.isEmpty) || sameBelow g.keep b a))) && keptL e taken b a r
def keptF (n:Nd) (gs:List Gd) (taken b a:List Int):Bool:=keptL (n.op == 32) taken b a gs
def tryT (k:Int) (ts:List Int):List Int:=((ts.take k.toNat ++ List.replicate (ts.length - k.toNat) 0).set k.toNat 1).set (k.toNat+1) 1
def goF (n:Nd) (s:St) (ts:List Int) (gs:List Gd):List (Nat × St):=
 if n.op=19 then [(n.a.toNat,⟨ts,gs⟩)]
 else if n.op=20∨n.op=21∨n.op=38∨n.op=39 then [(n.b.toNat,⟨ts,gs⟩)]
 else if n.op=41 then [(n.b.toNat,⟨ts.set n.c.toNat (tyAt s.types n.c),gs⟩)]
 else if n.op=31 then [(n.a.toNat,⟨tryT n.b s.types,s.guards⟩)]
 else []
def folF (n:Nd) (at_:Nat) (s:St) (ts:List Int) (gs:List Gd):List (Nat × St):=(if nextB n then [(at_+1,⟨ts,gs⟩)] else []) ++ goF n s ts gs
inductive Out where
 | bad (code:Nat)
 | go (l:List (Nat × St))
def stepF (ps:List Pd) (n:Nd) (at_:Nat) (s:St):Out:=
 match readF ps n s.types with
 | none=>.bad 10
 | some (t1,tk)=>match changeF n s.guards with
  | none=>.bad 11
  | some gs=>if keptF n s.guards tk s.types (writeT n t1) then .go (folF n at_ s (writeT n t1) gs) else .bad 12
structure Cf where
 sts:List (Option St)
 due:List Bool
def Cf.st (c:Cf) (i:Nat):Option St:=c.sts.getD i none
def reachF (c:Cf) (x:Nat) (s:St):Option Cf:=
 match c.st x with
 | none=>some ⟨c.sts.set x (some s),c.due.set x true⟩
 | some t=>if t=s then some c else none
def followF:Cf→List (Nat × St)→Except (Nat × Nat) Cf
 | c,[]=>.ok c
 | c,(x,s)::r=>match reachF c x s with
  | none=>.error (13,x)
  | some c'=>followF c' r
def leastDue (due:List Bool):Option Nat:=due.findIdx? id
def roundF (ps:List Pd) (p:Pd) (c:Cf) (at_:Nat):Except (Nat × Nat) Cf:=
 match p.ins[at_]?,c.st at_ with
 | some n,some s=>match stepF ps n at_ s with
  | .bad k=>.error (k,at_)
  | .go l=>followF ⟨c.sts,c.due.set at_ false⟩ l
 | _,_=>.ok ⟨c.sts,c.due.set at_ false⟩
def walkF (ps:List Pd) (p:Pd):Nat→Cf→Except (Nat × Nat) Cf
 | 0,c=>.ok c
 | f+1,c=>match leastDue c.due with
  | none=>.ok c
  | some i=>match roundF ps p c i with
   | .error e=>.error e
   | .ok c'=>walkF ps p f c'
def firstT (p:Pd):List Int:=
 let ts:=List.replicate p.params.toNat 1 ++ List.replicate (p.regs.toNat - p.params.toNat) 0
 if p.rest then ts.set p.params.toNat 3 else ts
def startC (p:Pd):Cf:=⟨(List.replicate p.ins.length none).set 0 (some ⟨firstT p,[]⟩),(List.replicate p.ins.length false).set 0 true⟩
structure StOk (p:Pd) (s:St):Prop where
 len:(s.types.length:Int)=p.regs
 few:s.guards.length≤50
 keep:∀g ∈ s.guards,0≤g.keep∧g.keep≤p.regs
def silL (n:Nd) (at_:Nat):List Nat:=
 if n.op=1∨n.op=3∨n.op=28∨n.op=29∨n.op=30 then []
 else if n.op=18∧n.b=12 then []
 else if n.op=19 then [n.a.toNat]
 else if n.op=41 then [n.b.toNat]
 else if n.op=20∨n.op=21∨n.op=38∨n.op=39 then [n.b.toNat,at_+1]
 else if n.op=31 then [n.a.toNat,at_+1]
 else [at_+1]
structure PFit (np:Nat) (p:Pd):Prop where
 regs:0≤p.regs∧p.regs≤250
 fit:∀(i:Nat) (n:Nd),p.ins[i]?=some n→InsFit np p n
 next:∀(i:Nat) (n:Nd),p.ins[i]?=some n→nextB n=true→i+1<p.ins.length
 some:0<p.ins.length
 params:0≤p.params∧p.params≤p.regs∧(p.rest=true→p.params<p.regs)
structure CfOk (p:Pd) (c:Cf):Prop where
 lenS:c.sts.length=p.ins.length
 lenD:c.due.length=p.ins.length
 ok:∀i s,c.st i=some s→StOk p s
 due:∀i,c.due.getD i false=true→(c.st i).isSome=true
def Closed (p:Pd) (c:Cf) (but:Option Nat):Prop:=∀i n,p.ins[i]?=some n→(c.st i).isSome=true→c.due.getD i false=false→some i≠but→∀j ∈ silL n i,(c.st j).isSome=true
theorem st_set (c:Cf) (x i:Nat) (s:St) (d:List Bool):(Cf.mk (c.sts.set x (some s)) d).st i=if x=i∧x<c.sts.length then some s else c.st i:=by
 unfold Cf.st
 simp only [List.getD_eq_getElem?_getD,List.getElem?_set]
 by_cases h:x=i
 ·subst h
  by_cases h2:x<c.sts.length
  ·simp [h2]
  ·simp [h2]
 ·simp [h]
theorem due_set (d:List Bool) (x i:Nat) (b:Bool):(d.set x b).getD i false=if x=i∧x<d.length then b else d.getD i false:=by
 simp only [List.getD_eq_getElem?_getD,List.getElem?_set]
 by_cases h:x=i
 ·subst h
  by_cases h2:x<d.length
  ·simp [h2]
  ·simp [h2]
 ·simp [h]
def unseen (l:List (Option St)):Nat:=(l.filter fun o=>o.isNone).length
def dues (l:List Bool):Nat:=(l.filter id).length
def Cf.meas (c:Cf):Nat:=2 * unseen c.sts+dues c.due
theorem unseen_set {l:List (Option St)} {x:Nat} {s:St} (hx:x<l.length) (hn:l.getD x none=none):unseen (l.set x (some s))+1=unseen l:=by
 induction l generalizing x with
 | nil=>simp at hx
 | cons a r ih=>
  cases x with
  | zero=>simp at hn;subst hn;simp [unseen]
  | succ x=>
   simp at hx hn
   have:=ih (x:=x) hx (by simpa using hn)
   cases a <;> simp [unseen] at * <;> omega
theorem dues_true {l:List Bool} {x:Nat} : dues (l.set x true)≤dues l+1:=by
 induction l generalizing x with
 | nil=>simp [dues]
 | cons a r ih=>
  cases x with
  | zero=>cases a <;> simp [dues]
  | succ x=>
   have:=ih (x:=x)
   cases a <;> simp [dues] at * <;> omega
theorem dues_false {l:List Bool} {x:Nat} (h:l.getD x false=true):dues (l.set x false)+1=dues l:=by
 induction l generalizing x with
 | nil=>simp at h
 | cons a r ih=>
  cases x with
  | zero=>simp at h;subst h;simp [dues]
  | succ x=>
   have:=ih (x:=x) (by simpa using h)
   cases a <;> simp [dues] at * <;> omega
theorem reach_meas {p:Pd} {c c':Cf} {x:Nat} {s:St} (hc:CfOk p c) (hx:x<p.ins.length) (h:reachF c x s=some c'):c'.meas≤c.meas:=by
 unfold reachF at h
 split at h
 ·rename_i hn
  obtain rfl:=Option.some.inj h
  have:=unseen_set (s:=s) (by rw [hc.lenS];exact hx) hn
  have:=@dues_true c.due x
  unfold Cf.meas
  dsimp only
  omega
 ·split at h
  ·obtain rfl:=Option.some.inj h;exact Nat.le_refl _
  ·cases h
theorem reach_ok {p:Pd} {c c':Cf} {x:Nat} {s:St} (hc:CfOk p c) (hs:StOk p s) (h:reachF c x s=some c'):CfOk p c':=by
 unfold reachF at h
 split at h
 ·obtain rfl:=Option.some.inj h
  refine⟨by simp [hc.lenS],by simp [hc.lenD],?_,?_⟩
  ·intro i t hi
   rw [st_set] at hi
   split at hi
   ·obtain rfl:=Option.some.inj hi;exact hs
   ·exact hc.ok i t hi
  ·intro i hi
   rw [st_set]
   rw [due_set] at hi
   split
   ·rfl
   ·rename_i hn
    rw [if_neg (by rw [hc.lenD,←hc.lenS];exact hn)] at hi
    exact hc.due i hi
 ·split at h
  ·obtain rfl:=Option.some.inj h;exact hc
  ·cases h
theorem reach_closed {p:Pd} {c c':Cf} {x:Nat} {s:St} {but:Option Nat} (hc:CfOk p c) (hx:x<p.ins.length) (hk:Closed p c but) (h:reachF c x s=some c') :
  Closed p c' but∧(c'.st x).isSome=true∧∀i,(c.st i).isSome=true→(c'.st i).isSome=true:=by
 unfold reachF at h
 split at h
 ·obtain rfl:=Option.some.inj h
  have hx2:x<c.sts.length:=by rw [hc.lenS];exact hx
  have hm:∀i,(c.st i).isSome=true→((Cf.mk (c.sts.set x (some s)) (c.due.set x true)).st i).isSome=true:=by
   intro i hi
   rw [st_set]
   split
   ·rfl
   ·exact hi
  refine⟨?_,by rw [st_set];simp [hx2],hm⟩
  intro i n hn hi hd hb j hj
  rw [due_set] at hd
  rw [st_set] at hi
  by_cases hxi:x=i∧x<c.sts.length
  ·rw [if_pos (by rw [hc.lenD];exact ⟨hxi.1,hx⟩)] at hd
   cases hd
  ·rw [if_neg hxi] at hi
   rw [if_neg (by rw [hc.lenD,←hc.lenS];exact hxi)] at hd
   exact hm j (hk i n hn hi hd hb j hj)
 ·rename_i t ht
  split at h
  ·obtain rfl:=Option.some.inj h
   exact⟨hk,by rw [ht];rfl,fun i hi=>hi⟩
  ·cases h
def FolOk (p:Pd) (l:List (Nat × St)):Prop:=∀x ∈ l,x.1<p.ins.length∧StOk p x.2
theorem follow_ok {p:Pd} {but:Option Nat} : ∀{l:List (Nat × St)} {c c':Cf},CfOk p c→FolOk p l→Closed p c but→followF c l=.ok c'→
  CfOk p c'∧c'.meas≤c.meas∧Closed p c' but∧(∀x ∈ l,(c'.st x.1).isSome=true)∧∀i,(c.st i).isSome=true→(c'.st i).isSome=true
 | [],c,c',hc,_,hk,h=>by
  unfold followF at h
  obtain rfl:=Except.ok.inj h
  exact⟨hc,Nat.le_refl _,hk,fun x hx=>by simp at hx,fun i hi=>hi⟩
 | (x,s)::r,c,c',hc,hf,hk,h=>by
  unfold followF at h
  cases hr:reachF c x s with
  | none=>rw [hr] at h;cases h
  | some c1=>
   rw [hr] at h
   have hx:=hf (x,s) (by simp)
   obtain⟨k1,k2,k3⟩:=reach_closed hc hx.1 hk hr
   obtain⟨o1,o2,o3,o4,o5⟩:=follow_ok (reach_ok hc hx.2 hr) (fun y hy=>hf y (by simp [hy])) k1 h
   refine⟨o1,Nat.le_trans o2 (reach_meas hc hx.1 hr),o3,?_,fun i hi=>o5 i (k3 i hi)⟩
   intro y hy
   rcases List.mem_cons.1 hy with rfl | hy
   ·exact o5 _ k2
   ·exact o4 y hy
theorem rdS_len {r:Nat} {x:Int} {s s':Rd} (h:rdS r x s=some s'):s'.types.length=s.types.length:=by
 unfold rdS at h
 have hop:∀w,rdOp w x s=some s'→s'.types.length=s.types.length:=by
  intro w h
  unfold rdOp at h
  split at h
  ·split at h
   ·split at h
    ·cases h
    ·obtain rfl:=Option.some.inj h;simp
   ·obtain rfl:=Option.some.inj h;rfl
  ·cases h
 have hpl:∀w,rdPlace w x s=some s'→s'.types.length=s.types.length:=by
  intro w h
  unfold rdPlace at h
  split at h
  ·obtain rfl:=Option.some.inj h;rfl
  ·cases h
 split at h
 ·exact hop _ h
 ·exact hop _ h
 ·exact hpl _ h
 ·exact hpl _ h
 ·exact hpl _ h
 ·split at h
  ·obtain rfl:=Option.some.inj h;rfl
  ·cases h
 ·split at h
  ·obtain rfl:=Option.some.inj h;rfl
  ·cases h
 ·split at h
  ·obtain rfl:=Option.some.inj h;rfl
  ·cases h
 ·obtain rfl:=Option.some.inj h;rfl
theorem rdsS_len:∀{rs:List Nat} {xs:List Int} {s s':Rd},rdsS rs xs s=some s'→s'.types.length=s.types.length
 | [],_,s,s',h=>by unfold rdsS at h;obtain rfl:=Option.some.inj h;rfl
 | _::_,[],s,s',h=>by unfold rdsS at h;obtain rfl:=Option.some.inj h;rfl
 | r::rs,x::xs,s,s',h=>by
  unfold rdsS at h
  cases h1:rdS r x s with
  | none=>rw [h1] at h;cases h
  | some s1=>
   rw [h1] at h
   exact (rdsS_len h).trans (rdS_len h1)
theorem readF_len {ps:List Pd} {n:Nd} {ts t1 tk:List Int} (h:readF ps n ts=some (t1,tk)):t1.length=ts.length:=by
 unfold readF at h
 split at h
 ·cases h
 ·rename_i r hr
  split at h
  ·simp at h
   rw [←h.1]
   exact rdsS_len hr
  ·cases h
theorem writeT_len (n:Nd) (ts:List Int):(writeT n ts).length=ts.length:=by
 unfold writeT
 repeat (first | split | simp)
theorem fit_tab {np:Nat} {p:Pd} {n:Nd} (h:InsFit np p n) :
  (n.op=31→(0≤n.a∧n.a<p.ins.length)∧0≤n.b∧n.b+2≤p.regs)∧(n.op=33∨n.op=34→0≤n.a∧n.a≤p.regs)∧(n.op=19→0≤n.a∧n.a<p.ins.length)∧
  (n.op=20∨n.op=21∨n.op=38∨n.op=39∨n.op=41→0≤n.b∧n.b<p.ins.length)∧(n.op=41→0≤n.c∧n.c<p.regs)∧(n.op=11→0≤n.b∧n.b<np):=by
 have hf:=h.fit
 obtain⟨op,a,b,c,d⟩:=n
 dsimp only at *
 refine⟨?_,?_,?_,?_,?_,?_⟩
 ·rintro rfl;simp [fitAll,Nd.fs,rolesOf,roleTab,fitsR,inR] at hf;omega
 ·rintro (rfl | rfl) <;> (simp [fitAll,Nd.fs,rolesOf,roleTab,fitsR,inR] at hf;omega)
 ·rintro rfl;simp [fitAll,Nd.fs,rolesOf,roleTab,fitsR,inR] at hf;omega
 ·rintro (rfl | rfl | rfl | rfl | rfl) <;> (simp [fitAll,Nd.fs,rolesOf,roleTab,fitsR,inR] at hf;omega)
 ·rintro rfl;simp [fitAll,Nd.fs,rolesOf,roleTab,fitsR,inR] at hf;omega
 ·rintro rfl;simp [fitAll,Nd.fs,rolesOf,roleTab,fitsR,inR] at hf;omega
theorem changeF_ok {np:Nat} {p:Pd} {n:Nd} {gs gs':List Gd} (hn:InsFit np p n) (hl:gs.length≤50) (hk:∀g ∈ gs,0≤g.keep∧g.keep≤p.regs) (h:changeF n gs=some gs') :
  gs'.length≤50∧∀g ∈ gs',0≤g.keep∧g.keep≤p.regs:=by
 obtain⟨f1,f2,_⟩:=fit_tab hn
 unfold changeF at h
 split at h
 ·rename_i ho
  have:=(f1 ho).2
  split at h
  ·rename_i hb
   simp at hb
   obtain rfl:=Option.some.inj h
   refine⟨by simp;omega,?_⟩
   intro g hg
   rcases List.mem_append.1 hg with hg | hg
   ·exact hk g hg
   ·simp at hg;subst hg;dsimp only;omega
  ·cases h
 split at h
 ·rename_i ho
  have:=f2 (.inl ho)
  split at h
  ·rename_i hb
   simp at hb
   obtain rfl:=Option.some.inj h
   refine⟨by simp;omega,?_⟩
   intro g hg
   rcases List.mem_append.1 hg with hg | hg
   ·exact hk g hg
   ·simp at hg;subst hg;dsimp only;omega
  ·cases h
 split at h
 ·split at h
  ·obtain rfl:=Option.some.inj h
   exact⟨by simp;omega,fun g hg=>hk g ((List.dropLast_sublist gs).subset hg)⟩
  ·cases h
 split at h
 ·rename_i ho
  have:=f2 (.inr ho)
  split at h
  ·obtain rfl:=Option.some.inj h
   refine⟨by unfold keepLast;simp;omega,?_⟩
   intro g hg
   unfold keepLast at hg
   obtain⟨i,hi⟩:=List.getElem?_of_mem hg
   rw [List.getElem?_modify] at hi
   cases hgi:gs[i]? with
   | none=>rw [hgi] at hi;simp at hi
   | some q=>
    rw [hgi] at hi
    simp at hi
    split at hi
    ·subst hi;dsimp only;omega
    ·subst hi;exact hk q (List.mem_of_getElem? hgi)
  ·cases h
 split at h
 ·split at h
  ·obtain rfl:=Option.some.inj h
   exact⟨hl,hk⟩
  ·cases h
 split at h
 ·split at h
  ·obtain rfl:=Option.some.inj h
   exact⟨by simp;omega,fun g hg=>hk g ((List.dropLast_sublist gs).subset hg)⟩
  ·cases h
 ·obtain rfl:=Option.some.inj h
  exact⟨hl,hk⟩
theorem tryT_len {k:Int} {ts:List Int} (h:k.toNat≤ts.length):(tryT k ts).length=ts.length:=by unfold tryT;simp;omega
theorem folF_ok {np:Nat} {p:Pd} {n:Nd} {at_:Nat} {s:St} {ts:List Int} {gs:List Gd} (hn:InsFit np p n) (hx:nextB n=true→at_+1<p.ins.length) (hs:StOk p s) (hb:StOk p ⟨ts,gs⟩):FolOk p (folF n at_ s ts gs):=by
 obtain⟨f1,_,f3,f4,f5,_⟩:=fit_tab hn
 intro x hm
 unfold folF at hm
 rcases List.mem_append.1 hm with hm | hm
 ·split at hm
  ·rename_i h
   simp at hm
   subst hm
   exact⟨hx h,hb⟩
  ·simp at hm
 ·unfold goF at hm
  split at hm
  ·rename_i ho
   simp at hm;subst hm
   have:=f3 ho
   exact⟨by dsimp only;omega,hb⟩
  split at hm
  ·rename_i ho
   simp at hm;subst hm
   have:=f4 (by omega)
   exact⟨by dsimp only;omega,hb⟩
  split at hm
  ·rename_i ho
   simp at hm;subst hm
   have:=f4 (by omega)
   refine⟨by dsimp only;omega,⟨?_,hb.few,hb.keep⟩⟩
   have:=hb.len
   simpa using this
  split at hm
  ·rename_i ho
   simp at hm;subst hm
   have:=f1 ho
   have:=hs.len
   refine⟨by dsimp only;omega,⟨?_,hs.few,hs.keep⟩⟩
   dsimp only
   rw [tryT_len (by omega)]
   exact this
  ·simp at hm
theorem sil_sub {n:Nd} {at_ j:Nat} (s:St) (ts:List Int) (gs:List Gd) (h:j ∈ silL n at_):∃x ∈ folF n at_ s ts gs,x.1=j:=by
 obtain⟨op,a,b,c,d⟩:=n
 unfold silL at h
 unfold folF goF nextB
 dsimp only at *
 split at h
 ·simp at h
 split at h
 ·simp at h
 split at h
 ·rename_i ho;subst ho;simp at h;subst h;simp
 split at h
 ·rename_i ho;subst ho;simp at h;subst h;simp
 split at h
 ·rename_i ho
  rcases ho with rfl | rfl | rfl | rfl <;> (simp at h;rcases h with rfl | rfl <;> simp)
 split at h
 ·rename_i ho;subst ho;simp at h;rcases h with rfl | rfl <;> simp
 ·rename_i h1 h2 h3 h4 h5 h6
  simp at h;subst h
  have:(op != 19 && op != 29 && op != 30)=true:=by simp;omega
  rw [this]
  simp
theorem step_ok {ps:List Pd} {np:Nat} {p:Pd} {n:Nd} {at_:Nat} {s:St} {l:List (Nat × St)} (hn:InsFit np p n) (hx:nextB n=true→at_+1<p.ins.length) (hs:StOk p s) (h:stepF ps n at_ s=.go l) :
  FolOk p l∧∀j ∈ silL n at_,∃x ∈ l,x.1=j:=by
 unfold stepF at h
 split at h
 ·cases h
 ·rename_i t1 tk hr
  split at h
  ·cases h
  ·rename_i gs hg
   split at h
   ·obtain rfl:=Out.go.inj h
    obtain⟨g1,g2⟩:=changeF_ok hn hs.few hs.keep hg
    refine⟨folF_ok hn hx hs ⟨?_,g1,g2⟩,fun j hj=>sil_sub _ _ _ hj⟩
    have:=readF_len hr
    have:=hs.len
    rw [writeT_len]
    omega
   ·cases h
theorem leastDue_some {d:List Bool} {i:Nat} (h:leastDue d=some i):i<d.length∧d.getD i false=true∧∀j,j<i→d.getD j false=false:=by
 unfold leastDue at h
 rw [List.findIdx?_eq_some_iff_getElem] at h
 obtain⟨h1,h2,h3⟩:=h
 refine⟨h1,by simpa [List.getD_eq_getElem?_getD,h1] using h2,?_⟩
 intro j hj
 have:=h3 j hj
 simpa [List.getD_eq_getElem?_getD,show j<d.length by omega] using this
theorem leastDue_none {d:List Bool} (h:leastDue d=none):∀i,d.getD i false=false:=by
 intro i
 unfold leastDue at h
 rw [List.findIdx?_eq_none_iff] at h
 rw [List.getD_eq_getElem?_getD]
 cases hi:d[i]? with
 | none=>rfl
 | some b=>
  have:=h b (List.mem_of_getElem? hi)
  simpa using this
theorem cleared_ok {p:Pd} {c:Cf} {i:Nat} (hc:CfOk p c) (hk:Closed p c none):CfOk p ⟨c.sts,c.due.set i false⟩∧Closed p ⟨c.sts,c.due.set i false⟩ (some i):=by
 refine⟨⟨hc.lenS,by simp [hc.lenD],hc.ok,?_⟩,?_⟩
 ·intro j hj
  dsimp only at hj
  rw [due_set] at hj
  split at hj
  ·cases hj
  ·exact hc.due j hj
 ·intro j n hn hi hd hb k hk2
  dsimp only at hd
  rw [due_set] at hd
  rw [if_neg (by intro hh;exact hb (by rw [hh.1]))] at hd
  exact hk j n hn hi hd (by simp) k hk2
theorem round_ok {ps:List Pd} {np:Nat} {p:Pd} {c c':Cf} {i:Nat} (hp:PFit np p) (hc:CfOk p c) (hk:Closed p c none) (hi:leastDue c.due=some i) (h:roundF ps p c i=.ok c') :
  CfOk p c'∧Closed p c' none∧c'.meas<c.meas:=by
 obtain⟨h1,h2,_⟩:=leastDue_some hi
 obtain⟨k1,k2⟩:=cleared_ok (i:=i) hc hk
 have hm:(Cf.mk c.sts (c.due.set i false)).meas<c.meas:=by
  unfold Cf.meas
  have:=dues_false h2
  dsimp only
  omega
 unfold roundF at h
 split at h
 ·rename_i n s hn hs
  split at h
  ·cases h
  ·rename_i l hl
   obtain⟨f1,f2⟩:=step_ok (hp.fit i n hn) (hp.next i n hn) (hc.ok i s hs) hl
   obtain⟨o1,o2,o3,o4,o5⟩:=follow_ok k1 f1 k2 h
   refine⟨o1,?_,Nat.lt_of_le_of_lt o2 hm⟩
   intro j m hj hst hd _ k hkm
   by_cases hji:j=i
   ·subst hji
    rw [hn] at hj
    obtain rfl:=Option.some.inj hj
    obtain⟨x,hx,rfl⟩:=f2 k hkm
    exact o4 x hx
   ·exact o3 j m hj hst hd (by simpa using hji) k hkm
 ·rename_i hno
  exfalso
  have hil:i<p.ins.length:=by rw [←hc.lenD];exact h1
  obtain⟨n,hn⟩:=some_of_lt hil
  obtain⟨s,hs⟩:=Option.isSome_iff_exists.1 (hc.due i h2)
  exact hno n s hn hs
theorem rdOp_no {t x:Int} {rd:Rd} (h:¬tyAt rd.types (regOf x)=t):rdOp t x rd=none:=by unfold rdOp;rw [if_neg h]
theorem rdOp_read {t x:Int} {rd:Rd} (h:tyAt rd.types (regOf x)=t) (hx:¬x<0):rdOp t x rd=some rd:=by unfold rdOp;rw [if_pos h,if_neg hx]
theorem rdOp_stays {t x:Int} {rd:Rd} (h:tyAt rd.types (regOf x)=t) (hx:x<0) (hs:regOf x ∈ rd.stay):rdOp t x rd=none:=by unfold rdOp;rw [if_pos h,if_pos hx,if_pos hs]
theorem rdOp_takes {t x:Int} {rd:Rd} (h:tyAt rd.types (regOf x)=t) (hx:x<0) (hs:¬regOf x ∈ rd.stay):rdOp t x rd=some ⟨rd.types.set (regOf x).toNat 0,rd.stay,rd.taken ++ [regOf x]⟩:=by unfold rdOp;rw [if_pos h,if_pos hx,if_neg hs]
theorem rdPlace_no {t x:Int} {rd:Rd} (h:¬tyAt rd.types x=t):rdPlace t x rd=none:=by unfold rdPlace;rw [if_neg h]
theorem rdPlace_yes {t x:Int} {rd:Rd} (h:tyAt rd.types x=t):rdPlace t x rd=some ⟨rd.types,rd.stay ++ [x],rd.taken⟩:=by unfold rdPlace;rw [if_pos h]
def Sil (ins:List Nd) (a b:Nat):Prop:=∃n,ins[a]?=some n∧b ∈ silL n a
end Go.Proofs.YtaakadmnhpboiaaGreatDoor
