import Derived.Test.YtgopdffmnikhdaaGreatDoorT02
import Derived.Test.YtgopdffmnikhdaaGreatDoorT01
import Derived.Deep.RegionHeld3
import Derived.Laws.BytesArg
import Derived.Laws.FloatArith
import Derived.Deep.MidRow
namespace Go.Proofs.YtgopdffmnikhdaaGreatDoor
open Go.RowKit Go.Deep
set_option maxHeartbeats 400000 in
theorem unusedFits_any (x r:Int) (w:World) :
  Calls Tryz.prog 437 #[.int .i64 x,.int .i64 r] w fun e w'=>e=.returned (.bool (x == 0))∧Below w.heap.size w w':=by
 go_enter Tryz.func437,Tryz.ntmps437
 go_wp2_with fail
 go_ret
 exact⟨rfl,Below.refl _ _⟩
set_option maxHeartbeats 400000 in
theorem numberFits_any (x lo hi r:Int) (w:World) :
  Calls Tryz.prog 440 #[.agg #[.int .i64 x,.int .i64 lo,.int .i64 hi],.int .i64 r] w fun e w'=>e=.returned (.bool (inR x lo hi))∧Below w.heap.size w w':=by
 go_enter Tryz.func440,Tryz.ntmps440
 go_wp2_with (go_at_call 29;refine (within_any _ _ _ _).mono ?_;rintro e w' ⟨rfl,rfl⟩)
 go_ret
 exact⟨rfl,(Below.refl _ _).alloc (Nat.le_refl _) _⟩
set_option maxHeartbeats 400000 in
theorem targetFits_any (x r:Int) (c:Nat) (hc:c≤1048576) (w:World) :
  Calls Tryz.prog 439 #[.agg #[.int .i64 x,.int .i64 c],.int .i64 r] w fun e w'=>e=.returned (.bool (inR x 0 (c - 1)))∧Below w.heap.size w w':=by
 go_enter Tryz.func439,Tryz.ntmps439
 go_wp2_with (go_at_call 29;refine (within_any _ _ _ _).mono ?_;rintro e w' ⟨rfl,rfl⟩)
 go_ret
 exact⟨rfl,(Below.refl _ _).alloc (Nat.le_refl _) _⟩
set_option maxHeartbeats 400000 in
theorem placesFits_any (x k t r:Int) (h1:0≤r) (h2:r≤250) (h3:0≤k) (h4:k≤3) (w:World) :
  Calls Tryz.prog 438 #[.agg #[.int .i64 x,.int .i64 k,.int .i64 t],.int .i64 r] w fun e w'=>e=.returned (.bool (inR x 0 (r - k)))∧Below w.heap.size w w':=by
 go_enter Tryz.func438,Tryz.ntmps438
 go_wp2_with (go_at_call 29;refine (within_any _ _ _ _).mono ?_;rintro e w' ⟨rfl,rfl⟩)
 go_ret
 exact⟨rfl,(Below.refl _ _).alloc (Nat.le_refl _) _⟩
set_option maxHeartbeats 400000 in
theorem resultFits_any (x t r:Int) (h1:0≤r) (h2:r≤250) (w:World) :
  Calls Tryz.prog 435 #[.agg #[.int .i64 x,.int .i64 t],.int .i64 r] w fun e w'=>e=.returned (.bool (inR x 0 (r - 1)))∧Below w.heap.size w w':=by
 go_enter Tryz.func435,Tryz.ntmps435
 go_wp2_with (go_at_call 29;refine (within_any _ _ _ _).mono ?_;rintro e w' ⟨rfl,rfl⟩)
 go_ret
 exact⟨rfl,(Below.refl _ _).alloc (Nat.le_refl _) _⟩
set_option maxHeartbeats 400000 in
theorem openingFits_any (x r:Int) (h1:0≤r) (h2:r≤250) (w:World) :
  Calls Tryz.prog 436 #[.agg #[.int .i64 x],.int .i64 r] w fun e w'=>e=.returned (.bool (inR x 0 (r - 2)))∧Below w.heap.size w w':=by
 go_enter Tryz.func436,Tryz.ntmps436
 go_wp2_with (go_at_call 29;refine (within_any _ _ _ _).mono ?_;rintro e w' ⟨rfl,rfl⟩)
 go_ret
 exact⟨rfl,(Below.refl _ _).alloc (Nat.le_refl _) _⟩
set_option maxHeartbeats 400000 in
theorem taken_any (x t:Int) (w:World) :
  Calls Tryz.prog 201 #[.agg #[.int .i64 x,.int .i64 t]] w fun e w'=>e=.returned (.bool (decide (x<0)))∧Below w.heap.size w w':=by
 go_enter Tryz.func201,Tryz.ntmps201
 go_wp2_with fail
 go_ret
 exact⟨rfl,(Below.refl _ _).alloc (Nat.le_refl _) _⟩
def regOf (x:Int):Int:=if x<0 then -1 - x else x
set_option maxHeartbeats 400000 in
theorem register_any (x t:Int) (hx1 : -9223372036854775808≤x) (hx2:x≤9223372036854775807) (w:World) :
  Calls Tryz.prog 200 #[.agg #[.int .i64 x,.int .i64 t]] w fun e w'=>e=.returned (.int .i64 (regOf x))∧Below w.heap.size w w':=by
 have hb1:∀o,Below w.heap.size w (w.alloc o):=fun o=>(Below.refl _ _).alloc (Nat.le_refl _) o
 have X0:=Blk.new w #[.int .i64 x,.int .i64 t] 273
 go_enter Tryz.func200,Tryz.ntmps200
 go_wp2_with fail
 refine (taken_any x t _).mono ?_
 rintro e w1 ⟨rfl,hw1⟩
 have c1:=(X0.later hw1).cell
 by_cases h:x<0
 ·go_wp2_with fail
  go_ret
  exact⟨ret_int (by rw [regOf,if_pos h]),(hb1 _).trans (hw1.mono (by simp))⟩
 ·go_wp2_with fail
  go_ret
  exact⟨ret_int (by rw [regOf,if_neg (by omega)]),(hb1 _).trans (hw1.mono (by simp))⟩
set_option maxHeartbeats 400000 in
theorem operandFits_any (x t r:Int) (hx1 : -9223372036854775808≤x) (hx2:x≤9223372036854775807) (w:World) :
  Calls Tryz.prog 419 #[.agg #[.int .i64 x,.int .i64 t],.int .i64 r] w fun e w'=>e=.returned (.bool (inR x (-r) (r - 1)))∧Below w.heap.size w w':=by
 have hb1:∀o,Below w.heap.size w (w.alloc o):=fun o=>(Below.refl _ _).alloc (Nat.le_refl _) o
 go_enter Tryz.func419,Tryz.ntmps419
 go_wp2_with fail
 refine (register_any x t hx1 hx2 _).mono ?_
 rintro e w1 ⟨rfl,hw1⟩
 have HE:Hid (decide (regOf x<r)=inR x (-r) (r - 1)):=by show _=_;rw [Bool.eq_iff_iff];unfold regOf;split <;> simp [inR] <;> omega
 generalize regOf x=q at *
 go_wp2_with fail
 go_ret
 exact⟨ret_bool HE.out,(hb1 _).trans (hw1.mono (by simp))⟩
theorem run_conv1 (w:World) (x:Int):(convert 22 9 (.slice (some ⟨w.heap.size,0,none⟩) 1 1)).run Tryz.prog (w.alloc (.cells #[.int .u8 x] 5))=.ok (.string (strOfNums [x])) (w.alloc (.cells #[.int .u8 x] 5)):=
 run_convert_bytes_arg _ 22 5 (by kernel_rfl) (by kernel_rfl) _ 0 1 1 [x] rfl (fun i hi=>by
  obtain rfl:i=0:=by omega
  rw [(Blk.new w #[.int .u8 x] 5).cell]
  rfl) _ (by kernel_rfl)
theorem size_strOfNums (x:Int):(strOfNums [x]).size=1:=rfl
attribute [local go_sem] run_conv1
end Go.Proofs.YtgopdffmnikhdaaGreatDoor
namespace Go.Proofs.YtgopdffmnikhdaaGreatDoor
open Go.RowKit Go.Deep
attribute [local go_sem] run_store_float
structure Only (g:Nat) (w w':World):Prop where
 os:w'.os=w.os
 tape:w'.tape=w.tape
 output:w'.output=w.output
 size:w.heap.size≤w'.heap.size
 block:∀b,b≠g→b<w.heap.size→w'.heap[b]?=w.heap[b]?
theorem Only.refl (g:Nat) (w:World):Only g w w:=⟨rfl,rfl,rfl,Nat.le_refl _,fun _ _ _=>rfl⟩
theorem Only.set {g:Nat} {w w':World} (h:Only g w w') (i:Nat) (v:Value):Only g w (w'.setCell ⟨g,i,none⟩ v):=by
 refine⟨h.os,h.tape,h.output,by simpa using h.size,fun b hb hl=>?_⟩
 rw [Below.heap_setCell _ _ _ _ (fun e=>hb e),h.block b hb hl]
theorem Only.below {g:Nat} {w w' w'':World} (h:Only g w w') (hb:Below w'.heap.size w' w''):Only g w w'':=
 ⟨hb.os.trans h.os,hb.tape.trans h.tape,hb.output.trans h.output,Nat.le_trans h.size hb.size,fun b hne hl=>(hb.block b (Nat.lt_of_lt_of_le hl h.size)).trans (h.block b hne hl)⟩
end Go.Proofs.YtgopdffmnikhdaaGreatDoor
namespace Go.Proofs.YtgopdffmnikhdaaGreatDoor
open Go.RowKit Go.Deep
theorem Own.same {w:World} {b:Nat} {t t':TypeId} {n n':Nat} (h:Own w b t n) (k:Own w b t' n'):t=t'∧n=n':=by
 obtain⟨c,h1,h2⟩:=h
 obtain⟨c',k1,k2⟩:=k
 rw [h1] at k1
 simp at k1
 obtain⟨rfl,rfl⟩:=k1
 exact⟨rfl,h2.symm.trans k2⟩
theorem Own.only {w w':World} {b u:Nat} {t t':TypeId} {n n':Nat} (h:Own w b t' n') (ho:Only u w w') (o1:Own w u t n) (o2:Own w' u t n):Own w' b t' n':=by
 by_cases e:b=u
 ·subst e
  obtain⟨rfl,rfl⟩:=h.same o1
  exact o2
 ·exact h.of_block (ho.block b e h.lt)
theorem Own.setAny {w:World} {b:Nat} {t:TypeId} {n:Nat} (h:Own w b t n) (g i:Nat) (v:Value):Own (w.setCell ⟨g,i,none⟩ v) b t n:=by
 by_cases e:b=g
 ·subst e;exact h.set i v
 ·exact h.of_block (Below.heap_setCell _ _ _ _ (fun k=>e k))
structure Span (g hi:Nat) (w w':World):Prop where
 os:w'.os=w.os
 tape:w'.tape=w.tape
 output:w'.output=w.output
 size:w.heap.size≤w'.heap.size
 block:∀b,b<g∨hi≤b→b<w.heap.size→w'.heap[b]?=w.heap[b]?
theorem Span.refl (g hi:Nat) (w:World):Span g hi w w:=⟨rfl,rfl,rfl,Nat.le_refl _,fun _ _ _=>rfl⟩
theorem Span.only {g hi u:Nat} {w w' w'':World} (h:Span g hi w w') (ho:Only u w' w'') (h1:g≤u) (h2:u<hi):Span g hi w w'':=
 ⟨ho.os.trans h.os,ho.tape.trans h.tape,ho.output.trans h.output,Nat.le_trans h.size ho.size,fun b hb hl=>(ho.block b (by omega) (Nat.lt_of_lt_of_le hl h.size)).trans (h.block b hb hl)⟩
theorem Span.set {g hi:Nat} {w w':World} (h:Span g hi w w') (i:Nat) (v:Value) (h2:g<hi):Span g hi w (w'.setCell ⟨g,i,none⟩ v):=
 h.only ((Only.refl g w').set i v) (Nat.le_refl _) h2
theorem Span.below {g hi:Nat} {w w' w'':World} (h:Span g hi w w') (hb:Below w'.heap.size w' w''):Span g hi w w'':=
 ⟨hb.os.trans h.os,hb.tape.trans h.tape,hb.output.trans h.output,Nat.le_trans h.size hb.size,fun b hne hl=>(hb.block b (Nat.lt_of_lt_of_le hl h.size)).trans (h.block b hne hl)⟩
structure MkRow (hi:Nat) (w:World) (g j:Nat) (p:Pd) (h:Ph) (u c i n:Nat):Prop where
 hu:w.cell? ⟨g,j*9+5,none⟩=some (.slice (some ⟨u,0,none⟩) p.ups.length h.uc)
 hc:w.cell? ⟨g,j*9+6,none⟩=some (.slice (some ⟨c,0,none⟩) p.consts.length h.cc)
 hin:w.cell? ⟨g,j*9+7,none⟩=some (.slice (some ⟨i,0,none⟩) p.ins.length h.ic)
 hn:w.cell? ⟨g,j*9+8,none⟩=some (.slice (some ⟨n,0,none⟩) p.named.length h.nc)
 lu:g<u∧u<hi
 lc:g<c∧c<hi
 li:g<i∧i<hi
 ln:g<n∧n<hi
 ou:Own w u 172 (p.ups.length*2)
 oc:Own w c 44 (p.consts.length*5)
 oi:Own w i 48 (p.ins.length*5)
 on:Own w n 365 (p.named.length*4)
structure MkAt (hi:Nat) (w:World) (g:Nat) (ps:List Pd):Prop where
 own:Own w g 54 (ps.length*9)
 lt:g<hi
 rows:∀j p,ps[j]?=some p→∃h u c i n,MkRow hi w g j p h u c i n
theorem MkRow.only {hi:Nat} {w w':World} {g j:Nat} {p:Pd} {h:Ph} {u c i n b:Nat} {t:TypeId} {m:Nat} (r:MkRow hi w g j p h u c i n) (og:g<w.heap.size) (ho:Only b w w') (hb:g<b) (o1:Own w b t m) (o2:Own w' b t m):MkRow hi w' g j p h u c i n:=by
 have k:∀o,w'.cell? ⟨g,o,none⟩=w.cell? ⟨g,o,none⟩:=fun o=>World.cell?_of_block (w:=w) (a:=⟨g,o,none⟩) (ho.block g (by omega) og)
 exact⟨(k _).trans r.hu,(k _).trans r.hc,(k _).trans r.hin,(k _).trans r.hn,r.lu,r.lc,r.li,r.ln,r.ou.only ho o1 o2,r.oc.only ho o1 o2,r.oi.only ho o1 o2,r.on.only ho o1 o2⟩
theorem MkAt.only {hi:Nat} {w w':World} {g:Nat} {ps:List Pd} {b:Nat} {t:TypeId} {m:Nat} (r:MkAt hi w g ps) (ho:Only b w w') (hb:g<b) (o1:Own w b t m) (o2:Own w' b t m):MkAt hi w' g ps:=
 ⟨r.own.only ho o1 o2,r.lt,fun j p hj=>by obtain ⟨h,u,c,i,n,x⟩:=r.rows j p hj;exact ⟨h,u,c,i,n,x.only r.own.lt ho hb o1 o2⟩⟩
theorem cell_set_nv {w:World} {g a b:Nat} (v:Value) (h:a≠b):(w.setCell ⟨g,a,none⟩ v).cell? ⟨g,b,none⟩=w.cell? ⟨g,b,none⟩:=by
 cases hb:w.heap[g]? with
 | none=>simp [World.cell?,World.setCell,Array.getElem?_modify,hb]
 | some o=>
  cases o <;> simp [World.cell?,World.setCell,Array.getElem?_modify,hb,h]
theorem MkRow.set {hi:Nat} {w:World} {g j:Nat} {p:Pd} {h:Ph} {u c i n:Nat} (x:MkRow hi w g j p h u c i n) (o:Nat) (ho:o<5) (v:Value):MkRow hi (w.setCell ⟨g,j*9+o,none⟩ v) g j p h u c i n:=
 ⟨(cell_set_nv v (by omega)).trans x.hu,(cell_set_nv v (by omega)).trans x.hc,(cell_set_nv v (by omega)).trans x.hin,(cell_set_nv v (by omega)).trans x.hn,x.lu,x.lc,x.li,x.ln,x.ou.setAny _ _ _,x.oc.setAny _ _ _,x.oi.setAny _ _ _,x.on.setAny _ _ _⟩
theorem MkAt.set {hi:Nat} {w:World} {g:Nat} {ps:List Pd} (r:MkAt hi w g ps) (j i:Nat) (hi5:i<5) (v:Value):MkAt hi (w.setCell ⟨g,j*9+i,none⟩ v) g ps:=by
 refine⟨r.own.set _ v,r.lt,fun j' p hj=>?_⟩
 obtain⟨h,u,c,i',n,x⟩:=r.rows j' p hj
 exact⟨h,u,c,i',n,(cell_set_nv v (by omega)).trans x.hu,(cell_set_nv v (by omega)).trans x.hc,(cell_set_nv v (by omega)).trans x.hin,(cell_set_nv v (by omega)).trans x.hn,x.lu,x.lc,x.li,x.ln,x.ou.setAny _ _ _,x.oc.setAny _ _ _,x.oi.setAny _ _ _,x.on.setAny _ _ _⟩
theorem MkAt.below {hi:Nat} {w w':World} {g:Nat} {ps:List Pd} (r:MkAt hi w g ps) (hb:Below w.heap.size w w'):MkAt hi w' g ps:=by
 refine⟨r.own.later hb,r.lt,fun j p hj=>?_⟩
 obtain⟨h,u,c,i,n,x⟩:=r.rows j p hj
 have k:∀o,w'.cell? ⟨g,o,none⟩=w.cell? ⟨g,o,none⟩:=fun o=>hb.cell (p:=⟨g,o,none⟩) r.own.lt
 exact⟨h,u,c,i,n,(k _).trans x.hu,(k _).trans x.hc,(k _).trans x.hin,(k _).trans x.hn,x.lu,x.lc,x.li,x.ln,x.ou.later hb,x.oc.later hb,x.oi.later hb,x.on.later hb⟩
theorem ProtosOwn.mk {w:World} {g:Nat} {ps:List Pd} (h:ProtosOwn w g ps):MkAt w.heap.size w g ps:=by
 refine⟨h.1,h.1.lt,fun j p hj=>?_⟩
 obtain⟨x,⟨_,_,_,_,_,h5,h6,h7,h8⟩,_,s1,s2,s3,s4⟩:=h.2 j p (List.getElem?_eq_some_iff.1 hj).1 hj
 obtain⟨u,e1,l1,o1⟩:=s1
 obtain⟨c,e2,l2,o2⟩:=s2
 obtain⟨i,e3,l3,o3⟩:=s3
 obtain⟨n,e4,l4,o4⟩:=s4
 rw [e1] at h5
 rw [e2] at h6
 rw [e3] at h7
 rw [e4] at h8
 exact⟨x,u,c,i,n,h5,h6,h7,h8,⟨l1,o1.lt⟩,⟨l2,o2.lt⟩,⟨l3,o3.lt⟩,⟨l4,o4.lt⟩,o1,o2,o3,o4⟩
theorem word_self (neg:Bool) (r:Nat) (h:r≤FloatKind.f64.format.infRung):FloatKind.f64.format.order (FloatKind.f64.format.word neg r) (FloatKind.f64.format.word neg r)=some .eq:=by
 have e1:FloatKind.f64.format.signWeight=9223372036854775808:=by decide +kernel
 have e2:FloatKind.f64.format.infRung=9218868437227405312:=by decide +kernel
 rw [e2] at h
 have hr:FloatKind.f64.format.word neg r % 9223372036854775808=r:=by unfold Ieee.Format.word;rw [e1];split <;> omega
 unfold Ieee.Format.order
 generalize FloatKind.f64.format.word neg r=x at *
 have hn:∀s t,FloatKind.f64.format.read x≠.nan s t:=by
  intro s t
  unfold Ieee.Format.read
  simp only [e1,e2,hr]
  split
  ·simp
  ·split
   ·simp
   ·split
    ·simp
    ·omega
 generalize FloatKind.f64.format.read x=d at *
 cases d with
 | number s m i=>simp [Ieee.Datum.order]
 | infinity s=>simp [Ieee.Datum.order]
 | nan s t=>exact absurd rfl (hn s t)
theorem fl_self (n:Int):FloatKind.f64.format.order (floatOfInt .f64 n) (floatOfInt .f64 n)=some .eq:=by
 show FloatKind.f64.format.order (FloatKind.f64.format.nearest _ _ _) (FloatKind.f64.format.nearest _ _ _)=_
 unfold Ieee.Format.nearest
 dsimp only
 split
 ·exact word_self _ _ (Nat.zero_le _)
 ·exact word_self _ _ (Nat.min_le_right _ _)
theorem fl_ne (n:Int):(FloatKind.f64.format.order (floatOfInt .f64 n) (floatOfInt .f64 n) != some .eq)=false:=by rw [fl_self];rfl
def mtg:Nat→Nat→ByteArray→ByteArray
 | 0,_,s=>s
 | f+1,k,s=>if 0<k then mtg f (k / 10) (strOfNums [48+(k:Int) % 10] ++ s) else s
def mt (k:Nat):ByteArray:=if k=0 then ByteArray.mk #[109,48] else ByteArray.mk #[109] ++ mtg k k ByteArray.empty
theorem mtg_step {f k:Nat} {s:ByteArray} (h:0<k) (hf:k≤f):∃g,k / 10≤g∧mtg f k s=mtg g (k / 10) (strOfNums [48+(k:Int) % 10] ++ s):=by
 cases f with
 | zero=>omega
 | succ f=>exact ⟨f,by omega,by rw [mtg,if_pos h]⟩
theorem mtg_zero (f:Nat) (s:ByteArray):mtg f 0 s=s:=by cases f <;> rfl
attribute [local go_sem] run_conv1
end Go.Proofs.YtgopdffmnikhdaaGreatDoor
namespace Go.Proofs.YtgopdffmnikhdaaGreatDoor
theorem read_zero:FloatKind.f64.format.read 0=.number false 0 (FloatKind.f64.format.leastPlace):=by decide +kernel
theorem signed_zero {s:Bool} {m k:Nat} (h:Ieee.signed s m k=0):m=0:=by
 unfold Ieee.signed at h
 rw [Nat.shiftLeft_eq] at h
 have hp:0<2 ^ k:=Nat.two_pow_pos k
 have h2:m*2 ^ k=0:=by split at h <;> omega
 rcases Nat.mul_eq_zero.1 h2 with h3 | h3
 ·exact h3
 ·omega
theorem zero_bits (x:Nat) (hx:x<18446744073709551616) (h:(FloatKind.f64.format.order x 0 == some .eq)=true):x=0∨x=9223372036854775808:=by
 have h:FloatKind.f64.format.order x 0=some .eq:=by simpa using h
 unfold Ieee.Format.order at h
 rw [read_zero] at h
 have num:∀s m i,(Ieee.Datum.number s m i).order (.number false 0 (FloatKind.f64.format.leastPlace))=some .eq→m=0:=by
  intro s m i h
  simp only [Ieee.Datum.order,Option.some.injEq] at h
  have h2:=Std.LawfulEqOrd.eq_of_compare h
  have h3:∀k,Ieee.signed false 0 k=0:=by intro k;simp [Ieee.signed]
  rw [h3] at h2
  exact signed_zero h2
 have e1:FloatKind.f64.format.signWeight=9223372036854775808:=by decide +kernel
 have e2:FloatKind.f64.format.binade=4503599627370496:=by decide +kernel
 unfold Ieee.Format.read at h
 simp only [e1,e2] at h
 split at h
 ·have:=num _ _ _ h
  omega
 ·split at h
  ·have:=num _ _ _ h
   omega
  ·split at h
   ·simp only [Ieee.Datum.order,Option.some.injEq] at h
    split at h <;> cases h
   ·simp [Ieee.Datum.order] at h
theorem div_zero:floatBits .quo .f64 4607182418800017408 0=some 9218868437227405312:=by decide +kernel
theorem div_minus:floatBits .quo .f64 4607182418800017408 9223372036854775808=some 18442240474082181120:=by decide +kernel
theorem pos_inf:(FloatKind.f64.format.order 9218868437227405312 0 == some .gt)=true:=by decide +kernel
theorem neg_inf:(FloatKind.f64.format.order 18442240474082181120 0 == some .gt)=false:=by decide +kernel
attribute [local go_sem] run_store_float
theorem quo_some (x:Nat) (hx:x<18446744073709551616) (h:(FloatKind.f64.format.order x 0 == some .eq)=true):∃r,floatBits .quo .f64 4607182418800017408 x=some r:=by
 rcases zero_bits x hx h with rfl | rfl
 ·exact⟨_,div_zero⟩
 ·exact⟨_,div_minus⟩
end Go.Proofs.YtgopdffmnikhdaaGreatDoor
namespace Go.Proofs.YtgopdffmnikhdaaGreatDoor
open Go.RowKit Go.Deep
def Flts (vs:List Vd):Prop:=∀u ∈ vs,u.flt<18446744073709551616
abbrev CRow (w:World) (b o:Nat) (vs:List Value):Prop:=w.rangeAt b o vs
theorem CRow.keep {w w':World} {b o:Nat} {vs:List Value} (h:CRow w b o vs) {lo:Nat} (hk:Keeps lo w w') (hl:lo≤b) (hb:b<w.heap.size):CRow w' b o vs:=fun i v hv=>(hk.cell hl hb).trans (h i v hv)
structure Rg where
 ty:Int
 v:Vd
 box:Int
 list:List Vd
structure Fr where
 kind:Int
 th:Int
 st:Int
 rd:Bool
 pr:Int
 se:Int
 pc:Int
 ln:Int
 sv:Int
 lv:Bool
 one:Bool
 wk:Int
 wt:ByteArray
 lim:Int
 regs:List Rg
structure Tk where
 st:Int
 fn:Vd
 wa:Int
 gi:Bool
 fr:Fr
abbrev Rg.cs (r:Rg) (io:Option Addr) (ic:Nat):List Value:=[.int .i64 r.ty,.int .i64 r.v.kind,.int .i64 r.v.num,.float .f64 r.v.flt,.string r.v.str,.int .i64 r.v.ref,.int .i64 r.box,.slice io r.list.length ic]
abbrev Fr.cs (f:Fr) (ro:Option Addr) (rc:Nat):List Value:=[.int .i64 f.kind,.int .i64 f.th,.int .i64 f.st,.bool f.rd,.slice none 0 0,.int .i64 f.pr,.int .i64 f.se,.int .i64 f.pc,.int .i64 f.ln,.int .i64 f.sv,.slice ro f.regs.length rc,.slice none 0 0,.bool f.lv,.bool f.one,.int .i64 f.wk,.slice none 0 0,.string f.wt,.int .i64 f.lim]
abbrev Tk.cs (t:Tk) (fo:Option Addr) (fc:Nat):List Value:=[.int .i64 t.st,.int .i64 t.fn.kind,.int .i64 t.fn.num,.float .f64 t.fn.flt,.string t.fn.str,.int .i64 t.fn.ref,.slice fo 1 fc,.int .i64 t.wa,.bool t.gi,.slice none 0 0]
def Rg.val (r:Rg) (io:Option Addr) (ic:Nat):Value:=.agg #[.int .i64 r.ty,.int .i64 r.v.kind,.int .i64 r.v.num,.float .f64 r.v.flt,.string r.v.str,.int .i64 r.v.ref,.int .i64 r.box,.slice io r.list.length ic]
def Fr.val (f:Fr) (ro:Option Addr) (rc:Nat):Value:=.agg #[.int .i64 f.kind,.int .i64 f.th,.int .i64 f.st,.bool f.rd,.slice none 0 0,.int .i64 f.pr,.int .i64 f.se,.int .i64 f.pc,.int .i64 f.ln,.int .i64 f.sv,.slice ro f.regs.length rc,.slice none 0 0,.bool f.lv,.bool f.one,.int .i64 f.wk,.slice none 0 0,.string f.wt,.int .i64 f.lim]
def Tk.val (t:Tk) (fo:Option Addr) (fc:Nat):Value:=.agg #[.int .i64 t.st,.int .i64 t.fn.kind,.int .i64 t.fn.num,.float .f64 t.fn.flt,.string t.fn.str,.int .i64 t.fn.ref,.slice fo 1 fc,.int .i64 t.wa,.bool t.gi,.slice none 0 0]
def mcs (pace:Int) (co:Option Addr) (cn cc:Nat) (to_:Option Addr) (tn tc:Nat):Array Value:=#[.int .i64 pace,.int .i64 0,.int .i64 0,.int .i64 0,.int .i64 0,.slice none 0 0,.slice co cn cc,.int .i64 0,.int .i64 0,.slice to_ tn tc,.int .i64 0,.bool false,.slice none 0 0,.int .i64 0,.slice none 0 0,.string ByteArray.empty,.bool false,.int .i64 0,.int .i64 0,.int .i64 0,.int .i64 0,.slice none 0 0,.slice none 0 0,.string ByteArray.empty,.string ByteArray.empty,.int .i64 0,.int .i64 0]
def RegAt (lo:Nat) (w:World) (b o:Nat) (r:Rg):Prop:=∃io ic,CRow w b o (r.cs io ic)∧ValsAt lo w io r.list
def RegsAt (lo:Nat) (w:World) (ao:Option Addr) (rs:List Rg):Prop:=AllAt lo w ao 8 (RegAt lo w) rs
theorem RegsAt.later {lo:Nat} {w w':World} {ao:Option Addr} {xs:List Rg} (h:RegsAt lo w ao xs) (hk:Keeps lo w w'):RegsAt lo w' ao xs:=
 AllAt.later h hk (fun _ _ _ hl hs _ ⟨i,c,h1,h2⟩=>⟨i,c,h1.keep hk hl hs,h2.later hk⟩)
theorem RegsAt.lower {lo lo':Nat} {w:World} {ao:Option Addr} {xs:List Rg} (h:RegsAt lo w ao xs) (hl:lo'≤lo):RegsAt lo' w ao xs:=by
 intro i x hx
 obtain⟨b,off,e,h1,hs,io,ic,h2,h3⟩:=h i x hx
 exact⟨b,off,e,Nat.le_trans hl h1,hs,io,ic,h2,AllAt.lower h3 hl⟩
structure TkAt (lo:Nat) (w:World) (bt fc bf:Nat) (ro:Option Addr) (rc:Nat) (t:Tk):Prop where
 lt:lo≤bt∧bt<w.heap.size
 lf:lo≤bf∧bf<w.heap.size
 tc:CRow w bt 0 (t.cs (some ⟨bf,0,none⟩) fc)
 fc:CRow w bf 0 (t.fr.cs ro rc)
 rs:RegsAt lo w ro t.fr.regs
theorem TkAt.later {lo:Nat} {w w':World} {bt fc bf:Nat} {ro:Option Addr} {rc:Nat} {t:Tk} (h:TkAt lo w bt fc bf ro rc t) (hk:Keeps lo w w'):TkAt lo w' bt fc bf ro rc t:=
 ⟨⟨h.lt.1,Nat.lt_of_lt_of_le h.lt.2 hk.size⟩,⟨h.lf.1,Nat.lt_of_lt_of_le h.lf.2 hk.size⟩,h.tc.keep hk h.lt.1 h.lt.2,h.fc.keep hk h.lf.1 h.lf.2,h.rs.later hk⟩
theorem TkAt.lower {lo lo':Nat} {w:World} {bt fc bf:Nat} {ro:Option Addr} {rc:Nat} {t:Tk} (h:TkAt lo w bt fc bf ro rc t) (hl:lo'≤lo):TkAt lo' w bt fc bf ro rc t:=
 ⟨⟨Nat.le_trans hl h.lt.1,h.lt.2⟩,⟨Nat.le_trans hl h.lf.1,h.lf.2⟩,h.tc,h.fc,h.rs.lower hl⟩
def CaAt (w:World) (b o:Nat) (c:Int × Int):Prop:=w.cell? ⟨b,o,none⟩=some (.int .i64 c.1)∧w.cell? ⟨b,o+1,none⟩=some (.int .i64 c.2)
def CasAt (lo:Nat) (w:World) (ao:Option Addr) (xs:List (Int × Int)):Prop:=AllAt lo w ao 2 (CaAt w) xs
theorem CasAt.later {lo:Nat} {w w':World} {ao:Option Addr} {xs:List (Int × Int)} (h:CasAt lo w ao xs) (hk:Keeps lo w w'):CasAt lo w' ao xs:=
 AllAt.later h hk (fun _ _ _ hl hs _ ha=>by unfold CaAt;rw [hk.cell hl hs,hk.cell hl hs];exact ha)
def RgOk (r:Rg):Prop:=r.v.flt<18446744073709551616∧r.list.length≤1048576∧Flts r.list
def TsAt (lo:Nat) (w:World) (ao:Option Addr):Option Tk→Prop
 | none=>True
 | some t=>∃bt fc bf ro rc,ao=some ⟨bt,0,none⟩∧TkAt lo w bt fc bf ro rc t
theorem TsAt.later {lo:Nat} {w w':World} {ao:Option Addr} {t:Option Tk} (h:TsAt lo w ao t) (hk:Keeps lo w w'):TsAt lo w' ao t:=by
 cases t with
 | none=>trivial
 | some t=>obtain ⟨a,b,c,d,e,h1,h2⟩:=h;exact ⟨a,b,c,d,e,h1,h2.later hk⟩
theorem TsAt.lower {lo lo':Nat} {w:World} {ao:Option Addr} {t:Option Tk} (h:TsAt lo w ao t) (hl:lo'≤lo):TsAt lo' w ao t:=by
 cases t with
 | none=>trivial
 | some t=>obtain ⟨a,b,c,d,e,h1,h2⟩:=h;exact ⟨a,b,c,d,e,h1,h2.lower hl⟩
def tkN:Option Tk→Nat
 | none=>0
 | some _=>1
def TkOk:Option Tk→Prop
 | none=>True
 | some t=>t.fn.flt<18446744073709551616∧t.fr.regs.length≤1048576∧∀r ∈ t.fr.regs,RgOk r
def lst (n k:Nat):Array Bool:=(List.replicate k true ++ List.replicate (n - k) false).toArray
theorem lst_step {n k:Nat} (h:k<n):(lst n k).setIfInBounds k true=lst n (k+1):=by
 unfold lst
 rw [List.setIfInBounds_toArray,List.set_append_right _ _ (by simp)]
 congr 1
 rw [show n - k=(n - (k+1))+1 by omega,List.replicate_succ]
 simp [List.replicate_succ']
def Rgn (ops:Array Oper) (rest:List Oper) (Q:Exit→Act→World→Prop) (S:World→Prop) (a:Act) (w:World):Prop:=
 ops.toList.drop (ops.size - rest.length)=rest→rest.length≤ops.size→wpAnyH Tryz.prog .any ops (NoPanic Q) S rest.length (lst ops.size (ops.size - rest.length)) a w
section
variable {id : Nat} {ops : Array Oper} {rest l : List Oper} {Q : Exit → Act → World → Prop} {S : World → Prop} {a : Act} {w : World} {oi : Oper}
theorem rgN (S:World→Prop) (hS:S w.drew) (h:S w.drew→Rgn l.toArray l Q S a w.drew):(Code.region id l.toArray true).wp Tryz.prog Q a w:=by
 refine wp_region_noPanic (wp_region_held_drew (by kernel_rfl) hS fun hS=>?_)
 have:=h hS (by simp) (by simp)
 simpa [lst] using this
theorem drop_at (hd:ops.toList.drop (ops.size - (oi::rest).length)=oi::rest) (hl:(oi::rest).length≤ops.size) :
  ops[ops.size - (oi::rest).length]?=some oi∧ops.toList.drop (ops.size - rest.length)=rest∧ops.size - rest.length=(ops.size - (oi::rest).length)+1:=by
 have e:ops.size - rest.length=(ops.size - (oi::rest).length)+1:=by simp at hl ⊢;omega
 refine⟨?_,?_,e⟩
 ·have:=congrArg (·[0]?) hd
  simpa using this
 ·rw [e,←List.tail_drop,hd];rfl
theorem tkF (hc:(Region.noSelect ops && Region.free .any ops (lst ops.size (ops.size - (oi::rest).length)) (ops.size - (oi::rest).length) && (Region.ready .any ops (lst ops.size (ops.size - (oi::rest).length))).contains (ops.size - (oi::rest).length))=true)
  (hw:Region.wanted oi (yielded ops a.tmps)=true) (hS:S w)
  (h:∃v,(∀w,S w→(execOp a.eval oi).run Tryz.prog w=.ok (.value v) w)∧Rgn ops rest Q S (a.put oi.dst v) w):Rgn ops (oi::rest) Q S a w:=fun hd hl=>by
 obtain⟨v,hy,h⟩:=h
 obtain⟨h1,h2,h3⟩:=drop_at hd hl
 simp only [Bool.and_eq_true] at hc
 refine wpAnyH_take h1 hc.1.1 hc.1.2 hc.2 (fun _ _ _ h=>h) (.inl ⟨hw,hy⟩) hS ?_
 have h4:=h h2 (by simp at hl;omega)
 rw [lst_step (by simp at hl ⊢;omega),←h3]
 exact h4
theorem tkG (hc:(Region.noSelect ops && Region.free .any ops (lst ops.size (ops.size - (oi::rest).length)) (ops.size - (oi::rest).length) && (Region.ready .any ops (lst ops.size (ops.size - (oi::rest).length))).contains (ops.size - (oi::rest).length))=true)
  (hw:Region.wanted oi (yielded ops a.tmps)=false) (hS:S w) (h:Rgn ops rest Q S (a.put oi.dst undef) w):Rgn ops (oi::rest) Q S a w:=fun hd hl=>by
 obtain⟨h1,h2,h3⟩:=drop_at hd hl
 simp only [Bool.and_eq_true] at hc
 refine wpAnyH_take h1 hc.1.1 hc.1.2 hc.2 (fun _ _ _ h=>h) (.inr ⟨hw,rfl⟩) hS ?_
 have h4:=h h2 (by simp at hl;omega)
 rw [lst_step (by simp at hl ⊢;omega),←h3]
 exact h4
theorem doN (hr:Region.ready .any ops (lst ops.size (ops.size - (oi::rest).length))=[ops.size - (oi::rest).length]) (hw:Region.wanted oi (yielded ops a.tmps)=true)
  (h:∀K:Act→World→Prop,Shut (∀a w,S w→(S w→Rgn ops rest Q S a w)→K a w)→Oper.wp Tryz.prog oi a w K (NoPanic Q)):Rgn ops (oi::rest) Q S a w:=fun hd hl=>by
 obtain⟨h1,h2,h3⟩:=drop_at hd hl
 refine wpAnyH_ready hr (by simp) (AllReadyH.cons h1 (fun K hK=>?_) AllReadyH.nil)
 rw [if_pos hw]
 refine h K fun a w hS hR=>hK.out a w hS fun hS=>?_
 have h4:=hR hS h2 (by simp at hl;omega)
 rw [lst_step (by simp at hl ⊢;omega),←h3]
 exact h4
theorem enD (hr:Region.ready .any ops (lst ops.size (ops.size - 0))=[]) (h:NoPanic Q .normal a w):Rgn ops [] Q S a w:=fun _ _=>wpAnyH_done hr h _
end
theorem exec_load {W:World} {op:Oper} {a:Act} {ty:TypeId} {x:Operand} {p V:Value} (h:(Instr.loadAt ty p).run Tryz.prog W=.ok V W) (ho:op.op=.load ty x) (hx:a.eval x=p):(execOp a.eval op).run Tryz.prog W=.ok (.value V) W:=by
 subst hx
 unfold execOp
 simp only [ho,Sem.run_bind,Sem.run_pure,Result.andThen_ok,h]
attribute [local go_sem] run_store_float
structure Chg (L:List Nat) (w w':World):Prop where
 os:w'.os=w.os
 tape:w'.tape=w.tape
 output:w'.output=w.output
 size:w.heap.size≤w'.heap.size
 block:∀b,b ∉ L→b<w.heap.size→w'.heap[b]?=w.heap[b]?
theorem Chg.refl (L:List Nat) (w:World):Chg L w w:=⟨rfl,rfl,rfl,Nat.le_refl _,fun _ _ _=>rfl⟩
theorem Chg.set {L:List Nat} {w w':World} (h:Chg L w w') {g:Nat} (hg:g ∈ L) (i:Nat) (v:Value):Chg L w (w'.setCell ⟨g,i,none⟩ v):=
 ⟨h.os,h.tape,h.output,by simpa using h.size,fun b hb hl=>by rw [Below.heap_setCell _ _ _ _ (fun (e:b=g)=>hb (e▸hg)),h.block b hb hl]⟩
theorem Chg.below {L:List Nat} {w w' w'':World} (h:Chg L w w') (hb:Below w'.heap.size w' w''):Chg L w w'':=
 ⟨hb.os.trans h.os,hb.tape.trans h.tape,hb.output.trans h.output,Nat.le_trans h.size hb.size,fun b hne hl=>(hb.block b (Nat.lt_of_lt_of_le hl h.size)).trans (h.block b hne hl)⟩
theorem Chg.trans {L M:List Nat} {w w' w'':World} (h:Chg L w w') (k:Chg M w' w'') (hs:∀b ∈ M,b ∈ L):Chg L w w'':=
 ⟨k.os.trans h.os,k.tape.trans h.tape,k.output.trans h.output,Nat.le_trans h.size k.size,fun b hb hl=>(k.block b (fun e=>hb (hs b e)) (Nat.lt_of_lt_of_le hl h.size)).trans (h.block b hb hl)⟩
theorem Chg.cell {L:List Nat} {w w':World} (h:Chg L w w') {b o:Nat} {v:Value} (hb:b ∉ L) (hc:w.cell? ⟨b,o,none⟩=some v):w'.cell? ⟨b,o,none⟩=some v:=
 (World.cell?_of_block (w:=w) (a:=⟨b,o,none⟩) (h.block b hb (World.block_lt_of_cell? _ _ hc))).trans hc
theorem Chg.own {L:List Nat} {w w':World} (h:Chg L w w') {b n:Nat} {t:TypeId} (hb:b ∉ L) (ho:Own w b t n):Own w' b t n:=ho.of_block (h.block b hb ho.lt)
theorem CRow.chg {L:List Nat} {w w':World} {b o:Nat} {vs:List Value} (c:CRow w b o vs) (h:Chg L w w') (hb:b ∉ L):CRow w' b o vs:=fun i v hv=>h.cell hb (c i v hv)
theorem CRow.nil (w:World) (b o:Nat):CRow w b o []:=fun i v h=>by simp at h
theorem CRow.add {w:World} {b o:Nat} {vs:List Value} (c:CRow w b o vs) {v:Value} (h:w.cell? ⟨b,o+vs.length,none⟩=some v):CRow w b o (vs ++ [v]):=fun i u hu=>by
 by_cases hi:i<vs.length
 ·exact c i u (by rwa [List.getElem?_append_left hi] at hu)
 ·rw [List.getElem?_append_right (by omega)] at hu
  obtain⟨hk,rfl⟩:=List.getElem?_eq_some_iff.1 hu
  simp at hk
  obtain rfl:i=vs.length:=by omega
  simpa using h
theorem CRow.put {w:World} {b m:Nat} {t:TypeId} {vs:List Value} (c:CRow w b 0 vs) (own:Own w b t m) {i:Nat} (hi:vs.length=i) (hm:i<m) (v:Value):CRow (w.setCell ⟨b,i,none⟩ v) b 0 (vs ++ [v]):=by
 subst hi
 refine CRow.add (fun i u hu=>?_) ?_
 ·have hi:=(List.getElem?_eq_some_iff.1 hu).1
  rw [cell_set_nv v (by omega)]
  exact c i u hu
 ·rw [Nat.zero_add]
  obtain⟨u,hu⟩:=own.cell hm
  exact World.cell?_setCell_same _ _ _ hu
theorem len1 {α:Type} {l:List α} {n:Nat} (h:l.length=n) (x:α):(l ++ [x]).length=n+1:=by simp [h]
theorem flat_len {α:Type} {f:α→List Value} {m:Nat} (hf:∀x,(f x).length=m) (xs:List α):(xs.flatMap f).length=xs.length * m:=by
 induction xs with
 | nil=>simp
 | cons y ys ih=>rw [List.flatMap_cons,List.length_append,ih,hf,List.length_cons,Nat.succ_mul];omega
theorem flat_get {α:Type} {f:α→List Value} {m:Nat} (hf:∀x,(f x).length=m) {xs:List α} {i:Nat} {x:α} (hx:xs[i]?=some x) {c:Nat} {v:Value} (hv:(f x)[c]?=some v):(xs.flatMap f)[i * m+c]?=some v:=by
 induction xs generalizing i with
 | nil=>simp at hx
 | cons y ys ih=>
  rw [List.flatMap_cons]
  cases i with
  | zero=>
   simp at hx
   subst hx
   have hc:=(List.getElem?_eq_some_iff.1 hv).1
   rw [Nat.zero_mul,Nat.zero_add,List.getElem?_append_left hc]
   exact hv
  | succ i=>
   rw [List.getElem?_append_right (by rw [hf,Nat.succ_mul];omega),hf]
   rw [show (i+1) * m+c - m=i * m+c by rw [Nat.succ_mul];omega]
   exact ih (by simpa using hx)
def mV (x:Int):Vd:=⟨x,x+1,floatOfInt .f64 (x+1+1),mt (x+1+1+1).toNat,x+1+1+1+1⟩
def mVs (k n:Nat):List Vd:=(List.range n).map fun i=>mV ((k+i*5:Nat):Int)
theorem mVs_len (k n:Nat):(mVs k n).length=n:=by simp [mVs]
theorem mVs_at {k n j:Nat} (h:j<n):(mVs k n)[j]?=some (mV ((k+j*5:Nat):Int)):=by simp [mVs,h]
theorem mVs_succ (k n:Nat):mVs k (n+1)=mVs k n ++ [mV ((k+n*5:Nat):Int)]:=by simp [mVs,List.range_succ]
theorem vals_of {w:World} {g lo:Nat} {vs:List Vd} (h:CRow w g 0 (vs.flatMap Vd.vals)) (hl:lo≤g) (hg:vs≠[]→g<w.heap.size):ValsAt lo w (some ⟨g,0,none⟩) vs:=fun i x hx=>by
 refine⟨g,0,rfl,hl,hg (by rintro rfl;simp at hx),?_⟩
 have q:∀c v,(Vd.vals x)[c]?=some v→w.cell? ⟨g,0+i*5+c,none⟩=some v:=fun c v hv=>by
  have:=h _ _ (flat_get (m:=5) (fun _=>rfl) hx hv)
  rwa [←Nat.add_assoc] at this
 exact⟨q 0 _ rfl,q 1 _ rfl,q 2 _ rfl,q 3 _ rfl,q 4 _ rfl⟩
end Go.Proofs.YtgopdffmnikhdaaGreatDoor
namespace Go.Proofs.YtgopdffmnikhdaaGreatDoor
open Go.RowKit Go.Deep
attribute [local go_sem] run_store_float

theorem wr {x : Int} (h1 : -9000000000000000000 ≤ x) (h2 : x ≤ 9000000000000000000) : IntKind.i64.wrap x = x := by unfold IntKind.wrap; simp [IntKind.signed, IntKind.bits]; omega
/-- The cells of a machine. -/
structure Mc where
  (pace due read births vers slots free caches hits misses tasks cur has got wk wv wt over live since moves rc rr rv re rt rk rm : Value)
abbrev Mc.arr (m : Mc) : Array Value := #[m.pace, m.due, m.read, m.births, m.vers, m.slots, m.free, m.caches, m.hits, m.misses, m.tasks, m.cur, m.has, m.got, m.wk, m.wv, m.wt, m.over, m.live, m.since, m.moves, m.rc, m.rr, m.rv, m.re, m.rt, m.rk, m.rm]
abbrev MAt (w : World) (b : Nat) (m : Mc) : Prop := Blk w b m.arr 81
/-- The cells of a call. -/
structure Cc where
  (kind proto self at_ line saved regs fences leaving one wk wv wt limit : Value)
abbrev Cc.arr (c : Cc) : Array Value := #[c.kind, c.proto, c.self, c.at_, c.line, c.saved, c.regs, c.fences, c.leaving, c.one, c.wk, c.wv, c.wt, c.limit]
abbrev CAt (w : World) (b : Nat) (c : Cc) : Prop := Blk w b c.arr 125
/-- The cells of a task. -/
structure Tc where
  (state fk fn ff fs fr frames waiter giving dropped : Value)
abbrev Tc.arr (t : Tc) : Array Value := #[t.state, t.fk, t.fn, t.ff, t.fs, t.fr, t.frames, t.waiter, t.giving, t.dropped]
abbrev TAt (w : World) (b : Nat) (t : Tc) : Prop := Blk w b t.arr 98

theorem give_any (bm : Nat) (m : Mc) (go : Option Addr) (gl gc : Nat) (w : World) (X : MAt w bm m) :
    Calls Tryz.prog 100 #[.pointer (some ⟨bm, 0, none⟩), .slice go gl gc] w fun e w' => e = .returned (.tuple #[]) ∧ Chg [bm] w w' ∧ MAt w' bm { m with has := .bool true, got := .slice go gl gc } := by
  have x := X.cell
  have f := X.frozen
  go_enter Tryz.func100, Tryz.ntmps100
  go_wp2_with fail
  go_end0
  exact ⟨rfl, ((Chg.refl _ _).set (by simp) _ _).set (by simp) _ _, (X.set 12 _).set 13 _⟩
theorem take_any (bm : Nat) (m : Mc) (go : Option Addr) (gl gc : Nat) (w : World) (X : MAt w bm { m with got := .slice go gl gc }) :
    Calls Tryz.prog 102 #[.pointer (some ⟨bm, 0, none⟩)] w fun e w' => e = .returned (.slice go gl gc) ∧ Chg [bm] w w' ∧ MAt w' bm { m with has := .bool false, got := .slice none 0 0 } := by
  have x := X.cell
  have f := X.frozen
  go_enter Tryz.func102, Tryz.ntmps102
  go_wp2_with fail
  go_ret
  exact ⟨rfl, ((Chg.refl _ _).set (by simp) _ _).set (by simp) _ _, (X.set 12 _).set 13 _⟩
theorem running_any (bm bt bts : Nat) (m : Mc) (w : World) (X : MAt w bm { m with tasks := .slice (some ⟨bts, 0, none⟩) 1 1, cur := .int .i64 0 }) (h : w.cell? ⟨bts, 0, none⟩ = some (.pointer (some ⟨bt, 0, none⟩))) :
    Calls Tryz.prog 94 #[.pointer (some ⟨bm, 0, none⟩)] w fun e w' => e = .returned (.pointer (some ⟨bt, 0, none⟩)) ∧ Below w.heap.size w w' := by
  have x := X.cell
  go_enter Tryz.func94, Tryz.ntmps94
  go_wp2_with fail
  go_region_held3 (fun W => (∀ o, W.cell? ⟨bm, o, none⟩ = (Mc.arr { m with tasks := .slice (some ⟨bts, 0, none⟩) 1 1, cur := .int .i64 0 })[o]?) ∧ W.cell? ⟨bts, 0, none⟩ = some (.pointer (some ⟨bt, 0, none⟩))) (exact ⟨x, h⟩) (fail)
  go_wp2_with fail
  go_ret
  exact ⟨rfl, (Below.refl _ _).drew⟩
theorem innermost_any (bt bf fc : Nat) (t : Tc) (v : Value) (w : World) (X : TAt w bt { t with frames := .slice (some ⟨bf, 0, none⟩) 1 fc }) (h : w.cell? ⟨bf, 0, none⟩ = some (.iface 105 v)) :
    Calls Tryz.prog 97 #[.pointer (some ⟨bt, 0, none⟩)] w fun e w' => e = .returned (.iface 105 v) ∧ Below w.heap.size w w' := by
  have x := X.cell
  go_enter Tryz.func97, Tryz.ntmps97
  go_wp2_with fail
  go_region
  go_wp2_with fail
  go_ret
  exact ⟨rfl, (Below.refl _ _).drew⟩
theorem pop_any (bt bf fc : Nat) (t : Tc) (w : World) (hc : 1 ≤ fc) (X : TAt w bt { t with frames := .slice (some ⟨bf, 0, none⟩) 1 fc }) :
    Calls Tryz.prog 99 #[.pointer (some ⟨bt, 0, none⟩)] w fun e w' => e = .returned (.tuple #[]) ∧ Chg [bt] w w' ∧ TAt w' bt { t with frames := .slice (some ⟨bf, 0, none⟩) 0 fc } := by
  have x := X.cell
  have f := X.frozen
  go_enter Tryz.func99, Tryz.ntmps99
  go_wp2_with fail
  go_region
  go_wp2_with fail
  go_end0
  exact ⟨rfl, ((Chg.refl _ _).below (Below.refl _ _).drew).set (by simp) _ _, (X.later (Below.refl _ _).drew).set 6 _⟩
theorem tick_any (bl bm : Nat) (m : Mc) (k n : Int) (w : World) (h0 : w.cell? ⟨bl, 0, none⟩ = some (.pointer (some ⟨bm, 0, none⟩))) (h5 : w.cell? ⟨bl, 5, none⟩ = some (.int .i64 n)) (hk : 0 ≤ k) (hn : k < n) (hm : n ≤ 5000) (X : MAt w bm { m with rk := .int .i64 k }) :
    Calls Tryz.prog 117 #[.pointer (some ⟨bl, 0, none⟩)] w fun e w' => e = .returned (.tuple #[]) ∧ Chg [bm] w w' ∧ MAt w' bm { m with rk := .int .i64 (k + 1) } := by
  have x := X.cell
  have f := X.frozen
  go_enter Tryz.func117, Tryz.ntmps117
  go_wp2_with fail
  go_region_held3 (fun W => (∀ o, W.cell? ⟨bm, o, none⟩ = (Mc.arr { m with rk := .int .i64 k })[o]?) ∧ W.cell? ⟨bl, 0, none⟩ = some (.pointer (some ⟨bm, 0, none⟩)) ∧ W.cell? ⟨bl, 5, none⟩ = some (.int .i64 n)) (exact ⟨x, h0, h5⟩) (fail)
  go_wp2_with fail
  go_end0
  exact ⟨rfl, ((Chg.refl _ _).below (Below.refl _ _).drew).set (by simp) _ _, (X.later (Below.refl _ _).drew).set 26 _⟩
theorem changed_any (bm bs : Nat) (m : Mc) (v : Int) (p k b : Value) (s3 s4 s5 s6 s7 s8 s9 s10 s11 s12 s13 s14 : Value) (w : World) (hv : 0 ≤ v) (hm : v ≤ 1000000) (hne : bm ≠ bs) (X : MAt w bm { m with vers := .int .i64 v }) (Y : Blk w bs #[p, k, b, s3, s4, s5, s6, s7, s8, s9, s10, s11, s12, s13, s14] 167) :
    Calls Tryz.prog 203 #[.pointer (some ⟨bm, 0, none⟩), .pointer (some ⟨bs, 0, none⟩)] w fun e w' => e = .returned (.tuple #[]) ∧ Chg [bm, bs] w w' ∧ MAt w' bm { m with vers := .int .i64 (v + 1) } ∧ Blk w' bs #[p, k, b, .int .i64 (v + 1), s4, s5, s6, s7, s8, s9, s10, s11, s12, s13, s14] 167 := by
  have x := X.cell
  have f := X.frozen
  have y := Y.cell
  have g := Y.frozen
  go_enter Tryz.func203, Tryz.ntmps203
  go_wp2_with fail
  go_end0
  exact ⟨rfl, ((Chg.refl _ _).set (by simp) _ _).set (by simp) _ _, (X.set 4 _).setOther hne _, (Y.setOther (Ne.symm hne) _).set 3 _⟩
theorem spend_any (bl bm : Nat) (m : Mc) (k n : Int) (w : World) (h0 : w.cell? ⟨bl, 0, none⟩ = some (.pointer (some ⟨bm, 0, none⟩))) (h7 : w.cell? ⟨bl, 7, none⟩ = some (.int .i64 n)) (hk : 0 ≤ k) (hn : k < n) (hm : n ≤ 20000) (X : MAt w bm { m with live := .int .i64 0, since := .int .i64 k, rm := .int .i64 k }) :
    Calls Tryz.prog 123 #[.pointer (some ⟨bl, 0, none⟩), .int .i64 1] w fun e w' => e = .returned .nilIface ∧ Chg [bm] w w' ∧ MAt w' bm { m with live := .int .i64 0, since := .int .i64 (k + 1), rm := .int .i64 (k + 1) } := by
  have x := X.cell
  have f := X.frozen
  have w1 : IntKind.i64.wrap k = k := wr (by omega) (by omega)
  have w2 : IntKind.i64.wrap (k + 1) = k + 1 := wr (by omega) (by omega)
  have hle : ¬ n < k + 1 := by omega
  go_enter Tryz.func123, Tryz.ntmps123
  go_wp2_with fail
  go_region_held3 (fun W => (∀ o, W.cell? ⟨bm, o, none⟩ = (Mc.arr { m with live := .int .i64 0, since := .int .i64 k, rm := .int .i64 k })[o]?) ∧ W.cell? ⟨bl, 0, none⟩ = some (.pointer (some ⟨bm, 0, none⟩)) ∧ W.cell? ⟨bl, 7, none⟩ = some (.int .i64 n)) (exact ⟨x, h0, h7⟩) (fail)
  go_wp2_with fail
  go_ret
  exact ⟨rfl, (((Chg.refl _ _).below (Below.refl _ _).drew).set (by simp) _ _).set (by simp) _ _, ((X.later (Below.refl _ _).drew).set 19 _).set 27 _⟩
theorem heapCount_any (b o : Nat) (ho : Option Addr) (hl hc : Nat) (w : World) (h : w.cell? ⟨b, o, none⟩ = some (.slice ho hl hc)) :
    Calls Tryz.prog 25 #[.pointer (some ⟨b, o, none⟩)] w fun e w' => e = .returned (.int .i64 hl) ∧ w' = w := by
  go_enter Tryz.func25, Tryz.ntmps25
  go_wp2_with fail
  go_ret
  exact ⟨rfl, rfl⟩
theorem used_any (bm : Nat) (m : Mc) (so ho : Option Addr) (sl sc hl hc : Nat) (w : World) (hs : hl ≤ sl) (hm : sl ≤ 1000000) (X : MAt w bm { m with slots := .slice so sl sc, free := .slice ho hl hc }) :
    Calls Tryz.prog 17 #[.pointer (some ⟨bm, 0, none⟩)] w fun e w' => e = .returned (.int .i64 ((sl : Int) - hl)) ∧ Below w.heap.size w w' := by
  have x := X.cell
  have w1 : IntKind.i64.wrap ((sl : Int) - hl) = (sl : Int) - hl := wr (by omega) (by omega)
  go_enter Tryz.func17, Tryz.ntmps17
  go_wp2_with fail
  go_region_held3 (fun W => (∀ o, W.cell? ⟨bm, o, none⟩ = (Mc.arr { m with slots := .slice so sl sc, free := .slice ho hl hc })[o]?)) (exact x) (first | (go_at_call 25; refine (heapCount_any bm 6 ho hl hc w.drew (x 6)).mono ?_; rintro e w1 ⟨rfl, rfl⟩))
  go_wp2_with fail
  go_ret
  exact ⟨rfl, (Below.refl _ _).drew⟩
end Go.Proofs.YtgopdffmnikhdaaGreatDoor
namespace Go.Proofs.YtgopdffmnikhdaaGreatDoor
open Go.RowKit Go.Deep
attribute [local go_sem] run_store_float
def fz (x:Nat):Bool:=FloatKind.f64.format.order x 0 == some .eq
def zeroB (v:Vd) (n f s r:Bool):Bool:=(n || v.num == 0) && (f || fz v.flt) && (s || v.str.toList.isEmpty) && (r || v.ref == 0)
def validB (v:Vd):Bool:=
 if v.kind=0 then zeroB v false false false false
 else if v.kind=1 then zeroB v true false false false && (v.num == 0 || v.num == 1)
 else if v.kind=2 then zeroB v true false false false
 else if v.kind=3 then zeroB v false true false false
 else if v.kind=4 then zeroB v false false true false && decide ((v.str.size:Int)≤4000)
 else if v.kind=5∨v.kind=6∨v.kind=7 then zeroB v false false false true && decide (0≤v.ref)
 else if v.kind=8 then zeroB v true false false false && (decide (0≤v.num) && decide (v.num<15))
 else false
theorem kinds (k:Int):k=0∨k=1∨k=2∨k=3∨k=4∨k=5∨k=6∨k=7∨k=8∨(k≠0∧k≠1∧k≠2∧k≠3∧k≠4∧k≠5∧k≠6∧k≠7∧k≠8):=by omega
end Go.Proofs.YtgopdffmnikhdaaGreatDoor
