import Derived.Test.YtaakadmnhpboiaaGreatDoorM01
import Derived.Laws.FloatArith
namespace Go.Proofs.YtaakadmnhpboiaaGreatDoor
open Go.RowKit Go.Deep
def szN (n:Nat) (left:Int):Int:=if (n:Int)≤left then left - n else -1
theorem szN_pos {n:Nat} {left:Int} (h:(n:Int)≤left):szN n left=left - n:=if_pos h
theorem szN_neg {n:Nat} {left:Int} (h:¬(n:Int)≤left):szN n left = -1:=if_neg h
theorem szN_bd (n:Nat) (left:Int) (h:0≤left) : -1≤szN n left∧szN n left≤left:=by unfold szN;split <;> omega
def sumL {α:Type} (f:α→Nat):List α→Nat
 | []=>0
 | x::r=>f x+sumL f r
theorem sumL_mem {α:Type} {f:α→Nat} {l:List α} {x:α} (h:x ∈ l):f x≤sumL f l:=by
 induction l with
 | nil=>cases h
 | cons y r ih=>
  rw [List.mem_cons] at h
  rcases h with rfl | h
  ·simp only [sumL];omega
  ·have:=ih h;simp only [sumL];omega
def bulkVs (vs:List Vd):Nat:=vs.length+sumL (fun v=>v.str.size) vs
def bulkMs (ms:List Md):Nat:=ms.length+sumL (fun m=>m.name.size) ms
def bulkP (p:Pd):Nat:=p.name.size+p.ups.length+bulkVs p.consts+p.ins.length+bulkMs p.named
def bulkPs (ps:List Pd):Nat:=ps.length+sumL bulkP ps
def Vds (vs:List Vd):Prop:=∀v ∈ vs,v.str.size≤9223372036854775807
def Mds (ms:List Md):Prop:=∀m ∈ ms,m.name.size≤9223372036854775807
set_option maxHeartbeats 400000 in
theorem szUpS_any (ao:Option Addr) (n cap:Nat) (left:Int) (w:World) (h0:0≤left) (h1:left≤1048576) (hm:n≤9223372036854775807) :
  Calls Tryz.prog 86 #[.slice ao n cap,.int .i64 left] w fun e w'=>e=.returned (.int .i64 (szN n left))∧w'=w:=by
 go_enter Tryz.func86,Tryz.ntmps86
 go_wp2_with fail
 ·go_ret
  exact⟨ret_int (szN_neg (by omega)).symm,rfl⟩
 ·go_ret
  exact⟨ret_int (szN_pos (by omega)).symm,rfl⟩
set_option maxHeartbeats 400000 in
theorem szInsS_any (ao:Option Addr) (n cap:Nat) (left:Int) (w:World) (h0:0≤left) (h1:left≤1048576) (hm:n≤9223372036854775807) :
  Calls Tryz.prog 88 #[.slice ao n cap,.int .i64 left] w fun e w'=>e=.returned (.int .i64 (szN n left))∧w'=w:=by
 go_enter Tryz.func88,Tryz.ntmps88
 go_wp2_with fail
 ·go_ret
  exact⟨ret_int (szN_neg (by omega)).symm,rfl⟩
 ·go_ret
  exact⟨ret_int (szN_pos (by omega)).symm,rfl⟩
set_option maxHeartbeats 400000 in
theorem szValue_any (v:Vd) (left:Int) (w:World) (h0:0≤left) (h1:left≤1048576) (hm:v.str.size≤9223372036854775807) :
  Calls Tryz.prog 134 #[v.val,.int .i64 left] w fun e w'=>e=.returned (.int .i64 (szN v.str.size left))∧Below w.heap.size w w':=by
 obtain⟨k,n,f,s,r⟩:=v
 dsimp only [Vd.val] at hm ⊢
 go_enter Tryz.func134,Tryz.ntmps134
 go_wp2_with fail
 ·go_ret
  exact⟨ret_int (szN_neg (by omega)).symm,(Below.refl _ _).alloc (Nat.le_refl _) _⟩
 ·go_ret
  exact⟨ret_int (szN_pos (by omega)).symm,(Below.refl _ _).alloc (Nat.le_refl _) _⟩
set_option maxHeartbeats 400000 in
theorem szNamed_any (v:Md) (left:Int) (w:World) (h0:0≤left) (h1:left≤1048576) (hm:v.name.size≤9223372036854775807) :
  Calls Tryz.prog 135 #[v.val,.int .i64 left] w fun e w'=>e=.returned (.int .i64 (szN v.name.size left))∧Below w.heap.size w w':=by
 obtain⟨s,k,n,r⟩:=v
 dsimp only [Md.val] at hm ⊢
 go_enter Tryz.func135,Tryz.ntmps135
 go_wp2_with fail
 ·go_ret
  exact⟨ret_int (szN_neg (by omega)).symm,(Below.refl _ _).alloc (Nat.le_refl _) _⟩
 ·go_ret
  exact⟨ret_int (szN_pos (by omega)).symm,(Below.refl _ _).alloc (Nat.le_refl _) _⟩
theorem sum_drop {α:Type} {f:α→Nat} {l:List α} {k:Nat} {x:α} (h:l[k]?=some x):sumL f (l.drop k)=f x+sumL f (l.drop (k+1)):=by
 rw [drop_some h];rfl
set_option maxHeartbeats 400000 in
theorem szValueS_any (ao:Option Addr) (cap:Nat) (vs:List Vd) (left:Int) (w:World) (h0:0≤left) (h1:left≤1048576) (hm:vs.length≤9223372036854775807) (hs:Vds vs) (hv:ValsAt 0 w ao vs) :
  Calls Tryz.prog 87 #[.slice ao vs.length cap,.int .i64 left] w fun e w'=>e=.returned (.int .i64 (szN (bulkVs vs) left))∧Below w.heap.size w w':=by
 go_enter Tryz.func87,Tryz.ntmps87
 go_wp2_with fail
 ·go_ret
  exact⟨ret_int (szN_neg (by unfold bulkVs;omega)).symm,Below.refl _ _⟩
 ·have hge:0≤left - (vs.length:Int):=by assumption
  go_loopw [1,5] (fun l i wr=>∃(k:Nat) (q:Int),k≤vs.length∧i=.int .i64 k∧l=.int .i64 q∧0≤q∧q≤1048576∧Hid (szN (sumL (fun v=>v.str.size) (vs.drop k)) q=szN (bulkVs vs) left)∧Below w.heap.size w wr) (fun _ i _=>vs.length - (intOf i).toNat)
  case atStart=>exact ⟨0,_,Nat.zero_le _,rfl,rfl,by omega,by omega,by show _=_;rw [List.drop_zero];unfold szN bulkVs;split <;> split <;> omega,Below.refl _ _⟩
  case round=>
   obtain⟨k,q,hk,rfl,rfl,hq0,hq1,HQ,hb⟩:=hrel
   by_cases hlt:k<vs.length
   ·obtain⟨v,hvk⟩:=some_of_lt hlt
    obtain⟨b,off,rfl,_,hbl,hat⟩:=hv.later (Keeps.of_below hb) k v hvk
    have hss:=hs v (List.mem_of_getElem? hvk)
    have HD:Hid _:=sum_drop (f:=fun v:Vd=>v.str.size) hvk
    obtain⟨p0,p1,p2,p3,p4⟩:=hat
    clear hv
    go_wp2_with fail
    refine (szValue_any v q _ hq0 hq1 hss).mono ?_
    rintro e w1 ⟨rfl,hw1⟩
    have hb1:=hb.trans (hw1.mono hb.size)
    have hbd:=szN_bd v.str.size q hq0
    by_cases hn:(v.str.size:Int)≤q
    ·rw [szN_pos hn]
     go_wp2_with fail
     go_roundw
     case rel=>exact ⟨k+1,_,by omega,by go_num,rfl,by omega,by omega,by
      have h:=HQ.out;rw [HD.out] at h;show _=_;rw [←h];unfold szN;split <;> split <;> omega,hb1⟩
     case measure=>simp [intOf];omega
    ·rw [szN_neg hn]
     go_wp2_with fail
     go_ret
     exact⟨ret_int (by have h:=HQ.out;rw [HD.out] at h;rw [←h,szN_neg (by omega)]),hb1⟩
   ·go_wp2_with fail
    go_ret
    have h:=HQ.out
    rw [List.drop_of_length_le (by omega)] at h
    exact⟨ret_int (by rw [←h,szN_pos (by simpa [sumL] using hq0)];simp [sumL]),hb⟩
set_option maxHeartbeats 400000 in
theorem szNamedS_any (ao:Option Addr) (cap:Nat) (vs:List Md) (left:Int) (w:World) (h0:0≤left) (h1:left≤1048576) (hm:vs.length≤9223372036854775807) (hs:Mds vs) (hv:NamsAt 0 w ao vs) :
  Calls Tryz.prog 89 #[.slice ao vs.length cap,.int .i64 left] w fun e w'=>e=.returned (.int .i64 (szN (bulkMs vs) left))∧Below w.heap.size w w':=by
 go_enter Tryz.func89,Tryz.ntmps89
 go_wp2_with fail
 ·go_ret
  exact⟨ret_int (szN_neg (by unfold bulkMs;omega)).symm,Below.refl _ _⟩
 ·have hge:0≤left - (vs.length:Int):=by assumption
  go_loopw [1,5] (fun l i wr=>∃(k:Nat) (q:Int),k≤vs.length∧i=.int .i64 k∧l=.int .i64 q∧0≤q∧q≤1048576∧Hid (szN (sumL (fun v=>v.name.size) (vs.drop k)) q=szN (bulkMs vs) left)∧Below w.heap.size w wr) (fun _ i _=>vs.length - (intOf i).toNat)
  case atStart=>exact ⟨0,_,Nat.zero_le _,rfl,rfl,by omega,by omega,by show _=_;rw [List.drop_zero];unfold szN bulkMs;split <;> split <;> omega,Below.refl _ _⟩
  case round=>
   obtain⟨k,q,hk,rfl,rfl,hq0,hq1,HQ,hb⟩:=hrel
   by_cases hlt:k<vs.length
   ·obtain⟨v,hvk⟩:=some_of_lt hlt
    obtain⟨b,off,rfl,_,hbl,hat⟩:=hv.later (Keeps.of_below hb) k v hvk
    have hss:=hs v (List.mem_of_getElem? hvk)
    have HD:Hid _:=sum_drop (f:=fun v:Md=>v.name.size) hvk
    obtain⟨p0,p1,p2,p3⟩:=hat
    clear hv
    go_wp2_with fail
    refine (szNamed_any v q _ hq0 hq1 hss).mono ?_
    rintro e w1 ⟨rfl,hw1⟩
    have hb1:=hb.trans (hw1.mono hb.size)
    have hbd:=szN_bd v.name.size q hq0
    by_cases hn:(v.name.size:Int)≤q
    ·rw [szN_pos hn]
     go_wp2_with fail
     go_roundw
     case rel=>exact ⟨k+1,_,by omega,by go_num,rfl,by omega,by omega,by
      have h:=HQ.out;rw [HD.out] at h;show _=_;rw [←h];unfold szN;split <;> split <;> omega,hb1⟩
     case measure=>simp [intOf];omega
    ·rw [szN_neg hn]
     go_wp2_with fail
     go_ret
     exact⟨ret_int (by have h:=HQ.out;rw [HD.out] at h;rw [←h,szN_neg (by omega)]),hb1⟩
   ·go_wp2_with fail
    go_ret
    have h:=HQ.out
    rw [List.drop_of_length_le (by omega)] at h
    exact⟨ret_int (by rw [←h,szN_pos (by simpa [sumL] using hq0)];simp [sumL]),hb⟩
theorem szN_step {a r:Nat} {left:Int} (_h:(a:Int)≤left):szN (a+r) left=szN r (left - a):=by unfold szN;split <;> split <;> omega
structure PSz (p:Pd):Prop where
 name:p.name.size≤9223372036854775807
 ups:p.ups.length≤9223372036854775807
 consts:p.consts.length≤9223372036854775807
 ins:p.ins.length≤9223372036854775807
 named:p.named.length≤9223372036854775807
 strs:Vds p.consts
 names:Mds p.named
set_option maxHeartbeats 1000000 in
theorem szProto_any (p:Pd) (h:Ph) (left:Int) (w:World) (h0:0≤left) (h1:left≤1048576) (hz:PSz p) (hp:PIn 0 w h p) :
  Calls Tryz.prog 41 #[.agg (p.cells h),.int .i64 left] w fun e w'=>e=.returned (.int .i64 (szN (bulkP p) left))∧Below w.heap.size w w':=by
 obtain⟨z0,z1,z2,z3,z4,z5,z6⟩:=hz
 obtain⟨i1,i2,i3,i4⟩:=hp
 have E0:Hid (bulkP p=p.name.size+(p.ups.length+(bulkVs p.consts+(p.ins.length+bulkMs p.named)))):=by show bulkP p=_;unfold bulkP;omega
 obtain⟨nm,ln,pa,re,rg,us,cs,is,ms⟩:=p
 obtain⟨uo,uc,co,cc,io,ic,no,nc⟩:=h
 dsimp only [Pd.cells] at *
 have hb1:∀o,Below w.heap.size w (w.alloc o):=fun o=>(Below.refl _ _).alloc (Nat.le_refl _) o
 by_cases g0:(nm.size:Int)≤left
 rotate_left
 ·go_enter Tryz.func41,Tryz.ntmps41
  go_wp2_with fail
  go_ret
  exact⟨ret_int (by rw [E0.out,szN_neg (by omega)]),hb1 _⟩
 go_enter Tryz.func41,Tryz.ntmps41
 go_wp2_with fail
 refine (szUpS_any uo us.length uc (left - nm.size) _ (by omega) (by omega) z1).mono ?_
 rintro e w1 ⟨rfl,rfl⟩
 by_cases g1:(us.length:Int)≤left - nm.size
 rotate_left
 ·rw [szN_neg (by omega)]
  go_wp2_with fail
  go_ret
  exact⟨ret_int (by rw [E0.out,szN_step g0,szN_neg (by omega)]),hb1 _⟩
 rw [szN_pos (by omega)]
 have E1:Hid (szN (bulkP ⟨nm,ln,pa,re,rg,us,cs,is,ms⟩) left=szN (bulkVs cs+(is.length+bulkMs ms)) (left - nm.size - us.length)):=by show _=_;rw [E0.out,szN_step g0,szN_step g1]
 clear E0
 generalize hq1:left - (nm.size:Int) - us.length=q1 at *
 have hq10:0≤q1∧q1≤1048576:=by omega
 clear hq1 g0 g1 h0 h1
 obtain⟨h0,h1⟩:=hq10
 go_wp2_with fail
 refine (szValueS_any co cc cs q1 _ h0 h1 z2 z5 (i2.later (Keeps.of_below (hb1 _)))).mono ?_
 rintro e w2 ⟨rfl,hw2⟩
 have B2:=(hb1 _).trans (hw2.mono (by simp))
 obtain⟨k1,k2⟩:=bcell hw2
 by_cases g2:(bulkVs cs:Int)≤q1
 rotate_left
 ·rw [szN_neg (by omega)]
  go_wp2_with fail
  go_ret
  exact⟨ret_int (by rw [E1.out,szN_neg (by omega)]),B2⟩
 rw [szN_pos (by omega)]
 have E2:Hid (szN (bulkP ⟨nm,ln,pa,re,rg,us,cs,is,ms⟩) left=szN (is.length+bulkMs ms) (q1 - bulkVs cs)):=by show _=_;rw [E1.out,szN_step g2]
 clear E1 hw2
 generalize hq2:q1 - (bulkVs cs:Int)=q2 at *
 have hq20:0≤q2∧q2≤1048576:=by omega
 clear hq2 g2 h0 h1
 obtain⟨h0,h1⟩:=hq20
 go_wp2_with fail
 refine (szInsS_any io is.length ic q2 _ h0 h1 z3).mono ?_
 rintro e w3 ⟨rfl,rfl⟩
 by_cases g3:(is.length:Int)≤q2
 rotate_left
 ·rw [szN_neg (by omega)]
  go_wp2_with fail
  go_ret
  exact⟨ret_int (by rw [E2.out,szN_neg (by omega)]),B2⟩
 rw [szN_pos (by omega)]
 have E3:Hid (szN (bulkP ⟨nm,ln,pa,re,rg,us,cs,is,ms⟩) left=szN (bulkMs ms) (q2 - is.length)):=by show _=_;rw [E2.out,szN_step g3]
 clear E2
 generalize hq3:q2 - (is.length:Int)=q3 at *
 have hq30:0≤q3∧q3≤1048576:=by omega
 clear hq3 g3 h0 h1
 obtain⟨h0,h1⟩:=hq30
 go_wp2_with fail
 refine (szNamedS_any no nc ms q3 _ h0 h1 z4 z6 (i4.later (Keeps.of_below B2))).mono ?_
 rintro e w4 ⟨rfl,hw4⟩
 have B4:=B2.trans (hw4.mono B2.size)
 have hbd:=szN_bd (bulkMs ms) q3 h0
 by_cases g4:(bulkMs ms:Int)≤q3
 ·rw [szN_pos g4]
  go_wp2_with fail
  go_ret
  exact⟨ret_int (by rw [E3.out,szN_pos (by omega)]),B4⟩
 ·rw [szN_neg g4]
  go_wp2_with fail
  go_ret
  exact⟨ret_int (by rw [E3.out,szN_neg (by omega)]),B4⟩
theorem sum_dropP {l:List Pd} {k:Nat} {x:Pd} (h:l[k]?=some x):sumL bulkP (l.drop k)=bulkP x+sumL bulkP (l.drop (k+1)):=sum_drop h
set_option maxHeartbeats 400000 in
theorem szProtoS_any (ao:Option Addr) (cap:Nat) (vs:List Pd) (left:Int) (w:World) (h0:0≤left) (h1:left≤1048576) (hm:vs.length≤9223372036854775807) (hs:∀p ∈ vs,PSz p) (hv:ProtosAt 0 w ao vs) :
  Calls Tryz.prog 20 #[.slice ao vs.length cap,.int .i64 left] w fun e w'=>e=.returned (.int .i64 (szN (bulkPs vs) left))∧Below w.heap.size w w':=by
 go_enter Tryz.func20,Tryz.ntmps20
 go_wp2_with fail
 ·go_ret
  exact⟨ret_int (szN_neg (by unfold bulkPs;omega)).symm,Below.refl _ _⟩
 ·have hge:0≤left - (vs.length:Int):=by assumption
  go_loopw [1,5] (fun l i wr=>∃(k:Nat) (q:Int),k≤vs.length∧i=.int .i64 k∧l=.int .i64 q∧0≤q∧q≤1048576∧Hid (szN (sumL bulkP (vs.drop k)) q=szN (bulkPs vs) left)∧Below w.heap.size w wr) (fun _ i _=>vs.length - (intOf i).toNat)
  case atStart=>exact ⟨0,_,Nat.zero_le _,rfl,rfl,by omega,by omega,by show _=_;rw [List.drop_zero];unfold szN bulkPs;split <;> split <;> omega,Below.refl _ _⟩
  case round=>
   obtain⟨k,q,hk,rfl,rfl,hq0,hq1,HQ,hb⟩:=hrel
   by_cases hlt:k<vs.length
   ·obtain⟨v,hvk⟩:=some_of_lt hlt
    obtain⟨b,off,rfl,_,hbl,h,hat,hin⟩:=hv.later (Keeps.of_below hb) k v hvk
    have hss:=hs v (List.mem_of_getElem? hvk)
    have HD:Hid _:=sum_dropP hvk
    obtain⟨p0,p1,p2,p3,p4,p5,p6,p7,p8⟩:=hat
    clear hv hs
    go_wp2_with fail
    refine (szProto_any v h q _ hq0 hq1 hss hin).mono ?_
    rintro e w1 ⟨rfl,hw1⟩
    have hb1:=hb.trans (hw1.mono hb.size)
    have hbd:=szN_bd (bulkP v) q hq0
    by_cases hn:(bulkP v:Int)≤q
    ·rw [szN_pos hn]
     go_wp2_with fail
     go_roundw
     case rel=>exact ⟨k+1,_,by omega,by go_num,rfl,by omega,by omega,by
      have h:=HQ.out;rw [HD.out] at h;show _=_;rw [←h];unfold szN;split <;> split <;> omega,hb1⟩
     case measure=>simp [intOf];omega
    ·rw [szN_neg hn]
     go_wp2_with fail
     go_ret
     exact⟨ret_int (by have h:=HQ.out;rw [HD.out] at h;rw [←h,szN_neg (by omega)]),hb1⟩
   ·go_wp2_with fail
    go_ret
    have h:=HQ.out
    rw [List.drop_of_length_le (by omega)] at h
    exact⟨ret_int (by rw [←h,szN_pos (by simpa [sumL] using hq0)];simp [sumL]),hb⟩
set_option maxHeartbeats 400000 in
theorem szCode_any (ao:Option Addr) (cap:Nat) (vs:List Pd) (left:Int) (w:World) (h0:0≤left) (h1:left≤1048576) (hm:vs.length≤9223372036854775807) (hs:∀p ∈ vs,PSz p) (hv:ProtosAt 0 w ao vs) :
  Calls Tryz.prog 6 #[.agg #[.slice ao vs.length cap],.int .i64 left] w fun e w'=>e=.returned (.int .i64 (szN (bulkPs vs) left))∧Below w.heap.size w w':=by
 have hb1:∀o,Below w.heap.size w (w.alloc o):=fun o=>(Below.refl _ _).alloc (Nat.le_refl _) o
 go_enter Tryz.func6,Tryz.ntmps6
 go_wp2_with fail
 refine (szProtoS_any ao cap vs left _ h0 h1 hm hs (hv.later (Keeps.of_below (hb1 _)))).mono ?_
 rintro e w1 ⟨rfl,hw1⟩
 have B1:=(hb1 _).trans (hw1.mono (by simp))
 have hbd:=szN_bd (bulkPs vs) left h0
 by_cases hn:(bulkPs vs:Int)≤left
 ·rw [szN_pos hn]
  go_wp2_with fail
  go_ret
  exact⟨ret_int (szN_pos (by omega)).symm,B1⟩
 ·rw [szN_neg hn]
  go_wp2_with fail
  go_ret
  exact⟨ret_int (szN_neg (by omega)).symm,B1⟩
end Go.Proofs.YtaakadmnhpboiaaGreatDoor
namespace Go.Proofs.YtaakadmnhpboiaaGreatDoor
theorem read_zero:FloatKind.f64.format.read 0=.number false 0 (FloatKind.f64.format.leastPlace):=by decide +kernel
theorem signed_zero {s:Bool} {m k:Nat} (h:Ieee.signed s m k=0):m=0:=by
 unfold Ieee.signed at h
 rw [Nat.shiftLeft_eq] at h
 have hp:0<2 ^ k:=Nat.two_pow_pos k
 have h2:m*2 ^ k=0:=by split at h <;> omega
 rcases Nat.mul_eq_zero.1 h2 with h3 | h3
 ·exact h3
 ·omega
theorem zero_bits (x:Nat) (hx:x<18446744073709551616) (h:(FloatKind.f64.format.order x 0 == some .eq)=true):x=0∨x=9223372036854775808:=by
 have h:FloatKind.f64.format.order x 0=some .eq:=by simpa using h
 unfold Ieee.Format.order at h
 rw [read_zero] at h
 have num:∀s m i,(Ieee.Datum.number s m i).order (.number false 0 (FloatKind.f64.format.leastPlace))=some .eq→m=0:=by
  intro s m i h
  simp only [Ieee.Datum.order,Option.some.injEq] at h
  have h2:=Std.LawfulEqOrd.eq_of_compare h
  have h3:∀k,Ieee.signed false 0 k=0:=by intro k;simp [Ieee.signed]
  rw [h3] at h2
  exact signed_zero h2
 have e1:FloatKind.f64.format.signWeight=9223372036854775808:=by decide +kernel
 have e2:FloatKind.f64.format.binade=4503599627370496:=by decide +kernel
 unfold Ieee.Format.read at h
 simp only [e1,e2] at h
 split at h
 ·have:=num _ _ _ h
  omega
 ·split at h
  ·have:=num _ _ _ h
   omega
  ·split at h
   ·simp only [Ieee.Datum.order,Option.some.injEq] at h
    split at h <;> cases h
   ·simp [Ieee.Datum.order] at h
def fOne:Nat:=4607182418800017408
theorem div_zero:floatBits .quo .f64 4607182418800017408 0=some 9218868437227405312:=by decide +kernel
theorem div_minus:floatBits .quo .f64 4607182418800017408 9223372036854775808=some 18442240474082181120:=by decide +kernel
theorem pos_inf:(FloatKind.f64.format.order 9218868437227405312 0 == some .gt)=true:=by decide +kernel
theorem neg_inf:(FloatKind.f64.format.order 18442240474082181120 0 == some .gt)=false:=by decide +kernel
end Go.Proofs.YtaakadmnhpboiaaGreatDoor
