import Derived.Test.YtaakadmnhpboiaaGreatDoorM04
import Derived.Test.YtaakadmnhpboiaaGreatDoorM03
namespace Go.Proofs.YtaakadmnhpboiaaGreatDoor
open Go.RowKit Go.Deep
attribute [local go_sem] run_store_float
theorem run_eq_float' (d:Nat) (w:World) (x y:Nat):(Op.equalIn (d+1) 151 (.float .f64 x) (.float .f64 y)).run Tryz.prog w=.ok (FloatKind.f64.format.order x y == some .eq) w:=by
 simp [Op.equalIn,run_underlying Tryz.underlying151,Op.floatEq]
theorem run_eq_float (w:World) (x y:Nat):(Op.equalIn 9999 151 (.float .f64 x) (.float .f64 y)).run Tryz.prog w=.ok (FloatKind.f64.format.order x y == some .eq) w:=run_eq_float' 9998 w x y
set_option maxRecDepth 100000 in
set_option maxHeartbeats 2000000 in
theorem valid_any (v:Vd) (w:World) :
  Calls Tryz.prog 142 #[v.val] w fun e w'=>e=.returned (.bool (validB v))∧Below w.heap.size w w':=by
 obtain⟨x0,x1,x2,x3,x4⟩:=v
 have hb2:∀o1 o2,Below w.heap.size w ((w.alloc o1).alloc o2):=fun o1 o2=>((Below.refl _ _).alloc (Nat.le_refl _) o1).alloc (by simp) o2
 have he:=run_eq_float
 dsimp only [Vd.val]
 rcases kinds x0 with rfl | rfl | rfl | rfl | rfl | rfl | rfl | rfl | rfl | hk
 rotate_right
 ·obtain⟨h0,h1,h2,h3,h4,h5,h6,h7,h8⟩:=hk
  have k0:(x0 == 0)=false:=by simpa using h0
  have k1:(x0 == 1)=false:=by simpa using h1
  have k2:(x0 == 2)=false:=by simpa using h2
  have k3:(x0 == 3)=false:=by simpa using h3
  have k4:(x0 == 4)=false:=by simpa using h4
  have k5:(x0 == 5)=false:=by simpa using h5
  have k6:(x0 == 6)=false:=by simpa using h6
  have k7:(x0 == 7)=false:=by simpa using h7
  have k8:(x0 == 8)=false:=by simpa using h8
  go_enter Tryz.func142,Tryz.ntmps142
  go_wp2_with fail
  go_ret
  exact⟨ret_bool (by simp [validB,h0,h1,h2,h3,h4,h5,h6,h7,h8]),hb2 _ _⟩
 ·go_enter Tryz.func142,Tryz.ntmps142
  go_wp2_with fail
  all_goals
   go_ret
   refine⟨ret_bool ?_,hb2 _ _⟩
   clear hb2 he
   simp_all [validB,zeroB,fz]
 ·have h1:(x1 == 0)=true∧(x1 == 1)=false∨(x1 == 0)=false∧(x1 == 1)=true∨(x1 == 0)=false∧(x1 == 1)=false:=by simp;omega
  rcases h1 with ⟨k1,k2⟩ | ⟨k1,k2⟩ | ⟨k1,k2⟩
  all_goals
   go_enter Tryz.func142,Tryz.ntmps142
   go_wp2_with fail
   go_region
   all_goals go_wp2_with fail
   all_goals
    go_ret
    refine⟨ret_bool ?_,(hb2 _ _).drew⟩
    clear hb2 he
    first | (simp_all [validB,zeroB,fz];done) | (simp_all [validB,zeroB,fz];omega)
 ·go_enter Tryz.func142,Tryz.ntmps142
  go_wp2_with fail
  all_goals
   go_ret
   refine⟨ret_bool ?_,hb2 _ _⟩
   clear hb2 he
   simp_all [validB,zeroB,fz]
 ·go_enter Tryz.func142,Tryz.ntmps142
  go_wp2_with fail
  all_goals
   go_ret
   refine⟨ret_bool ?_,hb2 _ _⟩
   clear hb2 he
   simp_all [validB,zeroB,fz]
 ·go_enter Tryz.func142,Tryz.ntmps142
  go_wp2_with fail
  go_region
  all_goals go_wp2_with fail
  all_goals
   go_ret
   refine⟨ret_bool ?_,(hb2 _ _).drew⟩
   clear hb2 he
   first | (simp_all [validB,zeroB,fz];done) | (simp_all [validB,zeroB,fz];omega)
 ·go_enter Tryz.func142,Tryz.ntmps142
  go_wp2_with fail
  go_region
  all_goals go_wp2_with fail
  all_goals
   go_ret
   refine⟨ret_bool ?_,(hb2 _ _).drew⟩
   clear hb2 he
   first | (simp_all [validB,zeroB,fz];done) | (simp_all [validB,zeroB,fz];omega)
 ·go_enter Tryz.func142,Tryz.ntmps142
  go_wp2_with fail
  go_region
  all_goals go_wp2_with fail
  all_goals
   go_ret
   refine⟨ret_bool ?_,(hb2 _ _).drew⟩
   clear hb2 he
   first | (simp_all [validB,zeroB,fz];done) | (simp_all [validB,zeroB,fz];omega)
 ·go_enter Tryz.func142,Tryz.ntmps142
  go_wp2_with fail
  go_region
  all_goals go_wp2_with fail
  all_goals
   go_ret
   refine⟨ret_bool ?_,(hb2 _ _).drew⟩
   clear hb2 he
   first | (simp_all [validB,zeroB,fz];done) | (simp_all [validB,zeroB,fz];omega)
 ·have h1:decide (0≤x1)=false∨(0≤x1∧x1<15)∨(0≤x1∧decide (x1<15)=false):=by simp;omega
  rcases h1 with k1 | ⟨k1,k2⟩ | ⟨k1,k2⟩
  all_goals
   go_enter Tryz.func142,Tryz.ntmps142
   go_wp2_with fail
   go_region
   all_goals go_wp2_with fail
   all_goals
    go_ret
    refine⟨ret_bool ?_,(hb2 _ _).drew⟩
    clear hb2 he
    first | (simp_all [validB,zeroB,fz];done) | (simp_all [validB,zeroB,fz];omega)
end Go.Proofs.YtaakadmnhpboiaaGreatDoor
namespace Go.Proofs.YtaakadmnhpboiaaGreatDoor
open Go.RowKit Go.Deep
attribute [local go_sem] run_store_float
set_option maxHeartbeats 400000 in
theorem isNaN_any (x:Nat) (w:World) :
  Calls Tryz.prog 143 #[.float .f64 x] w fun e w'=>e=.returned (.bool (FloatKind.f64.format.order x x != some .eq))∧w'=w:=by
 go_enter Tryz.func143,Tryz.ntmps143
 go_wp2_with fail
 go_ret
 exact⟨rfl,rfl⟩
theorem run_bits (x:Nat) (w:World):(callFunc 163 #[.float .f64 x]).run Tryz.prog w=.ok (.value (.int .u64 x)) w:=by
 rw [run_callFunc_extern (e:=Extern.MathFloatBits.float64bits) Tryz.func163 (by kernel_rfl) (by kernel_rfl) (by kernel_rfl) (by kernel_rfl)]
 rfl
set_option maxRecDepth 100000 in
set_option maxHeartbeats 400000 in
theorem signbit_any (x:Nat) (w:World) :
  Calls Tryz.prog 144 #[.float .f64 x] w fun e w'=>e=.returned (.bool (decide (wrap64 x<0)))∧w'=w:=by
 have hb:=run_bits
 go_enter Tryz.func144,Tryz.ntmps144
 go_wp2_with fail
 go_ret
 exact⟨rfl,rfl⟩
def constB (v:Vd):Bool:=validB v && (!decide (v.kind=5∨v.kind=6∨v.kind=7) && (if v.kind=3 then FloatKind.f64.format.order v.flt v.flt == some .eq else decide (v.flt=0)))
theorem valid_fz {v:Vd} (h:validB v=true) (hk:v.kind≠3):fz v.flt=true:=by
 unfold validB at h
 rcases kinds v.kind with e | e | e | e | e | e | e | e | e | e <;> simp_all [zeroB]
theorem quo_pos {x:Nat} (hx:x<18446744073709551616) (h:fz x=true):∃r,floatBits .quo .f64 4607182418800017408 x=some r∧(FloatKind.f64.format.order r 0 == some .gt)=decide (x=0):=by
 rcases zero_bits x hx h with rfl | rfl
 ·exact⟨_,div_zero,by rw [pos_inf];rfl⟩
 ·exact⟨_,div_minus,by rw [neg_inf];rfl⟩
theorem sign_pos {x:Nat} (hx:x<18446744073709551616) (h:fz x=true):decide (wrap64 x<0) = !decide (x=0):=by
 rcases zero_bits x hx h with rfl | rfl <;> decide +kernel
set_option maxHeartbeats 2000000 in
theorem l3constOk_any (v:Vd) (hf:v.flt<18446744073709551616) (w:World) :
  Calls Tryz.prog 91 #[v.val] w fun e w'=>e=.returned (.bool (constB v))∧Below w.heap.size w w':=by
 have hv:=ValueOk_any v
 have hz:=@valid_fz v
 have hq:=@quo_pos v.flt hf
 clear hf
 have HC:Hid (constB v=(validB v && (!decide (v.kind=5∨v.kind=6∨v.kind=7) && (if v.kind=3 then FloatKind.f64.format.order v.flt v.flt == some .eq else decide (v.flt=0))))):=rfl
 obtain⟨x0,x1,x2,x3,x4⟩:=v
 dsimp only [Vd.val] at *
 generalize constB ⟨x0,x1,x2,x3,x4⟩=cb at *
 generalize validB ⟨x0,x1,x2,x3,x4⟩=vb at *
 have hb1:∀o,Below w.heap.size w (w.alloc o):=fun o=>(Below.refl _ _).alloc (Nat.le_refl _) o
 have X0:=Blk.new w #[.int .i64 x0,.int .i64 x1,.float .f64 x2,.string x3,.int .i64 x4] 153
 have HV:Hid (∀w,Calls Tryz.prog 136 #[.agg #[.int .i64 x0,.int .i64 x1,.float .f64 x2,.string x3,.int .i64 x4]] w fun e w'=>e=.returned (.bool vb)∧Below w.heap.size w w'):=hv
 clear hv
 cases vb
 ·clear hz hq
  go_enter Tryz.func91,Tryz.ntmps91
  go_wp2_with (go_at_call 136;refine (HV.out _).mono ?_;rintro e w1 ⟨rfl,hw1⟩;have y1:=(X0.later hw1).cell)
  go_ret
  exact⟨ret_bool (by rw [HC.out];simp),(hb1 _).trans (hw1.mono (by simp))⟩
 ·by_cases h3:x0=3
  ·subst h3
   clear hz hq
   go_enter Tryz.func91,Tryz.ntmps91
   go_wp2_with (go_at_call 136;refine (HV.out _).mono ?_;rintro e w1 ⟨rfl,hw1⟩;have y1:=(X0.later hw1).cell)
   go_ret
   exact⟨ret_bool (by rw [HC.out];simp),(hb1 _).trans (hw1.mono (by simp))⟩
  ·have z0:=hz rfl h3
   obtain⟨r,hr1,hr2⟩:=hq z0
   have hd:=fun (w:World) (t:TypeId)=>run_float_arith (P:=Tryz.prog) w .quo t .f64 _ x2 r hr1
   have z1:(FloatKind.f64.format.order x2 0 == some .eq)=true:=z0
   have HR:Hid ((FloatKind.f64.format.order r 0 == some .gt)=decide (x2=0)):=hr2
   have k3:(x0 == 3)=false:=by simpa using h3
   clear hz hq hr1 hr2 z0
   by_cases h5:x0=5∨x0=6∨x0=7
   ·rcases h5 with rfl | rfl | rfl
    all_goals
     go_enter Tryz.func91,Tryz.ntmps91
     go_wp2_with (go_at_call 136;refine (HV.out _).mono ?_;rintro e w1 ⟨rfl,hw1⟩;have y1:=(X0.later hw1).cell)
     go_ret
     exact⟨ret_bool (by rw [HC.out];simp),(hb1 _).trans (hw1.mono (by simp))⟩
   ·have e5:(x0 == 5)=false:=by simp;omega
    have e6:(x0 == 6)=false:=by simp;omega
    have e7:(x0 == 7)=false:=by simp;omega
    have H5:Hid (¬(x0=5∨x0=6∨x0=7)):=h5
    have H3:Hid (¬x0=3):=h3
    clear h5 h3
    go_enter Tryz.func91,Tryz.ntmps91
    go_wp2_with (go_at_call 136;refine (HV.out _).mono ?_;rintro e w1 ⟨rfl,hw1⟩;have y1:=(X0.later hw1).cell)
    all_goals
     go_ret
     exact⟨ret_bool (by rw [HC.out,decide_eq_false H5.out,if_neg H3.out,←HR.out];simp),(hb1 _).trans (hw1.mono (by simp))⟩
set_option maxHeartbeats 2000000 in
theorem constFits_any (v:Vd) (hf:v.flt<18446744073709551616) (w:World) :
  Calls Tryz.prog 105 #[v.val] w fun e w'=>e=.returned (.bool (constB v))∧Below w.heap.size w w':=by
 have hv:=valid_any v
 have hz:=@valid_fz v
 have hq:=@sign_pos v.flt hf
 clear hf
 have HC:Hid (constB v=(validB v && (!decide (v.kind=5∨v.kind=6∨v.kind=7) && (if v.kind=3 then FloatKind.f64.format.order v.flt v.flt == some .eq else decide (v.flt=0))))):=rfl
 obtain⟨x0,x1,x2,x3,x4⟩:=v
 dsimp only [Vd.val] at *
 generalize constB ⟨x0,x1,x2,x3,x4⟩=cb at *
 generalize validB ⟨x0,x1,x2,x3,x4⟩=vb at *
 have hb1:∀o,Below w.heap.size w (w.alloc o):=fun o=>(Below.refl _ _).alloc (Nat.le_refl _) o
 have X0:=Blk.new w #[.int .i64 x0,.int .i64 x1,.float .f64 x2,.string x3,.int .i64 x4] 153
 have HV:Hid (∀w,Calls Tryz.prog 142 #[.agg #[.int .i64 x0,.int .i64 x1,.float .f64 x2,.string x3,.int .i64 x4]] w fun e w'=>e=.returned (.bool vb)∧Below w.heap.size w w'):=hv
 clear hv
 by_cases h5:x0=5∨x0=6∨x0=7
 ·rcases h5 with rfl | rfl | rfl
  all_goals
   clear hz hq HV
   go_enter Tryz.func105,Tryz.ntmps105
   go_wp2_with fail
   go_ret
   exact⟨ret_bool (by rw [HC.out];simp),hb1 _⟩
 ·have e5:(x0 == 5)=false:=by simp;omega
  have e6:(x0 == 6)=false:=by simp;omega
  have e7:(x0 == 7)=false:=by simp;omega
  have H5:Hid (¬(x0=5∨x0=6∨x0=7)):=h5
  clear h5
  by_cases h3:x0=3
  ·subst h3
   clear hz hq
   cases vb
   ·go_enter Tryz.func105,Tryz.ntmps105
    go_wp2_with (go_at_call 142;refine (HV.out _).mono ?_;rintro e w1 ⟨rfl,hw1⟩;have y1:=(X0.later hw1).cell)
    go_ret
    exact⟨ret_bool (by rw [HC.out];simp),(hb1 _).trans (hw1.mono (by simp))⟩
   ·go_enter Tryz.func105,Tryz.ntmps105
    go_wp2_with (first | (go_at_call 142;refine (HV.out _).mono ?_;rintro e w1 ⟨rfl,hw1⟩;have y1:=(X0.later hw1).cell) | (go_at_call 143;refine (isNaN_any x2 _).mono ?_;rintro e w2 ⟨rfl,rfl⟩))
    go_ret
    exact⟨ret_bool (by rw [HC.out];simp;first | done | rfl),(hb1 _).trans (hw1.mono (by simp))⟩
  ·have k3:(x0 == 3)=false:=by simpa using h3
   have H3:Hid (¬x0=3):=h3
   cases vb
   ·clear hz hq h3
    go_enter Tryz.func105,Tryz.ntmps105
    go_wp2_with (go_at_call 142;refine (HV.out _).mono ?_;rintro e w1 ⟨rfl,hw1⟩;have y1:=(X0.later hw1).cell)
    go_ret
    exact⟨ret_bool (by rw [HC.out];simp),(hb1 _).trans (hw1.mono (by simp))⟩
   ·have HR:Hid (decide (wrap64 x2<0) = !decide (x2=0)):=hq (hz rfl h3)
    clear hz hq h3
    go_enter Tryz.func105,Tryz.ntmps105
    go_wp2_with (first | (go_at_call 142;refine (HV.out _).mono ?_;rintro e w1 ⟨rfl,hw1⟩;have y1:=(X0.later hw1).cell) | (go_at_call 144;refine (signbit_any x2 _).mono ?_;rintro e w2 ⟨rfl,rfl⟩))
    all_goals
     go_ret
     exact⟨ret_bool (by rw [HC.out,decide_eq_false H5.out,if_neg H3.out];have h:=HR.out;simp at h ⊢;first | exact h | (by_cases hh:x2=0 <;> simp_all <;> omega)),(hb1 _).trans (hw1.mono (by simp))⟩
end Go.Proofs.YtaakadmnhpboiaaGreatDoor
namespace Go.Proofs.YtaakadmnhpboiaaGreatDoor
open Go.RowKit Go.Deep
attribute [local go_sem] run_store_float
def firstBad {α:Type} (f:Nat→α→Bool):Nat→List α→Option Nat
 | _,[]=>none
 | k,x::r=>if f k x then firstBad f (k+1) r else some k
theorem firstBad_drop {α:Type} {f:Nat→α→Bool} {l:List α} {k:Nat} {x:α} (h:l[k]?=some x):firstBad f k (l.drop k)=if f k x then firstBad f (k+1) (l.drop (k+1)) else some k:=by
 rw [drop_some h];rfl
def namedB (p:Pd) (i:Nat) (m:Md):Bool:=decide ((i:Int)<500) && inR m.name.size 1 40 && inR m.reg 0 (p.regs - 1) && decide (0≤m.fr) && decide (m.fr≤m.to) && decide (m.to≤p.ins.length)
set_option maxRecDepth 100000 in
set_option maxHeartbeats 2000000 in
theorem l3namedOk_any (p:Pd) (h:Ph) (i:Nat) (m:Md) (w:World) (hi:p.named[i]?=some m) (hz:PFew p) (hr:0≤p.regs∧p.regs≤250) (hp:PIn 0 w h p) :
  Calls Tryz.prog 92 #[.agg (p.cells h),.int .i64 i] w fun e w'=>e=.returned (.bool (namedB p i m))∧Below w.heap.size w w':=by
 have hlt:i<p.named.length:=(List.getElem?_eq_some_iff.1 hi).1
 have hb1:∀o,Below w.heap.size w (w.alloc o):=fun o=>(Below.refl _ _).alloc (Nat.le_refl _) o
 obtain⟨b,off,e0,_,hbl,p0,p1,p2,p3⟩:=hp.named.later (Keeps.of_below (hb1 (.cells (p.cells h) 57))) i m hi
 have E0:Hid (namedB p i m=(decide ((i:Int)<500) && inR m.name.size 1 40 && inR m.reg 0 (p.regs - 1) && decide (0≤m.fr) && decide (m.fr≤m.to) && decide (m.to≤p.ins.length))):=rfl
 generalize namedB p i m=nb at *
 obtain⟨z1,z2,z3,z4⟩:=hz
 clear hi hp
 obtain⟨nm,ln,pa,re,rg,us,cs,is,ms⟩:=p
 obtain⟨uo,uc,co,cc,io,ic,no,nc⟩:=h
 obtain⟨m0,m1,m2,m3⟩:=m
 dsimp only [Pd.cells] at *
 subst e0
 obtain⟨hr1,hr2⟩:=hr
 go_enter Tryz.func92,Tryz.ntmps92
 go_wp2_with (go_at_call 94;refine (l3in_any _ _ _ _).mono ?_;rintro e w' ⟨rfl,rfl⟩)
 all_goals
  go_ret
  refine⟨ret_bool ?_,(hb1 _).alloc (by simp) _⟩
  rw [E0.out]
  clear p0 p1 p2 p3 hb1 E0
  first | (simp_all;done) | (simp_all;omega)
end Go.Proofs.YtaakadmnhpboiaaGreatDoor
namespace Go.Proofs.YtaakadmnhpboiaaGreatDoor
open Go.RowKit Go.Deep
attribute [local go_sem] run_store_float
def badT:Option Nat→Value
  | none=>.tuple #[.int .i64 0,.bool true]
  | some i=>.tuple #[.int .i64 i,.bool false]
theorem badT_none {o:Option Nat} (h:o=none):Ending.returned (.tuple #[.int .i64 0,.bool true])=.returned (badT o):=by rw [h];rfl
theorem badT_some {o:Option Nat} {i:Nat} (h:o=some i):Ending.returned (.tuple #[.int .i64 i,.bool false])=.returned (badT o):=by rw [h];rfl
set_option maxRecDepth 100000 in
set_option maxHeartbeats 2000000 in
theorem checkNamed_any (ao:Option Addr) (cap:Nat) (ps:List Pd) (i:Nat) (p:Pd) (w:World) (hi:ps[i]?=some p) (hz:PFew p) (hr:0≤p.regs∧p.regs≤250) (hv:ProtosAt 0 w ao ps) :
    Calls Tryz.prog 58 #[.agg #[.slice ao ps.length cap],.int .i64 i] w fun e w'=>e=.returned (badT (firstBad (namedB p) 0 p.named))∧Below w.heap.size w w':=by
  have hlt:i<ps.length:=(List.getElem?_eq_some_iff.1 hi).1
  have hb2:∀o1 o2,Below w.heap.size w ((w.alloc o1).alloc o2):=fun o1 o2=>((Below.refl _ _).alloc (Nat.le_refl _) o1).alloc (by simp) o2
  obtain⟨b,off,rfl,_,hbl,h,n1,i1⟩:=hv i p hi
  have hn:=i1.named
  clear hv hi i1
  obtain⟨z1,z2,z3,z4⟩:=hz
  have E0:Hid (∀i m,namedB p i m=(decide ((i:Int)<500) && inR m.name.size 1 40 && inR m.reg 0 (p.regs - 1) && decide (0≤m.fr) && decide (m.fr≤m.to) && decide (m.to≤p.ins.length))):=fun _ _=>rfl
  have HF:Hid (∀k m,p.named[k]?=some m→firstBad (namedB p) k (p.named.drop k)=if namedB p k m then firstBad (namedB p) (k+1) (p.named.drop (k+1)) else some k):=fun k m hm=>firstBad_drop hm
  generalize namedB p=nb at *
  obtain⟨nm,ln,pa,re,rg,us,cs,is,ms⟩:=p
  obtain⟨uo,uc,co,cc,io,ic,no,nc⟩:=h
  obtain⟨p0,p1,p2,p3,p4,p5,p6,p7,p8⟩:=n1
  dsimp only at *
  obtain⟨hr1,hr2⟩:=hr
  have X0:=Blk.new (w.alloc (.cells #[.slice (some ⟨b,off,none⟩) ps.length cap] 31)) #[.string nm,.int .i64 ln,.int .i64 pa,.bool re,.int .i64 rg,.slice uo us.length uc,.slice co cs.length cc,.slice io is.length ic,.slice no ms.length nc] 57
  rw [nblk_alloc] at X0
  go_enter Tryz.func58,Tryz.ntmps58
  go_wp2_with fail
  go_loopw [18] (fun x wr=>∃k:Nat,k≤ms.length∧k≤500∧x=.int .i64 k∧Hid (firstBad nb k (ms.drop k)=firstBad nb 0 ms)∧Below w.heap.size w wr∧Blk wr (w.heap.size+1) #[.string nm,.int .i64 ln,.int .i64 pa,.bool re,.int .i64 rg,.slice uo us.length uc,.slice co cs.length cc,.slice io is.length ic,.slice no ms.length nc] 57) (fun x _=>ms.length - (intOf x).toNat)
  case atStart=>exact ⟨0,Nat.zero_le _,by omega,rfl,rfl,hb2 _ _,X0⟩
  case round=>
    obtain⟨k,hk,hk5,rfl,HQ,hb,X1⟩:=hrel
    clear X0 p0 p1 p2 p3 p4 p5 p6 p7 p8
    by_cases hkl:k<ms.length
    · obtain ⟨m,hmk⟩:=some_of_lt hkl
      obtain⟨b',off',rfl,_,hbl',q0,q1,q2,q3⟩:=hn.later (Keeps.of_below hb) k m hmk
      have HD:Hid (firstBad nb 0 ms=if nb k m then firstBad nb (k+1) (ms.drop (k+1)) else some k):=HQ.out.symm.trans (HF.out k m hmk)
      have HN:Hid (nb k m=_):=E0.out k m
      have x1:=fun o=>(X1.alloc o).cell
      have hba:∀o,Below w.heap.size w (wr.alloc o):=fun o=>hb.alloc hb.size o
      have hXa:∀o,Blk (wr.alloc o) (w.heap.size+1) _ _:=fun o=>X1.alloc o
      obtain⟨m0,m1,m2,m3⟩:=m
      dsimp only at *
      clear hn HF E0 HQ hb2 hmk
      go_wp2_with (go_at_call 104;refine (within_any _ _ _ _).mono ?_;rintro e w' ⟨rfl,rfl⟩)
      all_goals first
        | (go_ret2
           exact⟨badT_some (by rw [HD.out,HN.out];clear x1 hba hXa HD HN q0 q1 q2 q3;first | (simp_all;done) | (simp_all;omega)),hba _⟩)
        | (have h5:¬(k:Int)=500:=by simpa using (by assumption:((k:Int) == 500)=false)
           go_roundw
           case rel=>exact ⟨k+1,by omega,by omega,by go_num,by
             show _=_
             rw [HD.out,HN.out,if_pos]
             clear x1 hba hXa HD HN q0 q1 q2 q3
             first | (simp_all;done) | (simp_all;omega),hba _,hXa _⟩
           case measure=>simp [intOf];omega)
    · go_wp2_with fail
      go_ret2
      have h:=HQ.out
      rw [List.drop_of_length_le (by omega)] at h
      exact⟨badT_none h.symm,hb⟩
end Go.Proofs.YtaakadmnhpboiaaGreatDoor
namespace Go.Proofs.YtaakadmnhpboiaaGreatDoor
open Go.RowKit Go.Deep
attribute [local go_sem] run_store_float
def constG (_:Nat) (v:Vd):Bool:=constB v
set_option maxRecDepth 100000 in
set_option maxHeartbeats 2000000 in
theorem checkConsts_any (ao:Option Addr) (cap:Nat) (ps:List Pd) (i:Nat) (p:Pd) (w:World) (hi:ps[i]?=some p) (hz:PFew p) (hf:Flts p.consts) (hv:ProtosAt 0 w ao ps) :
  Calls Tryz.prog 57 #[.agg #[.slice ao ps.length cap],.int .i64 i] w fun e w'=>e=.returned (badT (firstBad constG 0 p.consts))∧Below w.heap.size w w':=by
 have hlt:i<ps.length:=(List.getElem?_eq_some_iff.1 hi).1
 have hb1:∀o,Below w.heap.size w (w.alloc o):=fun o=>(Below.refl _ _).alloc (Nat.le_refl _) o
 obtain⟨b,off,rfl,_,hbl,h,n1,i1⟩:=hv i p hi
 have hn:=i1.consts
 clear hv hi i1
 obtain⟨z1,z2,z3,z4⟩:=hz
 obtain⟨nm,ln,pa,re,rg,us,cs,is,ms⟩:=p
 obtain⟨uo,uc,co,cc,io,ic,no,nc⟩:=h
 obtain⟨p0,p1,p2,p3,p4,p5,p6,p7,p8⟩:=n1
 dsimp only at *
 have HF:Hid (∀k m,cs[k]?=some m→firstBad constG k (cs.drop k)=if constG k m then firstBad constG (k+1) (cs.drop (k+1)) else some k):=fun k m hm=>firstBad_drop hm
 go_enter Tryz.func57,Tryz.ntmps57
 go_wp2_with fail
 go_loopw [15] (fun x wr=>∃k:Nat,k≤cs.length∧x=.int .i64 k∧Hid (firstBad constG k (cs.drop k)=firstBad constG 0 cs)∧Below w.heap.size w wr) (fun x _=>cs.length - (intOf x).toNat)
 case atStart=>exact ⟨0,Nat.zero_le _,rfl,rfl,hb1 _⟩
 case round=>
  obtain⟨k,hk,rfl,HQ,hb⟩:=hrel
  clear p0 p1 p2 p3 p4 p5 p6 p7 p8
  by_cases hkl:k<cs.length
  ·obtain⟨m,hmk⟩:=some_of_lt hkl
   obtain⟨b',off',rfl,_,hbl',q0,q1,q2,q3,q4⟩:=hn.later (Keeps.of_below hb) k m hmk
   have hfm:=hf m (List.mem_of_getElem? hmk)
   have HD:Hid (firstBad constG 0 cs=if constB m then firstBad constG (k+1) (cs.drop (k+1)) else some k):=HQ.out.symm.trans (HF.out k m hmk)
   have hba:∀o,Below w.heap.size w (wr.alloc o):=fun o=>hb.alloc hb.size o
   clear hn HF HQ hb1 hmk hf
   have HM:Hid (m.flt<18446744073709551616):=hfm
   clear hfm
   go_wp2_with fail
   refine (constFits_any m HM.out _).mono ?_
   rintro e w1 ⟨rfl,hw1⟩
   have hb2:=(hba _).trans (hw1.mono (hba _).size)
   generalize constB m=cb at *
   cases cb
   ·go_wp2_with fail
    go_ret2
    exact⟨badT_some (by rw [HD.out];rfl),hb2⟩
   ·go_wp2_with fail
    go_roundw
    case rel=>exact ⟨k+1,by omega,by go_num,by show _=_;rw [HD.out];rfl,hb2⟩
    case measure=>simp [intOf];omega
  ·go_wp2_with fail
   go_ret2
   have h:=HQ.out
   rw [List.drop_of_length_le (by omega)] at h
   exact⟨badT_none h.symm,hb⟩
end Go.Proofs.YtaakadmnhpboiaaGreatDoor
namespace Go.Proofs.YtaakadmnhpboiaaGreatDoor
open Go.RowKit Go.Deep
def fitsR (np:Nat) (p:Pd) (role:Nat) (x:Int):Bool:=
 match role with
 | 0=>x == 0
 | 1=>inR x 0 (p.regs - 1)
 | 2=>inR x (-p.regs) (p.regs - 1)
 | 3=>inR x (-p.regs) (p.regs - 1)
 | 4=>inR x 0 (p.regs - 1)
 | 5=>inR x 0 (p.regs - 1)
 | 6=>inR x 0 (p.regs - 1)
 | 7=>inR x 0 (p.consts.length - 1)
 | 8=>inR x 0 (p.ups.length - 1)
 | 9=>inR x 0 (np - 1)
 | 10=>inR x 0 (p.ins.length - 1)
 | 11=>inR x 1 100000
 | 12=>inR x 0 100000
 | 13=>inR x 0 p.regs
 | 14=>inR x 0 (p.regs - 2)
 | 15=>inR x 19 22
 | 16=>inR x 1 18
 | 17=>inR x 0 250
 | 18=>inR x 0 (p.regs - 3)
 | 21=>inR x 0 (p.regs - 1)
 | _=>inR x 0 (p.regs - 2)
theorem roles_all (n:Nat) (h:n≤21):n=0∨n=1∨n=2∨n=3∨n=4∨n=5∨n=6∨n=7∨n=8∨n=9∨n=10∨n=11∨n=12∨n=13∨n=14∨n=15∨n=16∨n=17∨n=18∨n=19∨n=20∨n=21:=by omega
set_option maxRecDepth 100000 in
set_option maxHeartbeats 4000000 in
theorem l3fits_any (ao:Option Addr) (cap:Nat) (ps:List Pd) (i:Nat) (p:Pd) (role:Nat) (x:Int) (w:World) (hi:ps[i]?=some p) (hz:PFew p) (hm:ps.length≤1048576) (hr:0≤p.regs∧p.regs≤250) (hv:ProtosAt 0 w ao ps) (hro:role≤21) :
  Calls Tryz.prog 137 #[.agg #[.slice ao ps.length cap],.int .i64 i,.int .i64 role,.int .i64 x] w fun e w'=>e=.returned (.bool (fitsR ps.length p role x))∧Below w.heap.size w w':=by
 have hlt:i<ps.length:=(List.getElem?_eq_some_iff.1 hi).1
 have hb2:∀o1 o2,Below w.heap.size w ((w.alloc o1).alloc o2):=fun o1 o2=>((Below.refl _ _).alloc (Nat.le_refl _) o1).alloc (by simp) o2
 obtain⟨b,off,rfl,_,hbl,h,n1,i1⟩:=hv i p hi
 clear hv hi i1
 obtain⟨z1,z2,z3,z4⟩:=hz
 obtain⟨nm,ln,pa,re,rg,us,cs,is,ms⟩:=p
 obtain⟨uo,uc,co,cc,io,ic,no,nc⟩:=h
 obtain⟨p0,p1,p2,p3,p4,p5,p6,p7,p8⟩:=n1
 dsimp only at *
 obtain⟨hr1,hr2⟩:=hr
 rcases roles_all role hro with rfl | rfl | rfl | rfl | rfl | rfl | rfl | rfl | rfl | rfl | rfl | rfl | rfl | rfl | rfl | rfl | rfl | rfl | rfl | rfl | rfl | rfl
 all_goals
  clear hro
  go_enter Tryz.func137,Tryz.ntmps137
  go_wp2_with (go_at_call 94;refine (l3in_any _ _ _ _).mono ?_;rintro e w' ⟨rfl,rfl⟩)
  go_ret
  exact⟨ret_bool rfl,hb2 _ _⟩
end Go.Proofs.YtaakadmnhpboiaaGreatDoor
