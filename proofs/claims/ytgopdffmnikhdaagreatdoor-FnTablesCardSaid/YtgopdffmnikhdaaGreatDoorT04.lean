import Derived.Test.YtgopdffmnikhdaaGreatDoorT03
namespace Go.Proofs.YtgopdffmnikhdaaGreatDoor
open Go.RowKit Go.Deep
attribute [local go_sem] run_store_float
theorem run_eq_float' (d:Nat) (w:World) (x y:Nat):(Op.equalIn (d+1) 42 (.float .f64 x) (.float .f64 y)).run Tryz.prog w=.ok (FloatKind.f64.format.order x y == some .eq) w:=by
 simp [Op.equalIn,run_underlying Tryz.underlying42,Op.floatEq]
theorem run_eq_float (w:World) (x y:Nat):(Op.equalIn 9999 42 (.float .f64 x) (.float .f64 y)).run Tryz.prog w=.ok (FloatKind.f64.format.order x y == some .eq) w:=run_eq_float' 9998 w x y
set_option maxRecDepth 100000 in
set_option maxHeartbeats 2000000 in
theorem valid_any (v:Vd) (w:World) :
  Calls Tryz.prog 210 #[v.val] w fun e w'=>e=.returned (.bool (validB v))∧Below w.heap.size w w':=by
 obtain⟨x0,x1,x2,x3,x4⟩:=v
 have hb2:∀o1 o2,Below w.heap.size w ((w.alloc o1).alloc o2):=fun o1 o2=>((Below.refl _ _).alloc (Nat.le_refl _) o1).alloc (by simp) o2
 have he:=run_eq_float
 dsimp only [Vd.val]
 rcases kinds x0 with rfl | rfl | rfl | rfl | rfl | rfl | rfl | rfl | rfl | hk
 rotate_right
 ·obtain⟨h0,h1,h2,h3,h4,h5,h6,h7,h8⟩:=hk
  have k0:(x0 == 0)=false:=by simpa using h0
  have k1:(x0 == 1)=false:=by simpa using h1
  have k2:(x0 == 2)=false:=by simpa using h2
  have k3:(x0 == 3)=false:=by simpa using h3
  have k4:(x0 == 4)=false:=by simpa using h4
  have k5:(x0 == 5)=false:=by simpa using h5
  have k6:(x0 == 6)=false:=by simpa using h6
  have k7:(x0 == 7)=false:=by simpa using h7
  have k8:(x0 == 8)=false:=by simpa using h8
  go_enter Tryz.func210,Tryz.ntmps210
  go_wp2_with fail
  go_ret
  exact⟨ret_bool (by simp [validB,h0,h1,h2,h3,h4,h5,h6,h7,h8]),hb2 _ _⟩
 ·go_enter Tryz.func210,Tryz.ntmps210
  go_wp2_with fail
  all_goals
   go_ret
   refine⟨ret_bool ?_,hb2 _ _⟩
   clear hb2 he
   simp_all [validB,zeroB,fz]
 ·have h1:(x1 == 0)=true∧(x1 == 1)=false∨(x1 == 0)=false∧(x1 == 1)=true∨(x1 == 0)=false∧(x1 == 1)=false:=by simp;omega
  rcases h1 with ⟨k1,k2⟩ | ⟨k1,k2⟩ | ⟨k1,k2⟩
  all_goals
   go_enter Tryz.func210,Tryz.ntmps210
   go_wp2_with fail
   go_region
   all_goals go_wp2_with fail
   all_goals
    go_ret
    refine⟨ret_bool ?_,(hb2 _ _).drew⟩
    clear hb2 he
    first | (simp_all [validB,zeroB,fz];done) | (simp_all [validB,zeroB,fz];omega)
 ·go_enter Tryz.func210,Tryz.ntmps210
  go_wp2_with fail
  all_goals
   go_ret
   refine⟨ret_bool ?_,hb2 _ _⟩
   clear hb2 he
   simp_all [validB,zeroB,fz]
 ·go_enter Tryz.func210,Tryz.ntmps210
  go_wp2_with fail
  all_goals
   go_ret
   refine⟨ret_bool ?_,hb2 _ _⟩
   clear hb2 he
   simp_all [validB,zeroB,fz]
 ·go_enter Tryz.func210,Tryz.ntmps210
  go_wp2_with fail
  go_region
  all_goals go_wp2_with fail
  all_goals
   go_ret
   refine⟨ret_bool ?_,(hb2 _ _).drew⟩
   clear hb2 he
   first | (simp_all [validB,zeroB,fz];done) | (simp_all [validB,zeroB,fz];omega)
 ·go_enter Tryz.func210,Tryz.ntmps210
  go_wp2_with fail
  go_region
  all_goals go_wp2_with fail
  all_goals
   go_ret
   refine⟨ret_bool ?_,(hb2 _ _).drew⟩
   clear hb2 he
   first | (simp_all [validB,zeroB,fz];done) | (simp_all [validB,zeroB,fz];omega)
 ·go_enter Tryz.func210,Tryz.ntmps210
  go_wp2_with fail
  go_region
  all_goals go_wp2_with fail
  all_goals
   go_ret
   refine⟨ret_bool ?_,(hb2 _ _).drew⟩
   clear hb2 he
   first | (simp_all [validB,zeroB,fz];done) | (simp_all [validB,zeroB,fz];omega)
 ·go_enter Tryz.func210,Tryz.ntmps210
  go_wp2_with fail
  go_region
  all_goals go_wp2_with fail
  all_goals
   go_ret
   refine⟨ret_bool ?_,(hb2 _ _).drew⟩
   clear hb2 he
   first | (simp_all [validB,zeroB,fz];done) | (simp_all [validB,zeroB,fz];omega)
 ·have h1:decide (0≤x1)=false∨(0≤x1∧x1<15)∨(0≤x1∧decide (x1<15)=false):=by simp;omega
  rcases h1 with k1 | ⟨k1,k2⟩ | ⟨k1,k2⟩
  all_goals
   go_enter Tryz.func210,Tryz.ntmps210
   go_wp2_with fail
   go_region
   all_goals go_wp2_with fail
   all_goals
    go_ret
    refine⟨ret_bool ?_,(hb2 _ _).drew⟩
    clear hb2 he
    first | (simp_all [validB,zeroB,fz];done) | (simp_all [validB,zeroB,fz];omega)
end Go.Proofs.YtgopdffmnikhdaaGreatDoor
