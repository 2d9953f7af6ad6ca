import Derived.Test.YtbefeflgjipfhaaGreatDoorF03
set_option maxRecDepth 100000
set_option maxHeartbeats 2000000
namespace Go.Proofs.YtbefeflgjipfhaaGreatDoor
open Go.Deep Go.Proofs.Tryz Go.RowKit
attribute [local go_sem] A7
theorem Tn (d:Nat) (w:World) (x y:Nat):(Op.equalIn (d+1) 50 (.float .f64 x) (.float .f64 y)).run prog w=.ok (FloatKind.f64.format.order x y==some .eq) w:=by simp[Op.equalIn,run_underlying underlying50,Op.floatEq]
theorem Xa (w:World) (x y:Nat):(Op.equalIn 9999 50 (.float .f64 x) (.float .f64 y)).run prog w=.ok (FloatKind.f64.format.order x y==some .eq) w:=Tn 9998 w x y
theorem Dz (v:Vd) (w:World) :
  Kw 212 #[v.val] w (.bool (Bl v)):=by
 obtain⟨x0,x1,x2,x3,x4⟩:=v;have hb2:∀o1 o2,Below w.heap.size w ((w.alloc o1).alloc o2):=fun o1 o2=>((yA _ _).alloc (yB _) o1).alloc (by simp) o2;have he:=Xa;dsimp only[Vd.val];rcases A9m x0 with rfl|rfl|rfl|rfl|rfl|rfl|rfl|rfl|rfl|hk
 rotate_right
 ·obtain⟨h0,h1,h2,h3,h4,h5,h6,h7,h8⟩:=hk;have k0:(x0==0)=false:=by simpa using h0
  have k1:(x0==1)=false:=by simpa using h1
  have k2:(x0==2)=false:=by simpa using h2
  have k3:(x0==3)=false:=by simpa using h3
  have k4:(x0==4)=false:=by simpa using h4
  have k5:(x0==5)=false:=by simpa using h5
  have k6:(x0==6)=false:=by simpa using h6
  have k7:(x0==7)=false:=by simpa using h7
  have k8:(x0==8)=false:=by simpa using h8
  (try unfold Kw);go_in;go_wp2;go_ret;exact⟨Ac (by simp[Bl,h0,h1,h2,h3,h4,h5,h6,h7,h8]),hb2 _ _⟩
 ·(try unfold Kw);go_in;go_wp2_with fail;all_goals
   go_ret;refine⟨Ac ?_,hb2 _ _⟩;clear hb2 he
   simp_all [Bl,Ee,fz]
 ·have h1:(x1==0)=true/\(x1==1)=false∨(x1==0)=false/\(x1==1)=true∨(x1==0)=false/\(x1==1)=false:=by simp;omega
  rcases h1 with ⟨k1,k2⟩|⟨k1,k2⟩|⟨k1,k2⟩;all_goals
   (try unfold Kw);go_in;go_wp2_with fail;go_region;all_goals go_wp2_with fail
   all_goals
    go_ret;refine⟨Ac ?_,(hb2 _ _).drew⟩;clear hb2 he;first|(simp_all [Bl,Ee,fz];done)|(simp_all [Bl,Ee,fz];omega)
 ·(try unfold Kw);go_in;go_wp2_with fail;all_goals
   go_ret;refine⟨Ac ?_,hb2 _ _⟩;clear hb2 he
   simp_all [Bl,Ee,fz]
 ·(try unfold Kw);go_in;go_wp2_with fail;all_goals
   go_ret;refine⟨Ac ?_,hb2 _ _⟩;clear hb2 he
   simp_all [Bl,Ee,fz]
 ·(try unfold Kw);go_in;go_wp2_with fail;go_region;all_goals go_wp2_with fail
  all_goals
   go_ret;refine⟨Ac ?_,(hb2 _ _).drew⟩;clear hb2 he;first|(simp_all [Bl,Ee,fz];done)|(simp_all [Bl,Ee,fz];omega)
 ·(try unfold Kw);go_in;go_wp2_with fail;go_region;all_goals go_wp2_with fail
  all_goals
   go_ret;refine⟨Ac ?_,(hb2 _ _).drew⟩;clear hb2 he;first|(simp_all [Bl,Ee,fz];done)|(simp_all [Bl,Ee,fz];omega)
 ·(try unfold Kw);go_in;go_wp2_with fail;go_region;all_goals go_wp2_with fail
  all_goals
   go_ret;refine⟨Ac ?_,(hb2 _ _).drew⟩;clear hb2 he;first|(simp_all [Bl,Ee,fz];done)|(simp_all [Bl,Ee,fz];omega)
 ·(try unfold Kw);go_in;go_wp2_with fail;go_region;all_goals go_wp2_with fail
  all_goals
   go_ret;refine⟨Ac ?_,(hb2 _ _).drew⟩;clear hb2 he;first|(simp_all [Bl,Ee,fz];done)|(simp_all [Bl,Ee,fz];omega)
 ·have h1:decide (0<=x1)=false∨(0<=x1/\x1<15)∨(0<=x1/\decide (x1<15)=false):=by simp;omega
  rcases h1 with k1|⟨k1,k2⟩|⟨k1,k2⟩;all_goals
   (try unfold Kw);go_in;go_wp2_with fail;go_region;all_goals go_wp2_with fail
   all_goals
    go_ret;refine⟨Ac ?_,(hb2 _ _).drew⟩;clear hb2 he;first|(simp_all [Bl,Ee,fz];done)|(simp_all [Bl,Ee,fz];omega)
end Go.Proofs.YtbefeflgjipfhaaGreatDoor
