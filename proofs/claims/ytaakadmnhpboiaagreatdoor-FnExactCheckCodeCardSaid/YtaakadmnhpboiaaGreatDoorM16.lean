import Derived.Test.YtaakadmnhpboiaaGreatDoorM14
namespace Go.Proofs.YtaakadmnhpboiaaGreatDoor
open Go.RowKit Go.Deep
def nats (xs:List Nat):List Int:=xs.map fun (x:Nat)=>(x:Int)
theorem nats_length (xs:List Nat):(nats xs).length=xs.length:=by simp [nats]
theorem cell_third (w:World) (o1 o2:Obj) (x:Value) (t:TypeId):(((w.alloc o1).alloc o2).alloc (.cells #[x] t)).cell? ⟨w.heap.size+2,0,none⟩=some x:=by
 have h:=(Blk.new ((w.alloc o1).alloc o2) #[x] t).cell 0
 rw [nblk_alloc,nblk_alloc] at h
 exact h
def SilPost (l:List Nat) (w:World) (e:Ending) (w':World):Prop:=∃v,e=.returned v∧w'.ownsRow w.heap.size 3 1 v l.length (ints (nats l))∧Below w.heap.size w w'
set_option maxRecDepth 100000 in
set_option maxHeartbeats 4000000 in
set_option maxRecDepth 100000 in
set_option maxHeartbeats 4000000 in
set_option maxRecDepth 100000 in
set_option maxHeartbeats 4000000 in
set_option maxRecDepth 100000 in
set_option maxHeartbeats 4000000 in
set_option maxRecDepth 100000 in
set_option maxHeartbeats 4000000 in
set_option maxRecDepth 100000 in
set_option maxHeartbeats 4000000 in
set_option maxRecDepth 100000 in
set_option maxHeartbeats 4000000 in
set_option maxRecDepth 100000 in
set_option maxHeartbeats 4000000 in
set_option maxRecDepth 100000 in
set_option maxHeartbeats 4000000 in
set_option maxRecDepth 100000 in
set_option maxHeartbeats 4000000 in
set_option maxRecDepth 100000 in
set_option maxHeartbeats 4000000 in
set_option maxRecDepth 100000 in
set_option maxHeartbeats 4000000 in
set_option maxRecDepth 100000 in
set_option maxHeartbeats 4000000 in
set_option maxRecDepth 100000 in
set_option maxHeartbeats 4000000 in
set_option maxRecDepth 100000 in
set_option maxHeartbeats 4000000 in
set_option maxRecDepth 100000 in
set_option maxHeartbeats 8000000 in
theorem l3silent_any (p:Pd) (h:Ph) (i:Nat) (n:Nd) (np:Nat) (w:World) (hi:p.ins[i]?=some n) (hz:p.ins.length≤1048576) (hn:InsFit np p n) (hp:InssAt 0 w h.io p.ins) :
  Calls Tryz.prog 95 #[.agg (p.cells h),.int .i64 i] w (SilPost (silL n i) w):=by
 obtain⟨ib,io,hio,_,hil,q0,q1,q2,q3,q4⟩:=hp i n hi
 have hlt:i<p.ins.length:=(List.getElem?_eq_some_iff.1 hi).1
 obtain⟨f1,-,f3,f4,-,-⟩:=fit_tab hn
 clear hp hn hi
 obtain⟨op,a,b,c,d⟩:=n
 obtain⟨nmp,ln,pa,re,rg,us,cs,is,ms⟩:=p
 obtain⟨o1,c1,o2,c2,o3,c3,o4,c4⟩:=h
 dsimp only [Pd.cells] at *
 subst hio
 have B2:∀o1 o2,Below w.heap.size w ((w.alloc o1).alloc o2):=fun o1 o2=>((Below.refl _ _).alloc (Nat.le_refl _) o1).alloc (by simp) o2
 have k1:(i:Int)<is.length:=by omega
 unfold silL
 dsimp only
 by_cases h0:op=1∨op=3∨op=28∨op=29∨op=30
 ·rw [if_pos h0]
  rcases h0 with rfl | rfl | rfl | rfl | rfl
  all_goals
   clear f1 f3 f4
   show Calls Tryz.prog 95 _ w (SilPost [] w)
   go_enter Tryz.func95,Tryz.ntmps95
   go_wp2_with fail
   go_ret
   exact⟨_,rfl,World.ownsRow_nil _ _ _ _,B2 _ _⟩
 rw [if_neg h0]
 by_cases h18:op=18
 ·subst h18
  clear f1 f3 f4 h0
  by_cases hb:b=12
  ·rw [if_pos ⟨rfl,hb⟩]
   show Calls Tryz.prog 95 _ w (SilPost [] w)
   subst hb
   go_enter Tryz.func95,Tryz.ntmps95
   go_wp2_with fail
   go_ret
   exact⟨_,rfl,World.ownsRow_nil _ _ _ _,B2 _ _⟩
  ·rw [if_neg (fun h=>hb h.2)]
   show Calls Tryz.prog 95 _ w (SilPost [i+1] w)
   have k2:(b == 12)=false:=by simpa using hb
   clear hb
   go_enter Tryz.func95,Tryz.ntmps95
   go_wp2_with (at_builtin;refine app_int rfl _ _ rfl w.heap.size _ 0 [] ((i:Int)+1) (w.heap.size+2) rfl (World.ownsRow_nil _ _ _ _) rfl ?c1 (by omega) ?c3 ?_)
   try case c1=>exact cell_third _ _ _ _ _
   case c3=>first | omega | (simp;omega)
   ·intro v' w2 H1 H2 _
    have B3:Below w.heap.size w w2:=((B2 _ _).alloc (by simp;omega) _).grown H2 (by simp;omega) (fun k hk=>by cases hk)
    obtain⟨vo,vc,rfl⟩:=owns_slice H1
    clear H2
    go_wp2_with fail
    go_ret
    exact⟨_,rfl,H1,B3⟩
 rw [if_neg (fun h=>h18 h.1)]
 by_cases h19:op=19
 ·subst h19
  have ha:=(f3 rfl).1
  rw [if_pos rfl]
  clear f1 f3 f4 h0 h18
  show Calls Tryz.prog 95 _ w (SilPost [a.toNat] w)
  obtain⟨aN,rfl⟩:=Int.eq_ofNat_of_zero_le ha
  go_enter Tryz.func95,Tryz.ntmps95
  go_wp2_with (at_builtin;refine app_int rfl _ _ rfl w.heap.size _ 0 [] aN (w.heap.size+2) rfl (World.ownsRow_nil _ _ _ _) rfl ?c1 (by omega) ?c3 ?_)
  try case c1=>exact cell_third _ _ _ _ _
  case c3=>first | omega | (simp;omega)
  ·intro v' w2 H1 H2 _
   have B3:Below w.heap.size w w2:=((B2 _ _).alloc (by simp;omega) _).grown H2 (by simp;omega) (fun k hk=>by cases hk)
   obtain⟨vo,vc,rfl⟩:=owns_slice H1
   clear H2
   go_wp2_with fail
   go_ret
   exact⟨_,rfl,H1,B3⟩
 rw [if_neg h19]
 by_cases h41:op=41
 ·subst h41
  have hb:=(f4 (by simp)).1
  rw [if_pos rfl]
  clear f1 f3 f4 h0 h18 h19
  show Calls Tryz.prog 95 _ w (SilPost [b.toNat] w)
  obtain⟨bN,rfl⟩:=Int.eq_ofNat_of_zero_le hb
  go_enter Tryz.func95,Tryz.ntmps95
  go_wp2_with (at_builtin;refine app_int rfl _ _ rfl w.heap.size _ 0 [] bN (w.heap.size+2) rfl (World.ownsRow_nil _ _ _ _) rfl ?c1 (by omega) ?c3 ?_)
  try case c1=>exact cell_third _ _ _ _ _
  case c3=>first | omega | (simp;omega)
  ·intro v' w2 H1 H2 _
   have B3:Below w.heap.size w w2:=((B2 _ _).alloc (by simp;omega) _).grown H2 (by simp;omega) (fun k hk=>by cases hk)
   obtain⟨vo,vc,rfl⟩:=owns_slice H1
   clear H2
   go_wp2_with fail
   go_ret
   exact⟨_,rfl,H1,B3⟩
 rw [if_neg h41]
 by_cases h20:op=20∨op=21∨op=38∨op=39
 ·rw [if_pos h20]
  rcases h20 with rfl | rfl | rfl | rfl
  all_goals
   have hb:=(f4 (by simp)).1
   clear f1 f3 f4 h0 h18 h19 h41
   show Calls Tryz.prog 95 _ w (SilPost [b.toNat,i+1] w)
   obtain⟨bN,rfl⟩:=Int.eq_ofNat_of_zero_le hb
   go_enter Tryz.func95,Tryz.ntmps95
   go_wp2_with (at_builtin;refine app_int rfl _ _ rfl w.heap.size _ 0 [] bN (w.heap.size+2) rfl (World.ownsRow_nil _ _ _ _) rfl ?c1 (by omega) ?c3 ?_)
   try case c1=>exact cell_third _ _ _ _ _
   case c3=>first | omega | (simp;omega)
   ·intro v' w2 H1 H2 _
    have B3:Below w.heap.size w w2:=((B2 _ _).alloc (by simp;omega) _).grown H2 (by simp;omega) (fun k hk=>by cases hk)
    obtain⟨vo,vc,rfl⟩:=owns_slice H1
    clear H2
    have hs2:=B3.size
    go_wp2_with (at_builtin;refine app_int rfl _ _ rfl w.heap.size _ 1 [bN] ((i:Int)+1) w2.heap.size rfl (H1.alloc _) rfl ?c1 (by omega) ?c3 ?_)
    try case c1=>simp
    case c3=>first | omega | (simp;omega)
    ·intro v2 w3 H3 H4 _
     have B4:Below w.heap.size w w3:=(B3.alloc hs2 _).grown H4 (by simp;omega) (fun k hk=>(H1.lt k hk).1)
     obtain⟨vo2,vc2,rfl⟩:=owns_slice H3
     clear H4
     go_wp2_with fail
     go_ret
     exact⟨_,rfl,H3,B4⟩
 rw [if_neg h20]
 by_cases h31:op=31
 ·subst h31
  have ha:=(f1 rfl).1.1
  rw [if_pos rfl]
  clear f1 f3 f4 h0 h18 h19 h41 h20
  show Calls Tryz.prog 95 _ w (SilPost [a.toNat,i+1] w)
  obtain⟨aN,rfl⟩:=Int.eq_ofNat_of_zero_le ha
  go_enter Tryz.func95,Tryz.ntmps95
  go_wp2_with (at_builtin;refine app_int rfl _ _ rfl w.heap.size _ 0 [] aN (w.heap.size+2) rfl (World.ownsRow_nil _ _ _ _) rfl ?c1 (by omega) ?c3 ?_)
  try case c1=>exact cell_third _ _ _ _ _
  case c3=>first | omega | (simp;omega)
  ·intro v' w2 H1 H2 _
   have B3:Below w.heap.size w w2:=((B2 _ _).alloc (by simp;omega) _).grown H2 (by simp;omega) (fun k hk=>by cases hk)
   obtain⟨vo,vc,rfl⟩:=owns_slice H1
   clear H2
   have hs2:=B3.size
   go_wp2_with (at_builtin;refine app_int rfl _ _ rfl w.heap.size _ 1 [aN] ((i:Int)+1) w2.heap.size rfl (H1.alloc _) rfl ?c1 (by omega) ?c3 ?_)
   try case c1=>simp
   case c3=>first | omega | (simp;omega)
   ·intro v2 w3 H3 H4 _
    have B4:Below w.heap.size w w3:=(B3.alloc hs2 _).grown H4 (by simp;omega) (fun k hk=>(H1.lt k hk).1)
    obtain⟨vo2,vc2,rfl⟩:=owns_slice H3
    clear H4
    go_wp2_with fail
    go_ret
    exact⟨_,rfl,H3,B4⟩
 rw [if_neg h31]
 have t1:(op == 1)=false:=by simp;omega
 have t3:(op == 3)=false:=by simp;omega
 have t28:(op == 28)=false:=by simp;omega
 have t29:(op == 29)=false:=by simp;omega
 have t30:(op == 30)=false:=by simp;omega
 have t18:(op == 18)=false:=by simp;omega
 have t19:(op == 19)=false:=by simp;omega
 have t41:(op == 41)=false:=by simp;omega
 have t20:(op == 20)=false:=by simp;omega
 have t21:(op == 21)=false:=by simp;omega
 have t38:(op == 38)=false:=by simp;omega
 have t39:(op == 39)=false:=by simp;omega
 have t31:(op == 31)=false:=by simp;omega
 clear h0 h18 h19 h41 h20 h31 f1 f3 f4
 go_enter Tryz.func95,Tryz.ntmps95
 go_wp2_with (at_builtin;refine app_int rfl _ _ rfl w.heap.size _ 0 [] ((i:Int)+1) (w.heap.size+2) rfl (World.ownsRow_nil _ _ _ _) rfl ?c1 (by omega) ?c3 ?_)
 try case c1=>exact cell_third _ _ _ _ _
 case c3=>first | omega | (simp;omega)
 ·intro v' w2 H1 H2 _
  have B3:Below w.heap.size w w2:=((B2 _ _).alloc (by simp;omega) _).grown H2 (by simp;omega) (fun k hk=>by cases hk)
  obtain⟨vo,vc,rfl⟩:=owns_slice H1
  clear H2
  go_wp2_with fail
  go_ret
  exact⟨_,rfl,H1,B3⟩
end Go.Proofs.YtaakadmnhpboiaaGreatDoor
