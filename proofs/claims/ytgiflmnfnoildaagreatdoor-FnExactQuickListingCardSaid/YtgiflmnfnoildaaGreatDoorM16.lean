import Derived.Test.YtgiflmnfnoildaaGreatDoorM15
namespace Go.Proofs.YtgiflmnfnoildaaGreatDoor
open Go.RowKit Go.Deep
def nats (xs:List Nat):List Int:=xs.map fun (x:Nat)=>(x:Int)
theorem nats_length (xs:List Nat):(nats xs).length=xs.length:=by simp [nats]
theorem cell_third (w:World) (o1 o2:Obj) (x:Value) (t:TypeId):(((w.alloc o1).alloc o2).alloc (.cells #[x] t)).cell? ⟨w.heap.size+2,0,none⟩=some x:=by
 have h:=(Blk.new ((w.alloc o1).alloc o2) #[x] t).cell 0
 rw [nblk_alloc,nblk_alloc] at h
 exact h
def SilPost (l:List Nat) (w:World) (e:Ending) (w':World):Prop:=∃v,e=.returned v∧w'.ownsRow w.heap.size 3 1 v l.length (ints (nats l))∧Below w.heap.size w w'
set_option maxRecDepth 100000 in
set_option maxHeartbeats 4000000 in
theorem l3silent_1 (a b c d:Int) (nmp:ByteArray) (ln pa rg:Int) (re:Bool) (us:List Ud) (cs:List Vd) (is:List Nd) (ms:List Md) (o1 o2 o4:Option Addr) (c1 c2 c3 c4 ib io i:Nat) (w:World) (hi:i<is.length) (_hz:is.length≤1048576)
  (q0:w.cell? ⟨ib,io+i*5,none⟩=some (.int .i64 1)) (q1:w.cell? ⟨ib,io+i*5+1,none⟩=some (.int .i64 a)) (q2:w.cell? ⟨ib,io+i*5+2,none⟩=some (.int .i64 b)) (q3:w.cell? ⟨ib,io+i*5+3,none⟩=some (.int .i64 c)) (q4:w.cell? ⟨ib,io+i*5+4,none⟩=some (.int .i64 d)) (hil:ib<w.heap.size) :
  Calls Tryz.prog 167 #[.agg #[.string nmp,.int .i64 ln,.int .i64 pa,.bool re,.int .i64 rg,.slice o1 us.length c1,.slice o2 cs.length c2,.slice (some ⟨ib,io,none⟩) is.length c3,.slice o4 ms.length c4],.int .i64 i] w (SilPost [] w):=by
 have B2:∀o1 o2,Below w.heap.size w ((w.alloc o1).alloc o2):=fun o1 o2=>((Below.refl _ _).alloc (Nat.le_refl _) o1).alloc (by simp) o2
 have k1:(i:Int)<is.length:=by omega
 go_enter Tryz.func167,Tryz.ntmps167
 go_wp2_with fail
 go_ret
 exact⟨_,rfl,World.ownsRow_nil _ _ _ _,B2 _ _⟩
set_option maxRecDepth 100000 in
set_option maxHeartbeats 4000000 in
theorem l3silent_3 (a b c d:Int) (nmp:ByteArray) (ln pa rg:Int) (re:Bool) (us:List Ud) (cs:List Vd) (is:List Nd) (ms:List Md) (o1 o2 o4:Option Addr) (c1 c2 c3 c4 ib io i:Nat) (w:World) (hi:i<is.length) (_hz:is.length≤1048576)
  (q0:w.cell? ⟨ib,io+i*5,none⟩=some (.int .i64 3)) (q1:w.cell? ⟨ib,io+i*5+1,none⟩=some (.int .i64 a)) (q2:w.cell? ⟨ib,io+i*5+2,none⟩=some (.int .i64 b)) (q3:w.cell? ⟨ib,io+i*5+3,none⟩=some (.int .i64 c)) (q4:w.cell? ⟨ib,io+i*5+4,none⟩=some (.int .i64 d)) (hil:ib<w.heap.size) :
  Calls Tryz.prog 167 #[.agg #[.string nmp,.int .i64 ln,.int .i64 pa,.bool re,.int .i64 rg,.slice o1 us.length c1,.slice o2 cs.length c2,.slice (some ⟨ib,io,none⟩) is.length c3,.slice o4 ms.length c4],.int .i64 i] w (SilPost [] w):=by
 have B2:∀o1 o2,Below w.heap.size w ((w.alloc o1).alloc o2):=fun o1 o2=>((Below.refl _ _).alloc (Nat.le_refl _) o1).alloc (by simp) o2
 have k1:(i:Int)<is.length:=by omega
 go_enter Tryz.func167,Tryz.ntmps167
 go_wp2_with fail
 go_ret
 exact⟨_,rfl,World.ownsRow_nil _ _ _ _,B2 _ _⟩
set_option maxRecDepth 100000 in
set_option maxHeartbeats 4000000 in
theorem l3silent_28 (a b c d:Int) (nmp:ByteArray) (ln pa rg:Int) (re:Bool) (us:List Ud) (cs:List Vd) (is:List Nd) (ms:List Md) (o1 o2 o4:Option Addr) (c1 c2 c3 c4 ib io i:Nat) (w:World) (hi:i<is.length) (_hz:is.length≤1048576)
  (q0:w.cell? ⟨ib,io+i*5,none⟩=some (.int .i64 28)) (q1:w.cell? ⟨ib,io+i*5+1,none⟩=some (.int .i64 a)) (q2:w.cell? ⟨ib,io+i*5+2,none⟩=some (.int .i64 b)) (q3:w.cell? ⟨ib,io+i*5+3,none⟩=some (.int .i64 c)) (q4:w.cell? ⟨ib,io+i*5+4,none⟩=some (.int .i64 d)) (hil:ib<w.heap.size) :
  Calls Tryz.prog 167 #[.agg #[.string nmp,.int .i64 ln,.int .i64 pa,.bool re,.int .i64 rg,.slice o1 us.length c1,.slice o2 cs.length c2,.slice (some ⟨ib,io,none⟩) is.length c3,.slice o4 ms.length c4],.int .i64 i] w (SilPost [] w):=by
 have B2:∀o1 o2,Below w.heap.size w ((w.alloc o1).alloc o2):=fun o1 o2=>((Below.refl _ _).alloc (Nat.le_refl _) o1).alloc (by simp) o2
 have k1:(i:Int)<is.length:=by omega
 go_enter Tryz.func167,Tryz.ntmps167
 go_wp2_with fail
 go_ret
 exact⟨_,rfl,World.ownsRow_nil _ _ _ _,B2 _ _⟩
set_option maxRecDepth 100000 in
set_option maxHeartbeats 4000000 in
theorem l3silent_29 (a b c d:Int) (nmp:ByteArray) (ln pa rg:Int) (re:Bool) (us:List Ud) (cs:List Vd) (is:List Nd) (ms:List Md) (o1 o2 o4:Option Addr) (c1 c2 c3 c4 ib io i:Nat) (w:World) (hi:i<is.length) (_hz:is.length≤1048576)
  (q0:w.cell? ⟨ib,io+i*5,none⟩=some (.int .i64 29)) (q1:w.cell? ⟨ib,io+i*5+1,none⟩=some (.int .i64 a)) (q2:w.cell? ⟨ib,io+i*5+2,none⟩=some (.int .i64 b)) (q3:w.cell? ⟨ib,io+i*5+3,none⟩=some (.int .i64 c)) (q4:w.cell? ⟨ib,io+i*5+4,none⟩=some (.int .i64 d)) (hil:ib<w.heap.size) :
  Calls Tryz.prog 167 #[.agg #[.string nmp,.int .i64 ln,.int .i64 pa,.bool re,.int .i64 rg,.slice o1 us.length c1,.slice o2 cs.length c2,.slice (some ⟨ib,io,none⟩) is.length c3,.slice o4 ms.length c4],.int .i64 i] w (SilPost [] w):=by
 have B2:∀o1 o2,Below w.heap.size w ((w.alloc o1).alloc o2):=fun o1 o2=>((Below.refl _ _).alloc (Nat.le_refl _) o1).alloc (by simp) o2
 have k1:(i:Int)<is.length:=by omega
 go_enter Tryz.func167,Tryz.ntmps167
 go_wp2_with fail
 go_ret
 exact⟨_,rfl,World.ownsRow_nil _ _ _ _,B2 _ _⟩
set_option maxRecDepth 100000 in
set_option maxHeartbeats 4000000 in
theorem l3silent_30 (a b c d:Int) (nmp:ByteArray) (ln pa rg:Int) (re:Bool) (us:List Ud) (cs:List Vd) (is:List Nd) (ms:List Md) (o1 o2 o4:Option Addr) (c1 c2 c3 c4 ib io i:Nat) (w:World) (hi:i<is.length) (_hz:is.length≤1048576)
  (q0:w.cell? ⟨ib,io+i*5,none⟩=some (.int .i64 30)) (q1:w.cell? ⟨ib,io+i*5+1,none⟩=some (.int .i64 a)) (q2:w.cell? ⟨ib,io+i*5+2,none⟩=some (.int .i64 b)) (q3:w.cell? ⟨ib,io+i*5+3,none⟩=some (.int .i64 c)) (q4:w.cell? ⟨ib,io+i*5+4,none⟩=some (.int .i64 d)) (hil:ib<w.heap.size) :
  Calls Tryz.prog 167 #[.agg #[.string nmp,.int .i64 ln,.int .i64 pa,.bool re,.int .i64 rg,.slice o1 us.length c1,.slice o2 cs.length c2,.slice (some ⟨ib,io,none⟩) is.length c3,.slice o4 ms.length c4],.int .i64 i] w (SilPost [] w):=by
 have B2:∀o1 o2,Below w.heap.size w ((w.alloc o1).alloc o2):=fun o1 o2=>((Below.refl _ _).alloc (Nat.le_refl _) o1).alloc (by simp) o2
 have k1:(i:Int)<is.length:=by omega
 go_enter Tryz.func167,Tryz.ntmps167
 go_wp2_with fail
 go_ret
 exact⟨_,rfl,World.ownsRow_nil _ _ _ _,B2 _ _⟩
set_option maxRecDepth 100000 in
set_option maxHeartbeats 4000000 in
theorem l3silent_18j (a b c d:Int) (nmp:ByteArray) (ln pa rg:Int) (re:Bool) (us:List Ud) (cs:List Vd) (is:List Nd) (ms:List Md) (o1 o2 o4:Option Addr) (c1 c2 c3 c4 ib io i:Nat) (w:World) (hi:i<is.length) (_hz:is.length≤1048576)
  (q0:w.cell? ⟨ib,io+i*5,none⟩=some (.int .i64 18)) (q1:w.cell? ⟨ib,io+i*5+1,none⟩=some (.int .i64 a)) (q2:w.cell? ⟨ib,io+i*5+2,none⟩=some (.int .i64 b)) (q3:w.cell? ⟨ib,io+i*5+3,none⟩=some (.int .i64 c)) (q4:w.cell? ⟨ib,io+i*5+4,none⟩=some (.int .i64 d)) (hil:ib<w.heap.size) (hb:b=12) :
  Calls Tryz.prog 167 #[.agg #[.string nmp,.int .i64 ln,.int .i64 pa,.bool re,.int .i64 rg,.slice o1 us.length c1,.slice o2 cs.length c2,.slice (some ⟨ib,io,none⟩) is.length c3,.slice o4 ms.length c4],.int .i64 i] w (SilPost [] w):=by
 have B2:∀o1 o2,Below w.heap.size w ((w.alloc o1).alloc o2):=fun o1 o2=>((Below.refl _ _).alloc (Nat.le_refl _) o1).alloc (by simp) o2
 have k1:(i:Int)<is.length:=by omega
 subst hb
 go_enter Tryz.func167,Tryz.ntmps167
 go_wp2_with fail
 go_ret
 exact⟨_,rfl,World.ownsRow_nil _ _ _ _,B2 _ _⟩
set_option maxRecDepth 100000 in
set_option maxHeartbeats 4000000 in
theorem l3silent_18n (a b c d:Int) (nmp:ByteArray) (ln pa rg:Int) (re:Bool) (us:List Ud) (cs:List Vd) (is:List Nd) (ms:List Md) (o1 o2 o4:Option Addr) (c1 c2 c3 c4 ib io i:Nat) (w:World) (hi:i<is.length) (hz:is.length≤1048576)
  (q0:w.cell? ⟨ib,io+i*5,none⟩=some (.int .i64 18)) (q1:w.cell? ⟨ib,io+i*5+1,none⟩=some (.int .i64 a)) (q2:w.cell? ⟨ib,io+i*5+2,none⟩=some (.int .i64 b)) (q3:w.cell? ⟨ib,io+i*5+3,none⟩=some (.int .i64 c)) (q4:w.cell? ⟨ib,io+i*5+4,none⟩=some (.int .i64 d)) (hil:ib<w.heap.size) (hb:b≠12) :
  Calls Tryz.prog 167 #[.agg #[.string nmp,.int .i64 ln,.int .i64 pa,.bool re,.int .i64 rg,.slice o1 us.length c1,.slice o2 cs.length c2,.slice (some ⟨ib,io,none⟩) is.length c3,.slice o4 ms.length c4],.int .i64 i] w (SilPost [i+1] w):=by
 have B2:∀o1 o2,Below w.heap.size w ((w.alloc o1).alloc o2):=fun o1 o2=>((Below.refl _ _).alloc (Nat.le_refl _) o1).alloc (by simp) o2
 have k1:(i:Int)<is.length:=by omega
 have k2:(b == 12)=false:=by simpa using hb
 clear hb
 go_enter Tryz.func167,Tryz.ntmps167
 go_wp2_with (at_builtin;refine app_int rfl _ _ rfl w.heap.size _ 0 [] ((i:Int)+1) (w.heap.size+2) rfl (World.ownsRow_nil _ _ _ _) rfl ?c1 (by omega) ?c3 ?_)
 case c1=>exact cell_third _ _ _ _ _
 case c3=>first | omega | (simp;omega)
 ·intro v' w2 H1 H2 _
  have B3:Below w.heap.size w w2:=((B2 _ _).alloc (by simp;omega) _).grown H2 (by simp;omega) (fun k hk=>by cases hk)
  obtain⟨vo,vc,rfl⟩:=owns_slice H1
  clear H2
  go_wp2_with fail
  go_ret
  exact⟨_,rfl,H1,B3⟩
set_option maxRecDepth 100000 in
set_option maxHeartbeats 4000000 in
theorem l3silent_19 (a b c d:Int) (nmp:ByteArray) (ln pa rg:Int) (re:Bool) (us:List Ud) (cs:List Vd) (is:List Nd) (ms:List Md) (o1 o2 o4:Option Addr) (c1 c2 c3 c4 ib io i:Nat) (w:World) (hi:i<is.length) (_hz:is.length≤1048576)
  (q0:w.cell? ⟨ib,io+i*5,none⟩=some (.int .i64 19)) (q1:w.cell? ⟨ib,io+i*5+1,none⟩=some (.int .i64 a)) (q2:w.cell? ⟨ib,io+i*5+2,none⟩=some (.int .i64 b)) (q3:w.cell? ⟨ib,io+i*5+3,none⟩=some (.int .i64 c)) (q4:w.cell? ⟨ib,io+i*5+4,none⟩=some (.int .i64 d)) (hil:ib<w.heap.size) (ha:0≤a) :
  Calls Tryz.prog 167 #[.agg #[.string nmp,.int .i64 ln,.int .i64 pa,.bool re,.int .i64 rg,.slice o1 us.length c1,.slice o2 cs.length c2,.slice (some ⟨ib,io,none⟩) is.length c3,.slice o4 ms.length c4],.int .i64 i] w (SilPost [a.toNat] w):=by
 have B2:∀o1 o2,Below w.heap.size w ((w.alloc o1).alloc o2):=fun o1 o2=>((Below.refl _ _).alloc (Nat.le_refl _) o1).alloc (by simp) o2
 have k1:(i:Int)<is.length:=by omega
 obtain⟨aN,rfl⟩:=Int.eq_ofNat_of_zero_le ha
 go_enter Tryz.func167,Tryz.ntmps167
 go_wp2_with (at_builtin;refine app_int rfl _ _ rfl w.heap.size _ 0 [] aN (w.heap.size+2) rfl (World.ownsRow_nil _ _ _ _) rfl ?c1 (by omega) ?c3 ?_)
 case c1=>exact cell_third _ _ _ _ _
 case c3=>first | omega | (simp;omega)
 ·intro v' w2 H1 H2 _
  have B3:Below w.heap.size w w2:=((B2 _ _).alloc (by simp;omega) _).grown H2 (by simp;omega) (fun k hk=>by cases hk)
  obtain⟨vo,vc,rfl⟩:=owns_slice H1
  clear H2
  go_wp2_with fail
  go_ret
  exact⟨_,rfl,H1,B3⟩
set_option maxRecDepth 100000 in
set_option maxHeartbeats 4000000 in
theorem l3silent_41 (a b c d:Int) (nmp:ByteArray) (ln pa rg:Int) (re:Bool) (us:List Ud) (cs:List Vd) (is:List Nd) (ms:List Md) (o1 o2 o4:Option Addr) (c1 c2 c3 c4 ib io i:Nat) (w:World) (hi:i<is.length) (_hz:is.length≤1048576)
  (q0:w.cell? ⟨ib,io+i*5,none⟩=some (.int .i64 41)) (q1:w.cell? ⟨ib,io+i*5+1,none⟩=some (.int .i64 a)) (q2:w.cell? ⟨ib,io+i*5+2,none⟩=some (.int .i64 b)) (q3:w.cell? ⟨ib,io+i*5+3,none⟩=some (.int .i64 c)) (q4:w.cell? ⟨ib,io+i*5+4,none⟩=some (.int .i64 d)) (hil:ib<w.heap.size) (hb:0≤b) :
  Calls Tryz.prog 167 #[.agg #[.string nmp,.int .i64 ln,.int .i64 pa,.bool re,.int .i64 rg,.slice o1 us.length c1,.slice o2 cs.length c2,.slice (some ⟨ib,io,none⟩) is.length c3,.slice o4 ms.length c4],.int .i64 i] w (SilPost [b.toNat] w):=by
 have B2:∀o1 o2,Below w.heap.size w ((w.alloc o1).alloc o2):=fun o1 o2=>((Below.refl _ _).alloc (Nat.le_refl _) o1).alloc (by simp) o2
 have k1:(i:Int)<is.length:=by omega
 obtain⟨bN,rfl⟩:=Int.eq_ofNat_of_zero_le hb
 go_enter Tryz.func167,Tryz.ntmps167
 go_wp2_with (at_builtin;refine app_int rfl _ _ rfl w.heap.size _ 0 [] bN (w.heap.size+2) rfl (World.ownsRow_nil _ _ _ _) rfl ?c1 (by omega) ?c3 ?_)
 case c1=>exact cell_third _ _ _ _ _
 case c3=>first | omega | (simp;omega)
 ·intro v' w2 H1 H2 _
  have B3:Below w.heap.size w w2:=((B2 _ _).alloc (by simp;omega) _).grown H2 (by simp;omega) (fun k hk=>by cases hk)
  obtain⟨vo,vc,rfl⟩:=owns_slice H1
  clear H2
  go_wp2_with fail
  go_ret
  exact⟨_,rfl,H1,B3⟩
set_option maxRecDepth 100000 in
set_option maxHeartbeats 4000000 in
theorem l3silent_20 (a b c d:Int) (nmp:ByteArray) (ln pa rg:Int) (re:Bool) (us:List Ud) (cs:List Vd) (is:List Nd) (ms:List Md) (o1 o2 o4:Option Addr) (c1 c2 c3 c4 ib io i:Nat) (w:World) (hi:i<is.length) (hz:is.length≤1048576)
  (q0:w.cell? ⟨ib,io+i*5,none⟩=some (.int .i64 20)) (q1:w.cell? ⟨ib,io+i*5+1,none⟩=some (.int .i64 a)) (q2:w.cell? ⟨ib,io+i*5+2,none⟩=some (.int .i64 b)) (q3:w.cell? ⟨ib,io+i*5+3,none⟩=some (.int .i64 c)) (q4:w.cell? ⟨ib,io+i*5+4,none⟩=some (.int .i64 d)) (hil:ib<w.heap.size) (hb:0≤b) :
  Calls Tryz.prog 167 #[.agg #[.string nmp,.int .i64 ln,.int .i64 pa,.bool re,.int .i64 rg,.slice o1 us.length c1,.slice o2 cs.length c2,.slice (some ⟨ib,io,none⟩) is.length c3,.slice o4 ms.length c4],.int .i64 i] w (SilPost [b.toNat,i+1] w):=by
 have B2:∀o1 o2,Below w.heap.size w ((w.alloc o1).alloc o2):=fun o1 o2=>((Below.refl _ _).alloc (Nat.le_refl _) o1).alloc (by simp) o2
 have k1:(i:Int)<is.length:=by omega
 obtain⟨bN,rfl⟩:=Int.eq_ofNat_of_zero_le hb
 go_enter Tryz.func167,Tryz.ntmps167
 go_wp2_with (at_builtin;refine app_int rfl _ _ rfl w.heap.size _ 0 [] bN (w.heap.size+2) rfl (World.ownsRow_nil _ _ _ _) rfl ?c1 (by omega) ?c3 ?_)
 case c1=>exact cell_third _ _ _ _ _
 case c3=>first | omega | (simp;omega)
 ·intro v' w2 H1 H2 _
  have B3:Below w.heap.size w w2:=((B2 _ _).alloc (by simp;omega) _).grown H2 (by simp;omega) (fun k hk=>by cases hk)
  obtain⟨vo,vc,rfl⟩:=owns_slice H1
  clear H2
  have hs2:=B3.size
  go_wp2_with (at_builtin;refine app_int rfl _ _ rfl w.heap.size _ 1 [bN] ((i:Int)+1) w2.heap.size rfl (H1.alloc _) rfl ?c1 (by omega) ?c3 ?_)
  case c1=>simp
  case c3=>first | omega | (simp;omega)
  ·intro v2 w3 H3 H4 _
   have B4:Below w.heap.size w w3:=(B3.alloc hs2 _).grown H4 (by simp;omega) (fun k hk=>(H1.lt k hk).1)
   obtain⟨vo2,vc2,rfl⟩:=owns_slice H3
   clear H4
   go_wp2_with fail
   go_ret
   exact⟨_,rfl,H3,B4⟩
set_option maxRecDepth 100000 in
set_option maxHeartbeats 4000000 in
theorem l3silent_21 (a b c d:Int) (nmp:ByteArray) (ln pa rg:Int) (re:Bool) (us:List Ud) (cs:List Vd) (is:List Nd) (ms:List Md) (o1 o2 o4:Option Addr) (c1 c2 c3 c4 ib io i:Nat) (w:World) (hi:i<is.length) (hz:is.length≤1048576)
  (q0:w.cell? ⟨ib,io+i*5,none⟩=some (.int .i64 21)) (q1:w.cell? ⟨ib,io+i*5+1,none⟩=some (.int .i64 a)) (q2:w.cell? ⟨ib,io+i*5+2,none⟩=some (.int .i64 b)) (q3:w.cell? ⟨ib,io+i*5+3,none⟩=some (.int .i64 c)) (q4:w.cell? ⟨ib,io+i*5+4,none⟩=some (.int .i64 d)) (hil:ib<w.heap.size) (hb:0≤b) :
  Calls Tryz.prog 167 #[.agg #[.string nmp,.int .i64 ln,.int .i64 pa,.bool re,.int .i64 rg,.slice o1 us.length c1,.slice o2 cs.length c2,.slice (some ⟨ib,io,none⟩) is.length c3,.slice o4 ms.length c4],.int .i64 i] w (SilPost [b.toNat,i+1] w):=by
 have B2:∀o1 o2,Below w.heap.size w ((w.alloc o1).alloc o2):=fun o1 o2=>((Below.refl _ _).alloc (Nat.le_refl _) o1).alloc (by simp) o2
 have k1:(i:Int)<is.length:=by omega
 obtain⟨bN,rfl⟩:=Int.eq_ofNat_of_zero_le hb
 go_enter Tryz.func167,Tryz.ntmps167
 go_wp2_with (at_builtin;refine app_int rfl _ _ rfl w.heap.size _ 0 [] bN (w.heap.size+2) rfl (World.ownsRow_nil _ _ _ _) rfl ?c1 (by omega) ?c3 ?_)
 case c1=>exact cell_third _ _ _ _ _
 case c3=>first | omega | (simp;omega)
 ·intro v' w2 H1 H2 _
  have B3:Below w.heap.size w w2:=((B2 _ _).alloc (by simp;omega) _).grown H2 (by simp;omega) (fun k hk=>by cases hk)
  obtain⟨vo,vc,rfl⟩:=owns_slice H1
  clear H2
  have hs2:=B3.size
  go_wp2_with (at_builtin;refine app_int rfl _ _ rfl w.heap.size _ 1 [bN] ((i:Int)+1) w2.heap.size rfl (H1.alloc _) rfl ?c1 (by omega) ?c3 ?_)
  case c1=>simp
  case c3=>first | omega | (simp;omega)
  ·intro v2 w3 H3 H4 _
   have B4:Below w.heap.size w w3:=(B3.alloc hs2 _).grown H4 (by simp;omega) (fun k hk=>(H1.lt k hk).1)
   obtain⟨vo2,vc2,rfl⟩:=owns_slice H3
   clear H4
   go_wp2_with fail
   go_ret
   exact⟨_,rfl,H3,B4⟩
set_option maxRecDepth 100000 in
set_option maxHeartbeats 4000000 in
theorem l3silent_38 (a b c d:Int) (nmp:ByteArray) (ln pa rg:Int) (re:Bool) (us:List Ud) (cs:List Vd) (is:List Nd) (ms:List Md) (o1 o2 o4:Option Addr) (c1 c2 c3 c4 ib io i:Nat) (w:World) (hi:i<is.length) (hz:is.length≤1048576)
  (q0:w.cell? ⟨ib,io+i*5,none⟩=some (.int .i64 38)) (q1:w.cell? ⟨ib,io+i*5+1,none⟩=some (.int .i64 a)) (q2:w.cell? ⟨ib,io+i*5+2,none⟩=some (.int .i64 b)) (q3:w.cell? ⟨ib,io+i*5+3,none⟩=some (.int .i64 c)) (q4:w.cell? ⟨ib,io+i*5+4,none⟩=some (.int .i64 d)) (hil:ib<w.heap.size) (hb:0≤b) :
  Calls Tryz.prog 167 #[.agg #[.string nmp,.int .i64 ln,.int .i64 pa,.bool re,.int .i64 rg,.slice o1 us.length c1,.slice o2 cs.length c2,.slice (some ⟨ib,io,none⟩) is.length c3,.slice o4 ms.length c4],.int .i64 i] w (SilPost [b.toNat,i+1] w):=by
 have B2:∀o1 o2,Below w.heap.size w ((w.alloc o1).alloc o2):=fun o1 o2=>((Below.refl _ _).alloc (Nat.le_refl _) o1).alloc (by simp) o2
 have k1:(i:Int)<is.length:=by omega
 obtain⟨bN,rfl⟩:=Int.eq_ofNat_of_zero_le hb
 go_enter Tryz.func167,Tryz.ntmps167
 go_wp2_with (at_builtin;refine app_int rfl _ _ rfl w.heap.size _ 0 [] bN (w.heap.size+2) rfl (World.ownsRow_nil _ _ _ _) rfl ?c1 (by omega) ?c3 ?_)
 case c1=>exact cell_third _ _ _ _ _
 case c3=>first | omega | (simp;omega)
 ·intro v' w2 H1 H2 _
  have B3:Below w.heap.size w w2:=((B2 _ _).alloc (by simp;omega) _).grown H2 (by simp;omega) (fun k hk=>by cases hk)
  obtain⟨vo,vc,rfl⟩:=owns_slice H1
  clear H2
  have hs2:=B3.size
  go_wp2_with (at_builtin;refine app_int rfl _ _ rfl w.heap.size _ 1 [bN] ((i:Int)+1) w2.heap.size rfl (H1.alloc _) rfl ?c1 (by omega) ?c3 ?_)
  case c1=>simp
  case c3=>first | omega | (simp;omega)
  ·intro v2 w3 H3 H4 _
   have B4:Below w.heap.size w w3:=(B3.alloc hs2 _).grown H4 (by simp;omega) (fun k hk=>(H1.lt k hk).1)
   obtain⟨vo2,vc2,rfl⟩:=owns_slice H3
   clear H4
   go_wp2_with fail
   go_ret
   exact⟨_,rfl,H3,B4⟩
set_option maxRecDepth 100000 in
set_option maxHeartbeats 4000000 in
theorem l3silent_39 (a b c d:Int) (nmp:ByteArray) (ln pa rg:Int) (re:Bool) (us:List Ud) (cs:List Vd) (is:List Nd) (ms:List Md) (o1 o2 o4:Option Addr) (c1 c2 c3 c4 ib io i:Nat) (w:World) (hi:i<is.length) (hz:is.length≤1048576)
  (q0:w.cell? ⟨ib,io+i*5,none⟩=some (.int .i64 39)) (q1:w.cell? ⟨ib,io+i*5+1,none⟩=some (.int .i64 a)) (q2:w.cell? ⟨ib,io+i*5+2,none⟩=some (.int .i64 b)) (q3:w.cell? ⟨ib,io+i*5+3,none⟩=some (.int .i64 c)) (q4:w.cell? ⟨ib,io+i*5+4,none⟩=some (.int .i64 d)) (hil:ib<w.heap.size) (hb:0≤b) :
  Calls Tryz.prog 167 #[.agg #[.string nmp,.int .i64 ln,.int .i64 pa,.bool re,.int .i64 rg,.slice o1 us.length c1,.slice o2 cs.length c2,.slice (some ⟨ib,io,none⟩) is.length c3,.slice o4 ms.length c4],.int .i64 i] w (SilPost [b.toNat,i+1] w):=by
 have B2:∀o1 o2,Below w.heap.size w ((w.alloc o1).alloc o2):=fun o1 o2=>((Below.refl _ _).alloc (Nat.le_refl _) o1).alloc (by simp) o2
 have k1:(i:Int)<is.length:=by omega
 obtain⟨bN,rfl⟩:=Int.eq_ofNat_of_zero_le hb
 go_enter Tryz.func167,Tryz.ntmps167
 go_wp2_with (at_builtin;refine app_int rfl _ _ rfl w.heap.size _ 0 [] bN (w.heap.size+2) rfl (World.ownsRow_nil _ _ _ _) rfl ?c1 (by omega) ?c3 ?_)
 case c1=>exact cell_third _ _ _ _ _
 case c3=>first | omega | (simp;omega)
 ·intro v' w2 H1 H2 _
  have B3:Below w.heap.size w w2:=((B2 _ _).alloc (by simp;omega) _).grown H2 (by simp;omega) (fun k hk=>by cases hk)
  obtain⟨vo,vc,rfl⟩:=owns_slice H1
  clear H2
  have hs2:=B3.size
  go_wp2_with (at_builtin;refine app_int rfl _ _ rfl w.heap.size _ 1 [bN] ((i:Int)+1) w2.heap.size rfl (H1.alloc _) rfl ?c1 (by omega) ?c3 ?_)
  case c1=>simp
  case c3=>first | omega | (simp;omega)
  ·intro v2 w3 H3 H4 _
   have B4:Below w.heap.size w w3:=(B3.alloc hs2 _).grown H4 (by simp;omega) (fun k hk=>(H1.lt k hk).1)
   obtain⟨vo2,vc2,rfl⟩:=owns_slice H3
   clear H4
   go_wp2_with fail
   go_ret
   exact⟨_,rfl,H3,B4⟩
set_option maxRecDepth 100000 in
set_option maxHeartbeats 4000000 in
theorem l3silent_31 (a b c d:Int) (nmp:ByteArray) (ln pa rg:Int) (re:Bool) (us:List Ud) (cs:List Vd) (is:List Nd) (ms:List Md) (o1 o2 o4:Option Addr) (c1 c2 c3 c4 ib io i:Nat) (w:World) (hi:i<is.length) (hz:is.length≤1048576)
  (q0:w.cell? ⟨ib,io+i*5,none⟩=some (.int .i64 31)) (q1:w.cell? ⟨ib,io+i*5+1,none⟩=some (.int .i64 a)) (q2:w.cell? ⟨ib,io+i*5+2,none⟩=some (.int .i64 b)) (q3:w.cell? ⟨ib,io+i*5+3,none⟩=some (.int .i64 c)) (q4:w.cell? ⟨ib,io+i*5+4,none⟩=some (.int .i64 d)) (hil:ib<w.heap.size) (ha:0≤a) :
  Calls Tryz.prog 167 #[.agg #[.string nmp,.int .i64 ln,.int .i64 pa,.bool re,.int .i64 rg,.slice o1 us.length c1,.slice o2 cs.length c2,.slice (some ⟨ib,io,none⟩) is.length c3,.slice o4 ms.length c4],.int .i64 i] w (SilPost [a.toNat,i+1] w):=by
 have B2:∀o1 o2,Below w.heap.size w ((w.alloc o1).alloc o2):=fun o1 o2=>((Below.refl _ _).alloc (Nat.le_refl _) o1).alloc (by simp) o2
 have k1:(i:Int)<is.length:=by omega
 obtain⟨aN,rfl⟩:=Int.eq_ofNat_of_zero_le ha
 go_enter Tryz.func167,Tryz.ntmps167
 go_wp2_with (at_builtin;refine app_int rfl _ _ rfl w.heap.size _ 0 [] aN (w.heap.size+2) rfl (World.ownsRow_nil _ _ _ _) rfl ?c1 (by omega) ?c3 ?_)
 case c1=>exact cell_third _ _ _ _ _
 case c3=>first | omega | (simp;omega)
 ·intro v' w2 H1 H2 _
  have B3:Below w.heap.size w w2:=((B2 _ _).alloc (by simp;omega) _).grown H2 (by simp;omega) (fun k hk=>by cases hk)
  obtain⟨vo,vc,rfl⟩:=owns_slice H1
  clear H2
  have hs2:=B3.size
  go_wp2_with (at_builtin;refine app_int rfl _ _ rfl w.heap.size _ 1 [aN] ((i:Int)+1) w2.heap.size rfl (H1.alloc _) rfl ?c1 (by omega) ?c3 ?_)
  case c1=>simp
  case c3=>first | omega | (simp;omega)
  ·intro v2 w3 H3 H4 _
   have B4:Below w.heap.size w w3:=(B3.alloc hs2 _).grown H4 (by simp;omega) (fun k hk=>(H1.lt k hk).1)
   obtain⟨vo2,vc2,rfl⟩:=owns_slice H3
   clear H4
   go_wp2_with fail
   go_ret
   exact⟨_,rfl,H3,B4⟩
set_option maxRecDepth 100000 in
set_option maxHeartbeats 4000000 in
theorem l3silent_other (op a b c d:Int) (nmp:ByteArray) (ln pa rg:Int) (re:Bool) (us:List Ud) (cs:List Vd) (is:List Nd) (ms:List Md) (o1 o2 o4:Option Addr) (c1 c2 c3 c4 ib io i:Nat) (w:World) (hi:i<is.length) (hz:is.length≤1048576)
  (q0:w.cell? ⟨ib,io+i*5,none⟩=some (.int .i64 op)) (q1:w.cell? ⟨ib,io+i*5+1,none⟩=some (.int .i64 a)) (q2:w.cell? ⟨ib,io+i*5+2,none⟩=some (.int .i64 b)) (q3:w.cell? ⟨ib,io+i*5+3,none⟩=some (.int .i64 c)) (q4:w.cell? ⟨ib,io+i*5+4,none⟩=some (.int .i64 d)) (hil:ib<w.heap.size) (h1:op≠1) (h3:op≠3) (h28:op≠28) (h29:op≠29) (h30:op≠30) (h18:op≠18) (h19:op≠19) (h41:op≠41) (h20:op≠20) (h21:op≠21) (h38:op≠38) (h39:op≠39) (h31:op≠31) :
  Calls Tryz.prog 167 #[.agg #[.string nmp,.int .i64 ln,.int .i64 pa,.bool re,.int .i64 rg,.slice o1 us.length c1,.slice o2 cs.length c2,.slice (some ⟨ib,io,none⟩) is.length c3,.slice o4 ms.length c4],.int .i64 i] w (SilPost [i+1] w):=by
 have B2:∀o1 o2,Below w.heap.size w ((w.alloc o1).alloc o2):=fun o1 o2=>((Below.refl _ _).alloc (Nat.le_refl _) o1).alloc (by simp) o2
 have k1:(i:Int)<is.length:=by omega
 have t1:(op == 1)=false:=by simpa using h1
 have t3:(op == 3)=false:=by simpa using h3
 have t28:(op == 28)=false:=by simpa using h28
 have t29:(op == 29)=false:=by simpa using h29
 have t30:(op == 30)=false:=by simpa using h30
 have t18:(op == 18)=false:=by simpa using h18
 have t19:(op == 19)=false:=by simpa using h19
 have t41:(op == 41)=false:=by simpa using h41
 have t20:(op == 20)=false:=by simpa using h20
 have t21:(op == 21)=false:=by simpa using h21
 have t38:(op == 38)=false:=by simpa using h38
 have t39:(op == 39)=false:=by simpa using h39
 have t31:(op == 31)=false:=by simpa using h31
 clear h1 h3 h28 h29 h30 h18 h19 h41 h20 h21 h38 h39 h31
 go_enter Tryz.func167,Tryz.ntmps167
 go_wp2_with (at_builtin;refine app_int rfl _ _ rfl w.heap.size _ 0 [] ((i:Int)+1) (w.heap.size+2) rfl (World.ownsRow_nil _ _ _ _) rfl ?c1 (by omega) ?c3 ?_)
 case c1=>exact cell_third _ _ _ _ _
 case c3=>first | omega | (simp;omega)
 ·intro v' w2 H1 H2 _
  have B3:Below w.heap.size w w2:=((B2 _ _).alloc (by simp;omega) _).grown H2 (by simp;omega) (fun k hk=>by cases hk)
  obtain⟨vo,vc,rfl⟩:=owns_slice H1
  clear H2
  go_wp2_with fail
  go_ret
  exact⟨_,rfl,H1,B3⟩
theorem l3silent_any (p:Pd) (h:Ph) (i:Nat) (n:Nd) (np:Nat) (w:World) (hi:p.ins[i]?=some n) (hz:p.ins.length≤1048576) (hn:InsFit np p n) (hp:InssAt 0 w h.io p.ins) :
  Calls Tryz.prog 167 #[.agg (p.cells h),.int .i64 i] w (SilPost (silL n i) w):=by
 obtain⟨ib,io,hio,_,hil,q0,q1,q2,q3,q4⟩:=hp i n hi
 have hlt:i<p.ins.length:=(List.getElem?_eq_some_iff.1 hi).1
 obtain⟨f1,_,f3,f4,_,_⟩:=fit_tab hn
 clear hp hn hi
 obtain⟨op,a,b,c,d⟩:=n
 obtain⟨nmp,ln,pa,re,rg,us,cs,is,ms⟩:=p
 obtain⟨o1,c1,o2,c2,o3,c3,o4,c4⟩:=h
 dsimp only [Pd.cells] at *
 subst hio
 unfold silL
 dsimp only
 by_cases h0:op=1∨op=3∨op=28∨op=29∨op=30
 ·rw [if_pos h0]
  rcases h0 with rfl | rfl | rfl | rfl | rfl
  ·exact l3silent_1 a b c d nmp ln pa rg re us cs is ms o1 o2 o4 c1 c2 c3 c4 ib io i w hlt hz q0 q1 q2 q3 q4 hil
  ·exact l3silent_3 a b c d nmp ln pa rg re us cs is ms o1 o2 o4 c1 c2 c3 c4 ib io i w hlt hz q0 q1 q2 q3 q4 hil
  ·exact l3silent_28 a b c d nmp ln pa rg re us cs is ms o1 o2 o4 c1 c2 c3 c4 ib io i w hlt hz q0 q1 q2 q3 q4 hil
  ·exact l3silent_29 a b c d nmp ln pa rg re us cs is ms o1 o2 o4 c1 c2 c3 c4 ib io i w hlt hz q0 q1 q2 q3 q4 hil
  ·exact l3silent_30 a b c d nmp ln pa rg re us cs is ms o1 o2 o4 c1 c2 c3 c4 ib io i w hlt hz q0 q1 q2 q3 q4 hil
 rw [if_neg h0]
 by_cases h18:op=18
 ·subst h18
  by_cases hb:b=12
  ·rw [if_pos ⟨rfl,hb⟩]
   exact l3silent_18j a b c d nmp ln pa rg re us cs is ms o1 o2 o4 c1 c2 c3 c4 ib io i w hlt hz q0 q1 q2 q3 q4 hil hb
  ·rw [if_neg (fun h=>hb h.2)]
   exact l3silent_18n a b c d nmp ln pa rg re us cs is ms o1 o2 o4 c1 c2 c3 c4 ib io i w hlt hz q0 q1 q2 q3 q4 hil hb
 rw [if_neg (fun h=>h18 h.1)]
 by_cases h19:op=19
 ·subst h19
  exact l3silent_19 a b c d nmp ln pa rg re us cs is ms o1 o2 o4 c1 c2 c3 c4 ib io i w hlt hz q0 q1 q2 q3 q4 hil (f3 rfl).1
 rw [if_neg h19]
 by_cases h41:op=41
 ·subst h41
  exact l3silent_41 a b c d nmp ln pa rg re us cs is ms o1 o2 o4 c1 c2 c3 c4 ib io i w hlt hz q0 q1 q2 q3 q4 hil (f4 (by simp)).1
 rw [if_neg h41]
 by_cases h20:op=20∨op=21∨op=38∨op=39
 ·rw [if_pos h20]
  rcases h20 with rfl | rfl | rfl | rfl
  ·exact l3silent_20 a b c d nmp ln pa rg re us cs is ms o1 o2 o4 c1 c2 c3 c4 ib io i w hlt hz q0 q1 q2 q3 q4 hil (f4 (by simp)).1
  ·exact l3silent_21 a b c d nmp ln pa rg re us cs is ms o1 o2 o4 c1 c2 c3 c4 ib io i w hlt hz q0 q1 q2 q3 q4 hil (f4 (by simp)).1
  ·exact l3silent_38 a b c d nmp ln pa rg re us cs is ms o1 o2 o4 c1 c2 c3 c4 ib io i w hlt hz q0 q1 q2 q3 q4 hil (f4 (by simp)).1
  ·exact l3silent_39 a b c d nmp ln pa rg re us cs is ms o1 o2 o4 c1 c2 c3 c4 ib io i w hlt hz q0 q1 q2 q3 q4 hil (f4 (by simp)).1
 rw [if_neg h20]
 by_cases h31:op=31
 ·subst h31
  exact l3silent_31 a b c d nmp ln pa rg re us cs is ms o1 o2 o4 c1 c2 c3 c4 ib io i w hlt hz q0 q1 q2 q3 q4 hil (f1 rfl).1.1
 rw [if_neg h31]
 exact l3silent_other op a b c d nmp ln pa rg re us cs is ms o1 o2 o4 c1 c2 c3 c4 ib io i w hlt hz q0 q1 q2 q3 q4 hil (by omega) (by omega) (by omega) (by omega) (by omega) h18 h19 h41 (by omega) (by omega) (by omega) (by omega) h31
end Go.Proofs.YtgiflmnfnoildaaGreatDoor
