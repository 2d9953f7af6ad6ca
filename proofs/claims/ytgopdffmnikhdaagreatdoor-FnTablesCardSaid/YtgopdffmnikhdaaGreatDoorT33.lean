import Derived.Test.YtgopdffmnikhdaaGreatDoorT25
namespace Go.Proofs.YtgopdffmnikhdaaGreatDoor
open Go.RowKit Go.Deep
theorem keptBelow_at (ao:Option Addr) (cap m:Nat) (gs:List Gd) (w:World) (hm:Hid (gs.length=m)) (hml:m≤50) (hx:GdsAt 0 w ao gs) :
  Calls Tryz.prog 311 #[.slice ao m cap] w fun e w'=>e=.returned (.int .i64 (maxKeep gs))∧Below w.heap.size w w':=by
 obtain rfl:=hm.out
 exact keptBelow_any ao cap gs w (by omega) hx
set_option maxRecDepth 100000 in
set_option maxHeartbeats 3200000 in
theorem guardsFit_31 (a b c d:Int) (ao:Option Addr) (cap m:Nat) (gs:List Gd) (w:World) (hm:Hid (gs.length=m)) (hml:m≤50) (hx:GdsAt 0 w ao gs) :
  Calls Tryz.prog 307 #[.agg #[.int .i64 31,.int .i64 a,.int .i64 b,.int .i64 c,.int .i64 d],.slice ao m cap] w fun e w'=>e=.returned (.bool (gfitB ⟨31,a,b,c,d⟩ gs))∧Below w.heap.size w w':=by
 have N0:=Blk.new w #[.int .i64 31,.int .i64 a,.int .i64 b,.int .i64 c,.int .i64 d] 48
 have B0:=(Below.refl w.heap.size w).alloc (Nat.le_refl _) (.cells #[.int .i64 31,.int .i64 a,.int .i64 b,.int .i64 c,.int .i64 d] 48)
 have HB:Hid (gfitB ⟨31,a,b,c,d⟩ gs=(decide (m<50) && decide (maxKeep gs≤b))):=by
  show _=_
  try rw [←hm.out]
  unfold gfitB
  simp
 go_enter Tryz.func307,Tryz.ntmps307
 go_wp2_with fail
 refine (keptBelow_at ao cap m gs _ hm hml (hx.later (Keeps.of_below B0))).mono ?_
 rintro e w1 ⟨rfl,hw1⟩
 have B1:=B0.trans (hw1.mono (by simp))
 have n1:=(N0.later hw1).cell
 have hx1:=hx.later (Keeps.of_below B1)
 generalize maxKeep gs=mk at *
 clear hw1 N0 B0 hx
 rcases m with _ | k
 ·have HL:Hid (lastTr gs=none):=by have:gs=[]:=List.length_eq_zero_iff.1 hm.out;show _=_;rw [this];rfl
  have hx1':=hx1
  clear hx1 hx1'
  go_wp2_with fail
  all_goals
   go_ret
   refine⟨ret_bool ?_,B1⟩
   rw [HB.out]
   simp
   try omega
 ·obtain⟨q,hq⟩:=some_of_lt (show k<gs.length by rw [hm.out];omega)
  obtain⟨gb,gof,rfl,_,hgl,q0,_,_⟩:=hx1 k q hq
  have HL:Hid (lastTr gs=some q.tr):=lastTr_of hm.out hq
  obtain⟨t0,t1,t2⟩:=q
  dsimp only at *
  have k1:((k:Int)+1 - 1)=k:=by omega
  have k2:(0:Int)<(k:Int)+1:=by omega
  clear hq hx1
  cases t0
  ·go_wp2_with fail
   all_goals
    go_ret
    refine⟨ret_bool ?_,B1⟩
    rw [HB.out]
    simp
    try omega
  ·go_wp2_with fail
   all_goals
    go_ret
    refine⟨ret_bool ?_,B1⟩
    rw [HB.out]
    simp
    try omega
set_option maxRecDepth 100000 in
set_option maxHeartbeats 3200000 in
theorem guardsFit_33 (a b c d:Int) (ao:Option Addr) (cap m:Nat) (gs:List Gd) (w:World) (hm:Hid (gs.length=m)) (hml:m≤50) (hx:GdsAt 0 w ao gs) :
  Calls Tryz.prog 307 #[.agg #[.int .i64 33,.int .i64 a,.int .i64 b,.int .i64 c,.int .i64 d],.slice ao m cap] w fun e w'=>e=.returned (.bool (gfitB ⟨33,a,b,c,d⟩ gs))∧Below w.heap.size w w':=by
 have N0:=Blk.new w #[.int .i64 33,.int .i64 a,.int .i64 b,.int .i64 c,.int .i64 d] 48
 have B0:=(Below.refl w.heap.size w).alloc (Nat.le_refl _) (.cells #[.int .i64 33,.int .i64 a,.int .i64 b,.int .i64 c,.int .i64 d] 48)
 have HB:Hid (gfitB ⟨33,a,b,c,d⟩ gs=(decide (m<50) && decide (maxKeep gs≤a))):=by
  show _=_
  try rw [←hm.out]
  unfold gfitB
  simp
 go_enter Tryz.func307,Tryz.ntmps307
 go_wp2_with fail
 refine (keptBelow_at ao cap m gs _ hm hml (hx.later (Keeps.of_below B0))).mono ?_
 rintro e w1 ⟨rfl,hw1⟩
 have B1:=B0.trans (hw1.mono (by simp))
 have n1:=(N0.later hw1).cell
 have hx1:=hx.later (Keeps.of_below B1)
 generalize maxKeep gs=mk at *
 clear hw1 N0 B0 hx
 rcases m with _ | k
 ·have HL:Hid (lastTr gs=none):=by have:gs=[]:=List.length_eq_zero_iff.1 hm.out;show _=_;rw [this];rfl
  have hx1':=hx1
  clear hx1 hx1'
  go_wp2_with fail
  all_goals
   go_ret
   refine⟨ret_bool ?_,B1⟩
   rw [HB.out]
   simp
   try omega
 ·obtain⟨q,hq⟩:=some_of_lt (show k<gs.length by rw [hm.out];omega)
  obtain⟨gb,gof,rfl,_,hgl,q0,_,_⟩:=hx1 k q hq
  have HL:Hid (lastTr gs=some q.tr):=lastTr_of hm.out hq
  obtain⟨t0,t1,t2⟩:=q
  dsimp only at *
  have k1:((k:Int)+1 - 1)=k:=by omega
  have k2:(0:Int)<(k:Int)+1:=by omega
  clear hq hx1
  cases t0
  ·go_wp2_with fail
   all_goals
    go_ret
    refine⟨ret_bool ?_,B1⟩
    rw [HB.out]
    simp
    try omega
  ·go_wp2_with fail
   all_goals
    go_ret
    refine⟨ret_bool ?_,B1⟩
    rw [HB.out]
    simp
    try omega
set_option maxRecDepth 100000 in
set_option maxHeartbeats 3200000 in
theorem guardsFit_32 (a b c d:Int) (ao:Option Addr) (cap m:Nat) (gs:List Gd) (w:World) (hm:Hid (gs.length=m)) (hml:m≤50) (hx:GdsAt 0 w ao gs) :
  Calls Tryz.prog 307 #[.agg #[.int .i64 32,.int .i64 a,.int .i64 b,.int .i64 c,.int .i64 d],.slice ao m cap] w fun e w'=>e=.returned (.bool (gfitB ⟨32,a,b,c,d⟩ gs))∧Below w.heap.size w w':=by
 have N0:=Blk.new w #[.int .i64 32,.int .i64 a,.int .i64 b,.int .i64 c,.int .i64 d] 48
 have B0:=(Below.refl w.heap.size w).alloc (Nat.le_refl _) (.cells #[.int .i64 32,.int .i64 a,.int .i64 b,.int .i64 c,.int .i64 d] 48)
 have HB:Hid (gfitB ⟨32,a,b,c,d⟩ gs=decide (lastTr gs=some true)):=by
  show _=_
  try rw [←hm.out]
  unfold gfitB
  simp
 go_enter Tryz.func307,Tryz.ntmps307
 go_wp2_with fail
 refine (keptBelow_at ao cap m gs _ hm hml (hx.later (Keeps.of_below B0))).mono ?_
 rintro e w1 ⟨rfl,hw1⟩
 have B1:=B0.trans (hw1.mono (by simp))
 have n1:=(N0.later hw1).cell
 have hx1:=hx.later (Keeps.of_below B1)
 generalize maxKeep gs=mk at *
 clear hw1 N0 B0 hx
 rcases m with _ | k
 ·have HL:Hid (lastTr gs=none):=by have:gs=[]:=List.length_eq_zero_iff.1 hm.out;show _=_;rw [this];rfl
  have hx1':=hx1
  clear hx1 hx1'
  go_wp2_with fail
  all_goals
   go_ret
   refine⟨ret_bool ?_,B1⟩
   rw [HB.out]
   simp [HL.out]
   try omega
 ·obtain⟨q,hq⟩:=some_of_lt (show k<gs.length by rw [hm.out];omega)
  obtain⟨gb,gof,rfl,_,hgl,q0,_,_⟩:=hx1 k q hq
  have HL:Hid (lastTr gs=some q.tr):=lastTr_of hm.out hq
  obtain⟨t0,t1,t2⟩:=q
  dsimp only at *
  have k1:((k:Int)+1 - 1)=k:=by omega
  have k2:(0:Int)<(k:Int)+1:=by omega
  clear hq hx1
  cases t0
  ·go_wp2_with fail
   all_goals
    go_ret
    refine⟨ret_bool ?_,B1⟩
    rw [HB.out]
    simp [HL.out]
    try omega
  ·go_wp2_with fail
   all_goals
    go_ret
    refine⟨ret_bool ?_,B1⟩
    rw [HB.out]
    simp [HL.out]
    try omega
set_option maxRecDepth 100000 in
set_option maxHeartbeats 3200000 in
theorem guardsFit_34 (a b c d:Int) (ao:Option Addr) (cap m:Nat) (gs:List Gd) (w:World) (hm:Hid (gs.length=m)) (hml:m≤50) (hx:GdsAt 0 w ao gs) :
  Calls Tryz.prog 307 #[.agg #[.int .i64 34,.int .i64 a,.int .i64 b,.int .i64 c,.int .i64 d],.slice ao m cap] w fun e w'=>e=.returned (.bool (gfitB ⟨34,a,b,c,d⟩ gs))∧Below w.heap.size w w':=by
 have N0:=Blk.new w #[.int .i64 34,.int .i64 a,.int .i64 b,.int .i64 c,.int .i64 d] 48
 have B0:=(Below.refl w.heap.size w).alloc (Nat.le_refl _) (.cells #[.int .i64 34,.int .i64 a,.int .i64 b,.int .i64 c,.int .i64 d] 48)
 have HB:Hid (gfitB ⟨34,a,b,c,d⟩ gs=(decide (lastTr gs=some false) && decide (maxKeep gs≤a))):=by
  show _=_
  try rw [←hm.out]
  unfold gfitB
  simp
 go_enter Tryz.func307,Tryz.ntmps307
 go_wp2_with fail
 refine (keptBelow_at ao cap m gs _ hm hml (hx.later (Keeps.of_below B0))).mono ?_
 rintro e w1 ⟨rfl,hw1⟩
 have B1:=B0.trans (hw1.mono (by simp))
 have n1:=(N0.later hw1).cell
 have hx1:=hx.later (Keeps.of_below B1)
 generalize maxKeep gs=mk at *
 clear hw1 N0 B0 hx
 rcases m with _ | k
 ·have HL:Hid (lastTr gs=none):=by have:gs=[]:=List.length_eq_zero_iff.1 hm.out;show _=_;rw [this];rfl
  have hx1':=hx1
  clear hx1 hx1'
  go_wp2_with fail
  all_goals
   go_ret
   refine⟨ret_bool ?_,B1⟩
   rw [HB.out]
   simp [HL.out]
   try omega
 ·obtain⟨q,hq⟩:=some_of_lt (show k<gs.length by rw [hm.out];omega)
  obtain⟨gb,gof,rfl,_,hgl,q0,_,_⟩:=hx1 k q hq
  have HL:Hid (lastTr gs=some q.tr):=lastTr_of hm.out hq
  obtain⟨t0,t1,t2⟩:=q
  dsimp only at *
  have k1:((k:Int)+1 - 1)=k:=by omega
  have k2:(0:Int)<(k:Int)+1:=by omega
  clear hq hx1
  cases t0
  ·go_wp2_with fail
   all_goals
    go_ret
    refine⟨ret_bool ?_,B1⟩
    rw [HB.out]
    simp [HL.out]
    try omega
  ·go_wp2_with fail
   all_goals
    go_ret
    refine⟨ret_bool ?_,B1⟩
    rw [HB.out]
    simp [HL.out]
    try omega
set_option maxRecDepth 100000 in
set_option maxHeartbeats 3200000 in
theorem guardsFit_35 (a b c d:Int) (ao:Option Addr) (cap m:Nat) (gs:List Gd) (w:World) (hm:Hid (gs.length=m)) (hml:m≤50) (hx:GdsAt 0 w ao gs) :
  Calls Tryz.prog 307 #[.agg #[.int .i64 35,.int .i64 a,.int .i64 b,.int .i64 c,.int .i64 d],.slice ao m cap] w fun e w'=>e=.returned (.bool (gfitB ⟨35,a,b,c,d⟩ gs))∧Below w.heap.size w w':=by
 have N0:=Blk.new w #[.int .i64 35,.int .i64 a,.int .i64 b,.int .i64 c,.int .i64 d] 48
 have B0:=(Below.refl w.heap.size w).alloc (Nat.le_refl _) (.cells #[.int .i64 35,.int .i64 a,.int .i64 b,.int .i64 c,.int .i64 d] 48)
 have HB:Hid (gfitB ⟨35,a,b,c,d⟩ gs=decide (lastTr gs=some false)):=by
  show _=_
  try rw [←hm.out]
  unfold gfitB
  simp
 go_enter Tryz.func307,Tryz.ntmps307
 go_wp2_with fail
 refine (keptBelow_at ao cap m gs _ hm hml (hx.later (Keeps.of_below B0))).mono ?_
 rintro e w1 ⟨rfl,hw1⟩
 have B1:=B0.trans (hw1.mono (by simp))
 have n1:=(N0.later hw1).cell
 have hx1:=hx.later (Keeps.of_below B1)
 generalize maxKeep gs=mk at *
 clear hw1 N0 B0 hx
 rcases m with _ | k
 ·have HL:Hid (lastTr gs=none):=by have:gs=[]:=List.length_eq_zero_iff.1 hm.out;show _=_;rw [this];rfl
  have hx1':=hx1
  clear hx1 hx1'
  go_wp2_with fail
  all_goals
   go_ret
   refine⟨ret_bool ?_,B1⟩
   rw [HB.out]
   simp [HL.out]
   try omega
 ·obtain⟨q,hq⟩:=some_of_lt (show k<gs.length by rw [hm.out];omega)
  obtain⟨gb,gof,rfl,_,hgl,q0,_,_⟩:=hx1 k q hq
  have HL:Hid (lastTr gs=some q.tr):=lastTr_of hm.out hq
  obtain⟨t0,t1,t2⟩:=q
  dsimp only at *
  have k1:((k:Int)+1 - 1)=k:=by omega
  have k2:(0:Int)<(k:Int)+1:=by omega
  clear hq hx1
  cases t0
  ·go_wp2_with fail
   all_goals
    go_ret
    refine⟨ret_bool ?_,B1⟩
    rw [HB.out]
    simp [HL.out]
    try omega
  ·go_wp2_with fail
   all_goals
    go_ret
    refine⟨ret_bool ?_,B1⟩
    rw [HB.out]
    simp [HL.out]
    try omega
set_option maxRecDepth 100000 in
set_option maxHeartbeats 3200000 in
theorem guardsFit_36 (a b c d:Int) (ao:Option Addr) (cap m:Nat) (gs:List Gd) (w:World) (hm:Hid (gs.length=m)) (hml:m≤50) (hx:GdsAt 0 w ao gs) :
  Calls Tryz.prog 307 #[.agg #[.int .i64 36,.int .i64 a,.int .i64 b,.int .i64 c,.int .i64 d],.slice ao m cap] w fun e w'=>e=.returned (.bool (gfitB ⟨36,a,b,c,d⟩ gs))∧Below w.heap.size w w':=by
 have N0:=Blk.new w #[.int .i64 36,.int .i64 a,.int .i64 b,.int .i64 c,.int .i64 d] 48
 have B0:=(Below.refl w.heap.size w).alloc (Nat.le_refl _) (.cells #[.int .i64 36,.int .i64 a,.int .i64 b,.int .i64 c,.int .i64 d] 48)
 have HB:Hid (gfitB ⟨36,a,b,c,d⟩ gs=decide (lastTr gs=some false)):=by
  show _=_
  try rw [←hm.out]
  unfold gfitB
  simp
 go_enter Tryz.func307,Tryz.ntmps307
 go_wp2_with fail
 refine (keptBelow_at ao cap m gs _ hm hml (hx.later (Keeps.of_below B0))).mono ?_
 rintro e w1 ⟨rfl,hw1⟩
 have B1:=B0.trans (hw1.mono (by simp))
 have n1:=(N0.later hw1).cell
 have hx1:=hx.later (Keeps.of_below B1)
 generalize maxKeep gs=mk at *
 clear hw1 N0 B0 hx
 rcases m with _ | k
 ·have HL:Hid (lastTr gs=none):=by have:gs=[]:=List.length_eq_zero_iff.1 hm.out;show _=_;rw [this];rfl
  have hx1':=hx1
  clear hx1 hx1'
  go_wp2_with fail
  all_goals
   go_ret
   refine⟨ret_bool ?_,B1⟩
   rw [HB.out]
   simp [HL.out]
   try omega
 ·obtain⟨q,hq⟩:=some_of_lt (show k<gs.length by rw [hm.out];omega)
  obtain⟨gb,gof,rfl,_,hgl,q0,_,_⟩:=hx1 k q hq
  have HL:Hid (lastTr gs=some q.tr):=lastTr_of hm.out hq
  obtain⟨t0,t1,t2⟩:=q
  dsimp only at *
  have k1:((k:Int)+1 - 1)=k:=by omega
  have k2:(0:Int)<(k:Int)+1:=by omega
  clear hq hx1
  cases t0
  ·go_wp2_with fail
   all_goals
    go_ret
    refine⟨ret_bool ?_,B1⟩
    rw [HB.out]
    simp [HL.out]
    try omega
  ·go_wp2_with fail
   all_goals
    go_ret
    refine⟨ret_bool ?_,B1⟩
    rw [HB.out]
    simp [HL.out]
    try omega
set_option maxRecDepth 100000 in
set_option maxHeartbeats 3200000 in
theorem guardsFit_other (op a b c d:Int) (ao:Option Addr) (cap m:Nat) (gs:List Gd) (w:World) (hm:Hid (gs.length=m)) (hml:m≤50) (hx:GdsAt 0 w ao gs) (h31:op≠31) (h33:op≠33) (h32:op≠32) (h34:op≠34) (h35:op≠35) (h36:op≠36) :
  Calls Tryz.prog 307 #[.agg #[.int .i64 op,.int .i64 a,.int .i64 b,.int .i64 c,.int .i64 d],.slice ao m cap] w fun e w'=>e=.returned (.bool (gfitB ⟨op,a,b,c,d⟩ gs))∧Below w.heap.size w w':=by
 have N0:=Blk.new w #[.int .i64 op,.int .i64 a,.int .i64 b,.int .i64 c,.int .i64 d] 48
 have B0:=(Below.refl w.heap.size w).alloc (Nat.le_refl _) (.cells #[.int .i64 op,.int .i64 a,.int .i64 b,.int .i64 c,.int .i64 d] 48)
 have HB:Hid (gfitB ⟨op,a,b,c,d⟩ gs=true):=by
  show _=_
  try rw [←hm.out]
  unfold gfitB
  simp [h31,h33,h32,h34,h35,h36]
 have t31:(op == 31)=false:=by simpa using h31
 have t33:(op == 33)=false:=by simpa using h33
 have t32:(op == 32)=false:=by simpa using h32
 have t34:(op == 34)=false:=by simpa using h34
 have t35:(op == 35)=false:=by simpa using h35
 have t36:(op == 36)=false:=by simpa using h36
 clear h31 h33 h32 h34 h35 h36
 go_enter Tryz.func307,Tryz.ntmps307
 go_wp2_with fail
 refine (keptBelow_at ao cap m gs _ hm hml (hx.later (Keeps.of_below B0))).mono ?_
 rintro e w1 ⟨rfl,hw1⟩
 have B1:=B0.trans (hw1.mono (by simp))
 have n1:=(N0.later hw1).cell
 have hx1:=hx.later (Keeps.of_below B1)
 generalize maxKeep gs=mk at *
 clear hw1 N0 B0 hx
 rcases m with _ | k
 ·have HL:Hid (lastTr gs=none):=by have:gs=[]:=List.length_eq_zero_iff.1 hm.out;show _=_;rw [this];rfl
  have hx1':=hx1
  clear hx1 hx1'
  go_wp2_with fail
  all_goals
   go_ret
   exact⟨ret_bool HB.out.symm,B1⟩
 ·obtain⟨q,hq⟩:=some_of_lt (show k<gs.length by rw [hm.out];omega)
  obtain⟨gb,gof,rfl,_,hgl,q0,_,_⟩:=hx1 k q hq
  have HL:Hid (lastTr gs=some q.tr):=lastTr_of hm.out hq
  obtain⟨t0,t1,t2⟩:=q
  dsimp only at *
  have k1:((k:Int)+1 - 1)=k:=by omega
  have k2:(0:Int)<(k:Int)+1:=by omega
  clear hq hx1
  cases t0
  ·go_wp2_with fail
   all_goals
    go_ret
    exact⟨ret_bool HB.out.symm,B1⟩
  ·go_wp2_with fail
   all_goals
    go_ret
    exact⟨ret_bool HB.out.symm,B1⟩
theorem guardsFit_any (n:Nd) (ao:Option Addr) (cap m:Nat) (gs:List Gd) (w:World) (hm:Hid (gs.length=m)) (hml:m≤50) (hx:GdsAt 0 w ao gs) :
  Calls Tryz.prog 307 #[n.val,.slice ao m cap] w fun e w'=>e=.returned (.bool (gfitB n gs))∧Below w.heap.size w w':=by
 obtain⟨op,a,b,c,d⟩:=n
 by_cases h31:op=31
 ·subst h31;exact guardsFit_31 a b c d ao cap m gs w hm hml hx
 by_cases h33:op=33
 ·subst h33;exact guardsFit_33 a b c d ao cap m gs w hm hml hx
 by_cases h32:op=32
 ·subst h32;exact guardsFit_32 a b c d ao cap m gs w hm hml hx
 by_cases h34:op=34
 ·subst h34;exact guardsFit_34 a b c d ao cap m gs w hm hml hx
 by_cases h35:op=35
 ·subst h35;exact guardsFit_35 a b c d ao cap m gs w hm hml hx
 by_cases h36:op=36
 ·subst h36;exact guardsFit_36 a b c d ao cap m gs w hm hml hx
 exact guardsFit_other op a b c d ao cap m gs w hm hml hx h31 h33 h32 h34 h35 h36
end Go.Proofs.YtgopdffmnikhdaaGreatDoor
