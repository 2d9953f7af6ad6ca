import Derived.Test.YtbefeflgjipfhaaGreatDoorF34
set_option maxRecDepth 100000
set_option maxHeartbeats 3200000
namespace Go.Proofs.YtbefeflgjipfhaaGreatDoor
open Go.Deep Go.Proofs.Tryz Go.RowKit
theorem Dp (ao:Option Addr) (cap m:Nat) (gs:List Gd) (w:World) (hm:Hid (gs.length=m)) (hml:m<=50) (hx:Er 0 w ao gs) :
  Kw 325 #[.slice ao m cap] w (.int .i64 (Ap gs)):=by
 obtain rfl:=hm.out;exact Kl ao cap gs w (by omega) hx
theorem Vh (a b c d:Int) (ao:Option Addr) (cap m:Nat) (gs:List Gd) (w:World) (hm:Hid (gs.length=m)) (hml:m<=50) (hx:Er 0 w ao gs) :
  Kw 321 #[.agg #[.int .i64 31,.int .i64 a,.int .i64 b,.int .i64 c,.int .i64 d],.slice ao m cap] w (.bool (Ct ⟨31,a,b,c,d⟩ gs)):=by
 have N0:=Blk.new w #[.int .i64 31,.int .i64 a,.int .i64 b,.int .i64 c,.int .i64 d] 58;have B0:=(yA w.heap.size w).alloc (yB _) (.cells #[.int .i64 31,.int .i64 a,.int .i64 b,.int .i64 c,.int .i64 d] 58);have HB:Hid (Ct ⟨31,a,b,c,d⟩ gs=(decide (m<50)&&decide (Ap gs<=b))):=by
  show _=_;try rw[←hm.out]
  unfold Ct;simp
 (try unfold Kw);go_in;go_wp2_with fail;refine(Dp ao cap m gs _ hm hml (hx.l (Ad.o B0))).mono ?_;rintro e w1 ⟨rfl,hw1⟩;have B1:=B0.trans (hw1.mono (by simp));have n1:=(N0.l hw1).cell;have hx1:=hx.l (Ad.o B1);generalize Ap gs=mk at *;clear hw1 N0 B0 hx;rcases m with _|k
 ·have HL:Hid (Cb gs=none):=by have:gs=[]:=yW.1 hm.out;show _=_;rw[this];rfl
  have hx1':=hx1;clear hx1 hx1';go_wp2_with fail;all_goals
   go_ret;refine⟨Ac ?_,B1⟩;rw[HB.out];simp;try omega
 ·obtain⟨q,hq⟩:=Ah (show k<gs.length by rw[hm.out];omega);obtain⟨gb,gof,rfl,_,hgl,q0,_,_⟩:=hx1 k q hq;have HL:Hid (Cb gs=some q.tr):=Fz hm.out hq;obtain⟨t0,t1,t2⟩:=q;dsimp only at *;have k1:((k:Int)+1-1)=k:=by omega
  have k2:(0:Int)<(k:Int)+1:=by omega
  clear hq hx1;cases t0
  ·go_wp2_with fail;all_goals
    go_ret;refine⟨Ac ?_,B1⟩;rw[HB.out];simp;try omega
  ·go_wp2_with fail;all_goals
    go_ret;refine⟨Ac ?_,B1⟩;rw[HB.out];simp;try omega
theorem Vj (a b c d:Int) (ao:Option Addr) (cap m:Nat) (gs:List Gd) (w:World) (hm:Hid (gs.length=m)) (hml:m<=50) (hx:Er 0 w ao gs) :
  Kw 321 #[.agg #[.int .i64 33,.int .i64 a,.int .i64 b,.int .i64 c,.int .i64 d],.slice ao m cap] w (.bool (Ct ⟨33,a,b,c,d⟩ gs)):=by
 have N0:=Blk.new w #[.int .i64 33,.int .i64 a,.int .i64 b,.int .i64 c,.int .i64 d] 58;have B0:=(yA w.heap.size w).alloc (yB _) (.cells #[.int .i64 33,.int .i64 a,.int .i64 b,.int .i64 c,.int .i64 d] 58);have HB:Hid (Ct ⟨33,a,b,c,d⟩ gs=(decide (m<50)&&decide (Ap gs<=a))):=by
  show _=_;try rw[←hm.out]
  unfold Ct;simp
 (try unfold Kw);go_in;go_wp2_with fail;refine(Dp ao cap m gs _ hm hml (hx.l (Ad.o B0))).mono ?_;rintro e w1 ⟨rfl,hw1⟩;have B1:=B0.trans (hw1.mono (by simp));have n1:=(N0.l hw1).cell;have hx1:=hx.l (Ad.o B1);generalize Ap gs=mk at *;clear hw1 N0 B0 hx;rcases m with _|k
 ·have HL:Hid (Cb gs=none):=by have:gs=[]:=yW.1 hm.out;show _=_;rw[this];rfl
  have hx1':=hx1;clear hx1 hx1';go_wp2_with fail;all_goals
   go_ret;refine⟨Ac ?_,B1⟩;rw[HB.out];simp;try omega
 ·obtain⟨q,hq⟩:=Ah (show k<gs.length by rw[hm.out];omega);obtain⟨gb,gof,rfl,_,hgl,q0,_,_⟩:=hx1 k q hq;have HL:Hid (Cb gs=some q.tr):=Fz hm.out hq;obtain⟨t0,t1,t2⟩:=q;dsimp only at *;have k1:((k:Int)+1-1)=k:=by omega
  have k2:(0:Int)<(k:Int)+1:=by omega
  clear hq hx1;cases t0
  ·go_wp2_with fail;all_goals
    go_ret;refine⟨Ac ?_,B1⟩;rw[HB.out];simp;try omega
  ·go_wp2_with fail;all_goals
    go_ret;refine⟨Ac ?_,B1⟩;rw[HB.out];simp;try omega
theorem Vi (a b c d:Int) (ao:Option Addr) (cap m:Nat) (gs:List Gd) (w:World) (hm:Hid (gs.length=m)) (hml:m<=50) (hx:Er 0 w ao gs) :
  Kw 321 #[.agg #[.int .i64 32,.int .i64 a,.int .i64 b,.int .i64 c,.int .i64 d],.slice ao m cap] w (.bool (Ct ⟨32,a,b,c,d⟩ gs)):=by
 have N0:=Blk.new w #[.int .i64 32,.int .i64 a,.int .i64 b,.int .i64 c,.int .i64 d] 58;have B0:=(yA w.heap.size w).alloc (yB _) (.cells #[.int .i64 32,.int .i64 a,.int .i64 b,.int .i64 c,.int .i64 d] 58);have HB:Hid (Ct ⟨32,a,b,c,d⟩ gs=decide (Cb gs=some true)):=by
  show _=_;try rw[←hm.out]
  unfold Ct;simp
 (try unfold Kw);go_in;go_wp2_with fail;refine(Dp ao cap m gs _ hm hml (hx.l (Ad.o B0))).mono ?_;rintro e w1 ⟨rfl,hw1⟩;have B1:=B0.trans (hw1.mono (by simp));have n1:=(N0.l hw1).cell;have hx1:=hx.l (Ad.o B1);generalize Ap gs=mk at *;clear hw1 N0 B0 hx;rcases m with _|k
 ·have HL:Hid (Cb gs=none):=by have:gs=[]:=yW.1 hm.out;show _=_;rw[this];rfl
  have hx1':=hx1;clear hx1 hx1';go_wp2_with fail;all_goals
   go_ret;refine⟨Ac ?_,B1⟩;rw[HB.out];simp[HL.out];try omega
 ·obtain⟨q,hq⟩:=Ah (show k<gs.length by rw[hm.out];omega);obtain⟨gb,gof,rfl,_,hgl,q0,_,_⟩:=hx1 k q hq;have HL:Hid (Cb gs=some q.tr):=Fz hm.out hq;obtain⟨t0,t1,t2⟩:=q;dsimp only at *;have k1:((k:Int)+1-1)=k:=by omega
  have k2:(0:Int)<(k:Int)+1:=by omega
  clear hq hx1;cases t0
  ·go_wp2_with fail;all_goals
    go_ret;refine⟨Ac ?_,B1⟩;rw[HB.out];simp[HL.out];try omega
  ·go_wp2_with fail;all_goals
    go_ret;refine⟨Ac ?_,B1⟩;rw[HB.out];simp[HL.out];try omega
theorem Vk (a b c d:Int) (ao:Option Addr) (cap m:Nat) (gs:List Gd) (w:World) (hm:Hid (gs.length=m)) (hml:m<=50) (hx:Er 0 w ao gs) :
  Kw 321 #[.agg #[.int .i64 34,.int .i64 a,.int .i64 b,.int .i64 c,.int .i64 d],.slice ao m cap] w (.bool (Ct ⟨34,a,b,c,d⟩ gs)):=by
 have N0:=Blk.new w #[.int .i64 34,.int .i64 a,.int .i64 b,.int .i64 c,.int .i64 d] 58;have B0:=(yA w.heap.size w).alloc (yB _) (.cells #[.int .i64 34,.int .i64 a,.int .i64 b,.int .i64 c,.int .i64 d] 58);have HB:Hid (Ct ⟨34,a,b,c,d⟩ gs=(decide (Cb gs=some false)&&decide (Ap gs<=a))):=by
  show _=_;try rw[←hm.out]
  unfold Ct;simp
 (try unfold Kw);go_in;go_wp2_with fail;refine(Dp ao cap m gs _ hm hml (hx.l (Ad.o B0))).mono ?_;rintro e w1 ⟨rfl,hw1⟩;have B1:=B0.trans (hw1.mono (by simp));have n1:=(N0.l hw1).cell;have hx1:=hx.l (Ad.o B1);generalize Ap gs=mk at *;clear hw1 N0 B0 hx;rcases m with _|k
 ·have HL:Hid (Cb gs=none):=by have:gs=[]:=yW.1 hm.out;show _=_;rw[this];rfl
  have hx1':=hx1;clear hx1 hx1';go_wp2_with fail;all_goals
   go_ret;refine⟨Ac ?_,B1⟩;rw[HB.out];simp[HL.out];try omega
 ·obtain⟨q,hq⟩:=Ah (show k<gs.length by rw[hm.out];omega);obtain⟨gb,gof,rfl,_,hgl,q0,_,_⟩:=hx1 k q hq;have HL:Hid (Cb gs=some q.tr):=Fz hm.out hq;obtain⟨t0,t1,t2⟩:=q;dsimp only at *;have k1:((k:Int)+1-1)=k:=by omega
  have k2:(0:Int)<(k:Int)+1:=by omega
  clear hq hx1;cases t0
  ·go_wp2_with fail;all_goals
    go_ret;refine⟨Ac ?_,B1⟩;rw[HB.out];simp[HL.out];try omega
  ·go_wp2_with fail;all_goals
    go_ret;refine⟨Ac ?_,B1⟩;rw[HB.out];simp[HL.out];try omega
theorem Vl (a b c d:Int) (ao:Option Addr) (cap m:Nat) (gs:List Gd) (w:World) (hm:Hid (gs.length=m)) (hml:m<=50) (hx:Er 0 w ao gs) :
  Kw 321 #[.agg #[.int .i64 35,.int .i64 a,.int .i64 b,.int .i64 c,.int .i64 d],.slice ao m cap] w (.bool (Ct ⟨35,a,b,c,d⟩ gs)):=by
 have N0:=Blk.new w #[.int .i64 35,.int .i64 a,.int .i64 b,.int .i64 c,.int .i64 d] 58;have B0:=(yA w.heap.size w).alloc (yB _) (.cells #[.int .i64 35,.int .i64 a,.int .i64 b,.int .i64 c,.int .i64 d] 58);have HB:Hid (Ct ⟨35,a,b,c,d⟩ gs=decide (Cb gs=some false)):=by
  show _=_;try rw[←hm.out]
  unfold Ct;simp
 (try unfold Kw);go_in;go_wp2_with fail;refine(Dp ao cap m gs _ hm hml (hx.l (Ad.o B0))).mono ?_;rintro e w1 ⟨rfl,hw1⟩;have B1:=B0.trans (hw1.mono (by simp));have n1:=(N0.l hw1).cell;have hx1:=hx.l (Ad.o B1);generalize Ap gs=mk at *;clear hw1 N0 B0 hx;rcases m with _|k
 ·have HL:Hid (Cb gs=none):=by have:gs=[]:=yW.1 hm.out;show _=_;rw[this];rfl
  have hx1':=hx1;clear hx1 hx1';go_wp2_with fail;all_goals
   go_ret;refine⟨Ac ?_,B1⟩;rw[HB.out];simp[HL.out];try omega
 ·obtain⟨q,hq⟩:=Ah (show k<gs.length by rw[hm.out];omega);obtain⟨gb,gof,rfl,_,hgl,q0,_,_⟩:=hx1 k q hq;have HL:Hid (Cb gs=some q.tr):=Fz hm.out hq;obtain⟨t0,t1,t2⟩:=q;dsimp only at *;have k1:((k:Int)+1-1)=k:=by omega
  have k2:(0:Int)<(k:Int)+1:=by omega
  clear hq hx1;cases t0
  ·go_wp2_with fail;all_goals
    go_ret;refine⟨Ac ?_,B1⟩;rw[HB.out];simp[HL.out];try omega
  ·go_wp2_with fail;all_goals
    go_ret;refine⟨Ac ?_,B1⟩;rw[HB.out];simp[HL.out];try omega
theorem Vm (a b c d:Int) (ao:Option Addr) (cap m:Nat) (gs:List Gd) (w:World) (hm:Hid (gs.length=m)) (hml:m<=50) (hx:Er 0 w ao gs) :
  Kw 321 #[.agg #[.int .i64 36,.int .i64 a,.int .i64 b,.int .i64 c,.int .i64 d],.slice ao m cap] w (.bool (Ct ⟨36,a,b,c,d⟩ gs)):=by
 have N0:=Blk.new w #[.int .i64 36,.int .i64 a,.int .i64 b,.int .i64 c,.int .i64 d] 58;have B0:=(yA w.heap.size w).alloc (yB _) (.cells #[.int .i64 36,.int .i64 a,.int .i64 b,.int .i64 c,.int .i64 d] 58);have HB:Hid (Ct ⟨36,a,b,c,d⟩ gs=decide (Cb gs=some false)):=by
  show _=_;try rw[←hm.out]
  unfold Ct;simp
 (try unfold Kw);go_in;go_wp2_with fail;refine(Dp ao cap m gs _ hm hml (hx.l (Ad.o B0))).mono ?_;rintro e w1 ⟨rfl,hw1⟩;have B1:=B0.trans (hw1.mono (by simp));have n1:=(N0.l hw1).cell;have hx1:=hx.l (Ad.o B1);generalize Ap gs=mk at *;clear hw1 N0 B0 hx;rcases m with _|k
 ·have HL:Hid (Cb gs=none):=by have:gs=[]:=yW.1 hm.out;show _=_;rw[this];rfl
  have hx1':=hx1;clear hx1 hx1';go_wp2_with fail;all_goals
   go_ret;refine⟨Ac ?_,B1⟩;rw[HB.out];simp[HL.out];try omega
 ·obtain⟨q,hq⟩:=Ah (show k<gs.length by rw[hm.out];omega);obtain⟨gb,gof,rfl,_,hgl,q0,_,_⟩:=hx1 k q hq;have HL:Hid (Cb gs=some q.tr):=Fz hm.out hq;obtain⟨t0,t1,t2⟩:=q;dsimp only at *;have k1:((k:Int)+1-1)=k:=by omega
  have k2:(0:Int)<(k:Int)+1:=by omega
  clear hq hx1;cases t0
  ·go_wp2_with fail;all_goals
    go_ret;refine⟨Ac ?_,B1⟩;rw[HB.out];simp[HL.out];try omega
  ·go_wp2_with fail;all_goals
    go_ret;refine⟨Ac ?_,B1⟩;rw[HB.out];simp[HL.out];try omega
theorem Pz (op a b c d:Int) (ao:Option Addr) (cap m:Nat) (gs:List Gd) (w:World) (hm:Hid (gs.length=m)) (hml:m<=50) (hx:Er 0 w ao gs) (h31:op≠31) (h33:op≠33) (h32:op≠32) (h34:op≠34) (h35:op≠35) (h36:op≠36) :
  Kw 321 #[.agg #[.int .i64 op,.int .i64 a,.int .i64 b,.int .i64 c,.int .i64 d],.slice ao m cap] w (.bool (Ct ⟨op,a,b,c,d⟩ gs)):=by
 have N0:=Blk.new w #[.int .i64 op,.int .i64 a,.int .i64 b,.int .i64 c,.int .i64 d] 58;have B0:=(yA w.heap.size w).alloc (yB _) (.cells #[.int .i64 op,.int .i64 a,.int .i64 b,.int .i64 c,.int .i64 d] 58);have HB:Hid (Ct ⟨op,a,b,c,d⟩ gs=true):=by
  show _=_;try rw[←hm.out]
  unfold Ct;simp[h31,h33,h32,h34,h35,h36]
 have t31:(op==31)=false:=by simpa using h31
 have t33:(op==33)=false:=by simpa using h33
 have t32:(op==32)=false:=by simpa using h32
 have t34:(op==34)=false:=by simpa using h34
 have t35:(op==35)=false:=by simpa using h35
 have t36:(op==36)=false:=by simpa using h36
 clear h31 h33 h32 h34 h35 h36;(try unfold Kw);go_in;go_wp2_with fail;refine(Dp ao cap m gs _ hm hml (hx.l (Ad.o B0))).mono ?_;rintro e w1 ⟨rfl,hw1⟩;have B1:=B0.trans (hw1.mono (by simp));have n1:=(N0.l hw1).cell;have hx1:=hx.l (Ad.o B1);generalize Ap gs=mk at *;clear hw1 N0 B0 hx;rcases m with _|k
 ·have HL:Hid (Cb gs=none):=by have:gs=[]:=yW.1 hm.out;show _=_;rw[this];rfl
  have hx1':=hx1;clear hx1 hx1';go_wp2_with fail;all_goals
   go_ret;exact⟨Ac HB.out.symm,B1⟩
 ·obtain⟨q,hq⟩:=Ah (show k<gs.length by rw[hm.out];omega);obtain⟨gb,gof,rfl,_,hgl,q0,_,_⟩:=hx1 k q hq;have HL:Hid (Cb gs=some q.tr):=Fz hm.out hq;obtain⟨t0,t1,t2⟩:=q;dsimp only at *;have k1:((k:Int)+1-1)=k:=by omega
  have k2:(0:Int)<(k:Int)+1:=by omega
  clear hq hx1;cases t0
  ·go_wp2_with fail;all_goals
    go_ret;exact⟨Ac HB.out.symm,B1⟩
  ·go_wp2_with fail;all_goals
    go_ret;exact⟨Ac HB.out.symm,B1⟩
theorem Ki (n:Nd) (ao:Option Addr) (cap m:Nat) (gs:List Gd) (w:World) (hm:Hid (gs.length=m)) (hml:m<=50) (hx:Er 0 w ao gs) :
  Kw 321 #[n.val,.slice ao m cap] w (.bool (Ct n gs)):=by
 obtain⟨op,a,b,c,d⟩:=n;by_cases h31:op=31
 ·subst h31;exact Vh a b c d ao cap m gs w hm hml hx
 by_cases h33:op=33
 ·subst h33;exact Vj a b c d ao cap m gs w hm hml hx
 by_cases h32:op=32
 ·subst h32;exact Vi a b c d ao cap m gs w hm hml hx
 by_cases h34:op=34
 ·subst h34;exact Vk a b c d ao cap m gs w hm hml hx
 by_cases h35:op=35
 ·subst h35;exact Vl a b c d ao cap m gs w hm hml hx
 by_cases h36:op=36
 ·subst h36;exact Vm a b c d ao cap m gs w hm hml hx
 exact Pz op a b c d ao cap m gs w hm hml hx h31 h33 h32 h34 h35 h36
end Go.Proofs.YtbefeflgjipfhaaGreatDoor
