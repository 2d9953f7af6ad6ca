import Derived.Test.YtjbbppblgjhapaaGreatDoorJ12
import Derived.Test.YtjbbppblgjhapaaGreatDoorJ13
set_option maxRecDepth 100000
set_option maxHeartbeats 8000000
namespace Go.Proofs.YtjbbppblgjhapaaGreatDoor
open Go.Deep Go.Proofs.Tryz Go.RowKit
variable{a:Act}{want x:Int}{ts xs:List Int}{rs:List Nat}{b g n r:Nat}{o:Oper}{E:Prop}{t:TypeId}{w:World}
theorem Fh (ao:Option Addr) (cap m:Nat) (gs:List Gd) (w:World) (hm:Hid (gs.length=m)) (hml:m<=50) (hx:Bn 0 w ao gs) :
  Kw 191 #[.slice ao m cap] w (Bc gs:Int):=by
 obtain rfl:=hm.out;exact Ol ao cap gs w (by omega) hx
theorem Zz (a b c d:Int) (ao:Option Addr) (cap m:Nat) (gs:List Gd) (w:World) (hm:Hid (gs.length=m)) (hml:m<=50) (hx:Bn 0 w ao gs) :
  Kw 187 #[.agg #[(31:Int),a,b,c,d],.slice ao m cap] w (.bool (E9 ⟨31,a,b,c,d⟩ gs)):=by
 have N0:=Blk.new w #[(31:Int),a,b,c,d] 81;have B0:=(yA (w:Nat) w).alloc (yB _) (.cells #[(31:Int),a,b,c,d] 81);have HB:Hid (E9 ⟨31,a,b,c,d⟩ gs=(decide (m<50)&&decide (Bc gs<=b))):=by
  show _=_;try rw[←hm.out]
  unfold E9;simp
 unfold Kw;go_in;go_wp2_with fail;refine(Fh ao cap m gs _ hm hml (hx.l (A7.o B0))).mono ?_;rintro e w1 ⟨rfl,hw1⟩;have B1:=B0.trans (hw1.mono (by simp));have n1:=(N0.l hw1).cell;have hx1:=hx.l (A7.o B1);generalize Bc gs=mk at *;clear hw1 N0 B0 hx;rcases m with _|k
 ·have HL:Hid (Cz gs=none):=by have:gs=[]:=yW.1 hm.out;show _=_;rw[this];rfl
  have hx1':=hx1;clear hx1 hx1';go_wp2_with fail;all_goals
   go_ret;refine⟨Ab ?_,B1⟩;rw[HB.out];simp;try omega
 ·obtain⟨q,hq⟩:=A8 (show k<gs.length by rw[hm.out];omega);obtain⟨gb,gof,rfl,_,hgl,q0,_,_⟩:=hx1 k q hq;have HL:Hid _:=Ev hm.out hq;obtain⟨t0,t1,t2⟩:=q;dsimp only at *;have k1:((k:Int)+1-1)=k:=by omega
  have k2:(0:Int)<(k:Int)+1:=by omega
  clear hq hx1;cases t0
  ·go_wp2_with fail;all_goals
    go_ret;refine⟨Ab ?_,B1⟩;rw[HB.out];simp;try omega
  ·go_wp2_with fail;all_goals
    go_ret;refine⟨Ab ?_,B1⟩;rw[HB.out];simp;try omega
theorem A01 (a b c d:Int) (ao:Option Addr) (cap m:Nat) (gs:List Gd) (w:World) (hm:Hid (gs.length=m)) (hml:m<=50) (hx:Bn 0 w ao gs) :
  Kw 187 #[.agg #[(33:Int),a,b,c,d],.slice ao m cap] w (.bool (E9 ⟨33,a,b,c,d⟩ gs)):=by
 have N0:=Blk.new w #[(33:Int),a,b,c,d] 81;have B0:=(yA (w:Nat) w).alloc (yB _) (.cells #[(33:Int),a,b,c,d] 81);have HB:Hid (E9 ⟨33,a,b,c,d⟩ gs=(decide (m<50)&&decide (Bc gs<=a))):=by
  show _=_;try rw[←hm.out]
  unfold E9;simp
 unfold Kw;go_in;go_wp2_with fail;refine(Fh ao cap m gs _ hm hml (hx.l (A7.o B0))).mono ?_;rintro e w1 ⟨rfl,hw1⟩;have B1:=B0.trans (hw1.mono (by simp));have n1:=(N0.l hw1).cell;have hx1:=hx.l (A7.o B1);generalize Bc gs=mk at *;clear hw1 N0 B0 hx;rcases m with _|k
 ·have HL:Hid (Cz gs=none):=by have:gs=[]:=yW.1 hm.out;show _=_;rw[this];rfl
  have hx1':=hx1;clear hx1 hx1';go_wp2_with fail;all_goals
   go_ret;refine⟨Ab ?_,B1⟩;rw[HB.out];simp;try omega
 ·obtain⟨q,hq⟩:=A8 (show k<gs.length by rw[hm.out];omega);obtain⟨gb,gof,rfl,_,hgl,q0,_,_⟩:=hx1 k q hq;have HL:Hid _:=Ev hm.out hq;obtain⟨t0,t1,t2⟩:=q;dsimp only at *;have k1:((k:Int)+1-1)=k:=by omega
  have k2:(0:Int)<(k:Int)+1:=by omega
  clear hq hx1;cases t0
  ·go_wp2_with fail;all_goals
    go_ret;refine⟨Ab ?_,B1⟩;rw[HB.out];simp;try omega
  ·go_wp2_with fail;all_goals
    go_ret;refine⟨Ab ?_,B1⟩;rw[HB.out];simp;try omega
theorem A00 (a b c d:Int) (ao:Option Addr) (cap m:Nat) (gs:List Gd) (w:World) (hm:Hid (gs.length=m)) (hml:m<=50) (hx:Bn 0 w ao gs) :
  Kw 187 #[.agg #[(32:Int),a,b,c,d],.slice ao m cap] w (.bool (E9 ⟨32,a,b,c,d⟩ gs)):=by
 have N0:=Blk.new w #[(32:Int),a,b,c,d] 81;have B0:=(yA (w:Nat) w).alloc (yB _) (.cells #[(32:Int),a,b,c,d] 81);have HB:Hid (E9 ⟨32,a,b,c,d⟩ gs=decide (Cz gs=some true)):=by
  show _=_;try rw[←hm.out]
  unfold E9;simp
 unfold Kw;go_in;go_wp2_with fail;refine(Fh ao cap m gs _ hm hml (hx.l (A7.o B0))).mono ?_;rintro e w1 ⟨rfl,hw1⟩;have B1:=B0.trans (hw1.mono (by simp));have n1:=(N0.l hw1).cell;have hx1:=hx.l (A7.o B1);generalize Bc gs=mk at *;clear hw1 N0 B0 hx;rcases m with _|k
 ·have HL:Hid (Cz gs=none):=by have:gs=[]:=yW.1 hm.out;show _=_;rw[this];rfl
  have hx1':=hx1;clear hx1 hx1';go_wp2_with fail;all_goals
   go_ret;refine⟨Ab ?_,B1⟩;rw[HB.out];simp[HL.out];try omega
 ·obtain⟨q,hq⟩:=A8 (show k<gs.length by rw[hm.out];omega);obtain⟨gb,gof,rfl,_,hgl,q0,_,_⟩:=hx1 k q hq;have HL:Hid _:=Ev hm.out hq;obtain⟨t0,t1,t2⟩:=q;dsimp only at *;have k1:((k:Int)+1-1)=k:=by omega
  have k2:(0:Int)<(k:Int)+1:=by omega
  clear hq hx1;cases t0
  ·go_wp2_with fail;all_goals
    go_ret;refine⟨Ab ?_,B1⟩;rw[HB.out];simp[HL.out];try omega
  ·go_wp2_with fail;all_goals
    go_ret;refine⟨Ab ?_,B1⟩;rw[HB.out];simp[HL.out];try omega
theorem A02 (a b c d:Int) (ao:Option Addr) (cap m:Nat) (gs:List Gd) (w:World) (hm:Hid (gs.length=m)) (hml:m<=50) (hx:Bn 0 w ao gs) :
  Kw 187 #[.agg #[(34:Int),a,b,c,d],.slice ao m cap] w (.bool (E9 ⟨34,a,b,c,d⟩ gs)):=by
 have N0:=Blk.new w #[(34:Int),a,b,c,d] 81;have B0:=(yA (w:Nat) w).alloc (yB _) (.cells #[(34:Int),a,b,c,d] 81);have HB:Hid (E9 ⟨34,a,b,c,d⟩ gs=(decide (Cz gs=some false)&&decide (Bc gs<=a))):=by
  show _=_;try rw[←hm.out]
  unfold E9;simp
 unfold Kw;go_in;go_wp2_with fail;refine(Fh ao cap m gs _ hm hml (hx.l (A7.o B0))).mono ?_;rintro e w1 ⟨rfl,hw1⟩;have B1:=B0.trans (hw1.mono (by simp));have n1:=(N0.l hw1).cell;have hx1:=hx.l (A7.o B1);generalize Bc gs=mk at *;clear hw1 N0 B0 hx;rcases m with _|k
 ·have HL:Hid (Cz gs=none):=by have:gs=[]:=yW.1 hm.out;show _=_;rw[this];rfl
  have hx1':=hx1;clear hx1 hx1';go_wp2_with fail;all_goals
   go_ret;refine⟨Ab ?_,B1⟩;rw[HB.out];simp[HL.out];try omega
 ·obtain⟨q,hq⟩:=A8 (show k<gs.length by rw[hm.out];omega);obtain⟨gb,gof,rfl,_,hgl,q0,_,_⟩:=hx1 k q hq;have HL:Hid _:=Ev hm.out hq;obtain⟨t0,t1,t2⟩:=q;dsimp only at *;have k1:((k:Int)+1-1)=k:=by omega
  have k2:(0:Int)<(k:Int)+1:=by omega
  clear hq hx1;cases t0
  ·go_wp2_with fail;all_goals
    go_ret;refine⟨Ab ?_,B1⟩;rw[HB.out];simp[HL.out];try omega
  ·go_wp2_with fail;all_goals
    go_ret;refine⟨Ab ?_,B1⟩;rw[HB.out];simp[HL.out];try omega
theorem A03 (a b c d:Int) (ao:Option Addr) (cap m:Nat) (gs:List Gd) (w:World) (hm:Hid (gs.length=m)) (hml:m<=50) (hx:Bn 0 w ao gs) :
  Kw 187 #[.agg #[(35:Int),a,b,c,d],.slice ao m cap] w (.bool (E9 ⟨35,a,b,c,d⟩ gs)):=by
 have N0:=Blk.new w #[(35:Int),a,b,c,d] 81;have B0:=(yA (w:Nat) w).alloc (yB _) (.cells #[(35:Int),a,b,c,d] 81);have HB:Hid (E9 ⟨35,a,b,c,d⟩ gs=decide (Cz gs=some false)):=by
  show _=_;try rw[←hm.out]
  unfold E9;simp
 unfold Kw;go_in;go_wp2_with fail;refine(Fh ao cap m gs _ hm hml (hx.l (A7.o B0))).mono ?_;rintro e w1 ⟨rfl,hw1⟩;have B1:=B0.trans (hw1.mono (by simp));have n1:=(N0.l hw1).cell;have hx1:=hx.l (A7.o B1);generalize Bc gs=mk at *;clear hw1 N0 B0 hx;rcases m with _|k
 ·have HL:Hid (Cz gs=none):=by have:gs=[]:=yW.1 hm.out;show _=_;rw[this];rfl
  have hx1':=hx1;clear hx1 hx1';go_wp2_with fail;all_goals
   go_ret;refine⟨Ab ?_,B1⟩;rw[HB.out];simp[HL.out];try omega
 ·obtain⟨q,hq⟩:=A8 (show k<gs.length by rw[hm.out];omega);obtain⟨gb,gof,rfl,_,hgl,q0,_,_⟩:=hx1 k q hq;have HL:Hid _:=Ev hm.out hq;obtain⟨t0,t1,t2⟩:=q;dsimp only at *;have k1:((k:Int)+1-1)=k:=by omega
  have k2:(0:Int)<(k:Int)+1:=by omega
  clear hq hx1;cases t0
  ·go_wp2_with fail;all_goals
    go_ret;refine⟨Ab ?_,B1⟩;rw[HB.out];simp[HL.out];try omega
  ·go_wp2_with fail;all_goals
    go_ret;refine⟨Ab ?_,B1⟩;rw[HB.out];simp[HL.out];try omega
theorem A04 (a b c d:Int) (ao:Option Addr) (cap m:Nat) (gs:List Gd) (w:World) (hm:Hid (gs.length=m)) (hml:m<=50) (hx:Bn 0 w ao gs) :
  Kw 187 #[.agg #[(36:Int),a,b,c,d],.slice ao m cap] w (.bool (E9 ⟨36,a,b,c,d⟩ gs)):=by
 have N0:=Blk.new w #[(36:Int),a,b,c,d] 81;have B0:=(yA (w:Nat) w).alloc (yB _) (.cells #[(36:Int),a,b,c,d] 81);have HB:Hid (E9 ⟨36,a,b,c,d⟩ gs=decide (Cz gs=some false)):=by
  show _=_;try rw[←hm.out]
  unfold E9;simp
 unfold Kw;go_in;go_wp2_with fail;refine(Fh ao cap m gs _ hm hml (hx.l (A7.o B0))).mono ?_;rintro e w1 ⟨rfl,hw1⟩;have B1:=B0.trans (hw1.mono (by simp));have n1:=(N0.l hw1).cell;have hx1:=hx.l (A7.o B1);generalize Bc gs=mk at *;clear hw1 N0 B0 hx;rcases m with _|k
 ·have HL:Hid (Cz gs=none):=by have:gs=[]:=yW.1 hm.out;show _=_;rw[this];rfl
  have hx1':=hx1;clear hx1 hx1';go_wp2_with fail;all_goals
   go_ret;refine⟨Ab ?_,B1⟩;rw[HB.out];simp[HL.out];try omega
 ·obtain⟨q,hq⟩:=A8 (show k<gs.length by rw[hm.out];omega);obtain⟨gb,gof,rfl,_,hgl,q0,_,_⟩:=hx1 k q hq;have HL:Hid _:=Ev hm.out hq;obtain⟨t0,t1,t2⟩:=q;dsimp only at *;have k1:((k:Int)+1-1)=k:=by omega
  have k2:(0:Int)<(k:Int)+1:=by omega
  clear hq hx1;cases t0
  ·go_wp2_with fail;all_goals
    go_ret;refine⟨Ab ?_,B1⟩;rw[HB.out];simp[HL.out];try omega
  ·go_wp2_with fail;all_goals
    go_ret;refine⟨Ab ?_,B1⟩;rw[HB.out];simp[HL.out];try omega
theorem U0 (op a b c d:Int) (ao:Option Addr) (cap m:Nat) (gs:List Gd) (w:World) (hm:Hid (gs.length=m)) (hml:m<=50) (hx:Bn 0 w ao gs) (h31:op≠31) (h33:op≠33) (h32:op≠32) (h34:op≠34) (h35:op≠35) (h36:op≠36) :
  Kw 187 #[.agg #[op,a,b,c,d],.slice ao m cap] w (.bool (E9 ⟨op,a,b,c,d⟩ gs)):=by
 have N0:=Blk.new w #[op,a,b,c,d] 81;have B0:=(yA (w:Nat) w).alloc (yB _) (.cells #[op,a,b,c,d] 81);have HB:Hid (E9 ⟨op,a,b,c,d⟩ gs=true):=by
  show _=_;try rw[←hm.out]
  unfold E9;simp[h31,h33,h32,h34,h35,h36]
 have t31:(op==31)=false:=by simpa using h31
 have t33:(op==33)=false:=by simpa using h33
 have t32:(op==32)=false:=by simpa using h32
 have t34:(op==34)=false:=by simpa using h34
 have t35:(op==35)=false:=by simpa using h35
 have t36:(op==36)=false:=by simpa using h36
 clear h31 h33 h32 h34 h35 h36;unfold Kw;go_in;go_wp2_with fail;refine(Fh ao cap m gs _ hm hml (hx.l (A7.o B0))).mono ?_;rintro e w1 ⟨rfl,hw1⟩;have B1:=B0.trans (hw1.mono (by simp));have n1:=(N0.l hw1).cell;have hx1:=hx.l (A7.o B1);generalize Bc gs=mk at *;clear hw1 N0 B0 hx;rcases m with _|k
 ·have HL:Hid (Cz gs=none):=by have:gs=[]:=yW.1 hm.out;show _=_;rw[this];rfl
  have hx1':=hx1;clear hx1 hx1';go_wp2_with fail;all_goals
   go_ret;exact⟨Ab HB.out.symm,B1⟩
 ·obtain⟨q,hq⟩:=A8 (show k<gs.length by rw[hm.out];omega);obtain⟨gb,gof,rfl,_,hgl,q0,_,_⟩:=hx1 k q hq;have HL:Hid _:=Ev hm.out hq;obtain⟨t0,t1,t2⟩:=q;dsimp only at *;have k1:((k:Int)+1-1)=k:=by omega
  have k2:(0:Int)<(k:Int)+1:=by omega
  clear hq hx1;cases t0
  ·go_wp2_with fail;all_goals
    go_ret;exact⟨Ab HB.out.symm,B1⟩
  ·go_wp2_with fail;all_goals
    go_ret;exact⟨Ab HB.out.symm,B1⟩
theorem Oj (n:Nd) (ao:Option Addr) (cap m:Nat) (gs:List Gd) (w:World) (hm:Hid (gs.length=m)) (hml:m<=50) (hx:Bn 0 w ao gs) :
  Kw 187 #[n.val,.slice ao m cap] w (.bool (E9 n gs)):=by
 obtain⟨op,a,b,c,d⟩:=n;by_cases h31:op=31
 ·subst h31;exact Zz a b c d ao cap m gs w hm hml hx
 by_cases h33:op=33
 ·subst h33;exact A01 a b c d ao cap m gs w hm hml hx
 by_cases h32:op=32
 ·subst h32;exact A00 a b c d ao cap m gs w hm hml hx
 by_cases h34:op=34
 ·subst h34;exact A02 a b c d ao cap m gs w hm hml hx
 by_cases h35:op=35
 ·subst h35;exact A03 a b c d ao cap m gs w hm hml hx
 by_cases h36:op=36
 ·subst h36;exact A04 a b c d ao cap m gs w hm hml hx
 exact U0 op a b c d ao cap m gs w hm hml hx h31 h33 h32 h34 h35 h36
theorem Adp {ops:Array Oper} {K:Act->World->Prop} {Q:Exit->Act->World->Prop} (hgd:o.guard=none) (s x:Operand) (ho:o.op=.call {callee:=.builtin .append,args:=#[s,x],argTypes:=#[99,99]})
  (base:Nat) (v:Value) (n:Nat) (xs:List Int) (u:Int) (B:Nat) (hs:a.eval s=v) (hown:w.ownsRow base 3 1 v n (Az xs)) (hx:a.eval x=.slice B 1 1) (hB:w.cell? (B,0)=some (u:Value))
  (hn:n<=1048576) (hbase:base<=(w:Nat))
  (h:∀v' w',w'.ownsRow base 3 1 v' (n+1) (Az (xs++[u]))->w.grownBy w' v.ownBlock->(v'.ownBlock=v.ownBlock∨v'.ownBlock=some (w:Nat))->K (a.put o.dst v') w') :
  if Region.wanted o (yielded ops a.tmps)=true then Oper.wp prog o a w K Q else E:=by
 have hw:Region.wanted o (yielded ops a.tmps)=true:=by simp[Region.wanted,hgd]
 rw[if_pos hw];obtain⟨i0,hi,hz0,hz1,hz2⟩:=info_parts Tryz.info_int;obtain⟨v',w',hr,h2,h3,h4,h5⟩:=run_append_own_at (P:=prog) w base 99 o.type 3 i0 () 1 8 underlying99 hi hz0 hz1 hz2 rfl (by decide) v n (Az xs) hown ⟨B,0,none⟩ 1 1 [u] rfl (by
  intro j q hj
  match j,hj with
  | 0,hj=>simp at hj;subst hj;simpa[Addr.add]using hB) (by simp[Value.oneCell']) (by unfold maxLen;omega) (by omega) hbase
 unfold Oper.wp execOp;simp only[ho,resolve,invoke,builtin,Sem.run_bind,Sem.run_pure,Result.andThen_ok,List.map_toArray,List.map_cons,List.map_nil,hs,hx,hr];refine h v' w' ?_ h3 h5;simpa[Az]using h2
theorem Abl{cnt:Nat} (h:(r=14/\cnt=1/\want=1)∨(r=15/\cnt=1/\want=2)∨(r=16/\cnt=1/\want=3)∨(r=17/\cnt=2/\want=1)∨(r=18/\cnt=3/\want=1)) (q:Nat) (rd:Rd):Ec want cnt q rd=rdI r (q:Int) rd:=by
 rcases h with ⟨rfl,rfl,rfl⟩|⟨rfl,rfl,rfl⟩|⟨rfl,rfl,rfl⟩|⟨rfl,rfl,rfl⟩|⟨rfl,rfl,rfl⟩
 ·simp[Ec,rdI,Dq]
 ·simp[Ec,rdI,Dq]
 ·simp[Ec,rdI,Dq]
 ·simp only[Ec,rdI];by_cases h1:Ca rd.types (q:Int)=1
  ·by_cases h2:Ca rd.types ((q:Int)+1)=1
   ·simp[h1,h2]
   ·simp[h1,h2]
  ·simp[h1]
 ·simp only[Ec,rdI];by_cases h1:Ca rd.types (q:Int)=1
  ·by_cases h2:Ca rd.types ((q:Int)+1)=1
   ·by_cases h3:Ca rd.types ((q:Int)+2)=1
    ·have e:((q:Int)+1+1)=(q:Int)+2:=by omega
     simp[h1,h2,h3,e]
    ·have e:((q:Int)+1+1)=(q:Int)+2:=by omega
     simp[h1,h2,h3,e]
   ·simp[h1,h2]
  ·simp[h1]
theorem A68 (rb:Nat) (v:Value) (w:World):Calls prog 251 #[.pointer rb,.iface 442 v] w fun e w'=>e=.returned (true)/\w'=w:=by go_in;go_wp2;go_ret;exact⟨rfl,rfl⟩
theorem En (rb:Nat) (v:Value) (w:World):Calls prog 251 #[.pointer rb,.iface 448 v] w fun e w'=>e=.returned (true)/\w'=w:=by go_in;go_wp2;go_ret;exact⟨rfl,rfl⟩
theorem A67 (rb:Nat) (v:Value) (w:World):Calls prog 251 #[.pointer rb,.iface 446 v] w fun e w'=>e=.returned (true)/\w'=w:=by go_in;go_wp2;go_ret;exact⟨rfl,rfl⟩
theorem Ma (rb:Nat) (v:Value) (w:World):Calls prog 251 #[.pointer rb,.iface 395 v] w fun e w'=>e=.returned (true)/\w'=w:=by go_in;go_wp2;go_ret;exact⟨rfl,rfl⟩
theorem Tg (B rb m:Nat) (x want:Int) (rd:Rd) (to:Option Addr) (tc:Nat) (vr vk:Value) (w:World) (h:Er B rb m w rd (.slice to m tc) vr vk) (hB:B<=(w:Nat)) (hm:rd.types.length=m) (hm2:m<=250) (hs:rd.stay.length<=90) (hk:rd.taken.length<=90) (hx1 : -(m:Int)<=x) (hx2:x<m) :
  Calls prog 251 #[.pointer rb,.iface 404 (.agg #[x,want])] w (Eh B rb m (.slice to m tc) w (Hu want x rd)):=by
 have A:=(yA (w:Nat) w).alloc (yB _) (.cells #[x,want] 404);have HC:Hid (∀_:Unit,_):=fun _=>A3w B rb m x want rd to tc vr vk _ (h.l A) (yI hB A.size) hm hx1 hx2 hm2 (by omega) (by omega);have HB:Hid _:=A.mono hB;clear A h;go_in;go_wp2_with fail;refine(HC.out ()).mono ?_;unfold Eh;generalize Hu want x rd=o at *;clear HC;cases o with
 | none=>
  rintro e w2 ⟨rfl,hb⟩;go_wp2;go_ret;exact⟨rfl,HB.out.trans hb⟩
 | some rd2=>
  rintro e w2 ⟨⟨rfl,hR⟩,hb⟩;have HR:Hid _:=hR;clear hR;go_wp2;go_ret;exact⟨⟨rfl,HR.out⟩,HB.out.trans hb⟩
theorem A66 (B rb m q cnt:Nat) (want:Int) (rd:Rd) (to:Option Addr) (tc:Nat) (vr vk:Value) (w:World) (h:Er B rb m w rd (.slice to m tc) vr vk) (hB:B<=(w:Nat)) (hm:rd.types.length=m) (hm2:m<=250) (hs:rd.stay.length<=90) (_hk:rd.taken.length<=90) (hq:q+cnt<=m) (hc:cnt<=3) :
  Calls prog 251 #[.pointer rb,.iface 444 (.agg #[q,cnt,want])] w (Eh B rb m (.slice to m tc) w (Ec want cnt q rd)):=by
 have A:=(yA (w:Nat) w).alloc (yB _) (.cells #[q,cnt,want] 444);have HC:Hid (∀_:Unit,_):=fun _=>A6a B rb m q cnt want rd to tc vr vk _ (h.l A) (yI hB A.size) hm hq hm2 hc (by omega);have HB:Hid _:=A.mono hB;clear A h;go_in;go_wp2_with fail;refine(HC.out ()).mono ?_;unfold Aa1;generalize hO:Ec want cnt q rd=o at *;have HO:Hid _:=hO;clear HC hO;cases o with
 | none=>
  rintro e w2 ⟨rfl,hb⟩;go_wp2;go_ret;unfold Eh;first|rw[HO.out]|skip
  exact⟨rfl,HB.out.trans hb⟩
 | some rd2=>
  rintro e w2 ⟨⟨rfl,vr2,hR⟩,hb⟩;have HR:Hid _:=hR;clear hR;go_wp2;go_ret;unfold Eh;first|rw[HO.out]|skip
  exact⟨⟨rfl,_,_,HR.out⟩,HB.out.trans hb⟩
theorem A3v (B rb m q:Nat) (rd:Rd) (to:Option Addr) (tc:Nat) (vr vk:Value) (w:World) (h:Er B rb m w rd (.slice to m tc) vr vk) (hB:B<=(w:Nat)) (hm:rd.types.length=m) (hm2:m<=250) (_hs:rd.stay.length<=90) (hk:rd.taken.length<=90) (hq:q+2<=m) :
  Calls prog 251 #[.pointer rb,.iface 397 (.agg #[q])] w (Eh B rb m (.slice to m tc) w (rdI 23 (q:Int) rd)):=by
 have A:=(yA (w:Nat) w).alloc (yB _) (.cells #[q] 397);have R1:=h.l A;have P1:=Blk.new w #[q] 397;have HB:Hid _:=A.mono hB;have hBw:=yI hB A.size;rcases Ce h.types with ⟨_,h0⟩|⟨g,cap',h1,h2,h3⟩
 ·omega
 simp only[Value.slice.injEq]at h1;obtain⟨rfl,_,rfl⟩:=h1;obtain⟨ro,rc,rfl⟩:=Aa h.read;obtain⟨ko,kc,rfl⟩:=Aa h.taken;have hwp:∀k,(Value.slice ko rd.taken.length kc).ownBlock=some k->k≠(w:Nat):=fun k hk=>by have:=(h.taken.lt k hk).2;omega
 have hrbw:=h.blk.lt;clear A h h2 h3;go_in;go_wp2_with fail;generalize w.alloc (.cells #[q] 397)=w1 at *;have r1:=R1.blk.cell;have p1:=P1.cell;have hr1:=R1.blk.lt;have hp1:=P1.lt;have hE1:Below w1 w1 w1.drew:=(yA _ _).drew;have HR1:Hid _:=R1.l hE1;have HP1:Hid (Blk w1.drew w #[q] 397):=P1.l hE1;clear R1 P1;go_wp2_with fail;go_region_law (refine Adp rfl _ _ rfl B _ rd.taken.length rd.taken (q:Int) _ rfl (HR1.out.taken.alloc _) rfl ((Blk.new _ _ _).cell 0) (by omega) (yI hBw (by simp)) ?_;intro v2 w3 H1 H2 H3;obtain⟨vo,vc,rfl⟩:=Aa H1;have hb2:=Am (HR1.out.blk.alloc _) H2 (fun e=>HR1.out.nk e.symm);have r3:=hb2.cell 2;have f3:=hb2.frozen 2);all_goals
  obtain⟨R4,B4⟩:=HR1.out.addTaken H1 H2 (by simp) H3 hBw;have P4:=(Am (HP1.out.alloc _) H2 (fun e=>hwp _ e.symm rfl)).setOther (p:=(rb,2)) (by dsimp only;omega) (.slice vo (rd.taken.length+1) vc);have HB4:Hid _:=HB.out.trans (((yA B w1).drew).trans B4);have HR4:Hid _:=R4;have HP4:Hid (Blk (w3.setCell (rb,2) (.slice vo (rd.taken.length+1) vc)) (w:Nat) #[q] 397):=P4;clear H1 H2 H3 hb2 r3 f3 R4 B4 P4 HR1 HP1 r1 p1 HB;generalize w3.setCell (rb,2) (.slice vo (rd.taken.length+1) vc)=w4 at *;have r4:=HR4.out.blk.cell;have p4:=HP4.out.cell;have c0:=(HR4.out.types.cellAt q (by omega)).trans (Co (by rw[hm];omega));have c1:=(HR4.out.types.cellAt (q+1) (by omega)).trans (Co (by rw[hm];omega));obtain⟨t0,ht0⟩:∃t,t=rd.types.getD q 0:=⟨_,rfl⟩;obtain⟨t1,ht1⟩:∃t,t=rd.types.getD (q+1) 0:=⟨_,rfl⟩;rw[←ht0]at c0;rw[←ht1]at c1;have HT0:Hid (Ca rd.types (q:Int)=t0):=ht0.symm;have HT1:Hid (Ca rd.types ((q:Int)+1)=t1):=by show _=_;rw[ht1];rfl
  have HDW:Hid (∀n,Below w4 w4 (w4.drewN n)):=fun n=>below_drewN (yA _ _) n;have HBW:Hid _:=yI HR4.out.low (Nat.le_of_lt HR4.out.blk.lt);have k1:(q:Int)<m:=by omega
  have k2:(q:Int)+1<m:=by omega
  clear ht0 ht1;by_cases h0:t0=1
  ·by_cases h1:t1=0
   ·have HN:Hid (rdI 23 (q:Int) rd=some ⟨rd.types,rd.stay,rd.taken++[(q:Int)]⟩):=by show _=_;simp only[rdI];rw[if_pos ⟨HT0.out.trans h0,HT1.out.trans h1⟩]
    subst h0 h1;go_wp2_with fail;go_quiet (fail);go_wp2;go_ret;unfold Eh;rw[HN.out];exact⟨⟨rfl,_,_,HR4.out.l (HDW.out _)⟩,HB4.out.trans ((HDW.out _).mono HBW.out)⟩
   ·have HN:Hid (rdI 23 (q:Int) rd=none):=by show _=_;simp only[rdI];rw[if_neg (fun e=>h1 (HT1.out.symm.trans e.2))]
    have e1:(t1==0)=false:=by simpa using h1
    subst h0;clear h1;go_wp2_with fail;go_quiet (fail);go_wp2;go_ret;unfold Eh;rw[HN.out];exact⟨rfl,HB4.out.trans ((HDW.out _).mono HBW.out)⟩
  ·have HN:Hid (rdI 23 (q:Int) rd=none):=by show _=_;simp only[rdI];rw[if_neg (fun e=>h0 (HT0.out.symm.trans e.1))]
   have e0:(t0==1)=false:=by simpa using h0
   clear h0;go_wp2_with fail;go_quiet (fail);go_wp2;go_ret;unfold Eh;rw[HN.out];exact⟨rfl,HB4.out.trans ((HDW.out _).mono HBW.out)⟩
theorem Ad8 (np:Nat) (p:Pd) (B rb m r:Nat) (x:Int) (rd:Rd) (to:Option Addr) (tc:Nat) (vr vk:Value) (w:World) (h:Er B rb m w rd (.slice to m tc) vr vk) (hB:B<=(w:Nat)) (hm:rd.types.length=m) (hm2:m<=250) (hs:rd.stay.length<=90) (hk:rd.taken.length<=90) (hmr:(m:Int)=p.regs) (hr:r<=23) (hf:Bg np p (Cm r) x=true) :
  Calls prog 251 #[.pointer rb,Aq np p r x] w (Eh B rb m (.slice to m tc) w (rdI r x rd)):=by
 have hno:∀(T:TypeId) (v:Value),(∀w,Calls prog 251 #[.pointer rb,.iface T v] w fun e w'=>e=.returned (true)/\w'=w)->Calls prog 251 #[.pointer rb,.iface T v] w (Eh B rb m (.slice to m tc) w (some rd)):=by intro T v hc;refine(hc w).mono ?_;rintro e w' ⟨rfl,rfl⟩;exact⟨⟨rfl,_,_,h⟩,yA _ _⟩
 have hop:∀t:Int,inR x (-p.regs) (p.regs-1)=true->-(m:Int)<=x/\x<m:=by intro _ hi;simp[inR]at hi;omega
 have hpl:∀(cnt:Nat) (want:Int),inR x 0 (p.regs-cnt)=true->cnt<=3->((r=14/\cnt=1/\want=1)∨(r=15/\cnt=1/\want=2)∨(r=16/\cnt=1/\want=3)∨(r=17/\cnt=2/\want=1)∨(r=18/\cnt=3/\want=1))->Calls prog 251 #[.pointer rb,.iface 444 (.agg #[x,cnt,want])] w (Eh B rb m (.slice to m tc) w (rdI r x rd)):=by intro cnt want hi hc he;simp[inR]at hi;obtain⟨q,rfl⟩:=yN hi.1;rw[←Abl he];exact A66 B rb m q cnt want rd to tc vr vk w h hB hm hm2 hs hk (by omega) hc
 rcases Yt r hr with rfl|rfl|rfl|rfl|rfl|rfl|rfl|rfl|rfl|rfl|rfl|rfl|rfl|rfl|rfl|rfl|rfl|rfl|rfl|rfl|rfl|rfl|rfl|rfl
 ·exact hno _ _ (fun w=>A68 rb _ w)
 ·exact hno _ _ (fun w=>En rb _ w)
 ·exact hno _ _ (fun w=>En rb _ w)
 ·exact hno _ _ (fun w=>En rb _ w)
 ·exact hno _ _ (fun w=>En rb _ w)
 ·exact hno _ _ (fun w=>En rb _ w)
 ·exact hno _ _ (fun w=>En rb _ w)
 ·exact hno _ _ (fun w=>En rb _ w)
 ·exact hno _ _ (fun w=>En rb _ w)
 ·exact hno _ _ (fun w=>En rb _ w)
 ·exact hno _ _ (fun w=>En rb _ w)
 ·exact hno _ _ (fun w=>A67 rb _ w)
 ·exact Tg B rb m x 1 rd to tc vr vk w h hB hm hm2 hs hk (hop 0 hf).1 (hop 0 hf).2
 ·exact Tg B rb m x 3 rd to tc vr vk w h hB hm hm2 hs hk (hop 0 hf).1 (hop 0 hf).2
 ·exact hpl 1 1 hf (by omega) (by simp)
 ·exact hpl 1 2 hf (by omega) (by simp)
 ·exact hpl 1 3 hf (by omega) (by simp)
 ·exact hpl 2 1 hf (by omega) (by simp)
 ·exact hpl 3 1 hf (by omega) (by simp)
 ·exact hno _ _ (fun w=>Ma rb _ w)
 ·exact hno _ _ (fun w=>Ma rb _ w)
 ·exact hno _ _ (fun w=>Ma rb _ w)
 ·exact hno _ _ (fun w=>Ma rb _ w)
 ·have hi:inR x 0 (p.regs-2)=true:=hf;simp[inR]at hi;obtain⟨q,rfl⟩:=yN hi.1;exact A3v B rb m q rd to tc vr vk w h hB hm hm2 hs hk (by omega)
theorem A7k {r:Nat} {x:Int} {s s':Rd} (h:rdI r x s=some s'):s'.types.length=s.types.length/\s'.stay.length<=s.stay.length+3/\s'.taken.length<=s.taken.length+1:=by
 have hop:∀w,Hu w x s=some s'->s'.types.length=s.types.length/\s'.stay.length<=s.stay.length+3/\s'.taken.length<=s.taken.length+1:=by
  intro w h;unfold Hu at h;split at h
  ·split at h
   ·split at h
    ·cases h
    ·obtain rfl:=yO h;simp
   ·obtain rfl:=yO h;simp
  ·cases h
 have hpl:∀w,Dq w x s=some s'->s'.types.length=s.types.length/\s'.stay.length<=s.stay.length+3/\s'.taken.length<=s.taken.length+1:=by
  intro w h;unfold Dq at h;split at h
  ·obtain rfl:=yO h;simp
  ·cases h
 unfold rdI at h;split at h
 ·exact hop _ h
 ·exact hop _ h
 ·exact hpl _ h
 ·exact hpl _ h
 ·exact hpl _ h
 ·split at h
  ·obtain rfl:=yO h;simp
  ·cases h
 ·split at h
  ·obtain rfl:=yO h;simp
  ·cases h
 ·split at h
  ·obtain rfl:=yO h;simp
  ·cases h
 ·obtain rfl:=yO h;simp
theorem Abr{k:Nat} (h1:rs[k]?=some r) (h2:xs[k]?=some x) (s:Rd):J5 (rs.drop k) (xs.drop k) s=(rdI r x s).bind (J5 (rs.drop (k+1)) (xs.drop (k+1))):=by rw[Ao h1,Ao h2];rfl
theorem Acn (np:Nat) (p:Pd) (B rb m r0 r1 r2 r3:Nat) (x0 x1 x2 x3:Int) (ts:List Int) (to:Option Addr) (tc:Nat) (vr vk:Value) (w:World) (h:Er B rb m w ⟨ts,[],[]⟩ (.slice to m tc) vr vk) (hB:B<=(w:Nat)) (hm:ts.length=m) (hm2:m<=250) (hmr:(m:Int)=p.regs) (g0:r0<=23) (g1:r1<=23) (g2:r2<=23) (g3:r3<=23)
  (f0:Bg np p (Cm r0) x0=true) (f1:Bg np p (Cm r1) x1=true) (f2:Bg np p (Cm r2) x2=true) (f3:Bg np p (Cm r3) x3=true) :
  Calls prog 185 #[.pointer rb,.agg #[Aq np p r0 x0,Aq np p r1 x1,Aq np p r2 x2,Aq np p r3 x3]] w (Eh B rb m (.slice to m tc) w (J5 [r0,r1,r2,r3] [x0,x1,x2,x3] ⟨ts,[],[]⟩)):=by
 obtain⟨t0,v0,e0⟩:=Cb np p r0 x0;obtain⟨t1,v1,e1⟩:=Cb np p r1 x1;obtain⟨t2,v2,e2⟩:=Cb np p r2 x2;obtain⟨t3,v3,e3⟩:=Cb np p r3 x3;have HR:Hid (∀k,k<4->_):=fun k hk=>row4 (P:=fun r x t v=>r<=23/\Bg np p (Cm r) x=true/\Aq np p r x=.iface t v) ⟨g0,f0,e0⟩ ⟨g1,f1,e1⟩ ⟨g2,f2,e2⟩ ⟨g3,f3,e3⟩ (k:=k) hk;have HO:Hid (∀(r:Nat) (x:Int) (t:TypeId) (v:Value) (W:World) (rd:Rd) (vr vk:Value),r<=23->Bg np p (Cm r) x=true->Aq np p r x=.iface t v->Er B rb m W rd (.slice to m tc) vr vk->B<=W.heap.size->rd.types.length=m->rd.stay.length<=90->rd.taken.length<=90->Calls prog 251 #[.pointer rb,.iface t v] W (Eh B rb m (.slice to m tc) W (rdI r x rd))):=fun r x t v W rd vr vk hg hf hv hR hB hm hs hk=>by
  have:=Ad8 np p B rb m r x rd to tc vr vk W hR hB hm hm2 hs hk hmr hg hf;rw[hv]at this;exact this
 rw[e0,e1,e2,e3];have A:=(yA (w:Nat) w).alloc (yB _) (.cells #[.iface t0 v0,.iface t1 v1,.iface t2 v2,.iface t3 v3] 296);have R0:=h.l A;have B0:=A.mono hB;clear A h e0 e1 e2 e3 f0 f1 f2 f3 g0 g1 g2 g3 hmr;go_in;go_wp2;go_loopg [8] 5 (fun g y wr=>∃(k:Nat) (rd1:Rd) (vr1 vk1:Value),k<=4/\y=k/\Hid (J5 ([r0,r1,r2,r3].drop k) ([x0,x1,x2,x3].drop k) rd1=J5 [r0,r1,r2,r3] [x0,x1,x2,x3] ⟨ts,[],[]⟩)/\Hid (rd1.types.length=m/\rd1.stay.length<=3*k/\rd1.taken.length<=k)/\Hid (5-k<=g)/\Er B rb m wr rd1 (.slice to m tc) vr1 vk1/\Below B w wr);case atStart=>exact⟨0,_,_,_,by omega,rfl,rfl,⟨hm,by simp,by simp⟩,by show _<=_;omega,R0,B0⟩
 case round=>
  obtain⟨k,rd1,vr1,vk1,hk,rfl,HQ,HL,HG,R1,B1⟩:=hrel;clear R0 B0;have HBw:Hid _:=yI R1.low (Nat.le_of_lt R1.blk.lt);have HB1:Hid _:=B1;have HR1:Hid _:=R1;clear B1 R1;by_cases hk4:k<4
  ·obtain⟨r,x,t,v,hr,hx,iK,hg,hf,hv⟩:=HR.out k hk4;have HD:Hid _:=HQ.out.symm.trans (Abr hr hx rd1);have HG2:Hid (5-(k+1)<=gk-1/\gk-1<gk):=by have:=HG.out;show _/\_;omega
   have HC:Hid (∀_:Unit,_):=fun _=>HO.out r x t v wr rd1 vr1 vk1 hg hf hv HR1.out HBw.out HL.out.1 (by have:=HL.out.2.1;omega) (by have:=HL.out.2.2;omega);have hk5:(k:Int)<4:=by omega
   clear HQ HG hr hx hg hf hv;go_wp2_with fail;refine(HC.out ()).mono ?_;unfold Eh;have hlen:=fun s'=>@A7k r x rd1 s';generalize rdI r x rd1=o at *;cases o with
   | none=>
    rintro e w2 ⟨rfl,hb⟩;have HN:Hid (J5 [r0,r1,r2,r3] [x0,x1,x2,x3] ⟨ts,[],[]⟩=none):=HD.out;clear HD hlen;go_wp2;go_ret;unfold Eh;rw[HN.out];exact⟨rfl,HB1.out.trans hb⟩
   | some rd2=>
    rintro e w2 ⟨⟨rfl,vr2,vk2,hR⟩,hb⟩;have HN:Hid (J5 ([r0,r1,r2,r3].drop (k+1)) ([x0,x1,x2,x3].drop (k+1)) rd2=J5 [r0,r1,r2,r3] [x0,x1,x2,x3] ⟨ts,[],[]⟩):=HD.out.symm;have HL2:Hid (rd2.types.length=m/\rd2.stay.length<=3*(k+1)/\rd2.taken.length<=k+1):=by obtain⟨a1,a2,a3⟩:=hlen rd2 rfl;obtain⟨b1,b2,b3⟩:=HL.out;exact⟨a1.trans b1,by omega,by omega⟩
    have HR2:Hid _:=hR;clear HD hlen hR;go_wp2;go_roundg (gk-1);case measure=>exact HG2.out.2
    case rel=>exact⟨k+1,rd2,vr2,vk2,by omega,by go_num,HN.out,HL2.out,HG2.out.1,HR2.out,HB1.out.trans hb⟩
  ·have hk0:k=4:=by omega
   subst hk0;have HN:Hid (J5 [r0,r1,r2,r3] [x0,x1,x2,x3] ⟨ts,[],[]⟩=some rd1):=HQ.out.symm;clear HQ HG hk4;go_wp2;go_ret;unfold Eh;rw[HN.out];exact⟨⟨rfl,_,_,HR1.out⟩,HB1.out⟩
def Zl (L:Nat) (w:World) (T:St) (e:Ending) (w':World):Prop:=(∃rb to tc go gc,e=.returned (.agg #[.bool rb,.slice to T.types.length tc,.slice go T.guards.length gc])/\Gp L w' to tc T.types/\Dl L w' go gc T.guards)/\Below w w w'
theorem Blk.three {x y z x' y' z':Value} (h:Blk w b #[x,y,z] t):Blk (((w.setCell ⟨b,0,none⟩ x').setCell ⟨b,1,none⟩ y').setCell ⟨b,2,none⟩ z') b #[x',y',z'] t:=((h.set 0 x').set 1 y').set 2 z'
def A9g:List Int->Nat->List Int->List Int
 | ts,_,[]=>ts
 | ts,o,u::us=>A9g (ts.set o u) (o+1) us
theorem Abw (us:List Int):∀(ts:List Int) (o j:Nat),o+us.length<=ts.length->(A9g ts o us)[j]?=if o<=j/\j<o+us.length then us[j-o]? else ts[j]?:=by
 induction us with
 | nil=>intro ts o j _;unfold A9g;rw[if_neg (by simp<;>omega)]
 | cons u r ih=>
  intro ts o j h;simp at h;unfold A9g;rw[ih (ts.set o u) (o+1) j (by simp;omega),List.getElem?_set];by_cases h1:o=j
  ·subst h1;rw[if_neg (by omega),if_pos rfl,if_pos (by omega),if_pos (by simp)];simp
  ·by_cases h2:o+1<=j/\j<o+1+r.length
   ·rw[if_pos h2,if_pos (by simp;omega)];rw[show j-o=(j-(o+1))+1 by omega];rfl
   ·rw[if_neg h2,if_neg h1,if_neg (by simp;omega)]
theorem A9h (hb:b<=ts.length):A9g ts b (List.replicate (ts.length-b) 0)=ts.take b++List.replicate (ts.length-b) 0:=by
 apply List.ext_getElem?;intro j;rw[Abw _ _ _ _ (by simp;omega),List.getElem?_append,List.length_take,List.length_replicate,Nat.min_eq_left hb];by_cases h1:j<b
 ·rw[if_neg (by omega),if_pos h1,List.getElem?_take_of_lt h1]
 ·rw[if_neg h1];by_cases h2:j<ts.length
  ·rw[if_pos (by omega)]
  ·rw[if_neg (by omega),List.getElem?_eq_none (by omega),List.getElem?_eq_none (by simp;omega)]
theorem A98{base m cap:Nat} (us:List Int):∀{w:World} {ts:List Int} (o:Nat),w.ownsRow base 3 1 (.slice g m cap) m (Az ts)->(w.setCells g o (us.map (Value.int .i64))).ownsRow base 3 1 (.slice g m cap) m (Az (A9g ts o us)):=by
 induction us with
 | nil=>intro w ts o h;exact h
 | cons u r ih=>
  intro w ts o h;have h1:=(h.stored o u).1;rw[Dx]at h1;exact ih (o+1) h1
theorem A50 (us:List Value):∀{w w':World} (o:Nat),Below n w w'->n<=g->Below n w (w'.setCells g o us):=by
 induction us with
 | nil=>intro w w' o h _;exact h
 | cons u r ih=>intro w w' o h hg;exact ih (o+1) (h.setCell (by dsimp only;exact hg) _) hg
theorem Pv (us:List Value):∀(w:World) (g o k:Nat),k≠g->(w.setCells g o us).heap[k]?=w.heap[k]?:=by
 induction us with
 | nil=>intro w g o k _;rfl
 | cons u r ih=>intro w g o k hk;exact(ih _ g (o+1) k hk).trans (yL _ _ _ _ hk)
theorem Tryz.zero_int:∀w:World,(zeroValue 3).run prog w=.ok () w:=fun _=>by kernel_rfl
theorem Sj (op:Int) (na nb nc nd:Int) (ab bb:Bool) (ao ago bo bgo:Option Addr) (ac agc bc bgc L m:Nat) (s:St) (ts:List Int) (gs:List Gd) (w:World) (hL:L<=(w:Nat)) (hm:s.types.length=m) (ht:ts.length=m) (hm2:m<=250) (_R1:Gp L w ao ac s.types) (_R2:Dl L w ago agc s.guards) (R3:Gp L w bo bc ts) (R4:Dl L w bgo bgc gs) (h41:op≠41) (h31:op≠31) :
  Calls prog 254 #[.agg #[op,na,nb,nc,nd],.agg #[.bool ab,.slice ao s.types.length ac,.slice ago s.guards.length agc],.agg #[.bool bb,.slice bo ts.length bc,.slice bgo gs.length bgc]] w (Zl L w ⟨ts,gs⟩):=by
 have C1:=(((Blk.new w #[op,na,nb,nc,nd] 81).alloc (.cells #[.bool ab,.slice ao s.types.length ac,.slice ago s.guards.length agc] 146)).alloc (.cells #[.bool bb,.slice bo ts.length bc,.slice bgo gs.length bgc] 146)).alloc (.cells #[false,nS,nS] 146);have C2:=((Blk.new (w.alloc (.cells #[op,na,nb,nc,nd] 81)) #[.bool ab,.slice ao s.types.length ac,.slice ago s.guards.length agc] 146).alloc (.cells #[.bool bb,.slice bo ts.length bc,.slice bgo gs.length bgc] 146)).alloc (.cells #[false,nS,nS] 146);have C3:=(Blk.new ((w.alloc (.cells #[op,na,nb,nc,nd] 81)).alloc (.cells #[.bool ab,.slice ao s.types.length ac,.slice ago s.guards.length agc] 146)) #[.bool bb,.slice bo ts.length bc,.slice bgo gs.length bgc] 146).alloc (.cells #[false,nS,nS] 146);have C4:=Blk.new (((w.alloc (.cells #[op,na,nb,nc,nd] 81)).alloc (.cells #[.bool ab,.slice ao s.types.length ac,.slice ago s.guards.length agc] 146)).alloc (.cells #[.bool bb,.slice bo ts.length bc,.slice bgo gs.length bgc] 146)) #[false,nS,nS] 146;simp only[nblk_alloc]at C2 C3 C4;have B4:Below w w ((((w.alloc (.cells #[op,na,nb,nc,nd] 81)).alloc (.cells #[.bool ab,.slice ao s.types.length ac,.slice ago s.guards.length agc] 146)).alloc (.cells #[.bool bb,.slice bo ts.length bc,.slice bgo gs.length bgc] 146)).alloc (.cells #[false,nS,nS] 146)):=((((yA _ _).alloc (yB _) _).alloc (by simp) _).alloc (by simp;omega) _).alloc (by simp;omega) _;have HB4:Hid (∀o,Below w w ((((w.alloc (.cells #[op,na,nb,nc,nd] 81)).alloc (.cells #[.bool ab,.slice ao s.types.length ac,.slice ago s.guards.length agc] 146)).alloc (.cells #[.bool bb,.slice bo ts.length bc,.slice bgo gs.length bgc] 146)).alloc o)):=fun o=>((((yA _ _).alloc (yB _) _).alloc (by simp) _).alloc (by simp;omega) _).alloc (by simp;omega) _;have e41:(op==41)=false:=by simpa using h41
 have e31:(op==31)=false:=by simpa using h31
 have _u:=hL;have _u2:=hm;have _u3:=ht;have _u4:=hm2;clear h41 h31 _u _u2 _u3 _u4 hm ht hm2 hL B4;have c1:=C1.cell;have c3:=C3.cell;have c4:=C4.cell;have f4:=C4.frozen;go_in;go_wp2_with fail;refine bodyPost_ret (v:=.agg #[.bool bb,.slice bo ts.length bc,.slice bgo gs.length bgc]) ?_ rfl ⟨⟨bb,bo,bc,bgo,bgc,rfl,R3.l (A7.o (HB4.out _)),R4.l (A7.o (HB4.out _))⟩,HB4.out _⟩;simp[results,results254,go_sem]
theorem Yh (na nb nd:Int) (cN gb gof:Nat) (ab bb:Bool) (ago bo bgo:Option Addr) (ac agc bc bgc L m:Nat) (s:St) (ts:List Int) (gs:List Gd) (w:World) (hL:L<=(w:Nat)) (hm:s.types.length=m) (ht:ts.length=m) (hm2:m<=250) (R1:Gp L w (some ⟨gb,gof,none⟩) ac s.types) (_R2:Dl L w ago agc s.guards) (R3:Gp L w bo bc ts) (R4:Dl L w bgo bgc gs) (hcm:cN<m) :
  Calls prog 254 #[.agg #[(41:Int),na,nb,((cN:Nat):Int),nd],.agg #[.bool ab,.slice (some ⟨gb,gof,none⟩) s.types.length ac,.slice ago s.guards.length agc],.agg #[.bool bb,.slice bo ts.length bc,.slice bgo gs.length bgc]] w (Zl L w ⟨ts.set cN (Ca s.types cN),gs⟩):=by
 have C1:=(((Blk.new w #[(41:Int),na,nb,((cN:Nat):Int),nd] 81).alloc (.cells #[.bool ab,.slice (some ⟨gb,gof,none⟩) s.types.length ac,.slice ago s.guards.length agc] 146)).alloc (.cells #[.bool bb,.slice bo ts.length bc,.slice bgo gs.length bgc] 146)).alloc (.cells #[false,nS,nS] 146);have C2:=((Blk.new (w.alloc (.cells #[(41:Int),na,nb,((cN:Nat):Int),nd] 81)) #[.bool ab,.slice (some ⟨gb,gof,none⟩) s.types.length ac,.slice ago s.guards.length agc] 146).alloc (.cells #[.bool bb,.slice bo ts.length bc,.slice bgo gs.length bgc] 146)).alloc (.cells #[false,nS,nS] 146);have C3:=(Blk.new ((w.alloc (.cells #[(41:Int),na,nb,((cN:Nat):Int),nd] 81)).alloc (.cells #[.bool ab,.slice (some ⟨gb,gof,none⟩) s.types.length ac,.slice ago s.guards.length agc] 146)) #[.bool bb,.slice bo ts.length bc,.slice bgo gs.length bgc] 146).alloc (.cells #[false,nS,nS] 146);have C4:=Blk.new (((w.alloc (.cells #[(41:Int),na,nb,((cN:Nat):Int),nd] 81)).alloc (.cells #[.bool ab,.slice (some ⟨gb,gof,none⟩) s.types.length ac,.slice ago s.guards.length agc] 146)).alloc (.cells #[.bool bb,.slice bo ts.length bc,.slice bgo gs.length bgc] 146)) #[false,nS,nS] 146;simp only[nblk_alloc]at C2 C3 C4;have B4:Below w w ((((w.alloc (.cells #[(41:Int),na,nb,((cN:Nat):Int),nd] 81)).alloc (.cells #[.bool ab,.slice (some ⟨gb,gof,none⟩) s.types.length ac,.slice ago s.guards.length agc] 146)).alloc (.cells #[.bool bb,.slice bo ts.length bc,.slice bgo gs.length bgc] 146)).alloc (.cells #[false,nS,nS] 146)):=((((yA _ _).alloc (yB _) _).alloc (by simp) _).alloc (by simp;omega) _).alloc (by simp;omega) _;obtain⟨xb,hxb⟩:=A8 (show cN<s.types.length by omega);have HXB:Hid (Ca s.types cN=xb):=by show _=_;unfold Ca;simp[hxb]
 obtain⟨gb',gof',heq,_,hgb,d0⟩:=R1.at_ cN xb hxb;obtain⟨rfl,rfl⟩:gb=gb'/\gof=gof':=by simpa using heq
 unfold Ho at d0;rw[Nat.mul_one]at d0;have HCL:Hid (∀_:Unit,_):=fun _=>Lr bo bc ts.length ts ((((w.alloc (.cells #[(41:Int),na,nb,((cN:Nat):Int),nd] 81)).alloc (.cells #[.bool ab,.slice (some ⟨gb,gof,none⟩) s.types.length ac,.slice ago s.guards.length agc] 146)).alloc (.cells #[.bool bb,.slice bo ts.length bc,.slice bgo gs.length bgc] 146)).alloc (.cells #[false,nS,nS] 146)) rfl (by omega) R3.nil (Ah.w (R3.l (A7.o B4)).at_ (yE _)) R3.form;have HR4:Hid (∀W,Below w w W->Dl L W bgo bgc gs):=fun W hb=>R4.l (A7.o hb);have d4:=(B4.cell hgb).trans d0;have c1:=C1.cell;have c3:=C3.cell;have _u1:=hL;have hcs:cN<s.types.length:=by omega
 have hct:cN<ts.length:=by omega
 have htl:ts.length<=250:=by omega
 clear R1 R3 R4 hxb d0 heq hm ht;go_in;go_wp2_with fail;generalize ((((w.alloc (.cells #[(41:Int),na,nb,((cN:Nat):Int),nd] 81)).alloc (.cells #[.bool ab,.slice (some ⟨gb,gof,none⟩) s.types.length ac,.slice ago s.guards.length agc] 146)).alloc (.cells #[.bool bb,.slice bo ts.length bc,.slice bgo gs.length bgc] 146)).alloc (.cells #[false,nS,nS] 146))=w4 at *;clear c1 c3;refine(HCL.out ()).mono ?_;rintro e w5 ⟨v5,rfl,T5,hw5⟩;have hs4:=C4.lt;have D1:=C1.l hw5;have D2:=C2.l hw5;have D3:=C3.l hw5;have D4:=C4.l hw5;have B5:=B4.trans (hw5.mono B4.size);have d5:=(hw5.cell (yF hgb B4.size)).trans d4;rcases Ce T5 with ⟨_,h0⟩|⟨g,cap5,rfl,hg1,hg2⟩
 ·omega
 clear C1 C2 C3 C4 B4 hw5 HCL d4;have hne1:¬g=(w:Nat):=by omega
 have hne2:¬g=(w:Nat)+1:=by omega
 have hne3:¬g=gb:=by omega
 have hne4:¬g=(w:Nat)+1+1:=by omega
 have hne5:¬g=(w:Nat)+1+1+1:=by omega
 have e1:=D1.cell 3;have e2:=D2.cell 1;have t5:=(T5.cellAt cN (by omega)).trans (Co (by omega));have z5:=T5.frozenAt cN;have k1:(cN:Int)<s.types.length:=by omega
 have k2:(cN:Int)<ts.length:=by omega
 have T6:=(T5.stored cN xb).1;rw[Dx]at T6;have HKP:Hid ((w5.setCell ⟨g,cN,none⟩ (.int .i64 xb)).drew.cell? ⟨w.heap.size,3,none⟩=some (.int .i64 cN)/\(w5.setCell ⟨g,cN,none⟩ (.int .i64 xb)).drew.cell? ⟨w.heap.size+1,1,none⟩=some (.slice (some ⟨gb,gof,none⟩) s.types.length ac)/\(w5.setCell ⟨g,cN,none⟩ (.int .i64 xb)).drew.cell? ⟨gb,gof+cN,none⟩=some (.int .i64 xb)):=
  ⟨(yG _ _ _ _ hne1).trans e1,(yG _ _ _ _ hne2).trans e2,(yG _ _ _ _ hne3).trans d5⟩
 have HT6:Hid ((w5.setCell (g,cN) xb).drew.ownsRow (w4:Nat) 3 1 (.slice g ts.length cap5) ts.length (Az (ts.set cN xb))):=Aj T6 (fun k hk=>rfl);have HD3:Hid (Blk (w5.setCell (g,cN) xb).drew ((w:Nat)+1+1) #[.bool bb,.slice bo ts.length bc,.slice bgo gs.length bgc] 146):=D3.setOther (fun e=>hne4 e.symm) _;have HD4:Hid (Blk (w5.setCell (g,cN) xb).drew ((w:Nat)+1+1+1) #[false,nS,nS] 146):=D4.setOther (fun e=>hne5 e.symm) _;have HB6:Hid (Below w w (w5.setCell (g,cN) xb).drew):=(B5.setCell (by dsimp only;omega) _).drew;have hLg:L<=(w4:Nat):=by omega
 clear T5 T6 D1 D2 D3 D4 B5 hne1 hne2 hne3;go_wp2_with fail;go_region_held3 (fun w'=>w'.cell? ((w:Nat),3)=some (cN:Value)/\w'.cell? ((w:Nat)+1,1)=some (.slice (some ⟨gb,gof,none⟩) s.types.length ac)/\w'.cell? (gb,gof+cN)=some (xb:Value)) (first|exact⟨e1,e2,d5⟩|exact HKP.out|(go_keep;done)) (fail);clear HKP e1 e2 t5 z5 d5;generalize (w5.setCell (g,cN) xb).drew=w6 at *;have c6:=HD3.out.cell;have r6:=HD4.out.cell;have f6:=HD4.out.frozen;go_wp2_with fail;have HD7:=HD4.out.three (x':=false) (y':=.slice g ts.length cap5) (z':=.slice bgo gs.length bgc);have HB7:Below w.heap.size w (((w6.setCell ⟨w.heap.size+1+1+1,0,none⟩ (.bool false)).setCell ⟨w.heap.size+1+1+1,1,none⟩ (.slice (some ⟨g,0,none⟩) ts.length cap5)).setCell ⟨w.heap.size+1+1+1,2,none⟩ (.slice bgo gs.length bgc)):=((HB6.out.setCell (by dsimp only;omega) _).setCell (by dsimp only;omega) _).setCell (by dsimp only;omega) _;have HT7:=Aj HT6.out (w':=((w6.setCell ⟨w.heap.size+1+1+1,0,none⟩ (.bool false)).setCell ⟨w.heap.size+1+1+1,1,none⟩ (.slice (some ⟨g,0,none⟩) ts.length cap5)).setCell ⟨w.heap.size+1+1+1,2,none⟩ (.slice bgo gs.length bgc)) (fun k hk=>by
  have hkg:k=g:=by simpa[Value.ownBlock]using hk.symm
  have hk3:k≠(w:Nat)+1+1+1:=by rw[hkg];exact hne5
  rw[yL _ _ _ _ hk3,yL _ _ _ _ hk3,yL _ _ _ _ hk3])
 have c7:=HD7.cell;refine bodyPost_ret (v:=.agg #[false,.slice g ts.length cap5,.slice bgo gs.length bgc]) ?_ rfl ⟨⟨false,some ⟨g,0,none⟩,cap5,bgo,bgc,?_,?_,HR4.out _ HB7⟩,HB7⟩
 ·simp[results,results254,go_sem,c7]
 ·simp
 ·rw[HXB.out];exact(Gp.of_owns HT7).w hLg
theorem Yg (na nc nd:Int) (bN:Nat) (ab bb:Bool) (ao ago bo bgo:Option Addr) (ac agc bc bgc L m:Nat) (s:St) (ts:List Int) (gs:List Gd) (w:World) (hL:L<=(w:Nat)) (hm:s.types.length=m) (ht:ts.length=m) (hm2:m<=250) (R1:Gp L w ao ac s.types) (R2:Dl L w ago agc s.guards) (_R3:Gp L w bo bc ts) (_R4:Dl L w bgo bgc gs) (hbm:bN+2<=m) :
  Calls prog 254 #[.agg #[(31:Int),na,((bN:Nat):Int),nc,nd],.agg #[.bool ab,.slice ao s.types.length ac,.slice ago s.guards.length agc],.agg #[.bool bb,.slice bo ts.length bc,.slice bgo gs.length bgc]] w (Zl L w ⟨Px bN s.types,s.guards⟩):=by
 have C1:=(((Blk.new w #[(31:Int),na,((bN:Nat):Int),nc,nd] 81).alloc (.cells #[.bool ab,.slice ao s.types.length ac,.slice ago s.guards.length agc] 146)).alloc (.cells #[.bool bb,.slice bo ts.length bc,.slice bgo gs.length bgc] 146)).alloc (.cells #[false,nS,nS] 146);have C2:=((Blk.new (w.alloc (.cells #[(31:Int),na,((bN:Nat):Int),nc,nd] 81)) #[.bool ab,.slice ao s.types.length ac,.slice ago s.guards.length agc] 146).alloc (.cells #[.bool bb,.slice bo ts.length bc,.slice bgo gs.length bgc] 146)).alloc (.cells #[false,nS,nS] 146);have C3:=(Blk.new ((w.alloc (.cells #[(31:Int),na,((bN:Nat):Int),nc,nd] 81)).alloc (.cells #[.bool ab,.slice ao s.types.length ac,.slice ago s.guards.length agc] 146)) #[.bool bb,.slice bo ts.length bc,.slice bgo gs.length bgc] 146).alloc (.cells #[false,nS,nS] 146);have C4:=Blk.new (((w.alloc (.cells #[(31:Int),na,((bN:Nat):Int),nc,nd] 81)).alloc (.cells #[.bool ab,.slice ao s.types.length ac,.slice ago s.guards.length agc] 146)).alloc (.cells #[.bool bb,.slice bo ts.length bc,.slice bgo gs.length bgc] 146)) #[false,nS,nS] 146;simp only[nblk_alloc]at C2 C3 C4;have B4:Below w w ((((w.alloc (.cells #[(31:Int),na,((bN:Nat):Int),nc,nd] 81)).alloc (.cells #[.bool ab,.slice ao s.types.length ac,.slice ago s.guards.length agc] 146)).alloc (.cells #[.bool bb,.slice bo ts.length bc,.slice bgo gs.length bgc] 146)).alloc (.cells #[false,nS,nS] 146)):=((((yA _ _).alloc (yB _) _).alloc (by simp) _).alloc (by simp;omega) _).alloc (by simp;omega) _;have HCL:Hid (∀_:Unit,_):=fun _=>Lr ao ac s.types.length s.types ((((w.alloc (.cells #[(31:Int),na,((bN:Nat):Int),nc,nd] 81)).alloc (.cells #[.bool ab,.slice ao s.types.length ac,.slice ago s.guards.length agc] 146)).alloc (.cells #[.bool bb,.slice bo ts.length bc,.slice bgo gs.length bgc] 146)).alloc (.cells #[false,nS,nS] 146)) rfl (by omega) R1.nil (Ah.w (R1.l (A7.o B4)).at_ (yE _)) R1.form;have HR2:Hid (∀W,Below w w W->Dl L W ago agc s.guards):=fun W hb=>R2.l (A7.o hb);have c1:=C1.cell;have c2:=C2.cell;have hcs:bN+2<=s.types.length:=by omega
 have hsl:s.types.length<=250:=by omega
 have HT:Hid _:=ht;clear R1 R2 hm ht HT;go_in;go_wp2_with fail;generalize ((((w.alloc (.cells #[(31:Int),na,((bN:Nat):Int),nc,nd] 81)).alloc (.cells #[.bool ab,.slice ao s.types.length ac,.slice ago s.guards.length agc] 146)).alloc (.cells #[.bool bb,.slice bo ts.length bc,.slice bgo gs.length bgc] 146)).alloc (.cells #[false,nS,nS] 146))=w4 at *;clear c1 c2;refine(HCL.out ()).mono ?_;rintro e w5 ⟨v5,rfl,T5,hw5⟩;have hs4:=C4.lt;have D1:=C1.l hw5;have D2:=C2.l hw5;have D4:=C4.l hw5;have B5:=B4.trans (hw5.mono B4.size);have hlen5:=Qy T5;rcases Ce T5 with ⟨_,h0⟩|⟨g,cap5,rfl,hg1,hg2⟩
 ·omega
 have hcp5:=hlen5 _ _ rfl;clear C1 C2 C3 C4 B4 hw5 HCL hlen5;have hne1:¬g=(w:Nat):=by omega
 have hne2:¬g=(w:Nat)+1:=by omega
 have hne5:¬g=(w:Nat)+1+1+1:=by omega
 have hcl:∀ty,(Builtin.clear_ #[99] ty #[.slice (some ⟨g,bN,none⟩) (s.types.length-bN) (cap5-bN)]).run prog w5=.ok (.tuple #[]) (w5.setCells g bN (List.replicate (s.types.length-bN) ())):=
  fun ty=>Lib.run_clear_slice w5 _ _ ty _ underlying99 Tryz.zero_int rfl rfl g bN _ _ (by omega) (fun j hj=>by rw[(T5.cellAt (bN+j) (by omega)).trans (Co (by omega))];rfl) (fun j hj=>T5.frozenAt (bN+j))
 have T6:=A98 (List.replicate (s.types.length-bN) 0) bN T5;rw[List.map_replicate,A9h (by omega)]at T6;have D16:Blk (w5.setCells g bN (List.replicate (s.types.length-bN) ())) (w:Nat) _ _:=(Pv _ w5 g bN _ (fun e=>hne1 e.symm)).trans D1;have D26:Blk (w5.setCells g bN (List.replicate (s.types.length-bN) ())) ((w:Nat)+1) _ _:=(Pv _ w5 g bN _ (fun e=>hne2 e.symm)).trans D2;have D46:Blk (w5.setCells g bN (List.replicate (s.types.length-bN) ())) ((w:Nat)+1+1+1) _ _:=(Pv _ w5 g bN _ (fun e=>hne5 e.symm)).trans D4;have B6:Below w w (w5.setCells g bN (List.replicate (s.types.length-bN) ())):=A50 _ bN B5 (by omega);have d1:=D1.cell;have k1:(bN:Int)<=s.types.length:=by omega
 have kc:bN<=cap5:=by omega
 have HT6:Hid ((w5.setCells g bN (List.replicate (s.types.length-bN) ())).ownsRow (w4:Nat) 3 1 (.slice g s.types.length cap5) s.types.length (Az (s.types.take bN++List.replicate (s.types.length-bN) 0))):=T6;have HD16:Hid (Blk (w5.setCells g bN (List.replicate (s.types.length-bN) ())) (w:Nat) #[(31:Int),na,((bN:Nat):Int),nc,nd] 81):=D16;have HD26:Hid (Blk (w5.setCells g bN (List.replicate (s.types.length-bN) ())) ((w:Nat)+1) #[.bool ab,.slice ao s.types.length ac,.slice ago s.guards.length agc] 146):=D26;have HD46:Hid (Blk (w5.setCells g bN (List.replicate (s.types.length-bN) ())) ((w:Nat)+1+1+1) #[false,nS,nS] 146):=D46;have HB6:Hid _:=B6;clear T5 T6 D1 D2 D4 D16 D26 D46 B5 B6;go_wp2_with fail;generalize w5.setCells g bN (List.replicate (s.types.length-bN) ())=w6 at *;clear hcl d1;have HLN:Hid ((s.types.take bN++List.replicate (s.types.length-bN) 0).length=s.types.length):=by show _=_;simp;omega
 have p6:=HD16.out.cell 2;have c6:=(HT6.out.cellAt bN (by omega)).trans (Co (by rw[HLN.out];omega));have d6:=(HT6.out.cellAt (bN+1) (by omega)).trans (Co (by rw[HLN.out];omega));have z6:=HT6.out.frozenAt;have T7:=(HT6.out.stored bN (1:Int)).1;rw[Dx]at T7;have T8:=(T7.stored (bN+1) (1:Int)).1;rw[Dx]at T8;have HTR:Hid (Px bN s.types=((s.types.take bN++List.replicate (s.types.length-bN) 0).set bN 1).set (bN+1) 1):=by show _=_;unfold Px;simp
 rw[←HTR.out]at T8;have k2:(bN:Int)<s.types.length:=by omega
 have k3:(bN:Int)+1<s.types.length:=by omega
 have k4:(0:Int)<=(bN:Int)+1:=by omega
 have k5:IntKind.i64.wrap ((bN:Int)+1)=(bN:Int)+1:=by unfold IntKind.wrap;simp[IntKind.signed,IntKind.bits];omega
 have HT8:Hid (((w6.setCell (g,bN) (1:Int)).setCell (g,bN+1) (1:Int)).drew.ownsRow (w4:Nat) 3 1 (.slice g s.types.length cap5) s.types.length (Az (Px bN s.types))):=Aj T8 (fun k hk=>rfl);have HB8:Hid (Below w.heap.size w ((w6.setCell ⟨g,bN,none⟩ (.int .i64 1)).setCell ⟨g,bN+1,none⟩ (.int .i64 1)).drew):=((HB6.out.setCell (by dsimp only;omega) _).setCell (by dsimp only;omega) _).drew;have HD28:Hid (Blk ((w6.setCell (g,bN) (1:Int)).setCell (g,bN+1) (1:Int)).drew ((w:Nat)+1) #[.bool ab,.slice ao s.types.length ac,.slice ago s.guards.length agc] 146):=(HD26.out.setOther (fun e=>hne2 e.symm) _).setOther (fun e=>hne2 e.symm) _;have HD48:Hid (Blk ((w6.setCell (g,bN) (1:Int)).setCell (g,bN+1) (1:Int)).drew ((w:Nat)+1+1+1) #[false,nS,nS] 146):=(HD46.out.setOther (fun e=>hne5 e.symm) _).setOther (fun e=>hne5 e.symm) _;clear T7 T8 HT6 HD16 HD26 HD46 HB6;go_wp2_with fail;go_region_held3 (fun w'=>w'.cell? ⟨w.heap.size,2,none⟩=some (.int .i64 bN)) (first|exact p6|(exact(yG _ _ _ _ hne1).trans p6)|(exact((yG _ _ _ _ hne1).trans (yG _ _ _ _ hne1)).trans p6)|(go_keep;done)) (fail);clear p6 c6 d6 z6;generalize ((w6.setCell (g,bN) (1:Int)).setCell (g,bN+1) (1:Int)).drew=w8 at *;have c8:=HD28.out.cell;have r8:=HD48.out.cell;have f8:=HD48.out.frozen;have hLg:L<=(w4:Nat):=by have:=hL;omega
 go_wp2_with fail;have HD9:=HD48.out.three (x':=false) (y':=.slice g s.types.length cap5) (z':=.slice ago s.guards.length agc);have HB9:Below w.heap.size w (((w8.setCell ⟨w.heap.size+1+1+1,0,none⟩ (.bool false)).setCell ⟨w.heap.size+1+1+1,1,none⟩ (.slice (some ⟨g,0,none⟩) s.types.length cap5)).setCell ⟨w.heap.size+1+1+1,2,none⟩ (.slice ago s.guards.length agc)):=((HB8.out.setCell (by dsimp only;omega) _).setCell (by dsimp only;omega) _).setCell (by dsimp only;omega) _;have HT9:=Aj HT8.out (w':=((w8.setCell ⟨w.heap.size+1+1+1,0,none⟩ (.bool false)).setCell ⟨w.heap.size+1+1+1,1,none⟩ (.slice (some ⟨g,0,none⟩) s.types.length cap5)).setCell ⟨w.heap.size+1+1+1,2,none⟩ (.slice ago s.guards.length agc)) (fun k hk=>by
  have hkg:k=g:=by simpa[Value.ownBlock]using hk.symm
  have hk3:k≠(w:Nat)+1+1+1:=by rw[hkg];exact hne5
  rw[yL _ _ _ _ hk3,yL _ _ _ _ hk3,yL _ _ _ _ hk3])
 have c9:=HD9.cell;have htl:(Px bN s.types).length=s.types.length:=by rw[HTR.out];simp;omega
 refine bodyPost_ret (v:=.agg #[false,.slice g s.types.length cap5,.slice ago s.guards.length agc]) ?_ rfl ⟨⟨false,some ⟨g,0,none⟩,cap5,ago,agc,?_,?_,HR2.out _ HB9⟩,HB9⟩
 ·simp[results,results254,go_sem,c9]
 ·dsimp only;rw[htl]
 ·exact(Gp.of_owns HT9).w hLg
theorem Nl (np:Nat) (p:Pd) (n:Nd) (ab bb:Bool) (ao ago bo bgo:Option Addr) (ac agc bc bgc L m:Nat) (s:St) (ts:List Int) (gs:List Gd) (w:World) (hL:L<=(w:Nat)) (hm:s.types.length=m) (ht:ts.length=m) (hm2:m<=250) (R1:Gp L w ao ac s.types) (R2:Dl L w ago agc s.guards) (R3:Gp L w bo bc ts) (R4:Dl L w bgo bgc gs) (hn:Ep np p n) (hmr:(m:Int)=p.regs) :
  Calls prog 254 #[n.val,.agg #[.bool ab,.slice ao s.types.length ac,.slice ago s.guards.length agc],.agg #[.bool bb,.slice bo ts.length bc,.slice bgo gs.length bgc]] w (Zl L w (Iq n s ts gs)):=by
 obtain⟨f1,f2,f3,f4,f5,f6⟩:=Hr hn;obtain⟨op,na,nb,nc,nd⟩:=n;dsimp only at *;unfold Nd.val Iq;dsimp only;by_cases h41:op=41
 ·subst h41;have hc:=f5 rfl;obtain⟨cN,rfl⟩:=yN hc.1;rw[if_pos rfl,Int.toNat_natCast];have hcm:cN<m:=by omega
  cases ao with
  | none=>have:=R1.nil rfl;omega
  | some a=>
   obtain⟨gb,gof,rfl⟩:=R1.form a rfl;exact Yh na nb nd cN gb gof ab bb ago bo bgo ac agc bc bgc L m s ts gs w hL hm ht hm2 R1 R2 R3 R4 hcm
 ·rw[if_neg h41];by_cases h31:op=31
  ·subst h31;have hb:=(f1 rfl).2;obtain⟨bN,rfl⟩:=yN hb.1;rw[if_pos rfl];exact Yg na nc nd bN ab bb ao ago bo bgo ac agc bc bgc L m s ts gs w hL hm ht hm2 R1 R2 R3 R4 (by omega)
  ·rw[if_neg h31];exact Sj op na nb nc nd ab bb ao ago bo bgo ac agc bc bgc L m s ts gs w hL hm ht hm2 R1 R2 R3 R4 h41 h31
end Go.Proofs.YtjbbppblgjhapaaGreatDoor
