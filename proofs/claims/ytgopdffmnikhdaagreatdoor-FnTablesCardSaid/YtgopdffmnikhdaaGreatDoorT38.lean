import Derived.Test.YtgopdffmnikhdaaGreatDoorT25
namespace Go.Proofs.YtgopdffmnikhdaaGreatDoor
open Go.RowKit Go.Deep
def tgL:List Nat→List Int→Int
 | r::rs,x::xs=>if r=11 then x else tgL rs xs
 | _,_=>-1
def tgV (n:Nd):Int:=match tgtF n with | some t=>(t:Int) | none=>-1
theorem tgL_eq {np:Nat} {p:Pd} {n:Nd} {op:Nat} (hn:InsFit np p n) (ho:n.op=op):tgL (formOf op) n.fs=tgV n:=by
 obtain⟨f1,f2,f3,f4,f5,f6⟩:=fit_tab hn
 have h1:=hn.lo
 have h2:=hn.hi
 obtain⟨o,a,b,c,d⟩:=n
 dsimp only at *
 subst ho
 rcases ops_all op (by omega) (by omega) with rfl | rfl | rfl | rfl | rfl | rfl | rfl | rfl | rfl | rfl | rfl | rfl | rfl | rfl | rfl | rfl | rfl | rfl | rfl | rfl | rfl | rfl | rfl | rfl | rfl | rfl | rfl | rfl | rfl | rfl | rfl | rfl | rfl | rfl | rfl | rfl | rfl | rfl | rfl | rfl | rfl | rfl
 all_goals first
  | rfl
  | (have:=(f1 rfl).1;simp [tgL,formOf,formTab,Nd.fs,tgV,tgtF];omega)
  | (have:=f3 rfl;simp [tgL,formOf,formTab,Nd.fs,tgV,tgtF];omega)
  | (have:=f4 (by simp);simp [tgL,formOf,formTab,Nd.fs,tgV,tgtF];omega)
theorem tgV_eq {np:Nat} {p:Pd} {n:Nd} {op f0 f1 f2 f3:Nat} (hn:InsFit np p n) (ho:n.op=op) (hfo:formOf op=[f0,f1,f2,f3]):tgV n=if f0=11 then n.a else if f1=11 then n.b else -1:=by
 have h:∀k,k<43→(formOf k).getD 2 0≠11∧(formOf k).getD 3 0≠11:=by decide
 have h0:=h op (by have:=hn.hi;omega)
 rw [←tgL_eq hn ho,hfo]
 rw [hfo] at h0
 simp at h0
 simp [tgL,Nd.fs,h0.1,h0.2]
set_option maxRecDepth 100000 in
set_option maxHeartbeats 4000000 in
theorem goesOnAt_any (np:Nat) (p:Pd) (n:Nd) (w:World) (hn:InsFit np p n) (hF:Forms w) :
  Calls Tryz.prog 315 #[n.val] w fun e w'=>e=.returned (.int .i64 (tgV n))∧Below w.heap.size w w':=by
 have h1:=hn.lo
 have h2:=hn.hi
 obtain⟨op,hop⟩:=Int.eq_ofNat_of_zero_le (by omega:0≤n.op)
 have h42:op≤42:=by omega
 obtain⟨f0,f1,f2,f3,hfo,-,-,-,-⟩:=form_four h42
 have HV:Hid (tgV n=if f0=11 then n.a else if f1=11 then n.b else -1):=tgV_eq hn hop hfo
 have HW:∀o1,Below w.heap.size w (w.alloc o1):=fun o1=>(Below.refl _ _).alloc (Nat.le_refl _) o1
 have HW2:∀o1 o2,Below w.heap.size w ((w.alloc o1).alloc o2):=fun o1 o2=>(HW o1).alloc (by simp) o2
 have c0:=fun o1=>(hF.later (HW o1)).at_ op 0 f0 (by rw [hfo];rfl)
 have c1:=fun o1=>(hF.later (HW o1)).at_ op 1 f1 (by rw [hfo];rfl)
 have c2:=fun o1=>(hF.later (HW o1)).at_ op 2 f2 (by rw [hfo];rfl)
 have c3:=fun o1=>(hF.later (HW o1)).at_ op 3 f3 (by rw [hfo];rfl)
 simp only [Nat.add_zero] at c0
 obtain⟨x0,x1,x2,x3,x4⟩:=n
 dsimp only [Nd.val] at *
 subst hop
 clear hF hfo hn h1 h2 HW
 by_cases ha:f0=11
 ·subst ha
  go_enter Tryz.func315,Tryz.ntmps315
  go_wp2_with fail
  go_ret
  exact⟨ret_int (by rw [HV.out];simp),HW2 _ _⟩
 have ea:((f0:Int) == 11)=false:=by simp;omega
 by_cases hb:f1=11
 ·subst hb
  go_enter Tryz.func315,Tryz.ntmps315
  go_wp2_with fail
  go_ret
  exact⟨ret_int (by rw [HV.out];simp [ha]),HW2 _ _⟩
 have eb:((f1:Int) == 11)=false:=by simp;omega
 go_enter Tryz.func315,Tryz.ntmps315
 go_wp2_with fail
 go_ret
 exact⟨ret_int (by rw [HV.out];simp [ha,hb]),HW2 _ _⟩
end Go.Proofs.YtgopdffmnikhdaaGreatDoor
