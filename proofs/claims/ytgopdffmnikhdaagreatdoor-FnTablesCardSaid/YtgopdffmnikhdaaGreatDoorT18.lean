import Derived.Test.YtgopdffmnikhdaaGreatDoorT01
import Derived.Test.YtgopdffmnikhdaaGreatDoorT02
namespace Go.Proofs.YtgopdffmnikhdaaGreatDoor
open Go.RowKit Go.Deep
def szN (n:Nat) (left:Int):Int:=if (n:Int)≤left then left - n else -1
theorem szN_pos {n:Nat} {left:Int} (h:(n:Int)≤left):szN n left=left - n:=if_pos h
theorem szN_neg {n:Nat} {left:Int} (h:¬(n:Int)≤left):szN n left = -1:=if_neg h
theorem szN_bd (n:Nat) (left:Int) (h:0≤left) : -1≤szN n left∧szN n left≤left:=by unfold szN;split <;> omega
def sumL {α:Type} (f:α→Nat):List α→Nat
 | []=>0
 | x::r=>f x+sumL f r
theorem sumL_mem {α:Type} {f:α→Nat} {l:List α} {x:α} (h:x ∈ l):f x≤sumL f l:=by
 induction l with
 | nil=>cases h
 | cons y r ih=>
  rw [List.mem_cons] at h
  rcases h with rfl | h
  ·simp only [sumL];omega
  ·have:=ih h;simp only [sumL];omega
def bulkVs (vs:List Vd):Nat:=vs.length+sumL (fun v=>v.str.size) vs
def bulkMs (ms:List Md):Nat:=ms.length+sumL (fun m=>m.name.size) ms
def bulkP (p:Pd):Nat:=p.name.size+p.ups.length+bulkVs p.consts+p.ins.length+bulkMs p.named
def bulkPs (ps:List Pd):Nat:=ps.length+sumL bulkP ps
def Vds (vs:List Vd):Prop:=∀v ∈ vs,v.str.size≤9223372036854775807
def Mds (ms:List Md):Prop:=∀m ∈ ms,m.name.size≤9223372036854775807
theorem sum_drop {α:Type} {f:α→Nat} {l:List α} {k:Nat} {x:α} (h:l[k]?=some x):sumL f (l.drop k)=f x+sumL f (l.drop (k+1)):=by
 rw [drop_some h];rfl
theorem szN_step {a r:Nat} {left:Int} (_h:(a:Int)≤left):szN (a+r) left=szN r (left - a):=by unfold szN;split <;> split <;> omega
structure PSz (p:Pd):Prop where
 name:p.name.size≤9223372036854775807
 ups:p.ups.length≤9223372036854775807
 consts:p.consts.length≤9223372036854775807
 ins:p.ins.length≤9223372036854775807
 named:p.named.length≤9223372036854775807
 strs:Vds p.consts
 names:Mds p.named
theorem sum_dropP {l:List Pd} {k:Nat} {x:Pd} (h:l[k]?=some x):sumL bulkP (l.drop k)=bulkP x+sumL bulkP (l.drop (k+1)):=sum_drop h
def insSum (ps:List Pd):Nat:=sumL (fun p=>p.ins.length) ps
def sizeB (ps:List Pd):Bool:=inR ps.length 1 200 && decide ((insSum ps:Int)≤6000)
theorem insSum_take {l:List Pd} {k:Nat} {p:Pd} (h:l[k]?=some p):sumL (fun p=>p.ins.length) (l.take (k+1))=sumL (fun p=>p.ins.length) (l.take k)+p.ins.length:=by
 induction l generalizing k with
 | nil=>simp at h
 | cons x r ih=>
  cases k with
  | zero=>simp at h;subst h;simp [sumL]
  | succ k=>
   simp at h
   have:=ih h
   simp only [List.take_succ_cons,sumL]
   omega
theorem sumIns_le (l:List Pd) (k:Nat):sumL (fun p=>p.ins.length) (l.take k)≤sumL bulkP l:=by
 induction l generalizing k with
 | nil=>simp [sumL]
 | cons x r ih=>
  cases k with
  | zero=>simp [sumL]
  | succ k=>
   have:=ih k
   simp only [List.take_succ_cons,sumL]
   have:x.ins.length≤bulkP x:=by unfold bulkP;omega
   omega
set_option maxRecDepth 100000 in
set_option maxHeartbeats 2000000 in
theorem sizesFit_any (ao:Option Addr) (cap:Nat) (ps:List Pd) (w:World) (hm:bulkPs ps≤1048576) (hv:ProtosAt 0 w ao ps) :
  Calls Tryz.prog 244 #[.agg #[.slice ao ps.length cap]] w fun e w'=>e=.returned (.bool (sizeB ps))∧Below w.heap.size w w':=by
 have hl:ps.length≤1048576:=by unfold bulkPs at hm;omega
 have hsum:sumL bulkP ps≤1048576:=by unfold bulkPs at hm;omega
 have hb1:∀o,Below w.heap.size w (w.alloc o):=fun o=>(Below.refl _ _).alloc (Nat.le_refl _) o
 have C0:=Blk.new w #[.slice ao ps.length cap] 26
 clear hm
 go_enter Tryz.func244,Tryz.ntmps244
 go_wp2_with fail
 go_loopw [3,9] (fun s y wr=>∃k:Nat,k≤ps.length∧y=.int .i64 k∧s=.int .i64 (sumL (fun p=>p.ins.length) (ps.take k):Nat)∧Below w.heap.size w wr∧Blk wr w.heap.size #[.slice ao ps.length cap] 26) (fun _ y _=>ps.length - (intOf y).toNat)
 case atStart=>exact ⟨0,Nat.zero_le _,rfl,rfl,hb1 _,C0⟩
 case round=>
  obtain⟨k,hk,rfl,rfl,hb,C1⟩:=hrel
  clear C0
  by_cases hkl:k<ps.length
  ·obtain⟨p,hpk⟩:=some_of_lt hkl
   obtain⟨b,off,rfl,_,hbl,h,⟨p0,p1,p2,p3,p4,p5,p6,p7,p8⟩,_⟩:=hv.later (Keeps.of_below hb) k p hpk
   have HT:Hid _:=insSum_take hpk
   have h1:=sumIns_le ps k
   have h2:=sumIns_le ps (k+1)
   rw [HT.out] at h2
   have hba:∀o,Below w.heap.size w (wr.alloc o):=fun o=>hb.alloc hb.size o
   have CA:Hid (∀o,Blk (wr.alloc o) w.heap.size #[.slice (some ⟨b,off,none⟩) ps.length cap] 26):=fun o=>C1.alloc o
   generalize hq:sumL (fun p=>p.ins.length) (ps.take k)=q at *
   clear hv hq
   go_wp2_with fail
   go_roundw
   case rel=>exact ⟨k+1,by omega,by go_num,by rw [HT.out];go_num,hba _,CA.out _⟩
   case measure=>simp [intOf];omega
  ·have hall:ps.take k=ps:=List.take_of_length_le (by omega)
   rw [hall]
   have E0:Hid (sizeB ps=(inR ps.length 1 200 && decide (((sumL (fun p=>p.ins.length) ps:Nat):Int)≤6000))):=rfl
   have hle:=sumIns_le ps ps.length
   rw [List.take_length] at hle
   have c1:=C1.cell
   generalize sumL (fun p=>p.ins.length) ps=q at *
   clear hv hall
   go_wp2_with (go_at_call 29;refine (within_any _ _ _ _).mono ?_;rintro e w' ⟨rfl,rfl⟩)
   all_goals
    go_ret
    exact⟨ret_bool (by rw [E0.out];simp_all),hb⟩
end Go.Proofs.YtgopdffmnikhdaaGreatDoor
