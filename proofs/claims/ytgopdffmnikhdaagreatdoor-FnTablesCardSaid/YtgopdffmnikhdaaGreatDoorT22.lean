import Derived.Test.YtgopdffmnikhdaaGreatDoorT02
import Derived.Test.YtgopdffmnikhdaaGreatDoorT21
import Derived.Test.YtgopdffmnikhdaaGreatDoorT03
import Derived.Test.YtgopdffmnikhdaaGreatDoorT04
namespace Go.Proofs.YtgopdffmnikhdaaGreatDoor
open Go.RowKit Go.Deep
attribute [local go_sem] run_store_float
def firstBad {α:Type} (f:Nat→α→Bool):Nat→List α→Option Nat
 | _,[]=>none
 | k,x::r=>if f k x then firstBad f (k+1) r else some k
theorem firstBad_drop {α:Type} {f:Nat→α→Bool} {l:List α} {k:Nat} {x:α} (h:l[k]?=some x):firstBad f k (l.drop k)=if f k x then firstBad f (k+1) (l.drop (k+1)) else some k:=by
 rw [drop_some h];rfl
def namedB (p:Pd) (i:Nat) (m:Md):Bool:=decide ((i:Int)<500) && inR m.name.size 1 40 && inR m.reg 0 (p.regs - 1) && decide (0≤m.fr) && decide (m.fr≤m.to) && decide (m.to≤p.ins.length)
end Go.Proofs.YtgopdffmnikhdaaGreatDoor
namespace Go.Proofs.YtgopdffmnikhdaaGreatDoor
open Go.RowKit Go.Deep
def nextB (n:Nd):Bool:=n.op != 19 && n.op != 29 && n.op != 30
set_option maxHeartbeats 400000 in
theorem hasNext_any (n:Nd) (w:World) :
  Calls Tryz.prog 298 #[n.val] w fun e w'=>e=.returned (.bool (nextB n))∧Below w.heap.size w w':=by
 obtain⟨x0,x1,x2,x3,x4⟩:=n
 dsimp only [Nd.val]
 go_enter Tryz.func298,Tryz.ntmps298
 go_wp2_with fail
 all_goals
  go_ret
  refine⟨ret_bool ?_,(Below.refl _ _).alloc (Nat.le_refl _) _⟩
  simp_all [nextB]
def formsG (np:Nat) (p:Pd) (_:Nat) (n:Nd):Bool:=formsB np p n
def insBad (np:Nat) (p:Pd):Option Nat:=
 match firstBad (formsG np p) 0 p.ins with
 | some i=>some i
 | none=>match p.ins.getLast? with
  | none=>some 0
  | some n=>if nextB n then some (p.ins.length - 1) else none
theorem insBad_bad {np:Nat} {p:Pd} {i:Nat} (h:firstBad (formsG np p) 0 p.ins=some i):insBad np p=some i:=by unfold insBad;rw [h]
theorem insBad_nil {np:Nat} {p:Pd} (h:p.ins=[]):insBad np p=some 0:=by unfold insBad;rw [h];rfl
theorem insBad_last {np:Nat} {p:Pd} {n:Nd} (h:firstBad (formsG np p) 0 p.ins=none) (hn:p.ins[p.ins.length - 1]?=some n):insBad np p=if nextB n then some (p.ins.length - 1) else none:=by
 unfold insBad
 rw [h,List.getLast?_eq_getElem?,hn]
set_option maxRecDepth 100000 in
set_option maxHeartbeats 4000000 in
theorem checkInstructions_any (ao:Option Addr) (cap:Nat) (ps:List Pd) (i:Nat) (p:Pd) (w:World) (hi:ps[i]?=some p) (hz:PFew p) (hm:ps.length≤1048576) (hw:∀n ∈ p.ins,NdW n) (hr:0≤p.regs∧p.regs≤250) (hF:Forms w) (hv:ProtosAt 0 w ao ps) :
  Calls Tryz.prog 248 #[.agg #[.slice ao ps.length cap],.int .i64 i] w fun e w'=>(∃at_:Int,e=.returned (.tuple #[.int .i64 at_,.bool (insBad ps.length p).isNone])∧∀k,insBad ps.length p=some k→at_=k)∧Below w.heap.size w w':=by
 have hlt:i<ps.length:=(List.getElem?_eq_some_iff.1 hi).1
 have hb2:∀o1 o2,Below w.heap.size w ((w.alloc o1).alloc o2):=fun o1 o2=>((Below.refl _ _).alloc (Nat.le_refl _) o1).alloc (by simp) o2
 obtain⟨b,off,rfl,_,hbl,h,n1,i1⟩:=hv i p hi
 have hn:=i1.ins
 have hz3:=hz.ins
 clear hv hi i1
 have C0:=(Blk.new w #[.slice (some ⟨b,off,none⟩) ps.length cap] 26).alloc (.cells (p.cells h) 54)
 have X0:=Blk.new (w.alloc (.cells #[.slice (some ⟨b,off,none⟩) ps.length cap] 26)) (p.cells h) 54
 rw [nblk_alloc] at X0
 obtain⟨p0,p1,p2,p3,p4,p5,p6,p7,p8⟩:=n1
 have HF:Hid (∀k m,p.ins[k]?=some m→firstBad (formsG ps.length p) k (p.ins.drop k)=if formsB ps.length p m then firstBad (formsG ps.length p) (k+1) (p.ins.drop (k+1)) else some k):=fun k m hm=>firstBad_drop hm
 unfold Pd.cells at C0 X0
 go_enter Tryz.func248,Tryz.ntmps248
 go_wp2_with fail
 go_loopw [18] (fun y wr=>∃k:Nat,k≤p.ins.length∧y=.int .i64 k∧Hid (firstBad (formsG ps.length p) k (p.ins.drop k)=firstBad (formsG ps.length p) 0 p.ins)∧Below w.heap.size w wr∧Blk wr w.heap.size #[.slice (some ⟨b,off,none⟩) ps.length cap] 26∧Blk wr (w.heap.size+1) #[.string p.name,.int .i64 p.line,.int .i64 p.params,.bool p.rest,.int .i64 p.regs,.slice h.uo p.ups.length h.uc,.slice h.co p.consts.length h.cc,.slice h.io p.ins.length h.ic,.slice h.no p.named.length h.nc] 54) (fun y _=>p.ins.length - (intOf y).toNat)
 case atStart=>exact ⟨0,Nat.zero_le _,rfl,rfl,hb2 _ _,C0,X0⟩
 case round=>
  obtain⟨k,hk,rfl,HQ,hb,C1,X1⟩:=hrel
  clear p0 p1 p2 p3 p4 p5 p6 p7 p8 C0 X0
  have HF':Hid (Forms wr):=hF.later hb
  by_cases hkl:k<p.ins.length
  ·obtain⟨m,hmk⟩:=some_of_lt hkl
   obtain⟨b',off',e',_,hbl',q0,q1,q2,q3,q4⟩:=hn.later (Keeps.of_below hb) k m hmk
   have HD:Hid (firstBad (formsG ps.length p) 0 p.ins=if formsB ps.length p m then firstBad (formsG ps.length p) (k+1) (p.ins.drop (k+1)) else some k):=HQ.out.symm.trans (HF.out k m hmk)
   have hwm:=hw m (List.mem_of_getElem? hmk)
   have hba:∀o,Below w.heap.size w (wr.alloc o):=fun o=>hb.alloc hb.size o
   have HFa:Hid (∀o,Forms (wr.alloc o)):=fun o=>HF'.out.later ((Below.refl _ _).alloc (Nat.le_refl _) o)
   have CA:Hid (∀o,Blk (wr.alloc o) w.heap.size #[.slice (some ⟨b,off,none⟩) ps.length cap] 26):=fun o=>C1.alloc o
   have XA:Hid (∀o,Blk (wr.alloc o) (w.heap.size+1) #[.string p.name,.int .i64 p.line,.int .i64 p.params,.bool p.rest,.int .i64 p.regs,.slice h.uo p.ups.length h.uc,.slice h.co p.consts.length h.cc,.slice h.io p.ins.length h.ic,.slice h.no p.named.length h.nc] 54):=fun o=>X1.alloc o
   have c1:=fun o=>(C1.alloc o).cell
   have x1:=fun o=>(X1.alloc o).cell
   have hio:h.io=some ⟨b',off',none⟩:=e'
   clear e' hn HQ HF hmk hw hF
   obtain⟨uo,uc,co,cc,io,ic,no,nc⟩:=h
   dsimp only at *
   subst hio
   go_wp2_with fail
   refine (instructionFits_any (some ⟨b,off,none⟩) cap ps.length p ⟨uo,uc,co,cc,some ⟨b',off',none⟩,ic,no,nc⟩ m _ hwm hz hm hr (HFa.out _)).mono ?_
   rintro e w1 ⟨rfl,hw1⟩
   have B1:=(hba _).trans (hw1.mono (hba _).size)
   have C2:=(CA.out _).later hw1
   have X2:=(XA.out _).later hw1
   generalize formsB ps.length p m=fb at *
   clear c1 x1 CA XA hw1 q0 q1 q2 q3 q4
   cases fb
   ·have hib:=insBad_bad (p:=p) (np:=ps.length) (i:=k) (by rw [HD.out];rfl)
    have HI:Hid (insBad ps.length p=some k):=hib
    clear hib
    go_wp2_with fail
    go_ret2
    exact⟨⟨k,by rw [HI.out];rfl,fun j hj=>by rw [HI.out] at hj;cases hj;rfl⟩,B1⟩
   ·go_wp2_with fail
    go_roundw
    case rel=>exact ⟨k+1,by omega,by go_num,by show _=_;rw [HD.out];rfl,B1,C2,X2⟩
    case measure=>simp [intOf];omega
  ·have HN:Hid (firstBad (formsG ps.length p) 0 p.ins=none):=by
    have h1:=HQ.out
    rw [List.drop_of_length_le (by omega)] at h1
    exact h1.symm
   have x1:=X1.cell
   by_cases h0:p.ins.length=0
   ·have HI:Hid (insBad ps.length p=some 0):=insBad_nil (List.length_eq_zero_iff.1 h0)
    have hl0:(p.ins.length:Int) - 1<0:=by omega
    clear hn HQ HF hw hF HF'
    go_wp2_with fail
    go_ret2
    exact⟨⟨0,by rw [HI.out];rfl,fun j hj=>by rw [HI.out] at hj;cases hj;rfl⟩,hb⟩
   ·obtain⟨m,hmk⟩:=some_of_lt (l:=p.ins) (k:=p.ins.length - 1) (by omega)
    obtain⟨b',off',e',_,hbl',q0,q1,q2,q3,q4⟩:=hn.later (Keeps.of_below hb) _ m hmk
    have HI:Hid (insBad ps.length p=if nextB m then some (p.ins.length - 1) else none):=insBad_last HN.out hmk
    obtain⟨L,hL⟩:∃L,p.ins.length=L+1:=⟨p.ins.length - 1,by omega⟩
    rw [hL,Nat.add_sub_cancel] at q0 q1 q2 q3 q4 HI
    have hi1:((p.ins.length:Int) - 1)=(L:Int):=by omega
    have hi2:((L:Int)<(p.ins.length:Int)):=by omega
    have HLL:Hid (p.ins.length=L+1):=hL
    have hio:h.io=some ⟨b',off',none⟩:=e'
    clear e' hn HQ HF hmk hw hF HF' hL h0
    obtain⟨uo,uc,co,cc,io,ic,no,nc⟩:=h
    dsimp only at *
    subst hio
    go_wp2_with fail
    refine (hasNext_any m _).mono ?_
    rintro e w1 ⟨rfl,hw1⟩
    have B1:=hb.trans (hw1.mono hb.size)
    generalize nextB m=nb at *
    clear q0 q1 q2 q3 q4 x1 hw1
    cases nb
    ·go_wp2_with fail
     go_ret2
     exact⟨⟨L,by rw [HI.out];rfl,fun j hj=>by rw [HI.out] at hj;cases hj⟩,B1⟩
    ·go_wp2_with fail
     go_ret2
     exact⟨⟨L,by rw [HI.out];rfl,fun j hj=>by rw [HI.out] at hj;cases hj;rfl⟩,B1⟩
attribute [local go_sem] run_store_float
def badT:Option Nat→Value
  | none=>.tuple #[.int .i64 0,.bool true]
  | some i=>.tuple #[.int .i64 i,.bool false]
theorem badT_none {o:Option Nat} (h:o=none):Ending.returned (.tuple #[.int .i64 0,.bool true])=.returned (badT o):=by rw [h];rfl
theorem badT_some {o:Option Nat} {i:Nat} (h:o=some i):Ending.returned (.tuple #[.int .i64 i,.bool false])=.returned (badT o):=by rw [h];rfl
set_option maxRecDepth 100000 in
set_option maxHeartbeats 2000000 in
theorem checkNamed_any (ao:Option Addr) (cap:Nat) (ps:List Pd) (i:Nat) (p:Pd) (w:World) (hi:ps[i]?=some p) (hz:PFew p) (hr:0≤p.regs∧p.regs≤250) (hv:ProtosAt 0 w ao ps) :
    Calls Tryz.prog 247 #[.agg #[.slice ao ps.length cap],.int .i64 i] w fun e w'=>e=.returned (badT (firstBad (namedB p) 0 p.named))∧Below w.heap.size w w':=by
  have hlt:i<ps.length:=(List.getElem?_eq_some_iff.1 hi).1
  have hb2:∀o1 o2,Below w.heap.size w ((w.alloc o1).alloc o2):=fun o1 o2=>((Below.refl _ _).alloc (Nat.le_refl _) o1).alloc (by simp) o2
  obtain⟨b,off,rfl,_,hbl,h,n1,i1⟩:=hv i p hi
  have hn:=i1.named
  clear hv hi i1
  obtain⟨z1,z2,z3,z4⟩:=hz
  have E0:Hid (∀i m,namedB p i m=(decide ((i:Int)<500) && inR m.name.size 1 40 && inR m.reg 0 (p.regs - 1) && decide (0≤m.fr) && decide (m.fr≤m.to) && decide (m.to≤p.ins.length))):=fun _ _=>rfl
  have HF:Hid (∀k m,p.named[k]?=some m→firstBad (namedB p) k (p.named.drop k)=if namedB p k m then firstBad (namedB p) (k+1) (p.named.drop (k+1)) else some k):=fun k m hm=>firstBad_drop hm
  generalize namedB p=nb at *
  obtain⟨nm,ln,pa,re,rg,us,cs,is,ms⟩:=p
  obtain⟨uo,uc,co,cc,io,ic,no,nc⟩:=h
  obtain⟨p0,p1,p2,p3,p4,p5,p6,p7,p8⟩:=n1
  dsimp only at *
  obtain⟨hr1,hr2⟩:=hr
  have X0:=Blk.new (w.alloc (.cells #[.slice (some ⟨b,off,none⟩) ps.length cap] 26)) #[.string nm,.int .i64 ln,.int .i64 pa,.bool re,.int .i64 rg,.slice uo us.length uc,.slice co cs.length cc,.slice io is.length ic,.slice no ms.length nc] 54
  rw [nblk_alloc] at X0
  go_enter Tryz.func247,Tryz.ntmps247
  go_wp2_with fail
  go_loopw [18] (fun x wr=>∃k:Nat,k≤ms.length∧k≤500∧x=.int .i64 k∧Hid (firstBad nb k (ms.drop k)=firstBad nb 0 ms)∧Below w.heap.size w wr∧Blk wr (w.heap.size+1) #[.string nm,.int .i64 ln,.int .i64 pa,.bool re,.int .i64 rg,.slice uo us.length uc,.slice co cs.length cc,.slice io is.length ic,.slice no ms.length nc] 54) (fun x _=>ms.length - (intOf x).toNat)
  case atStart=>exact ⟨0,Nat.zero_le _,by omega,rfl,rfl,hb2 _ _,X0⟩
  case round=>
    obtain⟨k,hk,hk5,rfl,HQ,hb,X1⟩:=hrel
    clear X0 p0 p1 p2 p3 p4 p5 p6 p7 p8
    by_cases hkl:k<ms.length
    · obtain ⟨m,hmk⟩:=some_of_lt hkl
      obtain⟨b',off',rfl,_,hbl',q0,q1,q2,q3⟩:=hn.later (Keeps.of_below hb) k m hmk
      have HD:Hid (firstBad nb 0 ms=if nb k m then firstBad nb (k+1) (ms.drop (k+1)) else some k):=HQ.out.symm.trans (HF.out k m hmk)
      have HN:Hid (nb k m=_):=E0.out k m
      have x1:=fun o=>(X1.alloc o).cell
      have hba:∀o,Below w.heap.size w (wr.alloc o):=fun o=>hb.alloc hb.size o
      have hXa:∀o,Blk (wr.alloc o) (w.heap.size+1) _ _:=fun o=>X1.alloc o
      obtain⟨m0,m1,m2,m3⟩:=m
      dsimp only at *
      clear hn HF E0 HQ hb2 hmk
      go_wp2_with (go_at_call 29;refine (within_any _ _ _ _).mono ?_;rintro e w' ⟨rfl,rfl⟩)
      all_goals first
        | (go_ret2
           exact⟨badT_some (by rw [HD.out,HN.out];clear x1 hba hXa HD HN q0 q1 q2 q3;first | (simp_all;done) | (simp_all;omega)),hba _⟩)
        | (have h5:¬(k:Int)=500:=by simpa using (by assumption:((k:Int) == 500)=false)
           go_roundw
           case rel=>exact ⟨k+1,by omega,by omega,by go_num,by
             show _=_
             rw [HD.out,HN.out,if_pos]
             clear x1 hba hXa HD HN q0 q1 q2 q3
             first | (simp_all;done) | (simp_all;omega),hba _,hXa _⟩
           case measure=>simp [intOf];omega)
    · go_wp2_with fail
      go_ret2
      have h:=HQ.out
      rw [List.drop_of_length_le (by omega)] at h
      exact⟨badT_none h.symm,hb⟩
end Go.Proofs.YtgopdffmnikhdaaGreatDoor
namespace Go.Proofs.YtgopdffmnikhdaaGreatDoor
open Go.RowKit Go.Deep
attribute [local go_sem] run_store_float
set_option maxHeartbeats 400000 in
theorem isNaN_any (x:Nat) (w:World) :
  Calls Tryz.prog 147 #[.float .f64 x] w fun e w'=>e=.returned (.bool (FloatKind.f64.format.order x x != some .eq))∧w'=w:=by
 go_enter Tryz.func147,Tryz.ntmps147
 go_wp2_with fail
 go_ret
 exact⟨rfl,rfl⟩
theorem run_bits (x:Nat) (w:World):(callFunc 330 #[.float .f64 x]).run Tryz.prog w=.ok (.value (.int .u64 x)) w:=by
 rw [run_callFunc_extern (e:=Extern.MathFloatBits.float64bits) Tryz.func330 (by kernel_rfl) (by kernel_rfl) (by kernel_rfl) (by kernel_rfl)]
 rfl
set_option maxRecDepth 100000 in
set_option maxHeartbeats 400000 in
theorem signbit_any (x:Nat) (w:World) :
  Calls Tryz.prog 273 #[.float .f64 x] w fun e w'=>e=.returned (.bool (decide (wrap64 x<0)))∧w'=w:=by
 have hb:=run_bits
 go_enter Tryz.func273,Tryz.ntmps273
 go_wp2_with fail
 go_ret
 exact⟨rfl,rfl⟩
def constB (v:Vd):Bool:=validB v && (!decide (v.kind=5∨v.kind=6∨v.kind=7) && (if v.kind=3 then FloatKind.f64.format.order v.flt v.flt == some .eq else decide (v.flt=0)))
theorem valid_fz {v:Vd} (h:validB v=true) (hk:v.kind≠3):fz v.flt=true:=by
 unfold validB at h
 rcases kinds v.kind with e | e | e | e | e | e | e | e | e | e <;> simp_all [zeroB]
theorem quo_pos {x:Nat} (hx:x<18446744073709551616) (h:fz x=true):∃r,floatBits .quo .f64 4607182418800017408 x=some r∧(FloatKind.f64.format.order r 0 == some .gt)=decide (x=0):=by
 rcases zero_bits x hx h with rfl | rfl
 ·exact⟨_,div_zero,by rw [pos_inf];rfl⟩
 ·exact⟨_,div_minus,by rw [neg_inf];rfl⟩
theorem sign_pos {x:Nat} (hx:x<18446744073709551616) (h:fz x=true):decide (wrap64 x<0) = !decide (x=0):=by
 rcases zero_bits x hx h with rfl | rfl <;> decide +kernel
set_option maxHeartbeats 2000000 in
theorem constFits_any (v:Vd) (hf:v.flt<18446744073709551616) (w:World) :
  Calls Tryz.prog 296 #[v.val] w fun e w'=>e=.returned (.bool (constB v))∧Below w.heap.size w w':=by
 have hv:=valid_any v
 have hz:=@valid_fz v
 have hq:=@sign_pos v.flt hf
 clear hf
 have HC:Hid (constB v=(validB v && (!decide (v.kind=5∨v.kind=6∨v.kind=7) && (if v.kind=3 then FloatKind.f64.format.order v.flt v.flt == some .eq else decide (v.flt=0))))):=rfl
 obtain⟨x0,x1,x2,x3,x4⟩:=v
 dsimp only [Vd.val] at *
 generalize constB ⟨x0,x1,x2,x3,x4⟩=cb at *
 generalize validB ⟨x0,x1,x2,x3,x4⟩=vb at *
 have hb1:∀o,Below w.heap.size w (w.alloc o):=fun o=>(Below.refl _ _).alloc (Nat.le_refl _) o
 have X0:=Blk.new w #[.int .i64 x0,.int .i64 x1,.float .f64 x2,.string x3,.int .i64 x4] 44
 have HV:Hid (∀w,Calls Tryz.prog 210 #[.agg #[.int .i64 x0,.int .i64 x1,.float .f64 x2,.string x3,.int .i64 x4]] w fun e w'=>e=.returned (.bool vb)∧Below w.heap.size w w'):=hv
 clear hv
 by_cases h5:x0=5∨x0=6∨x0=7
 ·rcases h5 with rfl | rfl | rfl
  all_goals
   clear hz hq HV
   go_enter Tryz.func296,Tryz.ntmps296
   go_wp2_with fail
   go_ret
   exact⟨ret_bool (by rw [HC.out];simp),hb1 _⟩
 ·have e5:(x0 == 5)=false:=by simp;omega
  have e6:(x0 == 6)=false:=by simp;omega
  have e7:(x0 == 7)=false:=by simp;omega
  have H5:Hid (¬(x0=5∨x0=6∨x0=7)):=h5
  clear h5
  by_cases h3:x0=3
  ·subst h3
   clear hz hq
   cases vb
   ·go_enter Tryz.func296,Tryz.ntmps296
    go_wp2_with (go_at_call 210;refine (HV.out _).mono ?_;rintro e w1 ⟨rfl,hw1⟩;have y1:=(X0.later hw1).cell)
    go_ret
    exact⟨ret_bool (by rw [HC.out];simp),(hb1 _).trans (hw1.mono (by simp))⟩
   ·go_enter Tryz.func296,Tryz.ntmps296
    go_wp2_with (first | (go_at_call 210;refine (HV.out _).mono ?_;rintro e w1 ⟨rfl,hw1⟩;have y1:=(X0.later hw1).cell) | (go_at_call 147;refine (isNaN_any x2 _).mono ?_;rintro e w2 ⟨rfl,rfl⟩))
    go_ret
    exact⟨ret_bool (by rw [HC.out];simp;first | done | rfl),(hb1 _).trans (hw1.mono (by simp))⟩
  ·have k3:(x0 == 3)=false:=by simpa using h3
   have H3:Hid (¬x0=3):=h3
   cases vb
   ·clear hz hq h3
    go_enter Tryz.func296,Tryz.ntmps296
    go_wp2_with (go_at_call 210;refine (HV.out _).mono ?_;rintro e w1 ⟨rfl,hw1⟩;have y1:=(X0.later hw1).cell)
    go_ret
    exact⟨ret_bool (by rw [HC.out];simp),(hb1 _).trans (hw1.mono (by simp))⟩
   ·have HR:Hid (decide (wrap64 x2<0) = !decide (x2=0)):=hq (hz rfl h3)
    clear hz hq h3
    go_enter Tryz.func296,Tryz.ntmps296
    go_wp2_with (first | (go_at_call 210;refine (HV.out _).mono ?_;rintro e w1 ⟨rfl,hw1⟩;have y1:=(X0.later hw1).cell) | (go_at_call 273;refine (signbit_any x2 _).mono ?_;rintro e w2 ⟨rfl,rfl⟩))
    all_goals
     go_ret
     exact⟨ret_bool (by rw [HC.out,decide_eq_false H5.out,if_neg H3.out];have h:=HR.out;simp at h ⊢;first | exact h | (by_cases hh:x2=0 <;> simp_all <;> omega)),(hb1 _).trans (hw1.mono (by simp))⟩
end Go.Proofs.YtgopdffmnikhdaaGreatDoor
namespace Go.Proofs.YtgopdffmnikhdaaGreatDoor
open Go.RowKit Go.Deep
attribute [local go_sem] run_store_float
def constG (_:Nat) (v:Vd):Bool:=constB v
set_option maxRecDepth 100000 in
set_option maxHeartbeats 2000000 in
theorem checkConsts_any (ao:Option Addr) (cap:Nat) (ps:List Pd) (i:Nat) (p:Pd) (w:World) (hi:ps[i]?=some p) (hz:PFew p) (hf:Flts p.consts) (hv:ProtosAt 0 w ao ps) :
  Calls Tryz.prog 246 #[.agg #[.slice ao ps.length cap],.int .i64 i] w fun e w'=>e=.returned (badT (firstBad constG 0 p.consts))∧Below w.heap.size w w':=by
 have hlt:i<ps.length:=(List.getElem?_eq_some_iff.1 hi).1
 have hb1:∀o,Below w.heap.size w (w.alloc o):=fun o=>(Below.refl _ _).alloc (Nat.le_refl _) o
 obtain⟨b,off,rfl,_,hbl,h,n1,i1⟩:=hv i p hi
 have hn:=i1.consts
 clear hv hi i1
 obtain⟨z1,z2,z3,z4⟩:=hz
 obtain⟨nm,ln,pa,re,rg,us,cs,is,ms⟩:=p
 obtain⟨uo,uc,co,cc,io,ic,no,nc⟩:=h
 obtain⟨p0,p1,p2,p3,p4,p5,p6,p7,p8⟩:=n1
 dsimp only at *
 have HF:Hid (∀k m,cs[k]?=some m→firstBad constG k (cs.drop k)=if constG k m then firstBad constG (k+1) (cs.drop (k+1)) else some k):=fun k m hm=>firstBad_drop hm
 go_enter Tryz.func246,Tryz.ntmps246
 go_wp2_with fail
 go_loopw [15] (fun x wr=>∃k:Nat,k≤cs.length∧x=.int .i64 k∧Hid (firstBad constG k (cs.drop k)=firstBad constG 0 cs)∧Below w.heap.size w wr) (fun x _=>cs.length - (intOf x).toNat)
 case atStart=>exact ⟨0,Nat.zero_le _,rfl,rfl,hb1 _⟩
 case round=>
  obtain⟨k,hk,rfl,HQ,hb⟩:=hrel
  clear p0 p1 p2 p3 p4 p5 p6 p7 p8
  by_cases hkl:k<cs.length
  ·obtain⟨m,hmk⟩:=some_of_lt hkl
   obtain⟨b',off',rfl,_,hbl',q0,q1,q2,q3,q4⟩:=hn.later (Keeps.of_below hb) k m hmk
   have hfm:=hf m (List.mem_of_getElem? hmk)
   have HD:Hid (firstBad constG 0 cs=if constB m then firstBad constG (k+1) (cs.drop (k+1)) else some k):=HQ.out.symm.trans (HF.out k m hmk)
   have hba:∀o,Below w.heap.size w (wr.alloc o):=fun o=>hb.alloc hb.size o
   clear hn HF HQ hb1 hmk hf
   have HM:Hid (m.flt<18446744073709551616):=hfm
   clear hfm
   go_wp2_with fail
   refine (constFits_any m HM.out _).mono ?_
   rintro e w1 ⟨rfl,hw1⟩
   have hb2:=(hba _).trans (hw1.mono (hba _).size)
   generalize constB m=cb at *
   cases cb
   ·go_wp2_with fail
    go_ret2
    exact⟨badT_some (by rw [HD.out];rfl),hb2⟩
   ·go_wp2_with fail
    go_roundw
    case rel=>exact ⟨k+1,by omega,by go_num,by show _=_;rw [HD.out];rfl,hb2⟩
    case measure=>simp [intOf];omega
  ·go_wp2_with fail
   go_ret2
   have h:=HQ.out
   rw [List.drop_of_length_le (by omega)] at h
   exact⟨badT_none h.symm,hb⟩
end Go.Proofs.YtgopdffmnikhdaaGreatDoor
namespace Go.Proofs.YtgopdffmnikhdaaGreatDoor
open Go.RowKit Go.Deep
def upB (p:Pd) (u:Ud):Bool:=if u.loc then inR u.idx 0 (p.regs - 1) else inR u.idx 0 (p.ups.length - 1)
def upsB (p:Pd) (us:List Ud):Bool:=us.all (upB p)
theorem upsB_drop {p:Pd} {l:List Ud} {k:Nat} {u:Ud} (h:l[k]?=some u):upsB p (l.drop k)=(upB p u && upsB p (l.drop (k+1))):=by
 rw [drop_some h];rfl
set_option maxRecDepth 100000 in
set_option maxHeartbeats 2000000 in
theorem upsFit_any (p:Pd) (h:Ph) (ao:Option Addr) (cap:Nat) (us:List Ud) (w:World) (hm:us.length≤1048576) (hz:PFew p) (hr:0≤p.regs∧p.regs≤250) (hu:UpsAt 0 w ao us) :
  Calls Tryz.prog 299 #[.agg (p.cells h),.slice ao us.length cap] w fun e w'=>e=.returned (.bool (upsB p us))∧Below w.heap.size w w':=by
 have hb1:∀o,Below w.heap.size w (w.alloc o):=fun o=>(Below.refl _ _).alloc (Nat.le_refl _) o
 obtain⟨hr1,hr2⟩:=hr
 have z1:=hz.ups
 have X0:=Blk.new w (p.cells h) 54
 unfold Pd.cells at *
 go_enter Tryz.func299,Tryz.ntmps299
 go_wp2_with fail
 go_loopw [10] (fun y wr=>∃k:Nat,k≤us.length∧y=.int .i64 k∧Hid (upsB p (us.drop k)=upsB p us)∧Below w.heap.size w wr∧Blk wr w.heap.size #[.string p.name,.int .i64 p.line,.int .i64 p.params,.bool p.rest,.int .i64 p.regs,.slice h.uo p.ups.length h.uc,.slice h.co p.consts.length h.cc,.slice h.io p.ins.length h.ic,.slice h.no p.named.length h.nc] 54) (fun y _=>us.length - (intOf y).toNat)
 case atStart=>exact ⟨0,Nat.zero_le _,rfl,rfl,hb1 _,X0⟩
 case round=>
  obtain⟨k,hk,rfl,HQ,hb,X1⟩:=hrel
  clear X0
  by_cases hkl:k<us.length
  ·obtain⟨u,huk⟩:=some_of_lt hkl
   obtain⟨b,off,rfl,_,hbl,q0,q1⟩:=hu.later (Keeps.of_below hb) k u huk
   have HD:Hid (upsB p us=(upB p u && upsB p (us.drop (k+1)))):=HQ.out.symm.trans (upsB_drop huk)
   have HU:Hid (upB p u=if u.loc then inR u.idx 0 (p.regs - 1) else inR u.idx 0 (p.ups.length - 1)):=rfl
   have hba:∀o,Below w.heap.size w (wr.alloc o):=fun o=>hb.alloc hb.size o
   have XA:Hid (∀o,Blk (wr.alloc o) w.heap.size #[.string p.name,.int .i64 p.line,.int .i64 p.params,.bool p.rest,.int .i64 p.regs,.slice h.uo p.ups.length h.uc,.slice h.co p.consts.length h.cc,.slice h.io p.ins.length h.ic,.slice h.no p.named.length h.nc] 54):=fun o=>X1.alloc o
   have x1:=fun o=>(X1.alloc o).cell
   obtain⟨l,x⟩:=u
   dsimp only at *
   clear hu HQ huk
   cases l
   ·go_wp2_with (go_at_call 29;refine (within_any _ _ _ _).mono ?_;rintro e w' ⟨rfl,rfl⟩)
    ·go_ret
     exact⟨ret_bool (by rw [HD.out,HU.out];simp_all),hba _⟩
    ·go_roundw
     case rel=>exact ⟨k+1,by omega,by go_num,by show _=_;rw [HD.out,HU.out];simp_all,hba _,XA.out _⟩
     case measure=>simp [intOf];omega
   ·go_wp2_with (go_at_call 29;refine (within_any _ _ _ _).mono ?_;rintro e w' ⟨rfl,rfl⟩)
    ·go_ret
     exact⟨ret_bool (by rw [HD.out,HU.out];simp_all),hba _⟩
    ·go_roundw
     case rel=>exact ⟨k+1,by omega,by go_num,by show _=_;rw [HD.out,HU.out];simp_all,hba _,XA.out _⟩
     case measure=>simp [intOf];omega
  ·go_wp2_with fail
   go_ret
   have h1:=HQ.out
   rw [List.drop_of_length_le (by omega)] at h1
   exact⟨ret_bool h1,hb⟩
def boolArr (m:List Bool):Array Value:=(m.map Value.bool).toArray
theorem boolArr_set (m:List Bool) (i:Nat) (b:Bool):(boolArr m).setIfInBounds i (.bool b)=boolArr (m.set i b):=by
 unfold boolArr
 rw [List.setIfInBounds_toArray,List.map_set]
theorem boolArr_get {m:List Bool} {i:Nat} (h:i<m.length):(boolArr m)[i]?=some (.bool (m.getD i false)):=by
 unfold boolArr
 simp [h]
def firstIdx (v:Bool):List Bool→Nat→Int
 | [],_=>-1
 | b::r,k=>if b=v then k else firstIdx v r (k+1)
theorem firstIdx_drop {v:Bool} {l:List Bool} {k:Nat} (h:k<l.length):firstIdx v (l.drop k) k=if l.getD k false=v then (k:Int) else firstIdx v (l.drop (k+1)) (k+1):=by
 rw [List.drop_eq_getElem_cons h,firstIdx]
 simp [h]
set_option maxRecDepth 100000 in
set_option maxHeartbeats 400000 in
theorem indexBool_any (g c:Nat) (m:List Bool) (v:Bool) (w:World) (hm:m.length≤1048576) (hB:Blk w g (boolArr m) 4) :
  Calls Tryz.prog 300 #[.slice (some ⟨g,0,none⟩) m.length c,.bool v] w fun e w'=>e=.returned (.int .i64 (firstIdx v m 0))∧Below w.heap.size w w':=by
 go_enter Tryz.func300,Tryz.ntmps300
 go_wp2_with fail
 go_loop [8] (fun y=>∃k:Nat,k≤m.length∧y=.int .i64 k∧Hid (firstIdx v (m.drop k) k=firstIdx v m 0)) (fun y=>m.length - (intOf y).toNat)
 case atStart=>exact ⟨0,Nat.zero_le _,rfl,rfl⟩
 case round=>
  obtain⟨k,hk,rfl,HQ⟩:=hrel
  by_cases hkl:k<m.length
  ·have HD:Hid (firstIdx v m 0=if m.getD k false=v then (k:Int) else firstIdx v (m.drop (k+1)) (k+1)):=HQ.out.symm.trans (firstIdx_drop hkl)
   have c1:=(hB.cell k).trans (boolArr_get hkl)
   generalize m.getD k false=x at *
   clear hB HQ
   by_cases hx:x=v
   ·subst hx
    go_wp2_with fail
    go_ret
    exact⟨ret_int (by rw [HD.out];simp),Below.refl _ _⟩
   ·have hx':(v == x)=false:=by cases x <;> cases v <;> simp_all
    have HX:Hid (¬x=v):=hx
    clear hx
    go_wp2_with fail
    go_round
    case rel=>exact ⟨k+1,by omega,by go_num,by show _=_;rw [HD.out,if_neg HX.out]⟩
    case measure=>simp [intOf];omega
  ·go_wp2_with fail
   go_ret
   have h1:=HQ.out
   rw [List.drop_of_length_le (by omega)] at h1
   exact⟨ret_int h1,Below.refl _ _⟩
def fnBad (ps:List Pd) (pi:Nat) (p:Pd) (m:List Bool) (n:Nd):Bool:=
 decide (n.b≤pi) || (m.getD n.b.toNat false || !upsB p ((ps[n.b.toNat]?.map Pd.ups).getD []))
def mkIns (ps:List Pd) (pi:Nat) (p:Pd):Nat→List Nd→List Bool→Option Nat × List Bool
 | _,[],m=>(none,m)
 | k,n::r,m=>if n.op == 11 then (if fnBad ps pi p m n then (some k,m) else mkIns ps pi p (k+1) r (m.set n.b.toNat true)) else mkIns ps pi p (k+1) r m
theorem mkIns_drop {ps:List Pd} {pi:Nat} {p:Pd} {l:List Nd} {k:Nat} {n:Nd} (h:l[k]?=some n) (m:List Bool) :
  mkIns ps pi p k (l.drop k) m=if n.op == 11 then (if fnBad ps pi p m n then (some k,m) else mkIns ps pi p (k+1) (l.drop (k+1)) (m.set n.b.toNat true)) else mkIns ps pi p (k+1) (l.drop (k+1)) m:=by
 rw [drop_some h];rfl
def mkAll (ps:List Pd):Nat→List Pd→List Bool→Option (Nat × Nat) × List Bool
 | _,[],m=>(none,m)
 | pi,p::r,m=>match mkIns ps pi p 0 p.ins m with
  | (some k,m')=>(some (pi,k),m')
  | (none,m')=>mkAll ps (pi+1) r m'
theorem mkAll_drop {ps l:List Pd} {k:Nat} {p:Pd} (h:l[k]?=some p) (m:List Bool) :
  mkAll ps k (l.drop k) m=match mkIns ps k p 0 p.ins m with
  | (some j,m')=>(some (k,j),m')
  | (none,m')=>mkAll ps (k+1) (l.drop (k+1)) m':=by
 rw [drop_some h];rfl
end Go.Proofs.YtgopdffmnikhdaaGreatDoor
