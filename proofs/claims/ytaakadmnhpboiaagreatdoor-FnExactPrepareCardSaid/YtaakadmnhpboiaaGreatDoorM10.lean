import Derived.Test.YtaakadmnhpboiaaGreatDoorM05
import Derived.Test.YtaakadmnhpboiaaGreatDoorM08
import Derived.Test.YtaakadmnhpboiaaGreatDoorM06
import Derived.Test.YtaakadmnhpboiaaGreatDoorM09
namespace Go.Proofs.YtaakadmnhpboiaaGreatDoor
open Go.RowKit Go.Deep
def convTab:List Nat:=[0,11,12,7,8,9,15,16,17,13,14,10,2,3,4,5,6,20,18,21,1,1,1,19]
def convR (r:Nat):Nat:=convTab.getD r 0
theorem conv_forms (op:Nat) (h1:1≤op) (h2:op≤42):(formOf op).map convR=rolesOf op:=by
 have h:∀k,k<43→1≤k→(formOf k).map convR=rolesOf k:=by decide
 exact h op (by omega) h1
theorem field_cases (np:Nat) (p:Pd) (r:Nat) (x:Int) (hr:r≤23) :
  (fieldVal np p r x=.iface 247 (.int .i64 x)∧(x == 0)=fitsR np p (convR r) x)∨
  (∃lo hi,fieldVal np p r x=.iface 253 (.agg #[.int .i64 x,.int .i64 lo,.int .i64 hi])∧inR x lo hi=fitsR np p (convR r) x)∨
  (fieldVal np p r x=.iface 251 (.agg #[.int .i64 x,.int .i64 p.ins.length])∧inR x 0 (p.ins.length - 1)=fitsR np p (convR r) x)∨
  (∃t,fieldVal np p r x=.iface 236 (.agg #[.int .i64 x,.int .i64 t])∧inR x (-p.regs) (p.regs - 1)=fitsR np p (convR r) x)∨
  (∃k t,fieldVal np p r x=.iface 249 (.agg #[.int .i64 x,.int .i64 k,.int .i64 t])∧0≤k∧k≤3∧inR x 0 (p.regs - k)=fitsR np p (convR r) x)∨
  (∃t,fieldVal np p r x=.iface 226 (.agg #[.int .i64 x,.int .i64 t])∧inR x 0 (p.regs - 1)=fitsR np p (convR r) x)∨
  (fieldVal np p r x=.iface 228 (.agg #[.int .i64 x])∧inR x 0 (p.regs - 2)=fitsR np p (convR r) x):=by
 rcases forms_all r hr with rfl | rfl | rfl | rfl | rfl | rfl | rfl | rfl | rfl | rfl | rfl | rfl | rfl | rfl | rfl | rfl | rfl | rfl | rfl | rfl | rfl | rfl | rfl | rfl
 all_goals first
  | exact Or.inl ⟨rfl,rfl⟩
  | exact Or.inr (Or.inl ⟨_,_,rfl,rfl⟩)
  | exact Or.inr (Or.inr (Or.inl ⟨rfl,rfl⟩))
  | exact Or.inr (Or.inr (Or.inr (Or.inl ⟨_,rfl,rfl⟩)))
  | exact Or.inr (Or.inr (Or.inr (Or.inr (Or.inl ⟨_,_,rfl,by omega,by omega,rfl⟩))))
  | exact Or.inr (Or.inr (Or.inr (Or.inr (Or.inr (Or.inl ⟨_,rfl,rfl⟩)))))
  | exact Or.inr (Or.inr (Or.inr (Or.inr (Or.inr (Or.inr ⟨rfl,rfl⟩)))))
theorem meth_unused (v : Value) (w : World) : (method 382 247 v "loop.example/loom/impl.fits").run Tryz.prog w = .ok (197, v) w := by kernel_rfl
theorem meth_number (v : Value) (w : World) : (method 382 253 v "loop.example/loom/impl.fits").run Tryz.prog w = .ok (200, v) w := by kernel_rfl
theorem meth_target (v : Value) (w : World) : (method 382 251 v "loop.example/loom/impl.fits").run Tryz.prog w = .ok (199, v) w := by kernel_rfl
theorem meth_operand (v : Value) (w : World) : (method 382 236 v "loop.example/loom/impl.fits").run Tryz.prog w = .ok (196, v) w := by kernel_rfl
theorem meth_places (v : Value) (w : World) : (method 382 249 v "loop.example/loom/impl.fits").run Tryz.prog w = .ok (198, v) w := by kernel_rfl
theorem meth_result (v : Value) (w : World) : (method 382 226 v "loop.example/loom/impl.fits").run Tryz.prog w = .ok (194, v) w := by kernel_rfl
theorem meth_opening (v : Value) (w : World) : (method 382 228 v "loop.example/loom/impl.fits").run Tryz.prog w = .ok (195, v) w := by kernel_rfl
structure NdW (n:Nd):Prop where
 op:I64 n.op
 a:I64 n.a
 b:I64 n.b
 c:I64 n.c
 d:I64 n.d
def formsB (np:Nat) (p:Pd) (n:Nd):Bool:=inR n.op 1 42 && fitAll np p (rolesOf n.op.toNat) n.fs
def FieldOk (np:Nat) (p:Pd) (t:TypeId) (v:Value) (b:Bool):Prop:=
 ∃ f : Nat, (∀ w : World, (method 382 t v "loop.example/loom/impl.fits").run Tryz.prog w = .ok (f, v) w) ∧ np = np ∧ p = p ∧
  (∀(w:World),Calls Tryz.prog f #[v,.int .i64 p.regs] w fun e w'=>e=.returned (.bool b)∧Below w.heap.size w w')∧
  (f=197∨f=200∨f=199∨f=196∨f=198∨f=194∨f=195)
theorem field_ok (np:Nat) (p:Pd) (r:Nat) (x:Int) (hr:r≤23) (hx:I64 x) (hreg:0≤p.regs∧p.regs≤250) (hi:p.ins.length≤1048576) :
  ∃t v,fieldVal np p r x=.iface t v∧FieldOk np p t v (fitsR np p (convR r) x):=by
 rcases field_cases np p r x hr with ⟨ee,HE⟩ | ⟨lo,hi',ee,HE⟩ | ⟨ee,HE⟩ | ⟨tt,ee,HE⟩ | ⟨kk,tt,ee,h1,h2,HE⟩ | ⟨tt,ee,HE⟩ | ⟨ee,HE⟩
 ·exact⟨_,_,ee,_,fun w=>meth_unused _ w,rfl,rfl,by rw [←HE];exact fun w=>unusedFits_any x _ w,by simp⟩
 ·exact⟨_,_,ee,_,fun w=>meth_number _ w,rfl,rfl,by rw [←HE];exact fun w=>numberFits_any x lo hi' _ w,by simp⟩
 ·exact⟨_,_,ee,_,fun w=>meth_target _ w,rfl,rfl,by rw [←HE];exact fun w=>targetFits_any x _ _ hi w,by simp⟩
 ·exact⟨_,_,ee,_,fun w=>meth_operand _ w,rfl,rfl,by rw [←HE];exact fun w=>operandFits_any x tt _ hx.1 hx.2 w,by simp⟩
 ·exact⟨_,_,ee,_,fun w=>meth_places _ w,rfl,rfl,by rw [←HE];exact fun w=>placesFits_any x kk tt _ hreg.1 hreg.2 h1 h2 w,by simp⟩
 ·exact⟨_,_,ee,_,fun w=>meth_result _ w,rfl,rfl,by rw [←HE];exact fun w=>resultFits_any x tt _ hreg.1 hreg.2 w,by simp⟩
 ·exact⟨_,_,ee,_,fun w=>meth_opening _ w,rfl,rfl,by rw [←HE];exact fun w=>openingFits_any x _ hreg.1 hreg.2 w,by simp⟩
set_option maxRecDepth 100000 in
set_option maxHeartbeats 8000000 in
theorem instructionFits_any (ao:Option Addr) (cap np:Nat) (p:Pd) (h:Ph) (n:Nd) (w:World) (hn:NdW n) (hz:PFew p) (hm:np≤1048576) (hr:0≤p.regs∧p.regs≤250) (hF:Forms w) :
  Calls Tryz.prog 106 #[.agg #[.slice ao np cap],.agg (p.cells h),n.val] w fun e w'=>e=.returned (.bool (formsB np p n))∧Below w.heap.size w w':=by
 have hb3:∀o1 o2 o3,Below w.heap.size w (((w.alloc o1).alloc o2).alloc o3):=fun o1 o2 o3=>(((Below.refl _ _).alloc (Nat.le_refl _) o1).alloc (by simp) o2).alloc (by simp;omega) o3
 cases hop0:inR n.op 1 42
 ·have E0:Hid (formsB np p n=false):=by show _=_;unfold formsB;rw [hop0];rfl
  unfold Nd.val Pd.cells
  go_enter Tryz.func106,Tryz.ntmps106
  go_wp2_with fail
  refine (within_any n.op 1 42 _).mono ?_
  rintro e w1 ⟨rfl,rfl⟩
  rw [hop0]
  go_wp2_with fail
  go_ret
  exact⟨ret_bool E0.out.symm,hb3 _ _ _⟩
 have hop1:1≤n.op∧n.op≤42:=by simpa [inR] using hop0
 obtain⟨op,hop⟩:=Int.eq_ofNat_of_zero_le (by omega:0≤n.op)
 have hop2:1≤op∧op≤42:=by omega
 obtain⟨f0,f1,f2,f3,hfo,g0,g1,g2,g3⟩:=form_four hop2.2
 have hfl:=fun w hF=>fieldsOf_any ao cap np p h n op f0 f1 f2 f3 w hop hop2.2 hfo g0 g1 g2 g3 hz hm hr hF
 have hco:=conv_forms op hop2.1 hop2.2
 rw [hfo] at hco
 obtain⟨t0,v0,e0,m0,a0,-,-,s0,d0⟩:=field_ok np p f0 n.a g0 hn.a hr hz.ins
 obtain⟨t1,v1,e1,m1,a1,-,-,s1,d1⟩:=field_ok np p f1 n.b g1 hn.b hr hz.ins
 obtain⟨t2,v2,e2,m2,a2,-,-,s2,d2⟩:=field_ok np p f2 n.c g2 hn.c hr hz.ins
 obtain⟨t3,v3,e3,m3,a3,-,-,s3,d3⟩:=field_ok np p f3 n.d g3 hn.d hr hz.ins
 rw [e0,e1,e2,e3] at hfl
 have E0:Hid (formsB np p n=(fitsR np p (convR f0) n.a && (fitsR np p (convR f1) n.b && (fitsR np p (convR f2) n.c && (fitsR np p (convR f3) n.d && true))))):=by
  show _=_
  unfold formsB
  rw [hop0,hop,Int.toNat_natCast,←hco]
  rfl
 generalize fitsR np p (convR f0) n.a=b0 at *
 generalize fitsR np p (convR f1) n.b=b1 at *
 generalize fitsR np p (convR f2) n.c=b2 at *
 generalize fitsR np p (convR f3) n.d=b3 at *
 have S0:Hid _:=s0
 have S1:Hid _:=s1
 have S2:Hid _:=s2
 have S3:Hid _:=s3
 have HL:Hid _:=hfl
 clear s0 s1 s2 s3 hfl e0 e1 e2 e3 hco hfo g0 g1 g2 g3 hn hop1 hz hop hop2
 have i0:∀w:World,(Instr.index 179 (.agg #[.iface t0 v0,.iface t1 v1,.iface t2 v2,.iface t3 v3]) (.int .i64 0)).run Tryz.prog w=.ok (.iface t0 v0) w:=fun _=>by kernel_rfl
 have i1:∀w:World,(Instr.index 179 (.agg #[.iface t0 v0,.iface t1 v1,.iface t2 v2,.iface t3 v3]) (.int .i64 1)).run Tryz.prog w=.ok (.iface t1 v1) w:=fun _=>by kernel_rfl
 have i2:∀w:World,(Instr.index 179 (.agg #[.iface t0 v0,.iface t1 v1,.iface t2 v2,.iface t3 v3]) (.int .i64 2)).run Tryz.prog w=.ok (.iface t2 v2) w:=fun _=>by kernel_rfl
 have i3:∀w:World,(Instr.index 179 (.agg #[.iface t0 v0,.iface t1 v1,.iface t2 v2,.iface t3 v3]) (.int .i64 3)).run Tryz.prog w=.ok (.iface t3 v3) w:=fun _=>by kernel_rfl
 have X0:=(Blk.new (w.alloc (.cells #[.slice ao np cap] 31)) (p.cells h) 57).alloc (.cells #[.int .i64 n.op,.int .i64 n.a,.int .i64 n.b,.int .i64 n.c,.int .i64 n.d] 93)
 rw [nblk_alloc] at X0
 have hF3:=hF.later (hb3 (.cells #[.slice ao np cap] 31) (.cells (p.cells h) 57) (.cells #[.int .i64 n.op,.int .i64 n.a,.int .i64 n.b,.int .i64 n.c,.int .i64 n.d] 93))
 unfold Nd.val Pd.cells at *
 go_enter Tryz.func106,Tryz.ntmps106
 go_wp2_with fail
 refine (within_any n.op 1 42 _).mono ?_
 rintro e w1 ⟨rfl,rfl⟩
 rw [hop0]
 clear hop0
 go_wp2_with fail
 refine (HL.out _ hF3).mono ?_
 rintro e w1 ⟨rfl,hw1⟩
 have B1:=(hb3 _ _ _).trans (hw1.mono (by simp;omega))
 have X1:=X0.later hw1
 have cx:w1.cell? ⟨w.heap.size+1,4,none⟩=some (.int .i64 p.regs):=X1.cell 4
 have hl1:=X1.lt
 clear X0 X1 hw1 hF3 hF
 go_wp2_with fail
 go_loopw [17] (fun y wr=>∃k:Nat,k≤4∧y=.int .i64 k∧Hid (formsB np p n=match k with | 0=>(b0 && (b1 && (b2 && (b3 && true)))) | 1=>(b1 && (b2 && (b3 && true))) | 2=>(b2 && (b3 && true)) | 3=>(b3 && true) | _=>true)∧Below w.heap.size w wr∧w.heap.size+1<wr.heap.size∧wr.cell? ⟨w.heap.size+1,4,none⟩=some (.int .i64 p.regs)) (fun y _=>4 - (intOf y).toNat)
 case atStart=>exact ⟨0,by omega,rfl,E0.out,B1,hl1,cx⟩
 case round=>
  obtain⟨k,hk,rfl,HQ,hb,hsz,cr⟩:=hrel
  clear cx B1 hl1 HL E0
  rcases (by omega:k=0∨k=1∨k=2∨k=3∨k=4) with rfl | rfl | rfl | rfl | rfl
  ·have HQ1:Hid (formsB np p n=(b0 && (b1 && (b2 && (b3 && true))))):=HQ.out
   rcases d0 with rfl | rfl | rfl | rfl | rfl | rfl | rfl
   all_goals
    go_wp2_with fail
    refine (S0.out _).mono ?_
    rintro e w2 ⟨rfl,hw2⟩
    have B2:=hb.trans (hw2.mono hb.size)
    have cr2:=(bcell hw2).1 _ 4 hsz▸cr
    have hsz2:=Nat.lt_of_lt_of_le hsz hw2.size
    cases b0
    ·go_wp2_with fail
     go_ret
     exact⟨ret_bool (by rw [HQ1.out];rfl),B2⟩
    ·go_wp2_with fail
     go_roundw
     case rel=>exact ⟨1,by omega,rfl,HQ1.out,B2,hsz2,cr2⟩
     case measure=>simp [intOf]
  ·have HQ1:Hid (formsB np p n=(b1 && (b2 && (b3 && true)))):=HQ.out
   rcases d1 with rfl | rfl | rfl | rfl | rfl | rfl | rfl
   all_goals
    go_wp2_with fail
    refine (S1.out _).mono ?_
    rintro e w2 ⟨rfl,hw2⟩
    have B2:=hb.trans (hw2.mono hb.size)
    have cr2:=(bcell hw2).1 _ 4 hsz▸cr
    have hsz2:=Nat.lt_of_lt_of_le hsz hw2.size
    cases b1
    ·go_wp2_with fail
     go_ret
     exact⟨ret_bool (by rw [HQ1.out];rfl),B2⟩
    ·go_wp2_with fail
     go_roundw
     case rel=>exact ⟨2,by omega,rfl,HQ1.out,B2,hsz2,cr2⟩
     case measure=>simp [intOf]
  ·have HQ1:Hid (formsB np p n=(b2 && (b3 && true))):=HQ.out
   rcases d2 with rfl | rfl | rfl | rfl | rfl | rfl | rfl
   all_goals
    go_wp2_with fail
    refine (S2.out _).mono ?_
    rintro e w2 ⟨rfl,hw2⟩
    have B2:=hb.trans (hw2.mono hb.size)
    have cr2:=(bcell hw2).1 _ 4 hsz▸cr
    have hsz2:=Nat.lt_of_lt_of_le hsz hw2.size
    cases b2
    ·go_wp2_with fail
     go_ret
     exact⟨ret_bool (by rw [HQ1.out];rfl),B2⟩
    ·go_wp2_with fail
     go_roundw
     case rel=>exact ⟨3,by omega,rfl,HQ1.out,B2,hsz2,cr2⟩
     case measure=>simp [intOf]
  ·have HQ1:Hid (formsB np p n=(b3 && true)):=HQ.out
   rcases d3 with rfl | rfl | rfl | rfl | rfl | rfl | rfl
   all_goals
    go_wp2_with fail
    refine (S3.out _).mono ?_
    rintro e w2 ⟨rfl,hw2⟩
    have B2:=hb.trans (hw2.mono hb.size)
    have cr2:=(bcell hw2).1 _ 4 hsz▸cr
    have hsz2:=Nat.lt_of_lt_of_le hsz hw2.size
    cases b3
    ·go_wp2_with fail
     go_ret
     exact⟨ret_bool (by rw [HQ1.out];rfl),B2⟩
    ·go_wp2_with fail
     go_roundw
     case rel=>exact ⟨4,by omega,rfl,HQ1.out,B2,hsz2,cr2⟩
     case measure=>simp [intOf]
  ·go_wp2_with fail
   go_ret
   exact⟨ret_bool HQ.out.symm,hb⟩
def nextB (n:Nd):Bool:=n.op != 19 && n.op != 29 && n.op != 30
set_option maxHeartbeats 400000 in
theorem hasNext_any (n:Nd) (w:World) :
  Calls Tryz.prog 107 #[n.val] w fun e w'=>e=.returned (.bool (nextB n))∧Below w.heap.size w w':=by
 obtain⟨x0,x1,x2,x3,x4⟩:=n
 dsimp only [Nd.val]
 go_enter Tryz.func107,Tryz.ntmps107
 go_wp2_with fail
 all_goals
  go_ret
  refine⟨ret_bool ?_,(Below.refl _ _).alloc (Nat.le_refl _) _⟩
  simp_all [nextB]
def formsG (np:Nat) (p:Pd) (_:Nat) (n:Nd):Bool:=formsB np p n
def insBad (np:Nat) (p:Pd):Option Nat:=
 match firstBad (formsG np p) 0 p.ins with
 | some i=>some i
 | none=>match p.ins.getLast? with
  | none=>some 0
  | some n=>if nextB n then some (p.ins.length - 1) else none
theorem insBad_bad {np:Nat} {p:Pd} {i:Nat} (h:firstBad (formsG np p) 0 p.ins=some i):insBad np p=some i:=by unfold insBad;rw [h]
theorem insBad_nil {np:Nat} {p:Pd} (h:p.ins=[]):insBad np p=some 0:=by unfold insBad;rw [h];rfl
theorem insBad_last {np:Nat} {p:Pd} {n:Nd} (h:firstBad (formsG np p) 0 p.ins=none) (hn:p.ins[p.ins.length - 1]?=some n):insBad np p=if nextB n then some (p.ins.length - 1) else none:=by
 unfold insBad
 rw [h,List.getLast?_eq_getElem?,hn]
set_option maxRecDepth 100000 in
set_option maxHeartbeats 4000000 in
theorem checkInstructions_any (ao:Option Addr) (cap:Nat) (ps:List Pd) (i:Nat) (p:Pd) (w:World) (hi:ps[i]?=some p) (hz:PFew p) (hm:ps.length≤1048576) (hw:∀n ∈ p.ins,NdW n) (hr:0≤p.regs∧p.regs≤250) (hF:Forms w) (hv:ProtosAt 0 w ao ps) :
  Calls Tryz.prog 59 #[.agg #[.slice ao ps.length cap],.int .i64 i] w fun e w'=>(∃at_:Int,e=.returned (.tuple #[.int .i64 at_,.bool (insBad ps.length p).isNone])∧∀k,insBad ps.length p=some k→at_=k)∧Below w.heap.size w w':=by
 have hlt:i<ps.length:=(List.getElem?_eq_some_iff.1 hi).1
 have hb2:∀o1 o2,Below w.heap.size w ((w.alloc o1).alloc o2):=fun o1 o2=>((Below.refl _ _).alloc (Nat.le_refl _) o1).alloc (by simp) o2
 obtain⟨b,off,rfl,_,hbl,h,n1,i1⟩:=hv i p hi
 have hn:=i1.ins
 have hz3:=hz.ins
 clear hv hi i1
 have C0:=(Blk.new w #[.slice (some ⟨b,off,none⟩) ps.length cap] 31).alloc (.cells (p.cells h) 57)
 have X0:=Blk.new (w.alloc (.cells #[.slice (some ⟨b,off,none⟩) ps.length cap] 31)) (p.cells h) 57
 rw [nblk_alloc] at X0
 obtain⟨p0,p1,p2,p3,p4,p5,p6,p7,p8⟩:=n1
 have HF:Hid (∀k m,p.ins[k]?=some m→firstBad (formsG ps.length p) k (p.ins.drop k)=if formsB ps.length p m then firstBad (formsG ps.length p) (k+1) (p.ins.drop (k+1)) else some k):=fun k m hm=>firstBad_drop hm
 unfold Pd.cells at C0 X0
 go_enter Tryz.func59,Tryz.ntmps59
 go_wp2_with fail
 go_loopw [18] (fun y wr=>∃k:Nat,k≤p.ins.length∧y=.int .i64 k∧Hid (firstBad (formsG ps.length p) k (p.ins.drop k)=firstBad (formsG ps.length p) 0 p.ins)∧Below w.heap.size w wr∧Blk wr w.heap.size #[.slice (some ⟨b,off,none⟩) ps.length cap] 31∧Blk wr (w.heap.size+1) #[.string p.name,.int .i64 p.line,.int .i64 p.params,.bool p.rest,.int .i64 p.regs,.slice h.uo p.ups.length h.uc,.slice h.co p.consts.length h.cc,.slice h.io p.ins.length h.ic,.slice h.no p.named.length h.nc] 57) (fun y _=>p.ins.length - (intOf y).toNat)
 case atStart=>exact ⟨0,Nat.zero_le _,rfl,rfl,hb2 _ _,C0,X0⟩
 case round=>
  obtain⟨k,hk,rfl,HQ,hb,C1,X1⟩:=hrel
  clear p0 p1 p2 p3 p4 p5 p6 p7 p8 C0 X0
  have HF':Hid (Forms wr):=hF.later hb
  by_cases hkl:k<p.ins.length
  ·obtain⟨m,hmk⟩:=some_of_lt hkl
   obtain⟨b',off',e',_,hbl',q0,q1,q2,q3,q4⟩:=hn.later (Keeps.of_below hb) k m hmk
   have HD:Hid (firstBad (formsG ps.length p) 0 p.ins=if formsB ps.length p m then firstBad (formsG ps.length p) (k+1) (p.ins.drop (k+1)) else some k):=HQ.out.symm.trans (HF.out k m hmk)
   have hwm:=hw m (List.mem_of_getElem? hmk)
   have hba:∀o,Below w.heap.size w (wr.alloc o):=fun o=>hb.alloc hb.size o
   have HFa:Hid (∀o,Forms (wr.alloc o)):=fun o=>HF'.out.later ((Below.refl _ _).alloc (Nat.le_refl _) o)
   have CA:Hid (∀o,Blk (wr.alloc o) w.heap.size #[.slice (some ⟨b,off,none⟩) ps.length cap] 31):=fun o=>C1.alloc o
   have XA:Hid (∀o,Blk (wr.alloc o) (w.heap.size+1) #[.string p.name,.int .i64 p.line,.int .i64 p.params,.bool p.rest,.int .i64 p.regs,.slice h.uo p.ups.length h.uc,.slice h.co p.consts.length h.cc,.slice h.io p.ins.length h.ic,.slice h.no p.named.length h.nc] 57):=fun o=>X1.alloc o
   have c1:=fun o=>(C1.alloc o).cell
   have x1:=fun o=>(X1.alloc o).cell
   have hio:h.io=some ⟨b',off',none⟩:=e'
   clear e' hn HQ HF hmk hw hF
   obtain⟨uo,uc,co,cc,io,ic,no,nc⟩:=h
   dsimp only at *
   subst hio
   go_wp2_with fail
   refine (instructionFits_any (some ⟨b,off,none⟩) cap ps.length p ⟨uo,uc,co,cc,some ⟨b',off',none⟩,ic,no,nc⟩ m _ hwm hz hm hr (HFa.out _)).mono ?_
   rintro e w1 ⟨rfl,hw1⟩
   have B1:=(hba _).trans (hw1.mono (hba _).size)
   have C2:=(CA.out _).later hw1
   have X2:=(XA.out _).later hw1
   generalize formsB ps.length p m=fb at *
   clear c1 x1 CA XA hw1 q0 q1 q2 q3 q4
   cases fb
   ·have hib:=insBad_bad (p:=p) (np:=ps.length) (i:=k) (by rw [HD.out];rfl)
    have HI:Hid (insBad ps.length p=some k):=hib
    clear hib
    go_wp2_with fail
    go_ret2
    exact⟨⟨k,by rw [HI.out];rfl,fun j hj=>by rw [HI.out] at hj;cases hj;rfl⟩,B1⟩
   ·go_wp2_with fail
    go_roundw
    case rel=>exact ⟨k+1,by omega,by go_num,by show _=_;rw [HD.out];rfl,B1,C2,X2⟩
    case measure=>simp [intOf];omega
  ·have HN:Hid (firstBad (formsG ps.length p) 0 p.ins=none):=by
    have h1:=HQ.out
    rw [List.drop_of_length_le (by omega)] at h1
    exact h1.symm
   have x1:=X1.cell
   by_cases h0:p.ins.length=0
   ·have HI:Hid (insBad ps.length p=some 0):=insBad_nil (List.length_eq_zero_iff.1 h0)
    have hl0:(p.ins.length:Int) - 1<0:=by omega
    clear hn HQ HF hw hF HF'
    go_wp2_with fail
    go_ret2
    exact⟨⟨0,by rw [HI.out];rfl,fun j hj=>by rw [HI.out] at hj;cases hj;rfl⟩,hb⟩
   ·obtain⟨m,hmk⟩:=some_of_lt (l:=p.ins) (k:=p.ins.length - 1) (by omega)
    obtain⟨b',off',e',_,hbl',q0,q1,q2,q3,q4⟩:=hn.later (Keeps.of_below hb) _ m hmk
    have HI:Hid (insBad ps.length p=if nextB m then some (p.ins.length - 1) else none):=insBad_last HN.out hmk
    obtain⟨L,hL⟩:∃L,p.ins.length=L+1:=⟨p.ins.length - 1,by omega⟩
    rw [hL,Nat.add_sub_cancel] at q0 q1 q2 q3 q4 HI
    have hi1:((p.ins.length:Int) - 1)=(L:Int):=by omega
    have hi2:((L:Int)<(p.ins.length:Int)):=by omega
    have HLL:Hid (p.ins.length=L+1):=hL
    have hio:h.io=some ⟨b',off',none⟩:=e'
    clear e' hn HQ HF hmk hw hF HF' hL h0
    obtain⟨uo,uc,co,cc,io,ic,no,nc⟩:=h
    dsimp only at *
    subst hio
    go_wp2_with fail
    refine (hasNext_any m _).mono ?_
    rintro e w1 ⟨rfl,hw1⟩
    have B1:=hb.trans (hw1.mono hb.size)
    generalize nextB m=nb at *
    clear q0 q1 q2 q3 q4 x1 hw1
    cases nb
    ·go_wp2_with fail
     go_ret2
     exact⟨⟨L,by rw [HI.out];rfl,fun j hj=>by rw [HI.out] at hj;cases hj⟩,B1⟩
    ·go_wp2_with fail
     go_ret2
     exact⟨⟨L,by rw [HI.out];rfl,fun j hj=>by rw [HI.out] at hj;cases hj;rfl⟩,B1⟩
end Go.Proofs.YtaakadmnhpboiaaGreatDoor
