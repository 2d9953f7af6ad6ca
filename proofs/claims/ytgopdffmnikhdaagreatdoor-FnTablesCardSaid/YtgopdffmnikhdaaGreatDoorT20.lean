import Derived.Test.YtgopdffmnikhdaaGreatDoorT19
import Derived.Test.YtgopdffmnikhdaaGreatDoorT06
namespace Go.Proofs.YtgopdffmnikhdaaGreatDoor
open Go.RowKit Go.Deep
def formTab:List (List Nat):=[[0,0,0,0],[1,0,0,0],[2,0,0,0],[0,0,0,0],[20,3,0,0],[20,12,0,0],[21,12,0,0],[20,15,0,0],[15,12,0,0],[20,4,0,0],[4,12,0,0],[20,5,0,0],[20,0,0,0],[14,12,12,0],[14,12,13,0],[20,12,12,0],[12,12,12,0],[20,6,12,0],[20,7,12,12],[11,0,0,0],[12,11,0,0],[12,11,0,0],[22,0,0,0],[16,12,0,0],[16,13,0,0],[20,13,0,0],[20,16,8,0],[22,16,0,0],[22,12,13,0],[13,0,0,0],[12,0,0,0],[11,10,0,0],[0,0,0,0],[9,0,0,0],[9,0,0,0],[12,13,0,0],[0,0,0,0],[18,0,0,0],[18,11,0,0],[18,11,0,0],[23,0,0,0],[17,11,22,0],[19,0,0,0]]
def formOf (op:Nat):List Nat:=formTab.getD op []
theorem form_four {n:Nat} (h2:n≤42):∃r0 r1 r2 r3,formOf n=[r0,r1,r2,r3]∧r0≤23∧r1≤23∧r2≤23∧r3≤23:=by
 have h:∀k,k<43→(formOf k).length=4∧∀r ∈ formOf k,r≤23:=by decide
 obtain⟨hl,hr⟩:=h n (by omega)
 match hm:formOf n,hl,hr with
 | [r0,r1,r2,r3],_,hr=>exact ⟨r0,r1,r2,r3,rfl,hr _ (by simp),hr _ (by simp),hr _ (by simp),hr _ (by simp)⟩
structure Forms (w:World):Prop where
 lt:7<w.heap.size
 at_:∀(op j r:Nat),(formOf op)[j]?=some r→w.cell? ⟨7,op*4+j,none⟩=some (.int .i64 r)
theorem Forms.later {w w':World} (h:Forms w) (hb:Below w.heap.size w w'):Forms w':=
 ⟨Nat.lt_of_lt_of_le h.lt hb.size,fun op j r hr=>(hb.cell (p:=⟨7,op*4+j,none⟩) h.lt).trans (h.at_ op j r hr)⟩
theorem fieldVal_iface (np:Nat) (p:Pd) (r:Nat) (x:Int):∃t v,fieldVal np p r x=.iface t v:=by
 unfold fieldVal
 split <;> exact ⟨_,_,rfl⟩
set_option maxRecDepth 100000 in
set_option maxHeartbeats 8000000 in
theorem fieldsOf_any (ao:Option Addr) (cap np:Nat) (p:Pd) (h:Ph) (n:Nd) (op f0 f1 f2 f3:Nat) (w:World) (hop:n.op=op) (h42:op≤42) (hfo:formOf op=[f0,f1,f2,f3]) (g0:f0≤23) (g1:f1≤23) (g2:f2≤23) (g3:f3≤23) (hz:PFew p) (hm:np≤1048576) (hr:0≤p.regs∧p.regs≤250) (hF:Forms w) :
  Calls Tryz.prog 303 #[.agg #[.slice ao np cap],.agg (p.cells h),n.val] w fun e w'=>e=.returned (.agg #[fieldVal np p f0 n.a,fieldVal np p f1 n.b,fieldVal np p f2 n.c,fieldVal np p f3 n.d])∧Below w.heap.size w w':=by
 have hfld:=fun r x w hro=>fieldOf_any ao cap np p h r x w hz hm hr hro
 obtain⟨x0,x1,x2,x3,x4⟩:=n
 obtain⟨t0,v0,e0⟩:=fieldVal_iface np p f0 x1
 obtain⟨t1,v1,e1⟩:=fieldVal_iface np p f1 x2
 obtain⟨t2,v2,e2⟩:=fieldVal_iface np p f2 x3
 obtain⟨t3,v3,e3⟩:=fieldVal_iface np p f3 x4
 have h0:=fun w=>hfld f0 x1 w g0
 have h1:=fun w=>hfld f1 x2 w g1
 have h2:=fun w=>hfld f2 x3 w g2
 have h3:=fun w=>hfld f3 x4 w g3
 dsimp only at *
 rw [e0,e1,e2,e3]
 simp only [e0] at h0
 simp only [e1] at h1
 simp only [e2] at h2
 simp only [e3] at h3
 clear e0 e1 e2 e3 hfld hz hr
 obtain⟨nm,ln,pa,re,rg,us,cs,is,ms⟩:=p
 obtain⟨uo,uc,co,cc,io,ic,no,nc⟩:=h
 dsimp only [Pd.cells,Nd.val] at *
 subst hop
 have H0:Hid _:=h0
 have H1:Hid _:=h1
 have H2:Hid _:=h2
 have H3:Hid _:=h3
 clear h0 h1 h2 h3
 have HW:∀o1 o2 o3 o4,Below w.heap.size w ((((w.alloc o1).alloc o2).alloc o3).alloc o4):=fun o1 o2 o3 o4=>((((Below.refl _ _).alloc (Nat.le_refl _) o1).alloc (by simp) o2).alloc (by simp;omega) o3).alloc (by simp;omega) o4
 have HW5:∀o1 o2 o3 o4 o5,Below w.heap.size w (((((w.alloc o1).alloc o2).alloc o3).alloc o4).alloc o5):=fun o1 o2 o3 o4 o5=>(HW o1 o2 o3 o4).alloc (by simp;omega) o5
 have c0:=fun o1 o2 o3 o4=>(hF.later (HW o1 o2 o3 o4)).at_ op 0 f0 (by rw [hfo];rfl)
 have c1:=fun o1 o2 o3 o4=>(hF.later (HW o1 o2 o3 o4)).at_ op 1 f1 (by rw [hfo];rfl)
 have c2:=fun o1 o2 o3 o4=>(hF.later (HW o1 o2 o3 o4)).at_ op 2 f2 (by rw [hfo];rfl)
 have c3:=fun o1 o2 o3 o4=>(hF.later (HW o1 o2 o3 o4)).at_ op 3 f3 (by rw [hfo];rfl)
 simp only [Nat.add_zero] at c0
 clear hF hfo
 have hcells:∀(w':World),Blk w' w.heap.size #[.slice ao np cap] 26→Blk w' (w.heap.size+1) #[.string nm,.int .i64 ln,.int .i64 pa,.bool re,.int .i64 rg,.slice uo us.length uc,.slice co cs.length cc,.slice io is.length ic,.slice no ms.length nc] 54→Blk w' (w.heap.size+1+1) #[.int .i64 op,.int .i64 x1,.int .i64 x2,.int .i64 x3,.int .i64 x4] 48→Blk w' (w.heap.size+1+1+1+1) #[.int .i64 f0,.int .i64 f1,.int .i64 f2,.int .i64 f3] 435→w'.cell? ⟨w.heap.size,0,none⟩=some (.slice ao np cap)∧w'.cell? ⟨w.heap.size+1,0,none⟩=some (.string nm)∧w'.cell? ⟨w.heap.size+1,1,none⟩=some (.int .i64 ln)∧w'.cell? ⟨w.heap.size+1,2,none⟩=some (.int .i64 pa)∧w'.cell? ⟨w.heap.size+1,3,none⟩=some (.bool re)∧w'.cell? ⟨w.heap.size+1,4,none⟩=some (.int .i64 rg)∧w'.cell? ⟨w.heap.size+1,5,none⟩=some (.slice uo us.length uc)∧w'.cell? ⟨w.heap.size+1,6,none⟩=some (.slice co cs.length cc)∧w'.cell? ⟨w.heap.size+1,7,none⟩=some (.slice io is.length ic)∧w'.cell? ⟨w.heap.size+1,8,none⟩=some (.slice no ms.length nc)∧w'.cell? ⟨w.heap.size+1+1,0,none⟩=some (.int .i64 op)∧w'.cell? ⟨w.heap.size+1+1,1,none⟩=some (.int .i64 x1)∧w'.cell? ⟨w.heap.size+1+1,2,none⟩=some (.int .i64 x2)∧w'.cell? ⟨w.heap.size+1+1,3,none⟩=some (.int .i64 x3)∧w'.cell? ⟨w.heap.size+1+1,4,none⟩=some (.int .i64 x4)∧w'.cell? ⟨w.heap.size+1+1+1+1,0,none⟩=some (.int .i64 f0)∧w'.cell? ⟨w.heap.size+1+1+1+1,1,none⟩=some (.int .i64 f1)∧w'.cell? ⟨w.heap.size+1+1+1+1,2,none⟩=some (.int .i64 f2)∧w'.cell? ⟨w.heap.size+1+1+1+1,3,none⟩=some (.int .i64 f3):=by
  intro w' h1 h2 h3 h4
  exact⟨h1.cell 0,h2.cell 0,h2.cell 1,h2.cell 2,h2.cell 3,h2.cell 4,h2.cell 5,h2.cell 6,h2.cell 7,h2.cell 8,h3.cell 0,h3.cell 1,h3.cell 2,h3.cell 3,h3.cell 4,h4.cell 0,h4.cell 1,h4.cell 2,h4.cell 3⟩
 have HC:Hid _:=hcells
 clear hcells
 have K0:Blk (((((w.alloc (.cells #[.slice ao np cap] 26)).alloc (.cells #[.string nm,.int .i64 ln,.int .i64 pa,.bool re,.int .i64 rg,.slice uo us.length uc,.slice co cs.length cc,.slice io is.length ic,.slice no ms.length nc] 54)).alloc (.cells #[.int .i64 op,.int .i64 x1,.int .i64 x2,.int .i64 x3,.int .i64 x4] 48)).alloc (.cells #[.nilIface,.nilIface,.nilIface,.nilIface] 376)).alloc (.cells #[.int .i64 f0,.int .i64 f1,.int .i64 f2,.int .i64 f3] 435)).drew w.heap.size #[.slice ao np cap] 26∧Blk (((((w.alloc (.cells #[.slice ao np cap] 26)).alloc (.cells #[.string nm,.int .i64 ln,.int .i64 pa,.bool re,.int .i64 rg,.slice uo us.length uc,.slice co cs.length cc,.slice io is.length ic,.slice no ms.length nc] 54)).alloc (.cells #[.int .i64 op,.int .i64 x1,.int .i64 x2,.int .i64 x3,.int .i64 x4] 48)).alloc (.cells #[.nilIface,.nilIface,.nilIface,.nilIface] 376)).alloc (.cells #[.int .i64 f0,.int .i64 f1,.int .i64 f2,.int .i64 f3] 435)).drew (w.heap.size+1) #[.string nm,.int .i64 ln,.int .i64 pa,.bool re,.int .i64 rg,.slice uo us.length uc,.slice co cs.length cc,.slice io is.length ic,.slice no ms.length nc] 54∧Blk (((((w.alloc (.cells #[.slice ao np cap] 26)).alloc (.cells #[.string nm,.int .i64 ln,.int .i64 pa,.bool re,.int .i64 rg,.slice uo us.length uc,.slice co cs.length cc,.slice io is.length ic,.slice no ms.length nc] 54)).alloc (.cells #[.int .i64 op,.int .i64 x1,.int .i64 x2,.int .i64 x3,.int .i64 x4] 48)).alloc (.cells #[.nilIface,.nilIface,.nilIface,.nilIface] 376)).alloc (.cells #[.int .i64 f0,.int .i64 f1,.int .i64 f2,.int .i64 f3] 435)).drew (w.heap.size+1+1) #[.int .i64 op,.int .i64 x1,.int .i64 x2,.int .i64 x3,.int .i64 x4] 48∧Blk (((((w.alloc (.cells #[.slice ao np cap] 26)).alloc (.cells #[.string nm,.int .i64 ln,.int .i64 pa,.bool re,.int .i64 rg,.slice uo us.length uc,.slice co cs.length cc,.slice io is.length ic,.slice no ms.length nc] 54)).alloc (.cells #[.int .i64 op,.int .i64 x1,.int .i64 x2,.int .i64 x3,.int .i64 x4] 48)).alloc (.cells #[.nilIface,.nilIface,.nilIface,.nilIface] 376)).alloc (.cells #[.int .i64 f0,.int .i64 f1,.int .i64 f2,.int .i64 f3] 435)).drew (w.heap.size+1+1+1) #[.nilIface,.nilIface,.nilIface,.nilIface] 376∧Blk (((((w.alloc (.cells #[.slice ao np cap] 26)).alloc (.cells #[.string nm,.int .i64 ln,.int .i64 pa,.bool re,.int .i64 rg,.slice uo us.length uc,.slice co cs.length cc,.slice io is.length ic,.slice no ms.length nc] 54)).alloc (.cells #[.int .i64 op,.int .i64 x1,.int .i64 x2,.int .i64 x3,.int .i64 x4] 48)).alloc (.cells #[.nilIface,.nilIface,.nilIface,.nilIface] 376)).alloc (.cells #[.int .i64 f0,.int .i64 f1,.int .i64 f2,.int .i64 f3] 435)).drew (w.heap.size+1+1+1+1) #[.int .i64 f0,.int .i64 f1,.int .i64 f2,.int .i64 f3] 435:=by
  have a1:=Blk.new w #[.slice ao np cap] 26
  have a2:=Blk.new (w.alloc (.cells #[.slice ao np cap] 26)) #[.string nm,.int .i64 ln,.int .i64 pa,.bool re,.int .i64 rg,.slice uo us.length uc,.slice co cs.length cc,.slice io is.length ic,.slice no ms.length nc] 54
  have a3:=Blk.new ((w.alloc (.cells #[.slice ao np cap] 26)).alloc (.cells #[.string nm,.int .i64 ln,.int .i64 pa,.bool re,.int .i64 rg,.slice uo us.length uc,.slice co cs.length cc,.slice io is.length ic,.slice no ms.length nc] 54)) #[.int .i64 op,.int .i64 x1,.int .i64 x2,.int .i64 x3,.int .i64 x4] 48
  have a4:=Blk.new (((w.alloc (.cells #[.slice ao np cap] 26)).alloc (.cells #[.string nm,.int .i64 ln,.int .i64 pa,.bool re,.int .i64 rg,.slice uo us.length uc,.slice co cs.length cc,.slice io is.length ic,.slice no ms.length nc] 54)).alloc (.cells #[.int .i64 op,.int .i64 x1,.int .i64 x2,.int .i64 x3,.int .i64 x4] 48)) #[.nilIface,.nilIface,.nilIface,.nilIface] 376
  have a5:=Blk.new ((((w.alloc (.cells #[.slice ao np cap] 26)).alloc (.cells #[.string nm,.int .i64 ln,.int .i64 pa,.bool re,.int .i64 rg,.slice uo us.length uc,.slice co cs.length cc,.slice io is.length ic,.slice no ms.length nc] 54)).alloc (.cells #[.int .i64 op,.int .i64 x1,.int .i64 x2,.int .i64 x3,.int .i64 x4] 48)).alloc (.cells #[.nilIface,.nilIface,.nilIface,.nilIface] 376)) #[.int .i64 f0,.int .i64 f1,.int .i64 f2,.int .i64 f3] 435
  simp only [nblk_alloc] at a2 a3 a4 a5
  exact⟨(((a1.alloc _).alloc _).alloc _).alloc _,((a2.alloc _).alloc _).alloc _,(a3.alloc _).alloc _,a4.alloc _,a5⟩
 have HK:Hid _:=K0
 clear K0
 have HB0:Hid (Below w.heap.size w (((((w.alloc (.cells #[.slice ao np cap] 26)).alloc (.cells #[.string nm,.int .i64 ln,.int .i64 pa,.bool re,.int .i64 rg,.slice uo us.length uc,.slice co cs.length cc,.slice io is.length ic,.slice no ms.length nc] 54)).alloc (.cells #[.int .i64 op,.int .i64 x1,.int .i64 x2,.int .i64 x3,.int .i64 x4] 48)).alloc (.cells #[.nilIface,.nilIface,.nilIface,.nilIface] 376)).alloc (.cells #[.int .i64 f0,.int .i64 f1,.int .i64 f2,.int .i64 f3] 435)).drew):=(HW5 _ _ _ _ _).drew
 clear HW HW5
 go_enter Tryz.func303,Tryz.ntmps303
 go_wp2_with fail
 clear c0 c1 c2 c3
 obtain⟨e_0,e_1,e_2,e_3,e_4,e_5,e_6,e_7,e_8,e_9,e_10,e_11,e_12,e_13,e_14,e_15,e_16,e_17,e_18⟩:=HC.out (((((w.alloc (.cells #[.slice ao np cap] 26)).alloc (.cells #[.string nm,.int .i64 ln,.int .i64 pa,.bool re,.int .i64 rg,.slice uo us.length uc,.slice co cs.length cc,.slice io is.length ic,.slice no ms.length nc] 54)).alloc (.cells #[.int .i64 op,.int .i64 x1,.int .i64 x2,.int .i64 x3,.int .i64 x4] 48)).alloc (.cells #[.nilIface,.nilIface,.nilIface,.nilIface] 376)).alloc (.cells #[.int .i64 f0,.int .i64 f1,.int .i64 f2,.int .i64 f3] 435)).drew HK.out.1 HK.out.2.1 HK.out.2.2.1 HK.out.2.2.2.2
 go_region_held3 (fun w'=>w'.cell? ⟨w.heap.size,0,none⟩=some (.slice ao np cap)∧w'.cell? ⟨w.heap.size+1,0,none⟩=some (.string nm)∧w'.cell? ⟨w.heap.size+1,1,none⟩=some (.int .i64 ln)∧w'.cell? ⟨w.heap.size+1,2,none⟩=some (.int .i64 pa)∧w'.cell? ⟨w.heap.size+1,3,none⟩=some (.bool re)∧w'.cell? ⟨w.heap.size+1,4,none⟩=some (.int .i64 rg)∧w'.cell? ⟨w.heap.size+1,5,none⟩=some (.slice uo us.length uc)∧w'.cell? ⟨w.heap.size+1,6,none⟩=some (.slice co cs.length cc)∧w'.cell? ⟨w.heap.size+1,7,none⟩=some (.slice io is.length ic)∧w'.cell? ⟨w.heap.size+1,8,none⟩=some (.slice no ms.length nc)∧w'.cell? ⟨w.heap.size+1+1,0,none⟩=some (.int .i64 op)∧w'.cell? ⟨w.heap.size+1+1,1,none⟩=some (.int .i64 x1)∧w'.cell? ⟨w.heap.size+1+1,2,none⟩=some (.int .i64 x2)∧w'.cell? ⟨w.heap.size+1+1,3,none⟩=some (.int .i64 x3)∧w'.cell? ⟨w.heap.size+1+1,4,none⟩=some (.int .i64 x4)∧w'.cell? ⟨w.heap.size+1+1+1+1,0,none⟩=some (.int .i64 f0)∧w'.cell? ⟨w.heap.size+1+1+1+1,1,none⟩=some (.int .i64 f1)∧w'.cell? ⟨w.heap.size+1+1+1+1,2,none⟩=some (.int .i64 f2)∧w'.cell? ⟨w.heap.size+1+1+1+1,3,none⟩=some (.int .i64 f3)) (first | (go_keep;done) | (simp +arith [*,World.cell?_setCell_far];done))
  (first
   | (go_at_call_of 354 (Value.int IntKind.i64 x1);refine (H0.out _).mono ?_;rintro e w1 ⟨rfl,hw1⟩;have B1:=HB0.out.trans (hw1.mono HB0.out.size);have K1:=And.intro (HK.out.1.later hw1) (And.intro (HK.out.2.1.later hw1) (And.intro (HK.out.2.2.1.later hw1) (And.intro (HK.out.2.2.2.1.later hw1) (HK.out.2.2.2.2.later hw1))));obtain ⟨d1_0,d1_1,d1_2,d1_3,d1_4,d1_5,d1_6,d1_7,d1_8,d1_9,d1_10,d1_11,d1_12,d1_13,d1_14,d1_15,d1_16,d1_17,d1_18⟩:=HC.out w1 K1.1 K1.2.1 K1.2.2.1 K1.2.2.2.2)
   | (go_at_call_of 354 (Value.int IntKind.i64 x2);refine (H1.out _).mono ?_;rintro e w2 ⟨rfl,hw2⟩;have B2:=B1.trans (hw2.mono B1.size);have K2:=And.intro (K1.1.later hw2) (And.intro (K1.2.1.later hw2) (And.intro (K1.2.2.1.later hw2) (And.intro (K1.2.2.2.1.later hw2) (K1.2.2.2.2.later hw2))));obtain ⟨d2_0,d2_1,d2_2,d2_3,d2_4,d2_5,d2_6,d2_7,d2_8,d2_9,d2_10,d2_11,d2_12,d2_13,d2_14,d2_15,d2_16,d2_17,d2_18⟩:=HC.out w2 K2.1 K2.2.1 K2.2.2.1 K2.2.2.2.2)
   | (go_at_call_of 354 (Value.int IntKind.i64 x3);refine (H2.out _).mono ?_;rintro e w3 ⟨rfl,hw3⟩;have B3:=B2.trans (hw3.mono B2.size);have K3:=And.intro (K2.1.later hw3) (And.intro (K2.2.1.later hw3) (And.intro (K2.2.2.1.later hw3) (And.intro (K2.2.2.2.1.later hw3) (K2.2.2.2.2.later hw3))));obtain ⟨d3_0,d3_1,d3_2,d3_3,d3_4,d3_5,d3_6,d3_7,d3_8,d3_9,d3_10,d3_11,d3_12,d3_13,d3_14,d3_15,d3_16,d3_17,d3_18⟩:=HC.out w3 K3.1 K3.2.1 K3.2.2.1 K3.2.2.2.2)
   | (go_at_call_of 354 (Value.int IntKind.i64 x4);refine (H3.out _).mono ?_;rintro e w4 ⟨rfl,hw4⟩;have B4:=B3.trans (hw4.mono B3.size);have K4:=And.intro (K3.1.later hw4) (And.intro (K3.2.1.later hw4) (And.intro (K3.2.2.1.later hw4) (And.intro (K3.2.2.2.1.later hw4) (K3.2.2.2.2.later hw4))));obtain ⟨d4_0,d4_1,d4_2,d4_3,d4_4,d4_5,d4_6,d4_7,d4_8,d4_9,d4_10,d4_11,d4_12,d4_13,d4_14,d4_15,d4_16,d4_17,d4_18⟩:=HC.out w4 K4.1 K4.2.1 K4.2.2.1 K4.2.2.2.2;have z4:=K4.2.2.2.1.cell;have zf4:=K4.2.2.2.1.frozen))
 clear e_0 e_1 e_2 e_3 e_4 e_5 e_6 e_7 e_8 e_9 e_10 e_11 e_12 e_13 e_14 e_15 e_16 e_17 e_18
 go_wp2_with fail
 refine bodyPost_ret (v:=.agg #[.iface t0 v0,.iface t1 v1,.iface t2 v2,.iface t3 v3]) ?_ rfl ⟨rfl,?_⟩
 ·simp [results,Tryz.results303,go_sem,z4]
 ·iterate 4 (refine Below.setCell ?_ (by simp;try omega) _)
  exact B4
def convTab:List Nat:=[0,11,12,7,8,9,15,16,17,13,14,10,2,3,4,5,6,20,18,21,1,1,1,19]
def convR (r:Nat):Nat:=convTab.getD r 0
theorem conv_forms (op:Nat) (h1:1≤op) (h2:op≤42):(formOf op).map convR=rolesOf op:=by
 have h:∀k,k<43→1≤k→(formOf k).map convR=rolesOf k:=by decide
 exact h op (by omega) h1
theorem field_cases (np:Nat) (p:Pd) (r:Nat) (x:Int) (hr:r≤23) :
  (fieldVal np p r x=.iface 461 (.int .i64 x)∧(x == 0)=fitsR np p (convR r) x)∨
  (∃lo hi,fieldVal np p r x=.iface 467 (.agg #[.int .i64 x,.int .i64 lo,.int .i64 hi])∧inR x lo hi=fitsR np p (convR r) x)∨
  (fieldVal np p r x=.iface 465 (.agg #[.int .i64 x,.int .i64 p.ins.length])∧inR x 0 (p.ins.length - 1)=fitsR np p (convR r) x)∨
  (∃t,fieldVal np p r x=.iface 273 (.agg #[.int .i64 x,.int .i64 t])∧inR x (-p.regs) (p.regs - 1)=fitsR np p (convR r) x)∨
  (∃k t,fieldVal np p r x=.iface 463 (.agg #[.int .i64 x,.int .i64 k,.int .i64 t])∧0≤k∧k≤3∧inR x 0 (p.regs - k)=fitsR np p (convR r) x)∨
  (∃t,fieldVal np p r x=.iface 441 (.agg #[.int .i64 x,.int .i64 t])∧inR x 0 (p.regs - 1)=fitsR np p (convR r) x)∨
  (fieldVal np p r x=.iface 443 (.agg #[.int .i64 x])∧inR x 0 (p.regs - 2)=fitsR np p (convR r) x):=by
 rcases forms_all r hr with rfl | rfl | rfl | rfl | rfl | rfl | rfl | rfl | rfl | rfl | rfl | rfl | rfl | rfl | rfl | rfl | rfl | rfl | rfl | rfl | rfl | rfl | rfl | rfl
 all_goals first
  | exact Or.inl ⟨rfl,rfl⟩
  | exact Or.inr (Or.inl ⟨_,_,rfl,rfl⟩)
  | exact Or.inr (Or.inr (Or.inl ⟨rfl,rfl⟩))
  | exact Or.inr (Or.inr (Or.inr (Or.inl ⟨_,rfl,rfl⟩)))
  | exact Or.inr (Or.inr (Or.inr (Or.inr (Or.inl ⟨_,_,rfl,by omega,by omega,rfl⟩))))
  | exact Or.inr (Or.inr (Or.inr (Or.inr (Or.inr (Or.inl ⟨_,rfl,rfl⟩)))))
  | exact Or.inr (Or.inr (Or.inr (Or.inr (Or.inr (Or.inr ⟨rfl,rfl⟩)))))
theorem meth_unused (v : Value) (w : World) : (method 618 461 v "loop.example/loom/impl.fits").run Tryz.prog w = .ok (437, v) w := by kernel_rfl
theorem meth_number (v : Value) (w : World) : (method 618 467 v "loop.example/loom/impl.fits").run Tryz.prog w = .ok (440, v) w := by kernel_rfl
theorem meth_target (v : Value) (w : World) : (method 618 465 v "loop.example/loom/impl.fits").run Tryz.prog w = .ok (439, v) w := by kernel_rfl
theorem meth_operand (v : Value) (w : World) : (method 618 273 v "loop.example/loom/impl.fits").run Tryz.prog w = .ok (419, v) w := by kernel_rfl
theorem meth_places (v : Value) (w : World) : (method 618 463 v "loop.example/loom/impl.fits").run Tryz.prog w = .ok (438, v) w := by kernel_rfl
theorem meth_result (v : Value) (w : World) : (method 618 441 v "loop.example/loom/impl.fits").run Tryz.prog w = .ok (435, v) w := by kernel_rfl
theorem meth_opening (v : Value) (w : World) : (method 618 443 v "loop.example/loom/impl.fits").run Tryz.prog w = .ok (436, v) w := by kernel_rfl
end Go.Proofs.YtgopdffmnikhdaaGreatDoor
