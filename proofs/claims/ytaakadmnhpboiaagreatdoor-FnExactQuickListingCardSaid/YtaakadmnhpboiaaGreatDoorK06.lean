import Derived.Test.YtaakadmnhpboiaaGreatDoorM04
import Derived.Test.YtaakadmnhpboiaaGreatDoorK05
import Derived.Test.YtaakadmnhpboiaaGreatDoorM44
import Derived.Deep.RegionHeld3
import Derived.Test.YtaakadmnhpboiaaGreatDoorM46
import Derived.Test.YtaakadmnhpboiaaGreatDoorK03
import Derived.Test.YtaakadmnhpboiaaGreatDoorK01
import Derived.Lib.ItoaNum
import Derived.Lib.ItoaMem
import Derived.Lib.ItoaLen
import Derived.Lib.AppendStr
import Derived.Deep.Cut
namespace Go.Proofs.YtaakadmnhpboiaaGreatDoor
open Go.RowKit Go.Deep
def CapP (w:World) (g:Nat) (ps:List Pd) (k:Nat):Prop:=∀j p,j<k→ps[j]?=some p→∃ao,w.cell? ⟨g,j*9+7,none⟩=some (.slice ao p.ins.length p.ins.length)
theorem CapP.later {w w':World} {g:Nat} {ps:List Pd} {k:Nat} (h:CapP w g ps k) (hb:Below w.heap.size w w') (hg:g<w.heap.size):CapP w' g ps k:=by
 intro j p hj hp
 obtain⟨ao,h1⟩:=h j p hj hp
 exact⟨ao,(hb.cell (p:=⟨g,j*9+7,none⟩) hg).trans h1⟩
theorem CapP.keeps {w w':World} {g:Nat} {ps:List Pd} {k:Nat} (h:CapP w g ps k) (hg:g<w.heap.size) (hk:Keeps g w w'):CapP w' g ps k:=by
 intro j p hj hp
 obtain⟨ao,h1⟩:=h j p hj hp
 exact⟨ao,(hk.cell (Nat.le_refl _) hg).trans h1⟩
theorem CapP.step {w:World} {g n k:Nat} {t:TypeId} {ps:List Pd} {p:Pd} {x:Ph} (h:CapP w g ps k) (own:Own w g t n) (hn:k*9+9≤n) (hp:ps[k]?=some p) (hx:x.ic=p.ins.length) :
  CapP (w.setCells g (k*9) (nine p x)) g ps (k+1):=by
 intro j y hj hy
 by_cases e:j=k
 ·subst e
  obtain rfl:p=y:=Option.some.inj (hp.symm.trans hy)
  have c:=World.cell?_setCells_in g (nine p x) (j*9) w (fun i hi=>by
   have hi9:i<9:=hi
   obtain⟨u,hu⟩:=own.cell (i:=j*9+i) (by omega)
   rw [hu];rfl)
  refine⟨x.io,(c 7 (by simp [nine])).trans ?_⟩
  simp [nine,hx]
 ·obtain⟨ao,h1⟩:=h j y (by omega) hy
  refine⟨ao,(World.cell?_setCells_out g (nine p x) (k*9) w _ (fun _ _=>Or.inl (by show j*9+7<k*9;omega))).trans h1⟩
set_option maxHeartbeats 2000000 in
theorem toProto_cap (p:Pd) (h:Ph) (w:World) (hz:PFew p) (hp:PIn 0 w h p) :
  Calls Tryz.prog 54 #[.agg (p.cells h)] w fun e w'=>∃h',e=.returned (.agg (p.cells h'))∧h'.ic=p.ins.length∧POwn w.heap.size w' h' p∧Below w.heap.size w w':=by
 obtain⟨z1,z2,z3,z4⟩:=hz
 obtain⟨i1,i2,i3,i4⟩:=hp
 obtain⟨nm,ln,pa,re,rg,us,cs,is,ms⟩:=p
 obtain⟨uo,uc,co,cc,io,ic,no,nc⟩:=h
 dsimp only [Pd.cells] at *
 have hb3:∀o1 o2 o3,Below w.heap.size w (((w.alloc o1).alloc o2).alloc o3):=fun o1 o2 o3=>(((Below.refl _ _).alloc (Nat.le_refl _) o1).alloc (by simp) o2).alloc (by simp;omega) o3
 have X0:Blk (((w.alloc (.cells #[.string nm,.int .i64 ln,.int .i64 pa,.bool re,.int .i64 rg,.slice uo us.length uc,.slice co cs.length cc,.slice io is.length ic,.slice no ms.length nc] 90)).alloc (.cells #[.string ⟨#[]⟩,.int .i64 0,.int .i64 0,.bool false,.int .i64 0,.slice none 0 0,.slice none 0 0,.slice none 0 0,.slice none 0 0] 57)).alloc (.cells #[.string nm,.int .i64 ln,.int .i64 pa,.bool re,.int .i64 rg,.slice none 0 0,.slice none 0 0,.slice none 0 0,.slice none 0 0] 57)) w.heap.size #[.string nm,.int .i64 ln,.int .i64 pa,.bool re,.int .i64 rg,.slice uo us.length uc,.slice co cs.length cc,.slice io is.length ic,.slice no ms.length nc] 90:=((Blk.new _ _ _).alloc _).alloc _
 have Y0:Blk (((w.alloc (.cells #[.string nm,.int .i64 ln,.int .i64 pa,.bool re,.int .i64 rg,.slice uo us.length uc,.slice co cs.length cc,.slice io is.length ic,.slice no ms.length nc] 90)).alloc (.cells #[.string ⟨#[]⟩,.int .i64 0,.int .i64 0,.bool false,.int .i64 0,.slice none 0 0,.slice none 0 0,.slice none 0 0,.slice none 0 0] 57)).alloc (.cells #[.string nm,.int .i64 ln,.int .i64 pa,.bool re,.int .i64 rg,.slice none 0 0,.slice none 0 0,.slice none 0 0,.slice none 0 0] 57)) (w.heap.size+1) #[.string ⟨#[]⟩,.int .i64 0,.int .i64 0,.bool false,.int .i64 0,.slice none 0 0,.slice none 0 0,.slice none 0 0,.slice none 0 0] 57:=by have:=(Blk.new (w.alloc (.cells #[.string nm,.int .i64 ln,.int .i64 pa,.bool re,.int .i64 rg,.slice uo us.length uc,.slice co cs.length cc,.slice io is.length ic,.slice no ms.length nc] 90)) #[.string ⟨#[]⟩,.int .i64 0,.int .i64 0,.bool false,.int .i64 0,.slice none 0 0,.slice none 0 0,.slice none 0 0,.slice none 0 0] 57).alloc (.cells #[.string nm,.int .i64 ln,.int .i64 pa,.bool re,.int .i64 rg,.slice none 0 0,.slice none 0 0,.slice none 0 0,.slice none 0 0] 57);simpa using this
 have Z0:Blk (((w.alloc (.cells #[.string nm,.int .i64 ln,.int .i64 pa,.bool re,.int .i64 rg,.slice uo us.length uc,.slice co cs.length cc,.slice io is.length ic,.slice no ms.length nc] 90)).alloc (.cells #[.string ⟨#[]⟩,.int .i64 0,.int .i64 0,.bool false,.int .i64 0,.slice none 0 0,.slice none 0 0,.slice none 0 0,.slice none 0 0] 57)).alloc (.cells #[.string nm,.int .i64 ln,.int .i64 pa,.bool re,.int .i64 rg,.slice none 0 0,.slice none 0 0,.slice none 0 0,.slice none 0 0] 57)) (w.heap.size+1+1) #[.string nm,.int .i64 ln,.int .i64 pa,.bool re,.int .i64 rg,.slice none 0 0,.slice none 0 0,.slice none 0 0,.slice none 0 0] 57:=by have:=Blk.new ((w.alloc (.cells #[.string nm,.int .i64 ln,.int .i64 pa,.bool re,.int .i64 rg,.slice uo us.length uc,.slice co cs.length cc,.slice io is.length ic,.slice no ms.length nc] 90)).alloc (.cells #[.string ⟨#[]⟩,.int .i64 0,.int .i64 0,.bool false,.int .i64 0,.slice none 0 0,.slice none 0 0,.slice none 0 0,.slice none 0 0] 57)) #[.string nm,.int .i64 ln,.int .i64 pa,.bool re,.int .i64 rg,.slice none 0 0,.slice none 0 0,.slice none 0 0,.slice none 0 0] 57;simpa using this
 go_enter Tryz.func54,Tryz.ntmps54
 go_wp2_with fail
 refine (toUpS_ex uo uc us _ z1 (i1.later (Keeps.of_below (hb3 _ _ _))) (w.heap.size+1+1+1) (by simp)).mono ?_
 rintro e w1 ⟨g1,rfl,q1,hw1⟩
 have B1:=(hb3 _ _ _).trans (hw1.mono (by simp;omega))
 have s1:w.heap.size+1+1+1≤w1.heap.size:=by have:=hw1.size;simpa using this
 have X1:=X0.later hw1
 have Y1:=Y0.later hw1
 have Z1:=Z0.later hw1
 clear hw1 X0 Y0 Z0
 have x1:=X1.cell
 have y1:=Z1.cell
 have f1:=Z1.frozen
 go_wp2_with fail
 clear x1 y1 f1
 have D1:=B1.setCell (p:=⟨w.heap.size+1+1,5,none⟩) (by show w.heap.size≤w.heap.size+1+1;omega) (.slice (some ⟨g1,0,none⟩) us.length us.length)
 have K1:=(Keeps.refl (w.heap.size+1+1+1) w1).setCell (p:=⟨w.heap.size+1+1,5,none⟩) (by show w.heap.size+1+1<_;omega) (.slice (some ⟨g1,0,none⟩) us.length us.length)
 have U1:=X1.setOther (p:=⟨w.heap.size+1+1,5,none⟩) (by show w.heap.size≠w.heap.size+1+1;omega) (.slice (some ⟨g1,0,none⟩) us.length us.length)
 have V1:=Y1.setOther (p:=⟨w.heap.size+1+1,5,none⟩) (by show w.heap.size+1≠w.heap.size+1+1;omega) (.slice (some ⟨g1,0,none⟩) us.length us.length)
 have W1:=Z1.set 5 (.slice (some ⟨g1,0,none⟩) us.length us.length)
 have t1:w.heap.size+1+1+1≤(w1.setCell ⟨w.heap.size+1+1,5,none⟩ (.slice (some ⟨g1,0,none⟩) us.length us.length)).heap.size:=by rw [size_set];exact s1
 refine (toValueS_ex co cc cs _ z2 (i2.later (Keeps.of_below D1)) (w.heap.size+1+1+1) t1).mono ?_
 rintro e w2 ⟨g2,rfl,q2,hw2⟩
 have B2:=D1.trans (hw2.mono D1.size)
 have s2:w.heap.size+1+1+1≤w2.heap.size:=Nat.le_trans t1 hw2.size
 have X2:=U1.later hw2
 have Y2:=V1.later hw2
 have Z2:Blk w2 (w.heap.size+1+1) #[.string nm,.int .i64 ln,.int .i64 pa,.bool re,.int .i64 rg,.slice (some ⟨g1,0,none⟩) us.length us.length,.slice none 0 0,.slice none 0 0,.slice none 0 0] 57:=by simpa using W1.later hw2
 replace q1:=And.intro (q1.1.later (K1.trans (Keeps.of_below hw2))) (q1.2.later (K1.trans (Keeps.of_below hw2)))
 clear hw2 X1 Y1 Z1 U1 V1 W1 D1 K1 B1
 have x2:=X2.cell
 have y2:=Z2.cell
 have f2:=Z2.frozen
 go_wp2_with fail
 clear x2 y2 f2
 have D2:=B2.setCell (p:=⟨w.heap.size+1+1,6,none⟩) (by show w.heap.size≤w.heap.size+1+1;omega) (.slice (some ⟨g2,0,none⟩) cs.length cs.length)
 have K2:=(Keeps.refl (w.heap.size+1+1+1) w2).setCell (p:=⟨w.heap.size+1+1,6,none⟩) (by show w.heap.size+1+1<_;omega) (.slice (some ⟨g2,0,none⟩) cs.length cs.length)
 have U2:=X2.setOther (p:=⟨w.heap.size+1+1,6,none⟩) (by show w.heap.size≠w.heap.size+1+1;omega) (.slice (some ⟨g2,0,none⟩) cs.length cs.length)
 have V2:=Y2.setOther (p:=⟨w.heap.size+1+1,6,none⟩) (by show w.heap.size+1≠w.heap.size+1+1;omega) (.slice (some ⟨g2,0,none⟩) cs.length cs.length)
 have W2:=Z2.set 6 (.slice (some ⟨g2,0,none⟩) cs.length cs.length)
 have t2:w.heap.size+1+1+1≤(w2.setCell ⟨w.heap.size+1+1,6,none⟩ (.slice (some ⟨g2,0,none⟩) cs.length cs.length)).heap.size:=by rw [size_set];exact s2
 refine (toInsS_ex io ic is _ z3 (i3.later (Keeps.of_below D2)) (w.heap.size+1+1+1) t2).mono ?_
 rintro e w3 ⟨g3,rfl,q3,hw3⟩
 have B3:=D2.trans (hw3.mono D2.size)
 have s3:w.heap.size+1+1+1≤w3.heap.size:=Nat.le_trans t2 hw3.size
 have X3:=U2.later hw3
 have Y3:=V2.later hw3
 have Z3:Blk w3 (w.heap.size+1+1) #[.string nm,.int .i64 ln,.int .i64 pa,.bool re,.int .i64 rg,.slice (some ⟨g1,0,none⟩) us.length us.length,.slice (some ⟨g2,0,none⟩) cs.length cs.length,.slice none 0 0,.slice none 0 0] 57:=by simpa using W2.later hw3
 replace q1:=And.intro (q1.1.later (K2.trans (Keeps.of_below hw3))) (q1.2.later (K2.trans (Keeps.of_below hw3)))
 replace q2:=And.intro (q2.1.later (K2.trans (Keeps.of_below hw3))) (q2.2.later (K2.trans (Keeps.of_below hw3)))
 clear hw3 X2 Y2 Z2 U2 V2 W2 D2 K2 B2
 have x3:=X3.cell
 have y3:=Z3.cell
 have f3:=Z3.frozen
 go_wp2_with fail
 clear x3 y3 f3
 have D3:=B3.setCell (p:=⟨w.heap.size+1+1,7,none⟩) (by show w.heap.size≤w.heap.size+1+1;omega) (.slice (some ⟨g3,0,none⟩) is.length is.length)
 have K3:=(Keeps.refl (w.heap.size+1+1+1) w3).setCell (p:=⟨w.heap.size+1+1,7,none⟩) (by show w.heap.size+1+1<_;omega) (.slice (some ⟨g3,0,none⟩) is.length is.length)
 have U3:=X3.setOther (p:=⟨w.heap.size+1+1,7,none⟩) (by show w.heap.size≠w.heap.size+1+1;omega) (.slice (some ⟨g3,0,none⟩) is.length is.length)
 have V3:=Y3.setOther (p:=⟨w.heap.size+1+1,7,none⟩) (by show w.heap.size+1≠w.heap.size+1+1;omega) (.slice (some ⟨g3,0,none⟩) is.length is.length)
 have W3:=Z3.set 7 (.slice (some ⟨g3,0,none⟩) is.length is.length)
 have t3:w.heap.size+1+1+1≤(w3.setCell ⟨w.heap.size+1+1,7,none⟩ (.slice (some ⟨g3,0,none⟩) is.length is.length)).heap.size:=by rw [size_set];exact s3
 refine (toNamedS_ex no nc ms _ z4 (i4.later (Keeps.of_below D3)) (w.heap.size+1+1+1) t3).mono ?_
 rintro e w4 ⟨g4,rfl,q4,hw4⟩
 have B4:=D3.trans (hw4.mono D3.size)
 have s4:w.heap.size+1+1+1≤w4.heap.size:=Nat.le_trans t3 hw4.size
 have X4:=U3.later hw4
 have Y4:=V3.later hw4
 have Z4:Blk w4 (w.heap.size+1+1) #[.string nm,.int .i64 ln,.int .i64 pa,.bool re,.int .i64 rg,.slice (some ⟨g1,0,none⟩) us.length us.length,.slice (some ⟨g2,0,none⟩) cs.length cs.length,.slice (some ⟨g3,0,none⟩) is.length is.length,.slice none 0 0] 57:=by simpa using W3.later hw4
 replace q1:=And.intro (q1.1.later (K3.trans (Keeps.of_below hw4))) (q1.2.later (K3.trans (Keeps.of_below hw4)))
 replace q2:=And.intro (q2.1.later (K3.trans (Keeps.of_below hw4))) (q2.2.later (K3.trans (Keeps.of_below hw4)))
 replace q3:=And.intro (q3.1.later (K3.trans (Keeps.of_below hw4))) (q3.2.later (K3.trans (Keeps.of_below hw4)))
 clear hw4 X3 Y3 Z3 U3 V3 W3 D3 K3 B3
 have x4:=X4.cell
 have y4:=Z4.cell
 have f4:=Z4.frozen
 have y5:=Y4.cell
 have f5:=Y4.frozen
 go_wp2_with fail
 refine bodyPost_ret (v:=.agg #[.string nm,.int .i64 ln,.int .i64 pa,.bool re,.int .i64 rg,.slice (some ⟨g1,0,none⟩) us.length us.length,.slice (some ⟨g2,0,none⟩) cs.length cs.length,.slice (some ⟨g3,0,none⟩) is.length is.length,.slice (some ⟨g4,0,none⟩) ms.length ms.length]) ?_ rfl ⟨⟨some ⟨g1,0,none⟩,us.length,some ⟨g2,0,none⟩,cs.length,some ⟨g3,0,none⟩,is.length,some ⟨g4,0,none⟩,ms.length⟩,rfl,rfl,?_,?_⟩
 ·simp [results,Tryz.results54,go_sem,y5]
 ·refine POwn.lower (lo:=w.heap.size+1+1+1) (POwn.later (w:=w4) ⟨⟨q1.1,q2.1,q3.1,q4.1⟩,⟨q1.2,q2.2,q3.2,q4.2⟩⟩ ?_) (by omega)
  iterate 10 (refine Keeps.setCell ?_ (by simp;try omega) _)
  exact Keeps.refl _ w4
 ·iterate 10 (refine Below.setCell ?_ (by simp;try omega) _)
  exact B4
set_option maxHeartbeats 1000000 in
theorem toProtoS_cap (ao:Option Addr) (cap:Nat) (ps:List Pd) (w:World) (hm:ps.length≤1048576) (hz:∀p ∈ ps,PFew p) (hu:ProtosAt 0 w ao ps) :
  Calls Tryz.prog 23 #[.slice ao ps.length cap] w fun e w'=>e=.returned (.slice (some ⟨w.heap.size,0,none⟩) ps.length ps.length)∧ProtosOwn w' w.heap.size ps∧CapP w' w.heap.size ps ps.length∧Below w.heap.size w w':=by
 have hmk:=run_make_k (P:=Tryz.prog) 29 57 _ 9 144 Tryz.underlying29 Tryz.info_Proto .i64 .i64 ps.length (by omega) (by omega)
 go_enter Tryz.func23,Tryz.ntmps23
 go_wp2_with fail
 clear hmk
 go_loopw [4] (fun i wr=>∃k:Nat,k≤ps.length∧i=.int .i64 k∧Own wr w.heap.size 57 (ps.length*9)∧LaidP wr w.heap.size ps k∧CapP wr w.heap.size ps k∧Below w.heap.size w wr) (fun i _=>ps.length - (intOf i).toNat)
 case atStart=>exact ⟨0,Nat.zero_le _,rfl,Own.made _ _ _ _,fun j _ hj=>absurd hj (Nat.not_lt_zero _),fun j _ hj=>absurd hj (Nat.not_lt_zero _),(Below.refl _ _).alloc (Nat.le_refl _) _⟩
 case round=>
  obtain⟨k,hk,rfl,hown,hdone,hcap,hb⟩:=hrel
  by_cases hlt:k<ps.length
  ·obtain⟨p,huk⟩:=some_of_lt hlt
   obtain⟨b,off,rfl,_,hbl,x,⟨p0,p1,p2,p3,p4,p5,p6,p7,p8⟩,hin⟩:=hu.later (Keeps.of_below hb) k p huk
   have hf:=hz p (List.mem_of_getElem? huk)
   clear hu hz
   go_wp2_with fail
   refine (toProto_cap p x _ hf hin).mono ?_
   rintro e w1 ⟨y,rfl,hyc,hy,hw1⟩
   have own1:=hown.later hw1
   have done1:=hdone.later hw1 hown.lt
   have B1:=hb.trans (hw1.mono hb.size)
   have R1:=own1.sets (nine p y) (k*9)
   have R2:=done1.step own1 (by omega) huk (hy.lower hown.lt)
   have R4:=(hcap.later hw1 hown.lt).step own1 (by omega) huk hyc
   have R3:=Below.sets (nine p y) (k*9) B1 (Nat.le_refl _)
   have hn:k*9+9≤ps.length*9:=by omega
   obtain⟨v0,c0⟩:=own1.cell (i:=k*9) (by omega)
   obtain⟨v1,c1⟩:=own1.cell (i:=k*9+1) (by omega)
   obtain⟨v2,c2⟩:=own1.cell (i:=k*9+2) (by omega)
   obtain⟨v3,c3⟩:=own1.cell (i:=k*9+3) (by omega)
   obtain⟨v4,c4⟩:=own1.cell (i:=k*9+4) (by omega)
   obtain⟨v5,c5⟩:=own1.cell (i:=k*9+5) (by omega)
   obtain⟨v6,c6⟩:=own1.cell (i:=k*9+6) (by omega)
   obtain⟨v7,c7⟩:=own1.cell (i:=k*9+7) (by omega)
   obtain⟨v8,c8⟩:=own1.cell (i:=k*9+8) (by omega)
   have f0:=own1.frozen
   clear hown hdone hcap hb own1 done1 B1 hw1 p0 p1 p2 p3 p4 p5 p6 p7 p8 hin hy hyc
   unfold Pd.cells
   go_wp2_with fail
   go_roundw
   case rel=>exact ⟨k+1,by omega,by go_num,R1,R2,R4,R3⟩
   case measure=>simp [intOf];omega
  ·go_wp2_with fail
   go_ret
   obtain rfl:k=ps.length:=by omega
   exact⟨rfl,⟨hown,hdone⟩,hcap,hb⟩
set_option maxHeartbeats 400000 in
theorem toCode_cap (ao:Option Addr) (cap:Nat) (ps:List Pd) (w:World) (hm:ps.length≤1048576) (hz:∀p ∈ ps,PFew p) (hu:ProtosAt 0 w ao ps) :
  Calls Tryz.prog 8 #[.agg #[.slice ao ps.length cap]] w fun e w'=>∃g,e=.returned (.agg #[.slice (some ⟨g,0,none⟩) ps.length ps.length])∧w.heap.size≤g∧ProtosOwn w' g ps∧CapP w' g ps ps.length∧Below w.heap.size w w':=by
 have hb3:∀o1 o2 o3,Below w.heap.size w (((w.alloc o1).alloc o2).alloc o3):=fun o1 o2 o3=>(((Below.refl _ _).alloc (Nat.le_refl _) o1).alloc (by simp) o2).alloc (by simp;omega) o3
 go_enter Tryz.func8,Tryz.ntmps8
 go_wp2_with fail
 refine (toProtoS_cap ao cap ps _ hm hz (hu.later (Keeps.of_below (hb3 _ _ _)))).mono ?_
 rintro e w1 ⟨rfl,q1,q2,hw1⟩
 obtain⟨k1,k2⟩:=bcell hw1
 have s1:w.heap.size+1+1+1≤w1.heap.size:=by have:=hw1.size;simpa using this
 have B1:=(hb3 _ _ _).trans (hw1.mono (by simp;omega))
 have q1:ProtosOwn w1 (w.heap.size+1+1+1) ps:=by simpa using q1
 have q2:CapP w1 (w.heap.size+1+1+1) ps ps.length:=by simpa using q2
 go_wp2_with fail
 refine bodyPost_ret (v:=.agg #[.slice (some ⟨w.heap.size+1+1+1,0,none⟩) ps.length ps.length]) ?_ rfl ⟨_,rfl,by omega,?_,?_,?_⟩
 ·simp [results,Tryz.results8,go_sem,k1]
 ·refine ProtosOwn.later q1 ?_
  iterate 2 (refine Keeps.setCell ?_ (by simp;try omega) _)
  exact Keeps.refl _ w1
 ·refine CapP.keeps q2 q1.1.lt ?_
  iterate 2 (refine Keeps.setCell ?_ (by simp;try omega) _)
  exact Keeps.refl _ w1
 ·iterate 2 (refine Below.setCell ?_ (by simp;try omega) _)
  exact B1
theorem Tryz.info_QInsP:(Tryz.prog.info? 60).map (fun i=>(i.zero,i.size,i.bytes))=some (some (.agg #[.int .i64 0,.int .i64 0,.int .i64 0,.int .i64 0,.int .i64 0,.int .i64 0,.int .i64 0]),7,56):=by kernel_rfl
theorem Tryz.info_QProtoP:(Tryz.prog.info? 65).map (fun i=>(i.zero,i.size,i.bytes))=some (some (.agg #[.slice none 0 0]),1,24):=by kernel_rfl
theorem field_fault (a b c:Int) (W:World):(Instr.field 27 (.agg #[.int .i64 a,.int .i64 b,.int .i64 c]) 0).run Tryz.prog W=.ok (.int .i64 a) W:=by kernel_rfl
theorem CellsAre.sets7 {W:World} {b g:Nat} {A:Array Value} (h:∀o,W.cell? ⟨b,o,none⟩=A[o]?) (hn:b≠g) (o0 o1 o2 o3 o4 o5 o6:Nat) (v0 v1 v2 v3 v4 v5 v6:Value):∀o,(((((((W.setCell ⟨g,o0,none⟩ v0).setCell ⟨g,o1,none⟩ v1).setCell ⟨g,o2,none⟩ v2).setCell ⟨g,o3,none⟩ v3).setCell ⟨g,o4,none⟩ v4).setCell ⟨g,o5,none⟩ v5).setCell ⟨g,o6,none⟩ v6).cell? ⟨b,o,none⟩=A[o]?:=
 CellsAre.set (CellsAre.set (CellsAre.set (CellsAre.set (CellsAre.set (CellsAre.set (CellsAre.set h hn _ _) hn _ _) hn _ _) hn _ _) hn _ _) hn _ _) hn _ _
theorem cIns_few {ps:List Pd} (hf:Fine ps) {cs:List Vd} {is:List Nd} {k i:Nat} (hl:ps.length≤1048576) (hk:k<ps.length) (hi:i<is.length) (hz:is.length≤1048576):cIns cs is (cAll ps k) i≤1099513724928:=by
 have h1:=cIns_le cs is (cAll ps k) i
 have h2:=cAll_le (fun p hp=>(hf.few p hp).ins) k
 omega
theorem qgood_of {ps:List Pd} (hf:Fine ps) (hc:(checkF ps).1=0) {p:Pd} (hp:p ∈ ps) {i:Nat} {n:Nd} (hi:p.ins[i]?=some n):QGood n (p.ins.drop (i+1)) p.consts:=by
 have hd:p.ins.drop i=n::p.ins.drop (i+1):=drop_some hi
 have hm:∀z ∈ n::p.ins.drop (i+1),z ∈ p.ins:=fun z hz=>List.mem_of_mem_drop (hd▸hz)
 have hq:=shape_q hc p hp
 refine⟨?_,fun z hz=>(hq z (hm z hz)).drop,(hq n (List.mem_of_getElem? hi)).cst,(hq n (List.mem_of_getElem? hi)).bin,fun z hz=>hf.nds p hp z (hm z hz)⟩
 rw [←hd]
 have:=(hf.few p hp).ins
 simp
 omega
theorem cIns_step {cs:List Vd} {ins:List Nd} {c0 i:Nat} {n:Nd} (hi:ins[i]?=some n):cIns cs ins c0 (i+1)=if (quickOne cs (cIns cs ins c0 i) (n::ins.drop (i+1))).op=45 then cIns cs ins c0 i+1 else cIns cs ins c0 i:=by
 rw [cIns,drop_some hi]
set_option maxRecDepth 100000 in
set_option maxHeartbeats 8000000 in
theorem implPrepare_any (cg cap:Nat) (ps:List Pd) (w:World) (hfi:Fine ps) (hF:Forms w) (hv:ProtosAt 0 w (some ⟨cg,0,none⟩) ps) (hcap:CapP w cg ps ps.length) (hc:(checkF ps).1=0) :
  Calls Tryz.prog 13 #[.agg #[.slice (some ⟨cg,0,none⟩) ps.length cap]] w fun e w'=>∃g gs,e=.returned (.agg #[.slice (some ⟨g,0,none⟩) ps.length ps.length,.int .i64 (cAll ps ps.length:Int)])∧QOwn w' g gs (qAll ps)∧w.heap.size≤g∧Below w.heap.size w w':=by
 have hl:ps.length≤1048576:=by have:=hfi.bulk;unfold bulkPs at this;omega
 have C0:=(Blk.new w #[.slice (some ⟨cg,0,none⟩) ps.length cap] 31).alloc (.cells #[.slice none 0 0,.int .i64 0] 38)
 have R0:=Blk.newIn (W:=w.alloc (.cells #[.slice (some ⟨cg,0,none⟩) ps.length cap] 31)) (n:=w.heap.size+1) #[.slice none 0 0,.int .i64 0] 38 (by simp)
 have B0:Below w.heap.size w ((w.alloc (.cells #[.slice (some ⟨cg,0,none⟩) ps.length cap] 31)).alloc (.cells #[.slice none 0 0,.int .i64 0] 38)):=((Below.refl _ _).alloc (Nat.le_refl _) _).alloc (by simp) _
 obtain⟨⟨f0,f1,f2⟩,hf⟩:∃f,f=checkF ps:=⟨_,rfl⟩
 obtain rfl:f0=0:=by rw [←hf] at hc;exact hc
 have HCK:Hid (∀W,Below w.heap.size w W→Calls Tryz.prog 9 #[.agg #[.slice (some ⟨cg,0,none⟩) ps.length cap]] W fun e w'=>e=.returned (.agg #[.int .i64 0,.int .i64 f1,.int .i64 f2])∧Below W.heap.size W w'):=fun W hb=>by
  have:=implCheckCode_any (some ⟨cg,0,none⟩) cap ps W hfi (hF.later hb) (hv.later (Keeps.of_below hb));rw [←hf] at this;exact this
 have HFI:Hid (Fine ps):=hfi
 have HCC:Hid ((checkF ps).1=0):=hc
 have HV:Hid (ProtosAt 0 w (some ⟨cg,0,none⟩) ps):=hv
 have HCA:Hid (CapP w cg ps ps.length):=hcap
 have hmk:=run_make_k (P:=Tryz.prog) 36 65 _ 1 24 Tryz.underlying36 Tryz.info_QProtoP .i64 .i64 ps.length (by omega) (by omega)
 clear hf hc hF hv hfi hcap
 have hfd:=field_fault 0 f1 f2
 go_enter Tryz.func13,Tryz.ntmps13
 have c0:=C0.cell
 go_wp2_with fail
 refine (HCK.out _ B0).mono ?_
 rintro e w1 ⟨rfl,hw1⟩
 have B1:=B0.trans (hw1.mono B0.size)
 have C1:=C0.later hw1
 have R1:=R0.later hw1
 clear hw1 B0 C0 R0 c0 HCK
 have c1:=C1.cell
 go_wp2_with fail
 refine (patterns_any w1).mono ?_
 rintro e w2 ⟨g0,rfl,P2,hg0,hw2⟩
 have B2:=B1.trans (hw2.mono B1.size)
 have C2:=C1.later hw2
 have R2:=R1.later hw2
 clear hw2 B1 C1 R1 c1
 have c2:=C2.cell
 have c2a:=fun o=>(C2.alloc o).cell
 have c2b:=fun o o'=>((C2.alloc o).alloc o').cell
 go_wp2_with fail
 have O0:=OutAt.start w2 ps #[.slice none 0 0]
 clear hmk
 go_loopw [23] (fun y wr=>∃(k:Nat) (gs:Nat→Nat),k≤ps.length∧y=.int .i64 k∧Hid (OutAt w2 ps wr gs k)) (fun y _=>ps.length - (intOf y).toNat)
 case atStart=>exact ⟨0,fun _=>0,Nat.zero_le _,rfl,O0⟩
 case round=>
  obtain⟨k,gs,hk,rfl,HO⟩:=hrel
  obtain⟨wo,hwo⟩:∃wo,wo=wr:=⟨_,rfl⟩
  subst hwo
  clear O0 c2 c2a c2b
  have c3:=(C2.later HO.out.b2).cell
  by_cases hlt:k<ps.length
  ·obtain⟨p,hp⟩:=some_of_lt hlt
   have HP:Hid (ps[k]?=some p):=hp
   have BR:=B2.trans (HO.out.b2.mono B2.size)
   obtain⟨b,off,e,_,hbl0,h,hnine,hpin⟩:=HV.out k p hp
   simp only [Option.some.injEq,Addr.mk.injEq,and_true] at e
   obtain⟨rfl,rfl⟩:=e
   obtain⟨n0,n1,n2,n3,n4,n5,n6,n7,n8⟩:=NineAt.later hnine BR hbl0
   simp only [Nat.zero_add] at n0 n1 n2 n3 n4 n5 n6 n7 n8
   have hic:h.ic=p.ins.length:=by
    obtain⟨ao',h1⟩:=HCA.out k p hlt hp
    have h2:=(BR.cell (p:=⟨cg,k*9+7,none⟩) hbl0).trans h1
    have h3:=Option.some.inj (n7.symm.trans h2)
    simp only [Value.slice.injEq] at h3
    exact h3.2.2
   have hil:p.ins.length≤1048576:=(HFI.out.few p (List.mem_of_getElem? hp)).ins
   have HPI:Hid (PIn 0 w h p):=hpin
   have hmk2:=run_make_k (P:=Tryz.prog) 58 60 _ 7 56 Tryz.underlying58 Tryz.info_QInsP .i64 .i64 p.ins.length (by omega) (by omega)
   have I0:=InAt.start (p:=p) HO.out (p.cells h) #[.int .i64 0,.int .i64 0,.int .i64 0,.int .i64 0,.int .i64 0,.int .i64 0,.int .i64 0]
   have HQG:Hid (∀(i:Nat) n,p.ins[i]?=some n→QGood n (p.ins.drop (i+1)) p.consts):=fun i n hi=>qgood_of HFI.out HCC.out (List.mem_of_getElem? hp) hi
   have HCS:Hid (cAll ps (k+1)=cIns p.consts p.ins (cAll ps k) p.ins.length):=cAll_step hp
   clear hp hpin hnine
   obtain⟨nm,ln,pa,re,rg,us,cs,is,ms⟩:=p
   obtain⟨uo,uc,co,cc,io,ic,no,nc⟩:=h
   dsimp only [Pd.cells] at *
   subst hic
   have hkl:(k:Int)<ps.length:=by omega
   go_wp2_with fail
   clear hmk2 n0 n1 n2 n3 n4 n5 n6 n7 n8 c3
   go_loopw [34] (fun y wi=>∃i:Nat,i≤is.length∧y=.int .i64 i∧Hid (InAt w2 wo ps #[.string nm,.int .i64 ln,.int .i64 pa,.bool re,.int .i64 rg,.slice uo us.length uc,.slice co cs.length cc,.slice io is.length is.length,.slice no ms.length nc] k ⟨nm,ln,pa,re,rg,us,cs,is,ms⟩ wi (cIns cs is (cAll ps k) i) i)) (fun y _=>is.length - (intOf y).toNat)
   case atStart=>exact ⟨0,Nat.zero_le _,rfl,I0⟩
   case round=>
    obtain⟨i,hi,rfl,HI⟩:=hrel
    clear I0
    obtain⟨wi,hwi⟩:∃wi,wi=wr:=⟨_,rfl⟩
    subst hwi
    have HL:Hid (wo.heap.size+1<wi.heap.size):=HI.out.own.lt
    by_cases hil2:i<is.length
    ·obtain⟨n,hn⟩:=some_of_lt hil2
     have BI:=InAt.b2 HO.out HI.out
     have BWI:=B2.trans (BI.mono B2.size)
     have hqg:=HQG.out i n hn
     have hpd:=drop_some hn
     have hpin:=HPI.out
     obtain⟨ib,iof,e,_,hibl,_⟩:=hpin.ins i n hn
     dsimp only at e
     subst e
     have hfew:=hqg.few
     obtain⟨q,hq⟩:∃q,q=quickOne cs (cIns cs is (cAll ps k) i) (n::is.drop (i+1)):=⟨_,rfl⟩
     have hqi:(qIns cs is (cAll ps k))[i]?=some q:=by rw [qIns_at hil2,hpd,hq]
     have HCI:Hid (cIns cs is (cAll ps k) (i+1)=if q.op=45 then cIns cs is (cAll ps k) i+1 else cIns cs is (cAll ps k) i):=by
      rw [cIns_step hn,hq];rfl
     have HQC:Hid (∀W,Below w2.heap.size w2 W→Calls Tryz.prog 29 #[.agg #[.slice (some ⟨ib,iof+i*5,none⟩) (is.length - i) (is.length - i),.slice co cs.length cc,.int .i64 ((cIns cs is (cAll ps k) i:Nat):Int)],.slice (some ⟨g0,0,none⟩) 5 5] W fun e w'=>e=.returned q.val∧Below W.heap.size W w'):=by
      intro W hb
      have:=quicken_any (some ⟨ib,iof+i*5,none⟩) co (is.length - i) cc (cIns cs is (cAll ps k) i) g0 n (is.drop (i+1)) cs W hqg (by rw [←hpd];exact AllAt.dropAt (hpin.ins.later (Keeps.of_below (B2.trans (hb.mono B2.size)))) i) (hpin.consts.later (Keeps.of_below (B2.trans (hb.mono B2.size)))) (P2.later hb)
      rw [←hq,←hpd,List.length_drop] at this
      exact this
     obtain⟨q0,q1,q2,q3,q4,q5,q6⟩:=q
     dsimp only [Qd.val] at HQC HCI
     have HPT:Hid (∀W c,InAt w2 wo ps #[.string nm,.int .i64 ln,.int .i64 pa,.bool re,.int .i64 rg,.slice uo us.length uc,.slice co cs.length cc,.slice (some ⟨ib,iof,none⟩) is.length is.length,.slice no ms.length nc] k ⟨nm,ln,pa,re,rg,us,cs,is,ms⟩ W c i→InAt w2 wo ps #[.string nm,.int .i64 ln,.int .i64 pa,.bool re,.int .i64 rg,.slice uo us.length uc,.slice co cs.length cc,.slice (some ⟨ib,iof,none⟩) is.length is.length,.slice no ms.length nc] k ⟨nm,ln,pa,re,rg,us,cs,is,ms⟩ (W.setCells (wo.heap.size+1) (i*7) (Qd.vals ⟨q0,q1,q2,q3,q4,q5,q6⟩)) c (i+1)):=fun W c h=>InAt.put (q:=⟨q0,q1,q2,q3,q4,q5,q6⟩) HO.out h hqi
     have HCT:Hid (∀W c c',InAt w2 wo ps #[.string nm,.int .i64 ln,.int .i64 pa,.bool re,.int .i64 rg,.slice uo us.length uc,.slice co cs.length cc,.slice (some ⟨ib,iof,none⟩) is.length is.length,.slice no ms.length nc] k ⟨nm,ln,pa,re,rg,us,cs,is,ms⟩ W c (i+1)→InAt w2 wo ps #[.string nm,.int .i64 ln,.int .i64 pa,.bool re,.int .i64 rg,.slice uo us.length uc,.slice co cs.length cc,.slice (some ⟨ib,iof,none⟩) is.length is.length,.slice no ms.length nc] k ⟨nm,ln,pa,re,rg,us,cs,is,ms⟩ (W.setCell ⟨w2.heap.size+1,1,none⟩ (.int .i64 ((c':Nat):Int))) c' (i+1)):=fun W c c' h=>InAt.count HO.out h c'
     have HI1:Hid (InAt w2 wo ps #[.string nm,.int .i64 ln,.int .i64 pa,.bool re,.int .i64 rg,.slice uo us.length uc,.slice co cs.length cc,.slice (some ⟨ib,iof,none⟩) is.length is.length,.slice no ms.length nc] k ⟨nm,ln,pa,re,rg,us,cs,is,ms⟩ wi.drew (cIns cs is (cAll ps k) i) i):=InAt.later HI.out (Below.refl _ _).drew
     have hcl:=cIns_few HFI.out (cs:=cs) (is:=is) hl hlt hil2 hil
     have e1:=HI1.out.pr.cell
     have e2:=HI1.out.hq.cell
     have hL:=InAt.lt HO.out
     have hn1:wo.heap.size≠wo.heap.size+1:=Nat.ne_of_lt (Nat.lt_succ_self _)
     have hn2:w2.heap.size+1≠wo.heap.size+1:=Nat.ne_of_lt (Nat.lt_succ_of_lt hL)
     have k1:(i:Int)<is.length:=Int.ofNat_lt.2 hil2
     have k2:¬is.length=i:=Nat.ne_of_gt hil2
     have k3:(i:Int)≤is.length:=Int.ofNat_le.2 hi
     have BI1:Below w2.heap.size w2 wi.drew:=BI.drew
     have HQI:Hid ((qIns cs is (cAll ps k))[i]?=some ⟨q0,q1,q2,q3,q4,q5,q6⟩):=hqi
     have hi1:i+1≤is.length:=hil2
     clear hqi hq hpd hn hqg hfew hpin hil2 HI BI
     generalize cIns cs is (cAll ps k) i=C at *
     obtain⟨C',hC'⟩:∃C',cIns cs is (cAll ps k) (i+1)=C':=⟨_,rfl⟩
     rw [hC'] at HCI
     have HCE:Hid (cIns cs is (cAll ps k) (i+1)=C'):=hC'
     clear hC'
     go_wp2_with fail
     go_region_held3 (fun W=>(∀o,W.cell? ⟨wo.heap.size,o,none⟩=(#[.string nm,.int .i64 ln,.int .i64 pa,.bool re,.int .i64 rg,.slice uo us.length uc,.slice co cs.length cc,.slice (some ⟨ib,iof,none⟩) is.length is.length,.slice no ms.length nc]:Array Value)[o]?)∧(∀o,W.cell? ⟨w2.heap.size+1,o,none⟩=(#[.slice (some ⟨w2.heap.size,0,none⟩) ps.length ps.length,.int .i64 (C:Int)]:Array Value)[o]?)) (first | with_reducible exact ⟨e1,e2⟩ | with_reducible exact ⟨d1,d2⟩ | with_reducible exact ⟨CellsAre.sets7 d1 hn1 _ _ _ _ _ _ _ _ _ _ _ _ _ _,CellsAre.sets7 d2 hn2 _ _ _ _ _ _ _ _ _ _ _ _ _ _⟩)
      (first | (go_at_call 29;refine (HQC.out _ BI1).mono ?_;rintro e w1 ⟨rfl,hw1⟩;have I1:=InAt.later HI1.out hw1;have d1:=I1.pr.cell;have d2:=I1.hq.cell;obtain ⟨v0,c0⟩:=I1.own.cell (i:=i*7) (by show i*7<is.length*7;omega);obtain ⟨v1,c1⟩:=I1.own.cell (i:=i*7+1) (by show i*7+1<is.length*7;omega);obtain ⟨v2,c2⟩:=I1.own.cell (i:=i*7+2) (by show i*7+2<is.length*7;omega);obtain ⟨v3,c3⟩:=I1.own.cell (i:=i*7+3) (by show i*7+3<is.length*7;omega);obtain ⟨v4,c4⟩:=I1.own.cell (i:=i*7+4) (by show i*7+4<is.length*7;omega);obtain ⟨v5,c5⟩:=I1.own.cell (i:=i*7+5) (by show i*7+5<is.length*7;omega);obtain ⟨v6,c6⟩:=I1.own.cell (i:=i*7+6) (by show i*7+6<is.length*7;omega);have fz:=I1.own.frozen))
     have I2:InAt w2 wo ps #[.string nm,.int .i64 ln,.int .i64 pa,.bool re,.int .i64 rg,.slice uo us.length uc,.slice co cs.length cc,.slice (some ⟨ib,iof,none⟩) is.length is.length,.slice no ms.length nc] k ⟨nm,ln,pa,re,rg,us,cs,is,ms⟩ (((((((w1.setCell ⟨wo.heap.size+1,i*7,none⟩ (.int .i64 q0)).setCell ⟨wo.heap.size+1,i*7+1,none⟩ (.int .i64 q1)).setCell ⟨wo.heap.size+1,i*7+2,none⟩ (.int .i64 q2)).setCell ⟨wo.heap.size+1,i*7+3,none⟩ (.int .i64 q3)).setCell ⟨wo.heap.size+1,i*7+4,none⟩ (.int .i64 q4)).setCell ⟨wo.heap.size+1,i*7+5,none⟩ (.int .i64 q5)).setCell ⟨wo.heap.size+1,i*7+6,none⟩ (.int .i64 q6)) C (i+1):=HPT.out w1 C I1
     have hq1:InAt w2 wo ps #[.string nm,.int .i64 ln,.int .i64 pa,.bool re,.int .i64 rg,.slice uo us.length uc,.slice co cs.length cc,.slice (some ⟨ib,iof,none⟩) is.length is.length,.slice no ms.length nc] k ⟨nm,ln,pa,re,rg,us,cs,is,ms⟩ (((((((w1.setCell ⟨wo.heap.size+1,i*7,none⟩ (.int .i64 q0)).setCell ⟨wo.heap.size+1,i*7+1,none⟩ (.int .i64 q1)).setCell ⟨wo.heap.size+1,i*7+2,none⟩ (.int .i64 q2)).setCell ⟨wo.heap.size+1,i*7+3,none⟩ (.int .i64 q3)).setCell ⟨wo.heap.size+1,i*7+4,none⟩ (.int .i64 q4)).setCell ⟨wo.heap.size+1,i*7+5,none⟩ (.int .i64 q5)).setCell ⟨wo.heap.size+1,i*7+6,none⟩ (.int .i64 q6)) C (i+1)→(((((((w1.setCell ⟨wo.heap.size+1,i*7,none⟩ (.int .i64 q0)).setCell ⟨wo.heap.size+1,i*7+1,none⟩ (.int .i64 q1)).setCell ⟨wo.heap.size+1,i*7+2,none⟩ (.int .i64 q2)).setCell ⟨wo.heap.size+1,i*7+3,none⟩ (.int .i64 q3)).setCell ⟨wo.heap.size+1,i*7+4,none⟩ (.int .i64 q4)).setCell ⟨wo.heap.size+1,i*7+5,none⟩ (.int .i64 q5)).setCell ⟨wo.heap.size+1,i*7+6,none⟩ (.int .i64 q6)).cell? ⟨wo.heap.size+1,i*7,none⟩=some (.int .i64 q0):=fun h=>h.laid i ⟨q0,q1,q2,q3,q4,q5,q6⟩ (Nat.lt_succ_self _) HQI.out 0 _ rfl
     have z0:=hq1 I2
     have z1:=I2.hq.cell
     have z2:=I2.hq.frozen
     have HI2:Hid (InAt w2 wo ps #[.string nm,.int .i64 ln,.int .i64 pa,.bool re,.int .i64 rg,.slice uo us.length uc,.slice co cs.length cc,.slice (some ⟨ib,iof,none⟩) is.length is.length,.slice no ms.length nc] k ⟨nm,ln,pa,re,rg,us,cs,is,ms⟩ (((((((w1.setCell ⟨wo.heap.size+1,i*7,none⟩ (.int .i64 q0)).setCell ⟨wo.heap.size+1,i*7+1,none⟩ (.int .i64 q1)).setCell ⟨wo.heap.size+1,i*7+2,none⟩ (.int .i64 q2)).setCell ⟨wo.heap.size+1,i*7+3,none⟩ (.int .i64 q3)).setCell ⟨wo.heap.size+1,i*7+4,none⟩ (.int .i64 q4)).setCell ⟨wo.heap.size+1,i*7+5,none⟩ (.int .i64 q5)).setCell ⟨wo.heap.size+1,i*7+6,none⟩ (.int .i64 q6)) C (i+1)):=I2
     clear hq1 I2 I1 d1 d2 c0 c1 c2 c3 c4 c5 c6 fz e1 e2 hw1
     by_cases h45:q0=45
     ·have g45:(q0 == 45)=true:=by simpa using h45
      have hcc:C'=C+1:=HCI.out.trans (if_pos h45)
      have HI3:Hid (InAt w2 wo ps #[.string nm,.int .i64 ln,.int .i64 pa,.bool re,.int .i64 rg,.slice uo us.length uc,.slice co cs.length cc,.slice (some ⟨ib,iof,none⟩) is.length is.length,.slice no ms.length nc] k ⟨nm,ln,pa,re,rg,us,cs,is,ms⟩ ((((((((w1.setCell ⟨wo.heap.size+1,i*7,none⟩ (.int .i64 q0)).setCell ⟨wo.heap.size+1,i*7+1,none⟩ (.int .i64 q1)).setCell ⟨wo.heap.size+1,i*7+2,none⟩ (.int .i64 q2)).setCell ⟨wo.heap.size+1,i*7+3,none⟩ (.int .i64 q3)).setCell ⟨wo.heap.size+1,i*7+4,none⟩ (.int .i64 q4)).setCell ⟨wo.heap.size+1,i*7+5,none⟩ (.int .i64 q5)).setCell ⟨wo.heap.size+1,i*7+6,none⟩ (.int .i64 q6)).setCell ⟨w2.heap.size+1,1,none⟩ (.int .i64 ((C:Int)+1))) C' (i+1)):=by
       have:=HCT.out (((((((w1.setCell ⟨wo.heap.size+1,i*7,none⟩ (.int .i64 q0)).setCell ⟨wo.heap.size+1,i*7+1,none⟩ (.int .i64 q1)).setCell ⟨wo.heap.size+1,i*7+2,none⟩ (.int .i64 q2)).setCell ⟨wo.heap.size+1,i*7+3,none⟩ (.int .i64 q3)).setCell ⟨wo.heap.size+1,i*7+4,none⟩ (.int .i64 q4)).setCell ⟨wo.heap.size+1,i*7+5,none⟩ (.int .i64 q5)).setCell ⟨wo.heap.size+1,i*7+6,none⟩ (.int .i64 q6)) C C' HI2.out
       rw [show ((C':Nat):Int)=(C:Int)+1 by rw [hcc];rfl] at this
       exact this
      clear hcc h45
      go_wp2_with fail
      go_roundw
      case rel=>exact ⟨i+1,hi1,by go_num,by rw [HCE.out];exact HI3.out⟩
      case measure=>simp [intOf];omega
     ·have g45:(q0 == 45)=false:=by simpa using h45
      have hcc:C'=C:=HCI.out.trans (if_neg h45)
      have HI3:Hid (InAt w2 wo ps #[.string nm,.int .i64 ln,.int .i64 pa,.bool re,.int .i64 rg,.slice uo us.length uc,.slice co cs.length cc,.slice (some ⟨ib,iof,none⟩) is.length is.length,.slice no ms.length nc] k ⟨nm,ln,pa,re,rg,us,cs,is,ms⟩ (((((((w1.setCell ⟨wo.heap.size+1,i*7,none⟩ (.int .i64 q0)).setCell ⟨wo.heap.size+1,i*7+1,none⟩ (.int .i64 q1)).setCell ⟨wo.heap.size+1,i*7+2,none⟩ (.int .i64 q2)).setCell ⟨wo.heap.size+1,i*7+3,none⟩ (.int .i64 q3)).setCell ⟨wo.heap.size+1,i*7+4,none⟩ (.int .i64 q4)).setCell ⟨wo.heap.size+1,i*7+5,none⟩ (.int .i64 q5)).setCell ⟨wo.heap.size+1,i*7+6,none⟩ (.int .i64 q6)) C' (i+1)):=hcc▸HI2.out
      clear hcc h45
      go_wp2_with fail
      go_roundw
      case rel=>exact ⟨i+1,hi1,by go_num,by rw [HCE.out];exact HI3.out⟩
      case measure=>simp [intOf];omega
    ·obtain rfl:i=is.length:=Nat.le_antisymm hi (Nat.le_of_not_lt hil2)
     have HI1:Hid (InAt w2 wo ps #[.string nm,.int .i64 ln,.int .i64 pa,.bool re,.int .i64 rg,.slice uo us.length uc,.slice co cs.length cc,.slice io is.length is.length,.slice no ms.length nc] k ⟨nm,ln,pa,re,rg,us,cs,is,ms⟩ wi (cAll ps (k+1)) is.length):=HCS.out▸HI.out
     have hG:Own wi w2.heap.size 65 ps.length:=HO.out.own.of_block (HI1.out.only.block _ (Nat.ne_of_lt (Nat.lt_succ_self _)) HO.out.own.lt)
     obtain⟨v0,c0⟩:=hG.cell (i:=k) hlt
     have f0:=hG.frozen k
     have z1:=HI1.out.hq.cell
     have HO2:Hid (OutAt w2 ps (wi.setCell ⟨w2.heap.size,k,none⟩ (.slice (some ⟨wo.heap.size+1,0,none⟩) is.length is.length)) (fun j=>if j=k then wo.heap.size+1 else gs j) (k+1)):=OutAt.more (p:=⟨nm,ln,pa,re,rg,us,cs,is,ms⟩) HO.out HP.out HI1.out
     have hk1:k+1≤ps.length:=hlt
     clear hG HI1 HI hil2 HL
     go_wp2_with fail
     go_roundw
     case rel=>exact ⟨k+1,_,hk1,by go_num,HO2.out⟩
     case measure=>simp [intOf];omega
  ·obtain rfl:k=ps.length:=Nat.le_antisymm hk (Nat.le_of_not_lt hlt)
   have z1:=HO.out.hq.cell
   have r1:=(R2.later HO.out.b2).cell
   have rf1:=(R2.later HO.out.b2).frozen
   have BR:=B2.trans (HO.out.b2.mono B2.size)
   have HD:=HO.out.done
   have hgl:w.heap.size+1<w2.heap.size:=R2.lt
   go_wp2_with fail
   refine bodyPost_ret (v:=.agg #[.slice (some ⟨w2.heap.size,0,none⟩) ps.length ps.length,.int .i64 (cAll ps ps.length:Int)]) ?_ rfl ⟨w2.heap.size,gs,rfl,?_,by omega,?_⟩
   ·simp [results,Tryz.results13,go_sem,r1]
   ·refine HD.later ?_
    iterate 2 (refine Keeps.setCell ?_ (by show w.heap.size+1<w2.heap.size;exact hgl) _)
    exact Keeps.refl _ _
   ·iterate 2 (refine Below.setCell ?_ (by show w.heap.size≤w.heap.size+1;omega) _)
    exact BR
set_option maxRecDepth 100000 in
set_option maxHeartbeats 1000000 in
theorem implPrepare_no (ao:Option Addr) (cap:Nat) (ps:List Pd) (w:World) (hfi:Fine ps) (hF:Forms w) (hv:ProtosAt 0 w ao ps) (hc:¬(checkF ps).1=0) :
  Calls Tryz.prog 13 #[.agg #[.slice ao ps.length cap]] w fun e w'=>e=.returned (.agg #[.slice none 0 0,.int .i64 0])∧Below w.heap.size w w':=by
 have C0:=(Blk.new w #[.slice ao ps.length cap] 31).alloc (.cells #[.slice none 0 0,.int .i64 0] 38)
 have R0:=Blk.newIn (W:=w.alloc (.cells #[.slice ao ps.length cap] 31)) (n:=w.heap.size+1) #[.slice none 0 0,.int .i64 0] 38 (by simp)
 have B0:Below w.heap.size w ((w.alloc (.cells #[.slice ao ps.length cap] 31)).alloc (.cells #[.slice none 0 0,.int .i64 0] 38)):=((Below.refl _ _).alloc (Nat.le_refl _) _).alloc (by simp) _
 obtain⟨⟨f0,f1,f2⟩,hf⟩:∃f,f=checkF ps:=⟨_,rfl⟩
 have g0:(f0 != 0)=true:=by rw [←hf] at hc;simpa using hc
 have HCK:Hid (∀W,Below w.heap.size w W→Calls Tryz.prog 9 #[.agg #[.slice ao ps.length cap]] W fun e w'=>e=.returned (.agg #[.int .i64 f0,.int .i64 f1,.int .i64 f2])∧Below W.heap.size W w'):=fun W hb=>by
  have:=implCheckCode_any ao cap ps W hfi (hF.later hb) (hv.later (Keeps.of_below hb));rw [←hf] at this;exact this
 have hfd:=field_fault f0 f1 f2
 clear hf hc hF hv hfi
 go_enter Tryz.func13,Tryz.ntmps13
 have c0:=C0.cell
 go_wp2_with fail
 refine (HCK.out _ B0).mono ?_
 rintro e w1 ⟨rfl,hw1⟩
 have B1:=B0.trans (hw1.mono B0.size)
 have R1:=R0.later hw1
 clear hw1 B0 C0 R0 c0 HCK
 have r1:=R1.cell
 have rf1:=R1.frozen
 go_wp2_with fail
 refine bodyPost_ret (v:=.agg #[.slice none 0 0,.int .i64 0]) ?_ rfl ⟨rfl,?_⟩
 ·simp [results,Tryz.results13,go_sem,r1]
 ·iterate 2 (refine Below.setCell ?_ (by show w.heap.size≤w.heap.size+1;omega) _)
  exact B1
set_option maxRecDepth 100000 in
set_option maxHeartbeats 1000000 in
theorem specPrepare_no (ao:Option Addr) (cap:Nat) (ps:List Pd) (w:World) (hfi:Fine ps) (hv:ProtosAt 0 w ao ps) (hc:¬(checkF ps).1=0) :
  Calls Tryz.prog 12 #[.agg #[.slice ao ps.length cap]] w fun e w'=>e=.returned (.agg #[.slice none 0 0,.int .i64 0])∧Below w.heap.size w w':=by
 have C0:=(Blk.new w #[.slice ao ps.length cap] 31).alloc (.cells #[.slice none 0 0,.int .i64 0] 38)
 have R0:=Blk.newIn (W:=w.alloc (.cells #[.slice ao ps.length cap] 31)) (n:=w.heap.size+1) #[.slice none 0 0,.int .i64 0] 38 (by simp)
 have B0:Below w.heap.size w ((w.alloc (.cells #[.slice ao ps.length cap] 31)).alloc (.cells #[.slice none 0 0,.int .i64 0] 38)):=((Below.refl _ _).alloc (Nat.le_refl _) _).alloc (by simp) _
 obtain⟨⟨f0,f1,f2⟩,hf⟩:∃f,f=checkF ps:=⟨_,rfl⟩
 have g0:(f0 != 0)=true:=by rw [←hf] at hc;simpa using hc
 have HCK:Hid (∀W,Below w.heap.size w W→Calls Tryz.prog 7 #[.agg #[.slice ao ps.length cap]] W fun e w'=>e=.returned (.agg #[.int .i64 f0,.int .i64 f1,.int .i64 f2])∧Below W.heap.size W w'):=fun W hb=>by
  have:=specCheckCode_any ao cap ps W hfi (hv.later (Keeps.of_below hb));rw [←hf] at this;exact this
 clear hf hc hv hfi
 go_enter Tryz.func12,Tryz.ntmps12
 have c0:=C0.cell
 go_wp2_with fail
 refine (HCK.out _ B0).mono ?_
 rintro e w1 ⟨rfl,hw1⟩
 have B1:=B0.trans (hw1.mono B0.size)
 have R1:=R0.later hw1
 clear hw1 B0 C0 R0 c0 HCK
 have r1:=fun o=>(R1.alloc o).cell
 have rf1:=fun o=>(R1.alloc o).frozen
 go_wp2_with fail
 refine bodyPost_ret (v:=.agg #[.slice none 0 0,.int .i64 0]) ?_ rfl ⟨rfl,?_⟩
 ·simp [results,Tryz.results12,go_sem,r1]
 ·iterate 2 (refine Below.setCell ?_ (by show w.heap.size≤w.heap.size+1;omega) _)
  exact B1.alloc B1.size _
set_option maxRecDepth 100000 in
set_option maxHeartbeats 1000000 in
theorem specPrepare_any (ao:Option Addr) (cap:Nat) (ps:List Pd) (w:World) (hfi:Fine ps) (hv:ProtosAt 0 w ao ps) (hc:(checkF ps).1=0) :
  Calls Tryz.prog 12 #[.agg #[.slice ao ps.length cap]] w fun e w'=>∃ao' cap',e=.returned (.agg #[.slice ao' ps.length cap',.int .i64 (cAll ps ps.length:Int)])∧QpsAt w.heap.size w' ao' (qAll ps)∧Below w.heap.size w w':=by
 have hl:ps.length≤1048576:=by have:=hfi.bulk;unfold bulkPs at this;omega
 have C0:=(Blk.new w #[.slice ao ps.length cap] 31).alloc (.cells #[.slice none 0 0,.int .i64 0] 38)
 have R0:=Blk.newIn (W:=w.alloc (.cells #[.slice ao ps.length cap] 31)) (n:=w.heap.size+1) #[.slice none 0 0,.int .i64 0] 38 (by simp)
 have B0:Below w.heap.size w ((w.alloc (.cells #[.slice ao ps.length cap] 31)).alloc (.cells #[.slice none 0 0,.int .i64 0] 38)):=((Below.refl _ _).alloc (Nat.le_refl _) _).alloc (by simp) _
 obtain⟨⟨f0,f1,f2⟩,hf⟩:∃f,f=checkF ps:=⟨_,rfl⟩
 obtain rfl:f0=0:=by rw [←hf] at hc;exact hc
 have HCK:Hid (∀W,Below w.heap.size w W→Calls Tryz.prog 7 #[.agg #[.slice ao ps.length cap]] W fun e w'=>e=.returned (.agg #[.int .i64 0,.int .i64 f1,.int .i64 f2])∧Below W.heap.size W w'):=fun W hb=>by
  have:=specCheckCode_any ao cap ps W hfi (hv.later (Keeps.of_below hb));rw [←hf] at this;exact this
 have HPR:Hid (∀W,Below w.heap.size w W→Calls Tryz.prog 27 #[.agg #[.slice ao ps.length cap]] W fun e w'=>∃ao' cap',e=.returned (.agg #[.slice ao' ps.length cap',.int .i64 (cAll ps ps.length:Int)])∧QpsAt W.heap.size w' ao' (qAll ps)∧Below W.heap.size W w'):=fun W hb=>
  l6prepare_any ao cap ps W hl (fun p hp=>(hfi.few p hp).ins) (shape_q hc) (hv.later (Keeps.of_below hb))
 clear hf hc hv hfi
 go_enter Tryz.func12,Tryz.ntmps12
 have c0:=C0.cell
 go_wp2_with fail
 refine (HCK.out _ B0).mono ?_
 rintro e w1 ⟨rfl,hw1⟩
 have B1:=B0.trans (hw1.mono B0.size)
 have C1:=C0.later hw1
 have R1:=R0.later hw1
 clear hw1 B0 C0 R0 c0 HCK
 have c1:=fun o=>(C1.alloc o).cell
 go_wp2_with fail
 refine (HPR.out _ (B1.alloc B1.size _)).mono ?_
 rintro e w2 ⟨ao',cap',rfl,Q2,hw2⟩
 have B1a:=B1.alloc B1.size (.cells #[.int .i64 0,.int .i64 f1,.int .i64 f2] 27)
 have B2:=B1a.trans (hw2.mono B1a.size)
 have R2:=(R1.alloc _).later hw2
 have hr:=R1.lt
 clear hw2 c1
 have r2:=R2.cell
 have rf2:=R2.frozen
 go_wp2_with fail
 refine bodyPost_ret (v:=.agg #[.slice ao' ps.length cap',.int .i64 (cAll ps ps.length:Int)]) ?_ rfl ⟨ao',cap',rfl,?_,?_⟩
 ·simp [results,Tryz.results12,go_sem,r2]
 ·refine QpsAt.lower (lo:=w1.heap.size) (QpsAt.later (QpsAt.lower Q2 (by simp)) ?_) (by have:=B1.size;omega)
  iterate 2 (refine Keeps.setCell ?_ (by show w.heap.size+1<w1.heap.size;exact hr) _)
  exact Keeps.refl _ _
 ·iterate 2 (refine Below.setCell ?_ (by show w.heap.size≤w.heap.size+1;omega) _)
  exact B2
def QAns (lo hi:Nat) (w:World) (ao:Option Addr) (qss:List (List Qd)):Prop:=
 (ao=none∧qss=[])∨∃g gs,ao=some ⟨g,0,none⟩∧QOwn w g gs qss∧lo≤g∧∀j,j<qss.length→gs j<hi
theorem QpsAt.nil (lo:Nat) (w:World) (ao:Option Addr):QpsAt lo w ao []:=fun i x h=>by simp at h
theorem QAns.at {lo hi:Nat} {w:World} {ao:Option Addr} {qss:List (List Qd)} (h:QAns lo hi w ao qss):QpsAt lo w ao qss:=by
 rcases h with ⟨_,rfl⟩ | ⟨g,gs,rfl,h1,h2,_⟩
 ·exact QpsAt.nil _ _ _
 ·exact h1.at h2
theorem QAns.later {lo hi:Nat} {w w':World} {ao:Option Addr} {qss:List (List Qd)} (h:QAns lo hi w ao qss) (hk:Keeps lo w w'):QAns lo hi w' ao qss:=by
 rcases h with h | ⟨g,gs,rfl,h1,h2,h3⟩
 ·exact .inl h
 ·exact .inr ⟨g,gs,rfl,h1.later (hk.mono h2),h2,h3⟩
noncomputable def qOf (ps:List Pd):List (List Qd):=if (checkF ps).1=0 then qAll ps else []
noncomputable def cOf (ps:List Pd):Int:=if (checkF ps).1=0 then (cAll ps ps.length:Int) else 0
theorem qOf_len {ps:List Pd} (h:ps.length≤1048576):(qOf ps).length≤1048576:=by
 unfold qOf
 split
 ·rw [qAll_len];exact h
 ·exact Nat.zero_le _
theorem qOf_each {ps:List Pd} (h:∀p ∈ ps,p.ins.length≤1048576):∀qs ∈ qOf ps,qs.length≤1048576:=by
 intro qs hq
 unfold qOf at hq
 split at hq
 ·obtain⟨j,hj⟩:=List.getElem?_of_mem hq
  have hl:j<ps.length:=by have:=(List.getElem?_eq_some_iff.1 hj).1;rwa [qAll_len] at this
  obtain⟨p,hp⟩:=some_of_lt hl
  obtain rfl:=Option.some.inj (hj.symm.trans (qAll_at hp))
  rw [qIns_len]
  exact h p (List.mem_of_getElem? hp)
 ·cases hq
theorem specPrep (ao:Option Addr) (cap:Nat) (ps:List Pd) (w:World) (hfi:Fine ps) (hv:ProtosAt 0 w ao ps) :
  Calls Tryz.prog 12 #[.agg #[.slice ao ps.length cap]] w fun e w'=>∃ao' cap',e=.returned (.agg #[.slice ao' (qOf ps).length cap',.int .i64 (cOf ps)])∧QpsAt 0 w' ao' (qOf ps)∧Below w.heap.size w w':=by
 by_cases hc:(checkF ps).1=0
 ·rw [qOf,if_pos hc,cOf,if_pos hc,qAll_len]
  exact (specPrepare_any ao cap ps w hfi hv hc).mono fun e w' ⟨a,c,h1,h2,h3⟩=>⟨a,c,h1,h2.lower (Nat.zero_le _),h3⟩
 ·rw [qOf,if_neg hc,cOf,if_neg hc]
  exact (specPrepare_no ao cap ps w hfi hv hc).mono fun e w' ⟨h1,h2⟩=>⟨none,0,h1,QpsAt.nil _ _ _,h2⟩
theorem implPrep (g cap:Nat) (ps:List Pd) (w:World) (hfi:Fine ps) (hF:Forms w) (hv:ProtosAt 0 w (some ⟨g,0,none⟩) ps) (hcap:CapP w g ps ps.length) :
  Calls Tryz.prog 13 #[.agg #[.slice (some ⟨g,0,none⟩) ps.length cap]] w fun e w'=>∃ao' cap',e=.returned (.agg #[.slice ao' (qOf ps).length cap',.int .i64 (cOf ps)])∧QAns w.heap.size w'.heap.size w' ao' (qOf ps)∧Below w.heap.size w w':=by
 by_cases hc:(checkF ps).1=0
 ·rw [qOf,if_pos hc,cOf,if_pos hc,qAll_len]
  refine (implPrepare_any g cap ps w hfi hF hv hcap hc).mono fun e w' ⟨a,gs,h1,h2,h3,h4⟩=>⟨some ⟨a,0,none⟩,ps.length,h1,.inr ⟨a,gs,rfl,h2,h3,fun j hj=>?_⟩,h4⟩
  obtain⟨qs,hq⟩:=some_of_lt hj
  exact (h2.row j qs hq).1.lt
 ·rw [qOf,if_neg hc,cOf,if_neg hc]
  exact (implPrepare_no _ cap ps w hfi hF hv hc).mono fun e w' ⟨h1,h2⟩=>⟨none,0,h1,.inl ⟨rfl,rfl⟩,h2⟩
theorem fineOf {ps:List Pd} (hb:bulkPs ps≤1048576) (hg:∀p ∈ ps,PdIn p):Fine ps:=by
 refine⟨hb,fun p hp=>?_,fun p hp=>(hg p hp).flts,fun p hp=>(hg p hp).nds⟩
 have h1:bulkP p≤sumL bulkP ps:=sumL_mem hp
 unfold bulkPs at hb
 generalize sumL bulkP ps=S at *
 unfold bulkP bulkVs bulkMs at h1
 exact⟨by omega,by omega,by omega,by omega⟩
theorem QpsAt.zero {lo:Nat} {w:World} {ao:Option Addr} {xs:List (List Qd)} (h:QpsAt lo w ao xs):QpsAt 0 w ao xs:=h.lower (Nat.zero_le _)
attribute [local go_sem] run_conv1
def decB (n:Int):ByteArray:=⟨(Lib.itoa n).toArray⟩
theorem dec_step {m:Nat} {l:List UInt8} (h:¬m<10):Lib.decDigits (m / 10) ++ (UInt8.ofNat (48+m % 10)::l)=Lib.decDigits m ++ l:=by
 conv=>rhs;rw [Lib.decDigits,dif_neg h]
 simp
theorem dec_last {m:Nat} {l:List UInt8} (h:m<10):UInt8.ofNat (48+m % 10)::l=Lib.decDigits m ++ l:=by
 rw [Lib.decDigits,dif_pos h,Nat.mod_eq_of_lt h]
 rfl
theorem ret_str {a b:ByteArray} (h:a=b):Ending.returned (.string a)=.returned (.string b):=by rw [h]
theorem bytes_ext {a b:ByteArray} (h:a.data.toList=b.data.toList):a=b:=by
 cases a;cases b
 simp only [ByteArray.mk.injEq]
 exact Array.toList_inj.1 h
theorem str_one (m:Nat):(strOfNums [48+(m:Int) % 10]).data.toList=[UInt8.ofNat (48+m % 10)]:=by
 have:(48+(m:Int) % 10).toNat=48+m % 10:=by omega
 show [UInt8.ofNat (48+(m:Int) % 10).toNat]=_
 rw [this]
theorem str_cons (x:Int) (s:ByteArray) (c:UInt8) (h:(strOfNums [x]).data.toList=[c]):(strOfNums [x] ++ s).data.toList=c::s.data.toList:=by
 rw [ByteArray.data_append,Array.toList_append,h]
 rfl
set_option maxRecDepth 100000 in
set_option maxHeartbeats 800000 in
theorem l1decimal_nat (n:Nat) (w:World) (hn:n≤9223372036854775807) :
  Calls Tryz.prog 34 #[.int .i64 n] w fun e w'=>e=.returned (.string ⟨(Lib.decDigits n).toArray⟩)∧Below w.heap.size w w':=by
 have h0:((n:Int) == -9223372036854775808)=false:=by simp
 have h1:¬(n:Int)<0:=by omega
 go_enter Tryz.func34,Tryz.ntmps34
 go_wp2_with fail
 go_loopw [0,3] (fun x y wr=>∃(m:Nat) (s:ByteArray),m≤9223372036854775807∧s.size*2+m≤9223372036854775807∧x=.int .i64 m∧y=.string s∧Hid (Lib.decDigits m ++ s.data.toList=Lib.decDigits n)∧Below w.heap.size w wr) (fun x _ _=>(intOf x).toNat)
 case atStart=>exact ⟨n,_,hn,by show 0*2+n≤_;omega,rfl,rfl,by show _=_;simp,Below.refl _ _⟩
 case round=>
  obtain⟨m,s,hm,hs,rfl,rfl,HD,hb⟩:=hrel
  have hs1:∀x:Int,(strOfNums [x]).size=1:=size_strOfNums
  have hsz:s.size≤4611686018427387904:=by omega
  by_cases hlt:m<10
  ·have g:((m:Int) / 10 == 0)=true:=by simp;omega
   have HR:Hid ((strOfNums [48+(m:Int) % 10] ++ s)=⟨(Lib.decDigits n).toArray⟩):=by
    have h2:=str_cons (48+(m:Int) % 10) s (UInt8.ofNat (48+m % 10)) (str_one m)
    rw [dec_last hlt,HD.out] at h2
    exact bytes_ext (by rw [h2])
   clear hlt HD
   go_wp2_with fail
   go_ret
   exact⟨ret_str HR.out,hb.alloc hb.size _⟩
  ·have g:((m:Int) / 10 == 0)=false:=by simp;omega
   have HR:Hid (Lib.decDigits (m / 10) ++ (strOfNums [48+(m:Int) % 10] ++ s).data.toList=Lib.decDigits n):=by
    show _=_
    rw [str_cons (48+(m:Int) % 10) s (UInt8.ofNat (48+m % 10)) (str_one m),dec_step hlt]
    exact HD.out
   clear HD
   go_wp2_with fail
   go_roundw
   case rel=>exact ⟨m / 10,_,by omega,by rw [ByteArray.size_append,hs1];omega,by go_num,rfl,HR.out,hb.alloc hb.size _⟩
   case measure=>simp [intOf];omega
set_option maxRecDepth 100000 in
set_option maxHeartbeats 800000 in
theorem l1decimal_any (n:Int) (w:World) (h0 : -9223372036854775808≤n) (h1:n≤9223372036854775807) :
  Calls Tryz.prog 34 #[.int .i64 n] w fun e w'=>e=.returned (.string (decB n))∧Below w.heap.size w w':=by
 by_cases hp:0≤n
 ·obtain⟨k,rfl⟩:∃k:Nat,n=k:=⟨n.toNat,by omega⟩
  have:=l1decimal_nat k w (by omega)
  unfold decB
  rw [Lib.itoa_nonneg]
  exact this
 ·by_cases hm:n = -9223372036854775808
  ·subst hm
   have HR:Hid ((⟨#[45,57,50,50,51,51,55,50,48,51,54,56,53,52,55,55,53,56,48,56]⟩:ByteArray)=decB (-9223372036854775808)):=by
    show _=_
    unfold decB
    rw [show ((-9223372036854775808:Int)) = -((9223372036854775808:Nat):Int) from rfl,Lib.itoa_neg _ (by omega)]
    simp [Lib.decDigits]
   go_enter Tryz.func34,Tryz.ntmps34
   go_wp2_with fail
   go_ret
   exact⟨ret_str HR.out,Below.refl _ _⟩
  ·obtain⟨k,hk,rfl⟩:∃k:Nat,1≤k∧n = -(k:Int):=⟨(-n).toNat,by omega,by omega⟩
   have g0:(-(k:Int) == -9223372036854775808)=false:=by simpa using hm
   have hk2:(k:Int)≤9223372036854775807:=by omega
   have hw64:wrap64 (k:Int)=k:=by unfold wrap64;omega
   have g1 : -(k:Int)<0:=by omega
   have HC:Hid (∀_:Unit,_):=fun _=>l1decimal_nat k w (by omega)
   have HR:Hid ((⟨#[45]⟩:ByteArray) ++ ⟨(Lib.decDigits k).toArray⟩=decB (-(k:Int))):=by
    unfold decB
    rw [Lib.itoa_neg _ hk]
    exact bytes_ext (by rw [ByteArray.data_append,Array.toList_append];rfl)
   have hl:(Lib.decDigits k).length≤21:=by
    have:=Lib.itoa_length_le (k:Int) (by omega) (by omega)
    rwa [Lib.itoa_nonneg] at this
   clear hm hp
   go_enter Tryz.func34,Tryz.ntmps34
   go_wp2_with fail
   refine (HC.out ()).mono ?_
   rintro e w1 ⟨rfl,hw1⟩
   have hs:(⟨(Lib.decDigits k).toArray⟩:ByteArray).size≤21:=by
    show (Lib.decDigits k).toArray.size≤21
    simpa using hl
   go_wp2_with fail
   go_ret
   exact⟨ret_str HR.out,hw1⟩
end Go.Proofs.YtaakadmnhpboiaaGreatDoor
namespace Go.Proofs.YtaakadmnhpboiaaGreatDoor
open Go.RowKit Go.Deep
def nameTab:List (List UInt8):=[[],[108,105,110,101],[97,116],[116,105,99,107],[99,111,110,115,116],[109,111,118,101],[98,111,120],[103,101,116],[112,117,116],[117,112,103,101,116],[117,112,112,117,116],[102,110],[116,97,98,108,101],[114,97,119],[114,97,119,97,108,108],[105,110,100,101,120],[115,101,116],[117,110,97,114,121],[98,105,110,97,114,121],[106,117,109,112],[105,102],[117,110,108,101,115,115],[108,105,115,116],[97,100,100],[106,111,105,110],[102,105,114,115,116],[112,105,99,107],[99,111,112,121],[99,97,108,108],[114,101,116,117,114,110],[116,104,114,111,119],[116,114,121],[101,110,100,116,114,121],[115,99,111,112,101],[107,101,101,112],[100,101,102,101,114],[108,101,97,118,101],[102,111,114],[102,111,114,116,101,115,116],[102,111,114,110,101,120,116],[101,97,99,104],[101,97,99,104,110,101,120,116],[100,114,111,112],[113,116,101,115,116],[113,119,105,116,104],[113,102,105,101,108,100],[113,100,114,111,112,115]]
def nameB (op:Nat):ByteArray:=⟨(nameTab.getD op []).toArray⟩
def nameArr:Array Value:=#[.string ⟨#[]⟩,.string ⟨#[108,105,110,101]⟩,.string ⟨#[97,116]⟩,.string ⟨#[116,105,99,107]⟩,.string ⟨#[99,111,110,115,116]⟩,.string ⟨#[109,111,118,101]⟩,.string ⟨#[98,111,120]⟩,.string ⟨#[103,101,116]⟩,.string ⟨#[112,117,116]⟩,.string ⟨#[117,112,103,101,116]⟩,.string ⟨#[117,112,112,117,116]⟩,.string ⟨#[102,110]⟩,.string ⟨#[116,97,98,108,101]⟩,.string ⟨#[114,97,119]⟩,.string ⟨#[114,97,119,97,108,108]⟩,.string ⟨#[105,110,100,101,120]⟩,.string ⟨#[115,101,116]⟩,.string ⟨#[117,110,97,114,121]⟩,.string ⟨#[98,105,110,97,114,121]⟩,.string ⟨#[106,117,109,112]⟩,.string ⟨#[105,102]⟩,.string ⟨#[117,110,108,101,115,115]⟩,.string ⟨#[108,105,115,116]⟩,.string ⟨#[97,100,100]⟩,.string ⟨#[106,111,105,110]⟩,.string ⟨#[102,105,114,115,116]⟩,.string ⟨#[112,105,99,107]⟩,.string ⟨#[99,111,112,121]⟩,.string ⟨#[99,97,108,108]⟩,.string ⟨#[114,101,116,117,114,110]⟩,.string ⟨#[116,104,114,111,119]⟩,.string ⟨#[116,114,121]⟩,.string ⟨#[101,110,100,116,114,121]⟩,.string ⟨#[115,99,111,112,101]⟩,.string ⟨#[107,101,101,112]⟩,.string ⟨#[100,101,102,101,114]⟩,.string ⟨#[108,101,97,118,101]⟩,.string ⟨#[102,111,114]⟩,.string ⟨#[102,111,114,116,101,115,116]⟩,.string ⟨#[102,111,114,110,101,120,116]⟩,.string ⟨#[101,97,99,104]⟩,.string ⟨#[101,97,99,104,110,101,120,116]⟩,.string ⟨#[100,114,111,112]⟩,.string ⟨#[113,116,101,115,116]⟩,.string ⟨#[113,119,105,116,104]⟩,.string ⟨#[113,102,105,101,108,100]⟩,.string ⟨#[113,100,114,111,112,115]⟩]
set_option maxRecDepth 100000 in
theorem nameArr_at:∀op:Fin 47,nameArr[op.val]?=some (.string (nameB op.val)):=by
 intro ⟨op,h⟩
 show nameArr[op]?=_
 match op,h with
 | 0,_=>rfl
 | 1,_=>rfl
 | 2,_=>rfl
 | 3,_=>rfl
 | 4,_=>rfl
 | 5,_=>rfl
 | 6,_=>rfl
 | 7,_=>rfl
 | 8,_=>rfl
 | 9,_=>rfl
 | 10,_=>rfl
 | 11,_=>rfl
 | 12,_=>rfl
 | 13,_=>rfl
 | 14,_=>rfl
 | 15,_=>rfl
 | 16,_=>rfl
 | 17,_=>rfl
 | 18,_=>rfl
 | 19,_=>rfl
 | 20,_=>rfl
 | 21,_=>rfl
 | 22,_=>rfl
 | 23,_=>rfl
 | 24,_=>rfl
 | 25,_=>rfl
 | 26,_=>rfl
 | 27,_=>rfl
 | 28,_=>rfl
 | 29,_=>rfl
 | 30,_=>rfl
 | 31,_=>rfl
 | 32,_=>rfl
 | 33,_=>rfl
 | 34,_=>rfl
 | 35,_=>rfl
 | 36,_=>rfl
 | 37,_=>rfl
 | 38,_=>rfl
 | 39,_=>rfl
 | 40,_=>rfl
 | 41,_=>rfl
 | 42,_=>rfl
 | 43,_=>rfl
 | 44,_=>rfl
 | 45,_=>rfl
 | 46,_=>rfl
 | n+47,h=>omega
set_option maxRecDepth 100000 in
set_option maxHeartbeats 800000 in
theorem l6name_any (op:Nat) (w:World) (h:op<47) :
  Calls Tryz.prog 35 #[.int .i64 op] w fun e w'=>e=.returned (.string (nameB op))∧Below w.heap.size w w':=by
 have hc:(w.alloc (.cells #[.string ⟨#[]⟩,.string ⟨#[108,105,110,101]⟩,.string ⟨#[97,116]⟩,.string ⟨#[116,105,99,107]⟩,.string ⟨#[99,111,110,115,116]⟩,.string ⟨#[109,111,118,101]⟩,.string ⟨#[98,111,120]⟩,.string ⟨#[103,101,116]⟩,.string ⟨#[112,117,116]⟩,.string ⟨#[117,112,103,101,116]⟩,.string ⟨#[117,112,112,117,116]⟩,.string ⟨#[102,110]⟩,.string ⟨#[116,97,98,108,101]⟩,.string ⟨#[114,97,119]⟩,.string ⟨#[114,97,119,97,108,108]⟩,.string ⟨#[105,110,100,101,120]⟩,.string ⟨#[115,101,116]⟩,.string ⟨#[117,110,97,114,121]⟩,.string ⟨#[98,105,110,97,114,121]⟩,.string ⟨#[106,117,109,112]⟩,.string ⟨#[105,102]⟩,.string ⟨#[117,110,108,101,115,115]⟩,.string ⟨#[108,105,115,116]⟩,.string ⟨#[97,100,100]⟩,.string ⟨#[106,111,105,110]⟩,.string ⟨#[102,105,114,115,116]⟩,.string ⟨#[112,105,99,107]⟩,.string ⟨#[99,111,112,121]⟩,.string ⟨#[99,97,108,108]⟩,.string ⟨#[114,101,116,117,114,110]⟩,.string ⟨#[116,104,114,111,119]⟩,.string ⟨#[116,114,121]⟩,.string ⟨#[101,110,100,116,114,121]⟩,.string ⟨#[115,99,111,112,101]⟩,.string ⟨#[107,101,101,112]⟩,.string ⟨#[100,101,102,101,114]⟩,.string ⟨#[108,101,97,118,101]⟩,.string ⟨#[102,111,114]⟩,.string ⟨#[102,111,114,116,101,115,116]⟩,.string ⟨#[102,111,114,110,101,120,116]⟩,.string ⟨#[101,97,99,104]⟩,.string ⟨#[101,97,99,104,110,101,120,116]⟩,.string ⟨#[100,114,111,112]⟩,.string ⟨#[113,116,101,115,116]⟩,.string ⟨#[113,119,105,116,104]⟩,.string ⟨#[113,102,105,101,108,100]⟩,.string ⟨#[113,100,114,111,112,115]⟩] 9)).cell? ⟨w.heap.size,op,none⟩=some (.string (nameB op)):=((Blk.new w nameArr 9).cell op).trans (nameArr_at ⟨op,h⟩)
 have k0:(op:Int)<47:=by omega
 generalize nameB op=R at *
 go_enter Tryz.func35,Tryz.ntmps35
 go_wp2_with fail
 go_ret
 exact⟨rfl,(Below.refl _ _).alloc (Nat.le_refl _) _⟩
def fieldsL:List Int→List UInt8
 | []=>[]
 | x::r=>32::(Lib.itoa x ++ fieldsL r)
def Qd.six (q:Qd):List Int:=[q.a,q.b,q.c,q.d,q.e,q.f]
def headL (p i:Nat) (q:Qd):List UInt8:=Lib.itoa (p:Int) ++ [58] ++ Lib.itoa (i:Int) ++ [32] ++ nameTab.getD q.op.toNat []
def lineL (p i:Nat) (q:Qd):List UInt8:=headL p i q ++ fieldsL q.six ++ [10]
def linesL (p:Nat) (qs:List Qd):Nat→List UInt8
 | 0=>[]
 | i+1=>linesL p qs i ++ (match qs[i]? with | some q=>lineL p i q | none=>[])
def listL (qss:List (List Qd)):Nat→List UInt8
 | 0=>[]
 | p+1=>listL qss p ++ (match qss[p]? with | some qs=>linesL p qs qs.length | none=>[])
theorem linesL_step {p i:Nat} {qs:List Qd} {q:Qd} (h:qs[i]?=some q):linesL p qs (i+1)=linesL p qs i ++ lineL p i q:=by simp [linesL,h]
theorem listL_step {p:Nat} {qss:List (List Qd)} {qs:List Qd} (h:qss[p]?=some qs):listL qss (p+1)=listL qss p ++ linesL p qs qs.length:=by simp [listL,h]
theorem fieldsL_append (a b:List Int):fieldsL (a ++ b)=fieldsL a ++ fieldsL b:=by
 induction a with
 | nil=>rfl
 | cons x r h=>simp [fieldsL,h]
structure QW (q:Qd):Prop where
 op:0≤q.op∧q.op<47
 six:∀x ∈ q.six,I64 x
theorem itoa_few {x:Int} (h:I64 x):(Lib.itoa x).length≤21:=Lib.itoa_length_le x h.1 h.2
theorem name_few:∀k:Nat,(nameTab.getD k []).length≤8:=by
 intro k
 by_cases h:k<47
 ·have:∀j:Fin 47,(nameTab.getD j.val []).length≤8:=by decide
  exact this ⟨k,h⟩
 ·rw [List.getD_eq_getElem?_getD,List.getElem?_eq_none (by have:nameTab.length=47:=rfl;omega)]
  simp
theorem fieldsL_few {l:List Int} (h:∀x ∈ l,I64 x):(fieldsL l).length≤l.length*22:=by
 induction l with
 | nil=>simp [fieldsL]
 | cons x r ih=>
  have h1:=itoa_few (h x (by simp))
  have h2:=ih (fun y hy=>h y (by simp [hy]))
  simp [fieldsL]
  omega
theorem headL_few {p i:Nat} {q:Qd} (hp:p≤1048576) (hi:i≤1048576):(headL p i q).length≤52:=by
 have h1:=itoa_few (x:=(p:Int)) ⟨by omega,by omega⟩
 have h2:=itoa_few (x:=(i:Int)) ⟨by omega,by omega⟩
 have h3:=name_few q.op.toNat
 simp [headL] at *
 omega
theorem lineL_few {p i:Nat} {q:Qd} (hp:p≤1048576) (hi:i≤1048576) (hq:QW q):(lineL p i q).length≤185:=by
 have h1:=headL_few (q:=q) hp hi
 have h2:=fieldsL_few hq.six
 have h3:q.six.length=6:=rfl
 simp [lineL] at *
 omega
theorem linesL_few {p:Nat} {qs:List Qd} (hp:p≤1048576) (hl:qs.length≤1048576) (hq:∀q ∈ qs,QW q):∀i,i≤qs.length→(linesL p qs i).length≤i*185
 | 0,_=>by simp [linesL]
 | i+1,h=>by
  have h1:=linesL_few hp hl hq i (by omega)
  obtain⟨q,hqi⟩:=some_of_lt (show i<qs.length by omega)
  rw [linesL_step hqi,List.length_append]
  have h2:=lineL_few (p:=p) (i:=i) hp (by omega) (hq q (List.mem_of_getElem? hqi))
  omega
def lnN (qss:List (List Qd)):Nat→Nat
 | 0=>0
 | p+1=>lnN qss p+(qss.getD p []).length
theorem listL_few {qss:List (List Qd)} (hm:qss.length≤1048576) (hl:∀qs ∈ qss,qs.length≤1048576) (hq:∀qs ∈ qss,∀q ∈ qs,QW q):∀p,p≤qss.length→(listL qss p).length≤lnN qss p*185
 | 0,_=>by simp [listL]
 | p+1,h=>by
  have h1:=listL_few hm hl hq p (by omega)
  obtain⟨qs,hqs⟩:=some_of_lt (show p<qss.length by omega)
  have hmem:=List.mem_of_getElem? hqs
  rw [listL_step hqs,List.length_append]
  have h2:=linesL_few (p:=p) (by omega) (hl qs hmem) (hq qs hmem) qs.length (Nat.le_refl _)
  have h3:lnN qss (p+1)=lnN qss p+qs.length:=by simp [lnN,hqs]
  rw [h3,Nat.add_mul]
  omega
theorem i64_nat {x:Nat} (h:x≤9223372036854775807):I64 (x:Int):=⟨by omega,by omega⟩
theorem i64_zero:I64 0:=⟨by omega,by omega⟩
theorem i64_one:I64 1:=⟨by omega,by omega⟩
theorem qw_six {o a b c d e f:Int} (h0:0≤o∧o<47) (ha:I64 a) (hb:I64 b) (hc:I64 c) (hd:I64 d) (he:I64 e) (hf:I64 f):QW ⟨o,a,b,c,d,e,f⟩:=by
 refine⟨h0,fun x hx=>?_⟩
 simp [Qd.six] at hx
 rcases hx with rfl | rfl | rfl | rfl | rfl | rfl <;> assumption
theorem quickOne_w {cs:List Vd} {c:Nat} {n:Nd} {r:List Nd} (hc:c≤9223372036854775807) (hl:(n::r).length≤1048576) (h0:1≤n.op∧n.op≤42) (hw:∀z ∈ n::r,NdW z):QW (quickOne cs c (n::r)):=by
 have hn:=hw n (by simp)
 by_cases hk:1<dropsF n.a 0 (n::r)
 ·have hd:=dropsF_le n.a 0 (n::r)
  simp only [quickOne,if_pos hk]
  exact qw_six (by omega) hn.a (i64_nat (by omega)) i64_zero i64_zero i64_zero i64_zero
 ·simp only [quickOne,if_neg hk]
  clear hk
  match r with
  | []=>exact qw_six (by show 0≤n.op∧n.op<47;omega) hn.a hn.b hn.c hn.d i64_zero i64_zero
  | x::r=>
   have hx:=hw x (by simp)
   simp only [twoL]
   cases ht:twoF cs c n x with
   | none=>exact qw_six (by show 0≤n.op∧n.op<47;omega) hn.a hn.b hn.c hn.d i64_zero i64_zero
   | some q=>
    unfold twoF at ht
    repeat' split at ht
    all_goals cases ht
    all_goals first
     | exact qw_six (by omega) hn.a hn.b hn.c hn.d hx.b i64_one
     | exact qw_six (by omega) hn.a hn.b hn.c hn.d hx.b i64_zero
     | exact qw_six (by omega) hx.a hx.b hx.d hn.b i64_one hn.a
     | exact qw_six (by omega) hx.a hx.b hx.c hn.b i64_zero hn.a
     | exact qw_six (by omega) hx.a hx.b hn.b (i64_nat hc) i64_zero hn.a
theorem qOf_w {ps:List Pd} (hf:Fine ps):∀qs ∈ qOf ps,∀q ∈ qs,QW q:=by
 intro qs hqs q hq
 unfold qOf at hqs
 split at hqs
 ·rename_i hc
  have hl:ps.length≤1048576:=by have:=hf.bulk;unfold bulkPs at this;omega
  obtain⟨j,hj⟩:=List.getElem?_of_mem hqs
  have hjl:j<ps.length:=by have:=(List.getElem?_eq_some_iff.1 hj).1;rwa [qAll_len] at this
  obtain⟨p,hp⟩:=some_of_lt hjl
  obtain rfl:=Option.some.inj (hj.symm.trans (qAll_at hp))
  obtain⟨i,hi⟩:=List.getElem?_of_mem hq
  have hil:i<p.ins.length:=by have:=(List.getElem?_eq_some_iff.1 hi).1;rwa [qIns_len] at this
  obtain⟨n,hn⟩:=some_of_lt hil
  obtain rfl:=Option.some.inj (hi.symm.trans (qIns_at hil))
  rw [drop_some hn]
  have hm:=List.mem_of_getElem? hp
  have hg:=qgood_of hf hc hm hn
  have hsh:=shape_q hc p hm n (List.mem_of_getElem? hn)
  exact quickOne_w (Nat.le_trans (cIns_few hf (cs:=p.consts) (is:=p.ins) hl hjl hil (hf.few p hm).ins) (by omega)) hg.few ⟨hsh.lo,hsh.hi⟩ hg.w
 ·cases hqs
theorem lnN_succ {qss:List (List Qd)} {p:Nat} {qs:List Qd} (h:qss[p]?=some qs):lnN qss (p+1)=lnN qss p+qs.length:=by simp [lnN,h]
theorem lnN_mono {qss:List (List Qd)} {p q:Nat} (h:p≤q):lnN qss p≤lnN qss q:=by
 induction h with
 | refl=>exact Nat.le_refl _
 | step _ ih=>exact Nat.le_trans ih (Nat.le_add_right _ _)
theorem sumL_take {α:Type} (f:α→Nat):∀(l:List α) (k:Nat) (x:α),l[k]?=some x→sumL f (l.take (k+1))=sumL f (l.take k)+f x
 | [],k,x,h=>by simp at h
 | y::r,0,x,h=>by simp at h;subst h;simp [sumL]
 | y::r,k+1,x,h=>by
  have:=sumL_take f r k x (by simpa using h)
  simp only [List.take_succ_cons,sumL] at *
  omega
theorem sumL_take_le {α:Type} (f:α→Nat):∀(l:List α) (k:Nat),sumL f (l.take k)≤sumL f l
 | [],k=>by simp
 | y::r,0=>by simp [sumL]
 | y::r,k+1=>by
  have:=sumL_take_le f r k
  simp only [List.take_succ_cons,sumL]
  omega
theorem lnN_all {ps:List Pd} : ∀k,k≤ps.length→lnN (qAll ps) k=sumL (fun p=>p.ins.length) (ps.take k)
 | 0,_=>by simp [lnN,sumL]
 | k+1,h=>by
  obtain⟨p,hp⟩:=some_of_lt (show k<ps.length by omega)
  rw [lnN_succ (qAll_at hp),qIns_len,lnN_all k (by omega),sumL_take _ _ _ _ hp]
theorem sumL_le {α:Type} {f g:α→Nat} (h:∀x,f x≤g x):∀l:List α,sumL f l≤sumL g l
 | []=>Nat.le_refl _
 | x::r=>by
  have:=sumL_le h r
  have:=h x
  simp only [sumL]
  omega
theorem lnN_few {ps:List Pd} (hf:Fine ps) (k:Nat) (hk:k≤(qOf ps).length):lnN (qOf ps) k≤1048576:=by
 unfold qOf at *
 split
 ·rename_i hc
  rw [if_pos hc,qAll_len] at hk
  rw [lnN_all k hk]
  have h1:=sumL_take_le (fun (p:Pd)=>p.ins.length) ps k
  have h2:=sumL_le (f:=fun (p:Pd)=>p.ins.length) (g:=bulkP) (fun p=>by unfold bulkP;omega) ps
  have h3:=hf.bulk
  unfold bulkPs at h3
  omega
 ·rename_i hc
  rw [if_neg hc] at hk
  have hk0:k=0:=by simpa using hk
  subst hk0
  simp [lnN]
theorem Tryz.info_u8:(Tryz.prog.info? 5).map (fun i=>(i.zero,i.size,i.bytes))=some (some (.int .u8 0),1,1):=by kernel_rfl
section
variable {w : World} {ops : Array Oper} {rest : List Oper} {o : Oper} {a : Act} {Q : Exit → Act → World → Prop}
theorem app_str (hgd:o.guard=none) (s x:Operand) (ho:o.op=.call {callee:=.builtin .append,args:=#[s,x],argTypes:=#[69,9]})
  (base:Nat) (v:Value) (l:List UInt8) (st:ByteArray) (l':List UInt8) (hl':l'=l ++ st.data.toList) (hs:a.eval s=v) (hown:w.ownsRow base 5 1 v l.length (Lib.byteCells l)) (hx:a.eval x=.string st) (hn:l.length+st.size≤70368744177664) (hbase:base≤w.heap.size)
  (h:∀v' w',w'.ownsRow base 5 1 v' l'.length (Lib.byteCells l')→w.grownBy w' v.ownBlock→wpList Tryz.prog ops Q rest (a.put o.dst v') w'):wpList Tryz.prog ops Q (o::rest) a w:=by
 obtain⟨i0,hi,hz0,hz1,hz2⟩:=info_parts Tryz.info_u8
 refine Lib.wpList_append_own_string w hgd s x 69 9 ho base 5 i0 Tryz.underlying69 Tryz.underlying9 hi hz0 hz1 hz2 v l.length (Lib.byteCells l) hs hown st hx (by unfold maxLen;omega) (by omega) hbase ?_
 intro v' w' h1 h2 _
 refine h v' w' ?_ h2
 rw [hl',Lib.byteCells_append,List.length_append]
 exact h1
theorem app_b (hgd:o.guard=none) (s x:Operand) (ho:o.op=.call {callee:=.builtin .append,args:=#[s,x],argTypes:=#[69,69]})
  (base:Nat) (v:Value) (l:List UInt8) (B:Nat) (l':List UInt8) (hl':l'=l ++ [10]) (hs:a.eval s=v) (hown:w.ownsRow base 5 1 v l.length (Lib.byteCells l)) (hx:a.eval x=.slice (some ⟨B,0,none⟩) 1 1) (hB:Blk w B #[.int .u8 10] 5) (hn:l.length≤70368744177664) (hbase:base≤w.heap.size)
  (h:∀v' w',w'.ownsRow base 5 1 v' l'.length (Lib.byteCells l')→w.grownBy w' v.ownBlock→wpList Tryz.prog ops Q rest (a.put o.dst v') w'):wpList Tryz.prog ops Q (o::rest) a w:=by
 obtain⟨i0,hi,hz0,hz1,hz2⟩:=info_parts Tryz.info_u8
 refine wpList_append_own_at w hgd s x 69 ho base 5 i0 (.int .u8 0) 1 1 Tryz.underlying69 hi hz0 hz1 hz2 rfl (by decide) v l.length (Lib.byteCells l) hs hown ⟨B,0,none⟩ 1 1 [.int .u8 10] hx rfl ?_ ?_ (by unfold maxLen;omega) (by omega) hbase ?_
 ·intro j q hj
  match j,hj with
  | 0,hj=>simp at hj;subst hj;simpa [Addr.add] using hB.cell 0
 ·intro q hq;simp at hq;subst hq;rfl
 ·intro v' w' h1 h2 _ _
  refine h v' w' ?_ h2
  rw [hl',Lib.byteCells_append,List.length_append]
  exact h1
theorem app_by (hgd:o.guard=none) (s x:Operand) (ho:o.op=.call {callee:=.builtin .append,args:=#[s,x],argTypes:=#[69,69]})
  (base:Nat) (v:Value) (l:List UInt8) (x0:UInt8) (B:Nat) (l':List UInt8) (hl':l'=l ++ [x0]) (hs:a.eval s=v) (hown:w.ownsRow base 5 1 v l.length (Lib.byteCells l)) (hx:a.eval x=.slice (some ⟨B,0,none⟩) 1 1) (hB:Blk w B #[.int .u8 (x0.toNat:Int)] 5) (hn:l.length≤70368744177664) (hbase:base≤w.heap.size)
  (h:∀v' w',w'.ownsRow base 5 1 v' l'.length (Lib.byteCells l')→w.grownBy w' v.ownBlock→wpList Tryz.prog ops Q rest (a.put o.dst v') w'):wpList Tryz.prog ops Q (o::rest) a w:=by
 obtain⟨i0,hi,hz0,hz1,hz2⟩:=info_parts Tryz.info_u8
 refine wpList_append_own_at w hgd s x 69 ho base 5 i0 (.int .u8 0) 1 1 Tryz.underlying69 hi hz0 hz1 hz2 rfl (by decide) v l.length (Lib.byteCells l) hs hown ⟨B,0,none⟩ 1 1 [.int .u8 (x0.toNat:Int)] hx rfl ?_ ?_ (by unfold maxLen;omega) (by omega) hbase ?_
 ·intro j q hj
  match j,hj with
  | 0,hj=>simp at hj;subst hj;simpa [Addr.add] using hB.cell 0
 ·intro q hq;simp at hq;subst hq;rfl
 ·intro v' w' h1 h2 _ _
  refine h v' w' ?_ h2
  rw [hl',Lib.byteCells_append,List.length_append]
  exact h1
end
end Go.Proofs.YtaakadmnhpboiaaGreatDoor
