import Derived.Test.YtaakadmnhpboiaaGreatDoorM04
import Derived.Test.YtaakadmnhpboiaaGreatDoorN05
import Derived.Test.YtaakadmnhpboiaaGreatDoorM44
import Derived.Deep.RegionHeld3
import Derived.Test.YtaakadmnhpboiaaGreatDoorM46
import Derived.Test.YtaakadmnhpboiaaGreatDoorN03
import Derived.Test.YtaakadmnhpboiaaGreatDoorN01
namespace Go.Proofs.YtaakadmnhpboiaaGreatDoor
open Go.RowKit Go.Deep
def CapP (w:World) (g:Nat) (ps:List Pd) (k:Nat):Prop:=∀j p,j<k→ps[j]?=some p→∃ao,w.cell? ⟨g,j*9+7,none⟩=some (.slice ao p.ins.length p.ins.length)
theorem CapP.later {w w':World} {g:Nat} {ps:List Pd} {k:Nat} (h:CapP w g ps k) (hb:Below w.heap.size w w') (hg:g<w.heap.size):CapP w' g ps k:=by
 intro j p hj hp
 obtain⟨ao,h1⟩:=h j p hj hp
 exact⟨ao,(hb.cell (p:=⟨g,j*9+7,none⟩) hg).trans h1⟩
theorem CapP.keeps {w w':World} {g:Nat} {ps:List Pd} {k:Nat} (h:CapP w g ps k) (hg:g<w.heap.size) (hk:Keeps g w w'):CapP w' g ps k:=by
 intro j p hj hp
 obtain⟨ao,h1⟩:=h j p hj hp
 exact⟨ao,(hk.cell (Nat.le_refl _) hg).trans h1⟩
theorem CapP.step {w:World} {g n k:Nat} {t:TypeId} {ps:List Pd} {p:Pd} {x:Ph} (h:CapP w g ps k) (own:Own w g t n) (hn:k*9+9≤n) (hp:ps[k]?=some p) (hx:x.ic=p.ins.length) :
  CapP (w.setCells g (k*9) (nine p x)) g ps (k+1):=by
 intro j y hj hy
 by_cases e:j=k
 ·subst e
  obtain rfl:p=y:=Option.some.inj (hp.symm.trans hy)
  have c:=World.cell?_setCells_in g (nine p x) (j*9) w (fun i hi=>by
   have hi9:i<9:=hi
   obtain⟨u,hu⟩:=own.cell (i:=j*9+i) (by omega)
   rw [hu];rfl)
  refine⟨x.io,(c 7 (by simp [nine])).trans ?_⟩
  simp [nine,hx]
 ·obtain⟨ao,h1⟩:=h j y (by omega) hy
  refine⟨ao,(World.cell?_setCells_out g (nine p x) (k*9) w _ (fun _ _=>Or.inl (by show j*9+7<k*9;omega))).trans h1⟩
set_option maxHeartbeats 2000000 in
theorem toProto_cap (p:Pd) (h:Ph) (w:World) (hz:PFew p) (hp:PIn 0 w h p) :
  Calls Tryz.prog 54 #[.agg (p.cells h)] w fun e w'=>∃h',e=.returned (.agg (p.cells h'))∧h'.ic=p.ins.length∧POwn w.heap.size w' h' p∧Below w.heap.size w w':=by
 obtain⟨z1,z2,z3,z4⟩:=hz
 obtain⟨i1,i2,i3,i4⟩:=hp
 obtain⟨nm,ln,pa,re,rg,us,cs,is,ms⟩:=p
 obtain⟨uo,uc,co,cc,io,ic,no,nc⟩:=h
 dsimp only [Pd.cells] at *
 have hb3:∀o1 o2 o3,Below w.heap.size w (((w.alloc o1).alloc o2).alloc o3):=fun o1 o2 o3=>(((Below.refl _ _).alloc (Nat.le_refl _) o1).alloc (by simp) o2).alloc (by simp;omega) o3
 have X0:Blk (((w.alloc (.cells #[.string nm,.int .i64 ln,.int .i64 pa,.bool re,.int .i64 rg,.slice uo us.length uc,.slice co cs.length cc,.slice io is.length ic,.slice no ms.length nc] 90)).alloc (.cells #[.string ⟨#[]⟩,.int .i64 0,.int .i64 0,.bool false,.int .i64 0,.slice none 0 0,.slice none 0 0,.slice none 0 0,.slice none 0 0] 57)).alloc (.cells #[.string nm,.int .i64 ln,.int .i64 pa,.bool re,.int .i64 rg,.slice none 0 0,.slice none 0 0,.slice none 0 0,.slice none 0 0] 57)) w.heap.size #[.string nm,.int .i64 ln,.int .i64 pa,.bool re,.int .i64 rg,.slice uo us.length uc,.slice co cs.length cc,.slice io is.length ic,.slice no ms.length nc] 90:=((Blk.new _ _ _).alloc _).alloc _
 have Y0:Blk (((w.alloc (.cells #[.string nm,.int .i64 ln,.int .i64 pa,.bool re,.int .i64 rg,.slice uo us.length uc,.slice co cs.length cc,.slice io is.length ic,.slice no ms.length nc] 90)).alloc (.cells #[.string ⟨#[]⟩,.int .i64 0,.int .i64 0,.bool false,.int .i64 0,.slice none 0 0,.slice none 0 0,.slice none 0 0,.slice none 0 0] 57)).alloc (.cells #[.string nm,.int .i64 ln,.int .i64 pa,.bool re,.int .i64 rg,.slice none 0 0,.slice none 0 0,.slice none 0 0,.slice none 0 0] 57)) (w.heap.size+1) #[.string ⟨#[]⟩,.int .i64 0,.int .i64 0,.bool false,.int .i64 0,.slice none 0 0,.slice none 0 0,.slice none 0 0,.slice none 0 0] 57:=by have:=(Blk.new (w.alloc (.cells #[.string nm,.int .i64 ln,.int .i64 pa,.bool re,.int .i64 rg,.slice uo us.length uc,.slice co cs.length cc,.slice io is.length ic,.slice no ms.length nc] 90)) #[.string ⟨#[]⟩,.int .i64 0,.int .i64 0,.bool false,.int .i64 0,.slice none 0 0,.slice none 0 0,.slice none 0 0,.slice none 0 0] 57).alloc (.cells #[.string nm,.int .i64 ln,.int .i64 pa,.bool re,.int .i64 rg,.slice none 0 0,.slice none 0 0,.slice none 0 0,.slice none 0 0] 57);simpa using this
 have Z0:Blk (((w.alloc (.cells #[.string nm,.int .i64 ln,.int .i64 pa,.bool re,.int .i64 rg,.slice uo us.length uc,.slice co cs.length cc,.slice io is.length ic,.slice no ms.length nc] 90)).alloc (.cells #[.string ⟨#[]⟩,.int .i64 0,.int .i64 0,.bool false,.int .i64 0,.slice none 0 0,.slice none 0 0,.slice none 0 0,.slice none 0 0] 57)).alloc (.cells #[.string nm,.int .i64 ln,.int .i64 pa,.bool re,.int .i64 rg,.slice none 0 0,.slice none 0 0,.slice none 0 0,.slice none 0 0] 57)) (w.heap.size+1+1) #[.string nm,.int .i64 ln,.int .i64 pa,.bool re,.int .i64 rg,.slice none 0 0,.slice none 0 0,.slice none 0 0,.slice none 0 0] 57:=by have:=Blk.new ((w.alloc (.cells #[.string nm,.int .i64 ln,.int .i64 pa,.bool re,.int .i64 rg,.slice uo us.length uc,.slice co cs.length cc,.slice io is.length ic,.slice no ms.length nc] 90)).alloc (.cells #[.string ⟨#[]⟩,.int .i64 0,.int .i64 0,.bool false,.int .i64 0,.slice none 0 0,.slice none 0 0,.slice none 0 0,.slice none 0 0] 57)) #[.string nm,.int .i64 ln,.int .i64 pa,.bool re,.int .i64 rg,.slice none 0 0,.slice none 0 0,.slice none 0 0,.slice none 0 0] 57;simpa using this
 go_enter Tryz.func54,Tryz.ntmps54
 go_wp2_with fail
 refine (toUpS_ex uo uc us _ z1 (i1.later (Keeps.of_below (hb3 _ _ _))) (w.heap.size+1+1+1) (by simp)).mono ?_
 rintro e w1 ⟨g1,rfl,q1,hw1⟩
 have B1:=(hb3 _ _ _).trans (hw1.mono (by simp;omega))
 have s1:w.heap.size+1+1+1≤w1.heap.size:=by have:=hw1.size;simpa using this
 have X1:=X0.later hw1
 have Y1:=Y0.later hw1
 have Z1:=Z0.later hw1
 clear hw1 X0 Y0 Z0
 have x1:=X1.cell
 have y1:=Z1.cell
 have f1:=Z1.frozen
 go_wp2_with fail
 clear x1 y1 f1
 have D1:=B1.setCell (p:=⟨w.heap.size+1+1,5,none⟩) (by show w.heap.size≤w.heap.size+1+1;omega) (.slice (some ⟨g1,0,none⟩) us.length us.length)
 have K1:=(Keeps.refl (w.heap.size+1+1+1) w1).setCell (p:=⟨w.heap.size+1+1,5,none⟩) (by show w.heap.size+1+1<_;omega) (.slice (some ⟨g1,0,none⟩) us.length us.length)
 have U1:=X1.setOther (p:=⟨w.heap.size+1+1,5,none⟩) (by show w.heap.size≠w.heap.size+1+1;omega) (.slice (some ⟨g1,0,none⟩) us.length us.length)
 have V1:=Y1.setOther (p:=⟨w.heap.size+1+1,5,none⟩) (by show w.heap.size+1≠w.heap.size+1+1;omega) (.slice (some ⟨g1,0,none⟩) us.length us.length)
 have W1:=Z1.set 5 (.slice (some ⟨g1,0,none⟩) us.length us.length)
 have t1:w.heap.size+1+1+1≤(w1.setCell ⟨w.heap.size+1+1,5,none⟩ (.slice (some ⟨g1,0,none⟩) us.length us.length)).heap.size:=by rw [size_set];exact s1
 refine (toValueS_ex co cc cs _ z2 (i2.later (Keeps.of_below D1)) (w.heap.size+1+1+1) t1).mono ?_
 rintro e w2 ⟨g2,rfl,q2,hw2⟩
 have B2:=D1.trans (hw2.mono D1.size)
 have s2:w.heap.size+1+1+1≤w2.heap.size:=Nat.le_trans t1 hw2.size
 have X2:=U1.later hw2
 have Y2:=V1.later hw2
 have Z2:Blk w2 (w.heap.size+1+1) #[.string nm,.int .i64 ln,.int .i64 pa,.bool re,.int .i64 rg,.slice (some ⟨g1,0,none⟩) us.length us.length,.slice none 0 0,.slice none 0 0,.slice none 0 0] 57:=by simpa using W1.later hw2
 replace q1:=And.intro (q1.1.later (K1.trans (Keeps.of_below hw2))) (q1.2.later (K1.trans (Keeps.of_below hw2)))
 clear hw2 X1 Y1 Z1 U1 V1 W1 D1 K1 B1
 have x2:=X2.cell
 have y2:=Z2.cell
 have f2:=Z2.frozen
 go_wp2_with fail
 clear x2 y2 f2
 have D2:=B2.setCell (p:=⟨w.heap.size+1+1,6,none⟩) (by show w.heap.size≤w.heap.size+1+1;omega) (.slice (some ⟨g2,0,none⟩) cs.length cs.length)
 have K2:=(Keeps.refl (w.heap.size+1+1+1) w2).setCell (p:=⟨w.heap.size+1+1,6,none⟩) (by show w.heap.size+1+1<_;omega) (.slice (some ⟨g2,0,none⟩) cs.length cs.length)
 have U2:=X2.setOther (p:=⟨w.heap.size+1+1,6,none⟩) (by show w.heap.size≠w.heap.size+1+1;omega) (.slice (some ⟨g2,0,none⟩) cs.length cs.length)
 have V2:=Y2.setOther (p:=⟨w.heap.size+1+1,6,none⟩) (by show w.heap.size+1≠w.heap.size+1+1;omega) (.slice (some ⟨g2,0,none⟩) cs.length cs.length)
 have W2:=Z2.set 6 (.slice (some ⟨g2,0,none⟩) cs.length cs.length)
 have t2:w.heap.size+1+1+1≤(w2.setCell ⟨w.heap.size+1+1,6,none⟩ (.slice (some ⟨g2,0,none⟩) cs.length cs.length)).heap.size:=by rw [size_set];exact s2
 refine (toInsS_ex io ic is _ z3 (i3.later (Keeps.of_below D2)) (w.heap.size+1+1+1) t2).mono ?_
 rintro e w3 ⟨g3,rfl,q3,hw3⟩
 have B3:=D2.trans (hw3.mono D2.size)
 have s3:w.heap.size+1+1+1≤w3.heap.size:=Nat.le_trans t2 hw3.size
 have X3:=U2.later hw3
 have Y3:=V2.later hw3
 have Z3:Blk w3 (w.heap.size+1+1) #[.string nm,.int .i64 ln,.int .i64 pa,.bool re,.int .i64 rg,.slice (some ⟨g1,0,none⟩) us.length us.length,.slice (some ⟨g2,0,none⟩) cs.length cs.length,.slice none 0 0,.slice none 0 0] 57:=by simpa using W2.later hw3
 replace q1:=And.intro (q1.1.later (K2.trans (Keeps.of_below hw3))) (q1.2.later (K2.trans (Keeps.of_below hw3)))
 replace q2:=And.intro (q2.1.later (K2.trans (Keeps.of_below hw3))) (q2.2.later (K2.trans (Keeps.of_below hw3)))
 clear hw3 X2 Y2 Z2 U2 V2 W2 D2 K2 B2
 have x3:=X3.cell
 have y3:=Z3.cell
 have f3:=Z3.frozen
 go_wp2_with fail
 clear x3 y3 f3
 have D3:=B3.setCell (p:=⟨w.heap.size+1+1,7,none⟩) (by show w.heap.size≤w.heap.size+1+1;omega) (.slice (some ⟨g3,0,none⟩) is.length is.length)
 have K3:=(Keeps.refl (w.heap.size+1+1+1) w3).setCell (p:=⟨w.heap.size+1+1,7,none⟩) (by show w.heap.size+1+1<_;omega) (.slice (some ⟨g3,0,none⟩) is.length is.length)
 have U3:=X3.setOther (p:=⟨w.heap.size+1+1,7,none⟩) (by show w.heap.size≠w.heap.size+1+1;omega) (.slice (some ⟨g3,0,none⟩) is.length is.length)
 have V3:=Y3.setOther (p:=⟨w.heap.size+1+1,7,none⟩) (by show w.heap.size+1≠w.heap.size+1+1;omega) (.slice (some ⟨g3,0,none⟩) is.length is.length)
 have W3:=Z3.set 7 (.slice (some ⟨g3,0,none⟩) is.length is.length)
 have t3:w.heap.size+1+1+1≤(w3.setCell ⟨w.heap.size+1+1,7,none⟩ (.slice (some ⟨g3,0,none⟩) is.length is.length)).heap.size:=by rw [size_set];exact s3
 refine (toNamedS_ex no nc ms _ z4 (i4.later (Keeps.of_below D3)) (w.heap.size+1+1+1) t3).mono ?_
 rintro e w4 ⟨g4,rfl,q4,hw4⟩
 have B4:=D3.trans (hw4.mono D3.size)
 have s4:w.heap.size+1+1+1≤w4.heap.size:=Nat.le_trans t3 hw4.size
 have X4:=U3.later hw4
 have Y4:=V3.later hw4
 have Z4:Blk w4 (w.heap.size+1+1) #[.string nm,.int .i64 ln,.int .i64 pa,.bool re,.int .i64 rg,.slice (some ⟨g1,0,none⟩) us.length us.length,.slice (some ⟨g2,0,none⟩) cs.length cs.length,.slice (some ⟨g3,0,none⟩) is.length is.length,.slice none 0 0] 57:=by simpa using W3.later hw4
 replace q1:=And.intro (q1.1.later (K3.trans (Keeps.of_below hw4))) (q1.2.later (K3.trans (Keeps.of_below hw4)))
 replace q2:=And.intro (q2.1.later (K3.trans (Keeps.of_below hw4))) (q2.2.later (K3.trans (Keeps.of_below hw4)))
 replace q3:=And.intro (q3.1.later (K3.trans (Keeps.of_below hw4))) (q3.2.later (K3.trans (Keeps.of_below hw4)))
 clear hw4 X3 Y3 Z3 U3 V3 W3 D3 K3 B3
 have x4:=X4.cell
 have y4:=Z4.cell
 have f4:=Z4.frozen
 have y5:=Y4.cell
 have f5:=Y4.frozen
 go_wp2_with fail
 refine bodyPost_ret (v:=.agg #[.string nm,.int .i64 ln,.int .i64 pa,.bool re,.int .i64 rg,.slice (some ⟨g1,0,none⟩) us.length us.length,.slice (some ⟨g2,0,none⟩) cs.length cs.length,.slice (some ⟨g3,0,none⟩) is.length is.length,.slice (some ⟨g4,0,none⟩) ms.length ms.length]) ?_ rfl ⟨⟨some ⟨g1,0,none⟩,us.length,some ⟨g2,0,none⟩,cs.length,some ⟨g3,0,none⟩,is.length,some ⟨g4,0,none⟩,ms.length⟩,rfl,rfl,?_,?_⟩
 ·simp [results,Tryz.results54,go_sem,y5]
 ·refine POwn.lower (lo:=w.heap.size+1+1+1) (POwn.later (w:=w4) ⟨⟨q1.1,q2.1,q3.1,q4.1⟩,⟨q1.2,q2.2,q3.2,q4.2⟩⟩ ?_) (by omega)
  iterate 10 (refine Keeps.setCell ?_ (by simp;try omega) _)
  exact Keeps.refl _ w4
 ·iterate 10 (refine Below.setCell ?_ (by simp;try omega) _)
  exact B4
set_option maxHeartbeats 1000000 in
theorem toProtoS_cap (ao:Option Addr) (cap:Nat) (ps:List Pd) (w:World) (hm:ps.length≤1048576) (hz:∀p ∈ ps,PFew p) (hu:ProtosAt 0 w ao ps) :
  Calls Tryz.prog 23 #[.slice ao ps.length cap] w fun e w'=>e=.returned (.slice (some ⟨w.heap.size,0,none⟩) ps.length ps.length)∧ProtosOwn w' w.heap.size ps∧CapP w' w.heap.size ps ps.length∧Below w.heap.size w w':=by
 have hmk:=run_make_k (P:=Tryz.prog) 29 57 _ 9 144 Tryz.underlying29 Tryz.info_Proto .i64 .i64 ps.length (by omega) (by omega)
 go_enter Tryz.func23,Tryz.ntmps23
 go_wp2_with fail
 clear hmk
 go_loopw [4] (fun i wr=>∃k:Nat,k≤ps.length∧i=.int .i64 k∧Own wr w.heap.size 57 (ps.length*9)∧LaidP wr w.heap.size ps k∧CapP wr w.heap.size ps k∧Below w.heap.size w wr) (fun i _=>ps.length - (intOf i).toNat)
 case atStart=>exact ⟨0,Nat.zero_le _,rfl,Own.made _ _ _ _,fun j _ hj=>absurd hj (Nat.not_lt_zero _),fun j _ hj=>absurd hj (Nat.not_lt_zero _),(Below.refl _ _).alloc (Nat.le_refl _) _⟩
 case round=>
  obtain⟨k,hk,rfl,hown,hdone,hcap,hb⟩:=hrel
  by_cases hlt:k<ps.length
  ·obtain⟨p,huk⟩:=some_of_lt hlt
   obtain⟨b,off,rfl,_,hbl,x,⟨p0,p1,p2,p3,p4,p5,p6,p7,p8⟩,hin⟩:=hu.later (Keeps.of_below hb) k p huk
   have hf:=hz p (List.mem_of_getElem? huk)
   clear hu hz
   go_wp2_with fail
   refine (toProto_cap p x _ hf hin).mono ?_
   rintro e w1 ⟨y,rfl,hyc,hy,hw1⟩
   have own1:=hown.later hw1
   have done1:=hdone.later hw1 hown.lt
   have B1:=hb.trans (hw1.mono hb.size)
   have R1:=own1.sets (nine p y) (k*9)
   have R2:=done1.step own1 (by omega) huk (hy.lower hown.lt)
   have R4:=(hcap.later hw1 hown.lt).step own1 (by omega) huk hyc
   have R3:=Below.sets (nine p y) (k*9) B1 (Nat.le_refl _)
   have hn:k*9+9≤ps.length*9:=by omega
   obtain⟨v0,c0⟩:=own1.cell (i:=k*9) (by omega)
   obtain⟨v1,c1⟩:=own1.cell (i:=k*9+1) (by omega)
   obtain⟨v2,c2⟩:=own1.cell (i:=k*9+2) (by omega)
   obtain⟨v3,c3⟩:=own1.cell (i:=k*9+3) (by omega)
   obtain⟨v4,c4⟩:=own1.cell (i:=k*9+4) (by omega)
   obtain⟨v5,c5⟩:=own1.cell (i:=k*9+5) (by omega)
   obtain⟨v6,c6⟩:=own1.cell (i:=k*9+6) (by omega)
   obtain⟨v7,c7⟩:=own1.cell (i:=k*9+7) (by omega)
   obtain⟨v8,c8⟩:=own1.cell (i:=k*9+8) (by omega)
   have f0:=own1.frozen
   clear hown hdone hcap hb own1 done1 B1 hw1 p0 p1 p2 p3 p4 p5 p6 p7 p8 hin hy hyc
   unfold Pd.cells
   go_wp2_with fail
   go_roundw
   case rel=>exact ⟨k+1,by omega,by go_num,R1,R2,R4,R3⟩
   case measure=>simp [intOf];omega
  ·go_wp2_with fail
   go_ret
   obtain rfl:k=ps.length:=by omega
   exact⟨rfl,⟨hown,hdone⟩,hcap,hb⟩
set_option maxHeartbeats 400000 in
theorem toCode_cap (ao:Option Addr) (cap:Nat) (ps:List Pd) (w:World) (hm:ps.length≤1048576) (hz:∀p ∈ ps,PFew p) (hu:ProtosAt 0 w ao ps) :
  Calls Tryz.prog 8 #[.agg #[.slice ao ps.length cap]] w fun e w'=>∃g,e=.returned (.agg #[.slice (some ⟨g,0,none⟩) ps.length ps.length])∧w.heap.size≤g∧ProtosOwn w' g ps∧CapP w' g ps ps.length∧Below w.heap.size w w':=by
 have hb3:∀o1 o2 o3,Below w.heap.size w (((w.alloc o1).alloc o2).alloc o3):=fun o1 o2 o3=>(((Below.refl _ _).alloc (Nat.le_refl _) o1).alloc (by simp) o2).alloc (by simp;omega) o3
 go_enter Tryz.func8,Tryz.ntmps8
 go_wp2_with fail
 refine (toProtoS_cap ao cap ps _ hm hz (hu.later (Keeps.of_below (hb3 _ _ _)))).mono ?_
 rintro e w1 ⟨rfl,q1,q2,hw1⟩
 obtain⟨k1,k2⟩:=bcell hw1
 have s1:w.heap.size+1+1+1≤w1.heap.size:=by have:=hw1.size;simpa using this
 have B1:=(hb3 _ _ _).trans (hw1.mono (by simp;omega))
 have q1:ProtosOwn w1 (w.heap.size+1+1+1) ps:=by simpa using q1
 have q2:CapP w1 (w.heap.size+1+1+1) ps ps.length:=by simpa using q2
 go_wp2_with fail
 refine bodyPost_ret (v:=.agg #[.slice (some ⟨w.heap.size+1+1+1,0,none⟩) ps.length ps.length]) ?_ rfl ⟨_,rfl,by omega,?_,?_,?_⟩
 ·simp [results,Tryz.results8,go_sem,k1]
 ·refine ProtosOwn.later q1 ?_
  iterate 2 (refine Keeps.setCell ?_ (by simp;try omega) _)
  exact Keeps.refl _ w1
 ·refine CapP.keeps q2 q1.1.lt ?_
  iterate 2 (refine Keeps.setCell ?_ (by simp;try omega) _)
  exact Keeps.refl _ w1
 ·iterate 2 (refine Below.setCell ?_ (by simp;try omega) _)
  exact B1
theorem Tryz.info_QInsP:(Tryz.prog.info? 60).map (fun i=>(i.zero,i.size,i.bytes))=some (some (.agg #[.int .i64 0,.int .i64 0,.int .i64 0,.int .i64 0,.int .i64 0,.int .i64 0,.int .i64 0]),7,56):=by kernel_rfl
theorem Tryz.info_QProtoP:(Tryz.prog.info? 65).map (fun i=>(i.zero,i.size,i.bytes))=some (some (.agg #[.slice none 0 0]),1,24):=by kernel_rfl
theorem field_fault (a b c:Int) (W:World):(Instr.field 27 (.agg #[.int .i64 a,.int .i64 b,.int .i64 c]) 0).run Tryz.prog W=.ok (.int .i64 a) W:=by kernel_rfl
theorem CellsAre.sets7 {W:World} {b g:Nat} {A:Array Value} (h:∀o,W.cell? ⟨b,o,none⟩=A[o]?) (hn:b≠g) (o0 o1 o2 o3 o4 o5 o6:Nat) (v0 v1 v2 v3 v4 v5 v6:Value):∀o,(((((((W.setCell ⟨g,o0,none⟩ v0).setCell ⟨g,o1,none⟩ v1).setCell ⟨g,o2,none⟩ v2).setCell ⟨g,o3,none⟩ v3).setCell ⟨g,o4,none⟩ v4).setCell ⟨g,o5,none⟩ v5).setCell ⟨g,o6,none⟩ v6).cell? ⟨b,o,none⟩=A[o]?:=
 CellsAre.set (CellsAre.set (CellsAre.set (CellsAre.set (CellsAre.set (CellsAre.set (CellsAre.set h hn _ _) hn _ _) hn _ _) hn _ _) hn _ _) hn _ _) hn _ _
theorem cIns_few {ps:List Pd} (hf:Fine ps) {cs:List Vd} {is:List Nd} {k i:Nat} (hl:ps.length≤1048576) (hk:k<ps.length) (hi:i<is.length) (hz:is.length≤1048576):cIns cs is (cAll ps k) i≤1099513724928:=by
 have h1:=cIns_le cs is (cAll ps k) i
 have h2:=cAll_le (fun p hp=>(hf.few p hp).ins) k
 omega
theorem qgood_of {ps:List Pd} (hf:Fine ps) (hc:(checkF ps).1=0) {p:Pd} (hp:p ∈ ps) {i:Nat} {n:Nd} (hi:p.ins[i]?=some n):QGood n (p.ins.drop (i+1)) p.consts:=by
 have hd:p.ins.drop i=n::p.ins.drop (i+1):=drop_some hi
 have hm:∀z ∈ n::p.ins.drop (i+1),z ∈ p.ins:=fun z hz=>List.mem_of_mem_drop (hd▸hz)
 have hq:=shape_q hc p hp
 refine⟨?_,fun z hz=>(hq z (hm z hz)).drop,(hq n (List.mem_of_getElem? hi)).cst,(hq n (List.mem_of_getElem? hi)).bin,fun z hz=>hf.nds p hp z (hm z hz)⟩
 rw [←hd]
 have:=(hf.few p hp).ins
 simp
 omega
theorem cIns_step {cs:List Vd} {ins:List Nd} {c0 i:Nat} {n:Nd} (hi:ins[i]?=some n):cIns cs ins c0 (i+1)=if (quickOne cs (cIns cs ins c0 i) (n::ins.drop (i+1))).op=45 then cIns cs ins c0 i+1 else cIns cs ins c0 i:=by
 rw [cIns,drop_some hi]
set_option maxRecDepth 100000 in
set_option maxHeartbeats 8000000 in
theorem implPrepare_any (cg cap:Nat) (ps:List Pd) (w:World) (hfi:Fine ps) (hF:Forms w) (hv:ProtosAt 0 w (some ⟨cg,0,none⟩) ps) (hcap:CapP w cg ps ps.length) (hc:(checkF ps).1=0) :
  Calls Tryz.prog 13 #[.agg #[.slice (some ⟨cg,0,none⟩) ps.length cap]] w fun e w'=>∃g gs,e=.returned (.agg #[.slice (some ⟨g,0,none⟩) ps.length ps.length,.int .i64 (cAll ps ps.length:Int)])∧QOwn w' g gs (qAll ps)∧w.heap.size≤g∧Below w.heap.size w w':=by
 have hl:ps.length≤1048576:=by have:=hfi.bulk;unfold bulkPs at this;omega
 have C0:=(Blk.new w #[.slice (some ⟨cg,0,none⟩) ps.length cap] 31).alloc (.cells #[.slice none 0 0,.int .i64 0] 38)
 have R0:=Blk.newIn (W:=w.alloc (.cells #[.slice (some ⟨cg,0,none⟩) ps.length cap] 31)) (n:=w.heap.size+1) #[.slice none 0 0,.int .i64 0] 38 (by simp)
 have B0:Below w.heap.size w ((w.alloc (.cells #[.slice (some ⟨cg,0,none⟩) ps.length cap] 31)).alloc (.cells #[.slice none 0 0,.int .i64 0] 38)):=((Below.refl _ _).alloc (Nat.le_refl _) _).alloc (by simp) _
 obtain⟨⟨f0,f1,f2⟩,hf⟩:∃f,f=checkF ps:=⟨_,rfl⟩
 obtain rfl:f0=0:=by rw [←hf] at hc;exact hc
 have HCK:Hid (∀W,Below w.heap.size w W→Calls Tryz.prog 9 #[.agg #[.slice (some ⟨cg,0,none⟩) ps.length cap]] W fun e w'=>e=.returned (.agg #[.int .i64 0,.int .i64 f1,.int .i64 f2])∧Below W.heap.size W w'):=fun W hb=>by
  have:=implCheckCode_any (some ⟨cg,0,none⟩) cap ps W hfi (hF.later hb) (hv.later (Keeps.of_below hb));rw [←hf] at this;exact this
 have HFI:Hid (Fine ps):=hfi
 have HCC:Hid ((checkF ps).1=0):=hc
 have HV:Hid (ProtosAt 0 w (some ⟨cg,0,none⟩) ps):=hv
 have HCA:Hid (CapP w cg ps ps.length):=hcap
 have hmk:=run_make_k (P:=Tryz.prog) 36 65 _ 1 24 Tryz.underlying36 Tryz.info_QProtoP .i64 .i64 ps.length (by omega) (by omega)
 clear hf hc hF hv hfi hcap
 have hfd:=field_fault 0 f1 f2
 go_enter Tryz.func13,Tryz.ntmps13
 have c0:=C0.cell
 go_wp2_with fail
 refine (HCK.out _ B0).mono ?_
 rintro e w1 ⟨rfl,hw1⟩
 have B1:=B0.trans (hw1.mono B0.size)
 have C1:=C0.later hw1
 have R1:=R0.later hw1
 clear hw1 B0 C0 R0 c0 HCK
 have c1:=C1.cell
 go_wp2_with fail
 refine (patterns_any w1).mono ?_
 rintro e w2 ⟨g0,rfl,P2,hg0,hw2⟩
 have B2:=B1.trans (hw2.mono B1.size)
 have C2:=C1.later hw2
 have R2:=R1.later hw2
 clear hw2 B1 C1 R1 c1
 have c2:=C2.cell
 have c2a:=fun o=>(C2.alloc o).cell
 have c2b:=fun o o'=>((C2.alloc o).alloc o').cell
 go_wp2_with fail
 have O0:=OutAt.start w2 ps #[.slice none 0 0]
 clear hmk
 go_loopw [23] (fun y wr=>∃(k:Nat) (gs:Nat→Nat),k≤ps.length∧y=.int .i64 k∧Hid (OutAt w2 ps wr gs k)) (fun y _=>ps.length - (intOf y).toNat)
 case atStart=>exact ⟨0,fun _=>0,Nat.zero_le _,rfl,O0⟩
 case round=>
  obtain⟨k,gs,hk,rfl,HO⟩:=hrel
  obtain⟨wo,hwo⟩:∃wo,wo=wr:=⟨_,rfl⟩
  subst hwo
  clear O0 c2 c2a c2b
  have c3:=(C2.later HO.out.b2).cell
  by_cases hlt:k<ps.length
  ·obtain⟨p,hp⟩:=some_of_lt hlt
   have HP:Hid (ps[k]?=some p):=hp
   have BR:=B2.trans (HO.out.b2.mono B2.size)
   obtain⟨b,off,e,_,hbl0,h,hnine,hpin⟩:=HV.out k p hp
   simp only [Option.some.injEq,Addr.mk.injEq,and_true] at e
   obtain⟨rfl,rfl⟩:=e
   obtain⟨n0,n1,n2,n3,n4,n5,n6,n7,n8⟩:=NineAt.later hnine BR hbl0
   simp only [Nat.zero_add] at n0 n1 n2 n3 n4 n5 n6 n7 n8
   have hic:h.ic=p.ins.length:=by
    obtain⟨ao',h1⟩:=HCA.out k p hlt hp
    have h2:=(BR.cell (p:=⟨cg,k*9+7,none⟩) hbl0).trans h1
    have h3:=Option.some.inj (n7.symm.trans h2)
    simp only [Value.slice.injEq] at h3
    exact h3.2.2
   have hil:p.ins.length≤1048576:=(HFI.out.few p (List.mem_of_getElem? hp)).ins
   have HPI:Hid (PIn 0 w h p):=hpin
   have hmk2:=run_make_k (P:=Tryz.prog) 58 60 _ 7 56 Tryz.underlying58 Tryz.info_QInsP .i64 .i64 p.ins.length (by omega) (by omega)
   have I0:=InAt.start (p:=p) HO.out (p.cells h) #[.int .i64 0,.int .i64 0,.int .i64 0,.int .i64 0,.int .i64 0,.int .i64 0,.int .i64 0]
   have HQG:Hid (∀(i:Nat) n,p.ins[i]?=some n→QGood n (p.ins.drop (i+1)) p.consts):=fun i n hi=>qgood_of HFI.out HCC.out (List.mem_of_getElem? hp) hi
   have HCS:Hid (cAll ps (k+1)=cIns p.consts p.ins (cAll ps k) p.ins.length):=cAll_step hp
   clear hp hpin hnine
   obtain⟨nm,ln,pa,re,rg,us,cs,is,ms⟩:=p
   obtain⟨uo,uc,co,cc,io,ic,no,nc⟩:=h
   dsimp only [Pd.cells] at *
   subst hic
   have hkl:(k:Int)<ps.length:=by omega
   go_wp2_with fail
   clear hmk2 n0 n1 n2 n3 n4 n5 n6 n7 n8 c3
   go_loopw [34] (fun y wi=>∃i:Nat,i≤is.length∧y=.int .i64 i∧Hid (InAt w2 wo ps #[.string nm,.int .i64 ln,.int .i64 pa,.bool re,.int .i64 rg,.slice uo us.length uc,.slice co cs.length cc,.slice io is.length is.length,.slice no ms.length nc] k ⟨nm,ln,pa,re,rg,us,cs,is,ms⟩ wi (cIns cs is (cAll ps k) i) i)) (fun y _=>is.length - (intOf y).toNat)
   case atStart=>exact ⟨0,Nat.zero_le _,rfl,I0⟩
   case round=>
    obtain⟨i,hi,rfl,HI⟩:=hrel
    clear I0
    obtain⟨wi,hwi⟩:∃wi,wi=wr:=⟨_,rfl⟩
    subst hwi
    have HL:Hid (wo.heap.size+1<wi.heap.size):=HI.out.own.lt
    by_cases hil2:i<is.length
    ·obtain⟨n,hn⟩:=some_of_lt hil2
     have BI:=InAt.b2 HO.out HI.out
     have BWI:=B2.trans (BI.mono B2.size)
     have hqg:=HQG.out i n hn
     have hpd:=drop_some hn
     have hpin:=HPI.out
     obtain⟨ib,iof,e,_,hibl,_⟩:=hpin.ins i n hn
     dsimp only at e
     subst e
     have hfew:=hqg.few
     obtain⟨q,hq⟩:∃q,q=quickOne cs (cIns cs is (cAll ps k) i) (n::is.drop (i+1)):=⟨_,rfl⟩
     have hqi:(qIns cs is (cAll ps k))[i]?=some q:=by rw [qIns_at hil2,hpd,hq]
     have HCI:Hid (cIns cs is (cAll ps k) (i+1)=if q.op=45 then cIns cs is (cAll ps k) i+1 else cIns cs is (cAll ps k) i):=by
      rw [cIns_step hn,hq];rfl
     have HQC:Hid (∀W,Below w2.heap.size w2 W→Calls Tryz.prog 29 #[.agg #[.slice (some ⟨ib,iof+i*5,none⟩) (is.length - i) (is.length - i),.slice co cs.length cc,.int .i64 ((cIns cs is (cAll ps k) i:Nat):Int)],.slice (some ⟨g0,0,none⟩) 5 5] W fun e w'=>e=.returned q.val∧Below W.heap.size W w'):=by
      intro W hb
      have:=quicken_any (some ⟨ib,iof+i*5,none⟩) co (is.length - i) cc (cIns cs is (cAll ps k) i) g0 n (is.drop (i+1)) cs W hqg (by rw [←hpd];exact AllAt.dropAt (hpin.ins.later (Keeps.of_below (B2.trans (hb.mono B2.size)))) i) (hpin.consts.later (Keeps.of_below (B2.trans (hb.mono B2.size)))) (P2.later hb)
      rw [←hq,←hpd,List.length_drop] at this
      exact this
     obtain⟨q0,q1,q2,q3,q4,q5,q6⟩:=q
     dsimp only [Qd.val] at HQC HCI
     have HPT:Hid (∀W c,InAt w2 wo ps #[.string nm,.int .i64 ln,.int .i64 pa,.bool re,.int .i64 rg,.slice uo us.length uc,.slice co cs.length cc,.slice (some ⟨ib,iof,none⟩) is.length is.length,.slice no ms.length nc] k ⟨nm,ln,pa,re,rg,us,cs,is,ms⟩ W c i→InAt w2 wo ps #[.string nm,.int .i64 ln,.int .i64 pa,.bool re,.int .i64 rg,.slice uo us.length uc,.slice co cs.length cc,.slice (some ⟨ib,iof,none⟩) is.length is.length,.slice no ms.length nc] k ⟨nm,ln,pa,re,rg,us,cs,is,ms⟩ (W.setCells (wo.heap.size+1) (i*7) (Qd.vals ⟨q0,q1,q2,q3,q4,q5,q6⟩)) c (i+1)):=fun W c h=>InAt.put (q:=⟨q0,q1,q2,q3,q4,q5,q6⟩) HO.out h hqi
     have HCT:Hid (∀W c c',InAt w2 wo ps #[.string nm,.int .i64 ln,.int .i64 pa,.bool re,.int .i64 rg,.slice uo us.length uc,.slice co cs.length cc,.slice (some ⟨ib,iof,none⟩) is.length is.length,.slice no ms.length nc] k ⟨nm,ln,pa,re,rg,us,cs,is,ms⟩ W c (i+1)→InAt w2 wo ps #[.string nm,.int .i64 ln,.int .i64 pa,.bool re,.int .i64 rg,.slice uo us.length uc,.slice co cs.length cc,.slice (some ⟨ib,iof,none⟩) is.length is.length,.slice no ms.length nc] k ⟨nm,ln,pa,re,rg,us,cs,is,ms⟩ (W.setCell ⟨w2.heap.size+1,1,none⟩ (.int .i64 ((c':Nat):Int))) c' (i+1)):=fun W c c' h=>InAt.count HO.out h c'
     have HI1:Hid (InAt w2 wo ps #[.string nm,.int .i64 ln,.int .i64 pa,.bool re,.int .i64 rg,.slice uo us.length uc,.slice co cs.length cc,.slice (some ⟨ib,iof,none⟩) is.length is.length,.slice no ms.length nc] k ⟨nm,ln,pa,re,rg,us,cs,is,ms⟩ wi.drew (cIns cs is (cAll ps k) i) i):=InAt.later HI.out (Below.refl _ _).drew
     have hcl:=cIns_few HFI.out (cs:=cs) (is:=is) hl hlt hil2 hil
     have e1:=HI1.out.pr.cell
     have e2:=HI1.out.hq.cell
     have hL:=InAt.lt HO.out
     have hn1:wo.heap.size≠wo.heap.size+1:=Nat.ne_of_lt (Nat.lt_succ_self _)
     have hn2:w2.heap.size+1≠wo.heap.size+1:=Nat.ne_of_lt (Nat.lt_succ_of_lt hL)
     have k1:(i:Int)<is.length:=Int.ofNat_lt.2 hil2
     have k2:¬is.length=i:=Nat.ne_of_gt hil2
     have k3:(i:Int)≤is.length:=Int.ofNat_le.2 hi
     have BI1:Below w2.heap.size w2 wi.drew:=BI.drew
     have HQI:Hid ((qIns cs is (cAll ps k))[i]?=some ⟨q0,q1,q2,q3,q4,q5,q6⟩):=hqi
     have hi1:i+1≤is.length:=hil2
     clear hqi hq hpd hn hqg hfew hpin hil2 HI BI
     generalize cIns cs is (cAll ps k) i=C at *
     obtain⟨C',hC'⟩:∃C',cIns cs is (cAll ps k) (i+1)=C':=⟨_,rfl⟩
     rw [hC'] at HCI
     have HCE:Hid (cIns cs is (cAll ps k) (i+1)=C'):=hC'
     clear hC'
     go_wp2_with fail
     go_region_held3 (fun W=>(∀o,W.cell? ⟨wo.heap.size,o,none⟩=(#[.string nm,.int .i64 ln,.int .i64 pa,.bool re,.int .i64 rg,.slice uo us.length uc,.slice co cs.length cc,.slice (some ⟨ib,iof,none⟩) is.length is.length,.slice no ms.length nc]:Array Value)[o]?)∧(∀o,W.cell? ⟨w2.heap.size+1,o,none⟩=(#[.slice (some ⟨w2.heap.size,0,none⟩) ps.length ps.length,.int .i64 (C:Int)]:Array Value)[o]?)) (first | with_reducible exact ⟨e1,e2⟩ | with_reducible exact ⟨d1,d2⟩ | with_reducible exact ⟨CellsAre.sets7 d1 hn1 _ _ _ _ _ _ _ _ _ _ _ _ _ _,CellsAre.sets7 d2 hn2 _ _ _ _ _ _ _ _ _ _ _ _ _ _⟩)
      (first | (go_at_call 29;refine (HQC.out _ BI1).mono ?_;rintro e w1 ⟨rfl,hw1⟩;have I1:=InAt.later HI1.out hw1;have d1:=I1.pr.cell;have d2:=I1.hq.cell;obtain ⟨v0,c0⟩:=I1.own.cell (i:=i*7) (by show i*7<is.length*7;omega);obtain ⟨v1,c1⟩:=I1.own.cell (i:=i*7+1) (by show i*7+1<is.length*7;omega);obtain ⟨v2,c2⟩:=I1.own.cell (i:=i*7+2) (by show i*7+2<is.length*7;omega);obtain ⟨v3,c3⟩:=I1.own.cell (i:=i*7+3) (by show i*7+3<is.length*7;omega);obtain ⟨v4,c4⟩:=I1.own.cell (i:=i*7+4) (by show i*7+4<is.length*7;omega);obtain ⟨v5,c5⟩:=I1.own.cell (i:=i*7+5) (by show i*7+5<is.length*7;omega);obtain ⟨v6,c6⟩:=I1.own.cell (i:=i*7+6) (by show i*7+6<is.length*7;omega);have fz:=I1.own.frozen))
     have I2:InAt w2 wo ps #[.string nm,.int .i64 ln,.int .i64 pa,.bool re,.int .i64 rg,.slice uo us.length uc,.slice co cs.length cc,.slice (some ⟨ib,iof,none⟩) is.length is.length,.slice no ms.length nc] k ⟨nm,ln,pa,re,rg,us,cs,is,ms⟩ (((((((w1.setCell ⟨wo.heap.size+1,i*7,none⟩ (.int .i64 q0)).setCell ⟨wo.heap.size+1,i*7+1,none⟩ (.int .i64 q1)).setCell ⟨wo.heap.size+1,i*7+2,none⟩ (.int .i64 q2)).setCell ⟨wo.heap.size+1,i*7+3,none⟩ (.int .i64 q3)).setCell ⟨wo.heap.size+1,i*7+4,none⟩ (.int .i64 q4)).setCell ⟨wo.heap.size+1,i*7+5,none⟩ (.int .i64 q5)).setCell ⟨wo.heap.size+1,i*7+6,none⟩ (.int .i64 q6)) C (i+1):=HPT.out w1 C I1
     have hq1:InAt w2 wo ps #[.string nm,.int .i64 ln,.int .i64 pa,.bool re,.int .i64 rg,.slice uo us.length uc,.slice co cs.length cc,.slice (some ⟨ib,iof,none⟩) is.length is.length,.slice no ms.length nc] k ⟨nm,ln,pa,re,rg,us,cs,is,ms⟩ (((((((w1.setCell ⟨wo.heap.size+1,i*7,none⟩ (.int .i64 q0)).setCell ⟨wo.heap.size+1,i*7+1,none⟩ (.int .i64 q1)).setCell ⟨wo.heap.size+1,i*7+2,none⟩ (.int .i64 q2)).setCell ⟨wo.heap.size+1,i*7+3,none⟩ (.int .i64 q3)).setCell ⟨wo.heap.size+1,i*7+4,none⟩ (.int .i64 q4)).setCell ⟨wo.heap.size+1,i*7+5,none⟩ (.int .i64 q5)).setCell ⟨wo.heap.size+1,i*7+6,none⟩ (.int .i64 q6)) C (i+1)→(((((((w1.setCell ⟨wo.heap.size+1,i*7,none⟩ (.int .i64 q0)).setCell ⟨wo.heap.size+1,i*7+1,none⟩ (.int .i64 q1)).setCell ⟨wo.heap.size+1,i*7+2,none⟩ (.int .i64 q2)).setCell ⟨wo.heap.size+1,i*7+3,none⟩ (.int .i64 q3)).setCell ⟨wo.heap.size+1,i*7+4,none⟩ (.int .i64 q4)).setCell ⟨wo.heap.size+1,i*7+5,none⟩ (.int .i64 q5)).setCell ⟨wo.heap.size+1,i*7+6,none⟩ (.int .i64 q6)).cell? ⟨wo.heap.size+1,i*7,none⟩=some (.int .i64 q0):=fun h=>h.laid i ⟨q0,q1,q2,q3,q4,q5,q6⟩ (Nat.lt_succ_self _) HQI.out 0 _ rfl
     have z0:=hq1 I2
     have z1:=I2.hq.cell
     have z2:=I2.hq.frozen
     have HI2:Hid (InAt w2 wo ps #[.string nm,.int .i64 ln,.int .i64 pa,.bool re,.int .i64 rg,.slice uo us.length uc,.slice co cs.length cc,.slice (some ⟨ib,iof,none⟩) is.length is.length,.slice no ms.length nc] k ⟨nm,ln,pa,re,rg,us,cs,is,ms⟩ (((((((w1.setCell ⟨wo.heap.size+1,i*7,none⟩ (.int .i64 q0)).setCell ⟨wo.heap.size+1,i*7+1,none⟩ (.int .i64 q1)).setCell ⟨wo.heap.size+1,i*7+2,none⟩ (.int .i64 q2)).setCell ⟨wo.heap.size+1,i*7+3,none⟩ (.int .i64 q3)).setCell ⟨wo.heap.size+1,i*7+4,none⟩ (.int .i64 q4)).setCell ⟨wo.heap.size+1,i*7+5,none⟩ (.int .i64 q5)).setCell ⟨wo.heap.size+1,i*7+6,none⟩ (.int .i64 q6)) C (i+1)):=I2
     clear hq1 I2 I1 d1 d2 c0 c1 c2 c3 c4 c5 c6 fz e1 e2 hw1
     by_cases h45:q0=45
     ·have g45:(q0 == 45)=true:=by simpa using h45
      have hcc:C'=C+1:=HCI.out.trans (if_pos h45)
      have HI3:Hid (InAt w2 wo ps #[.string nm,.int .i64 ln,.int .i64 pa,.bool re,.int .i64 rg,.slice uo us.length uc,.slice co cs.length cc,.slice (some ⟨ib,iof,none⟩) is.length is.length,.slice no ms.length nc] k ⟨nm,ln,pa,re,rg,us,cs,is,ms⟩ ((((((((w1.setCell ⟨wo.heap.size+1,i*7,none⟩ (.int .i64 q0)).setCell ⟨wo.heap.size+1,i*7+1,none⟩ (.int .i64 q1)).setCell ⟨wo.heap.size+1,i*7+2,none⟩ (.int .i64 q2)).setCell ⟨wo.heap.size+1,i*7+3,none⟩ (.int .i64 q3)).setCell ⟨wo.heap.size+1,i*7+4,none⟩ (.int .i64 q4)).setCell ⟨wo.heap.size+1,i*7+5,none⟩ (.int .i64 q5)).setCell ⟨wo.heap.size+1,i*7+6,none⟩ (.int .i64 q6)).setCell ⟨w2.heap.size+1,1,none⟩ (.int .i64 ((C:Int)+1))) C' (i+1)):=by
       have:=HCT.out (((((((w1.setCell ⟨wo.heap.size+1,i*7,none⟩ (.int .i64 q0)).setCell ⟨wo.heap.size+1,i*7+1,none⟩ (.int .i64 q1)).setCell ⟨wo.heap.size+1,i*7+2,none⟩ (.int .i64 q2)).setCell ⟨wo.heap.size+1,i*7+3,none⟩ (.int .i64 q3)).setCell ⟨wo.heap.size+1,i*7+4,none⟩ (.int .i64 q4)).setCell ⟨wo.heap.size+1,i*7+5,none⟩ (.int .i64 q5)).setCell ⟨wo.heap.size+1,i*7+6,none⟩ (.int .i64 q6)) C C' HI2.out
       rw [show ((C':Nat):Int)=(C:Int)+1 by rw [hcc];rfl] at this
       exact this
      clear hcc h45
      go_wp2_with fail
      go_roundw
      case rel=>exact ⟨i+1,hi1,by go_num,by rw [HCE.out];exact HI3.out⟩
      case measure=>simp [intOf];omega
     ·have g45:(q0 == 45)=false:=by simpa using h45
      have hcc:C'=C:=HCI.out.trans (if_neg h45)
      have HI3:Hid (InAt w2 wo ps #[.string nm,.int .i64 ln,.int .i64 pa,.bool re,.int .i64 rg,.slice uo us.length uc,.slice co cs.length cc,.slice (some ⟨ib,iof,none⟩) is.length is.length,.slice no ms.length nc] k ⟨nm,ln,pa,re,rg,us,cs,is,ms⟩ (((((((w1.setCell ⟨wo.heap.size+1,i*7,none⟩ (.int .i64 q0)).setCell ⟨wo.heap.size+1,i*7+1,none⟩ (.int .i64 q1)).setCell ⟨wo.heap.size+1,i*7+2,none⟩ (.int .i64 q2)).setCell ⟨wo.heap.size+1,i*7+3,none⟩ (.int .i64 q3)).setCell ⟨wo.heap.size+1,i*7+4,none⟩ (.int .i64 q4)).setCell ⟨wo.heap.size+1,i*7+5,none⟩ (.int .i64 q5)).setCell ⟨wo.heap.size+1,i*7+6,none⟩ (.int .i64 q6)) C' (i+1)):=hcc▸HI2.out
      clear hcc h45
      go_wp2_with fail
      go_roundw
      case rel=>exact ⟨i+1,hi1,by go_num,by rw [HCE.out];exact HI3.out⟩
      case measure=>simp [intOf];omega
    ·obtain rfl:i=is.length:=Nat.le_antisymm hi (Nat.le_of_not_lt hil2)
     have HI1:Hid (InAt w2 wo ps #[.string nm,.int .i64 ln,.int .i64 pa,.bool re,.int .i64 rg,.slice uo us.length uc,.slice co cs.length cc,.slice io is.length is.length,.slice no ms.length nc] k ⟨nm,ln,pa,re,rg,us,cs,is,ms⟩ wi (cAll ps (k+1)) is.length):=HCS.out▸HI.out
     have hG:Own wi w2.heap.size 65 ps.length:=HO.out.own.of_block (HI1.out.only.block _ (Nat.ne_of_lt (Nat.lt_succ_self _)) HO.out.own.lt)
     obtain⟨v0,c0⟩:=hG.cell (i:=k) hlt
     have f0:=hG.frozen k
     have z1:=HI1.out.hq.cell
     have HO2:Hid (OutAt w2 ps (wi.setCell ⟨w2.heap.size,k,none⟩ (.slice (some ⟨wo.heap.size+1,0,none⟩) is.length is.length)) (fun j=>if j=k then wo.heap.size+1 else gs j) (k+1)):=OutAt.more (p:=⟨nm,ln,pa,re,rg,us,cs,is,ms⟩) HO.out HP.out HI1.out
     have hk1:k+1≤ps.length:=hlt
     clear hG HI1 HI hil2 HL
     go_wp2_with fail
     go_roundw
     case rel=>exact ⟨k+1,_,hk1,by go_num,HO2.out⟩
     case measure=>simp [intOf];omega
  ·obtain rfl:k=ps.length:=Nat.le_antisymm hk (Nat.le_of_not_lt hlt)
   have z1:=HO.out.hq.cell
   have r1:=(R2.later HO.out.b2).cell
   have rf1:=(R2.later HO.out.b2).frozen
   have BR:=B2.trans (HO.out.b2.mono B2.size)
   have HD:=HO.out.done
   have hgl:w.heap.size+1<w2.heap.size:=R2.lt
   go_wp2_with fail
   refine bodyPost_ret (v:=.agg #[.slice (some ⟨w2.heap.size,0,none⟩) ps.length ps.length,.int .i64 (cAll ps ps.length:Int)]) ?_ rfl ⟨w2.heap.size,gs,rfl,?_,by omega,?_⟩
   ·simp [results,Tryz.results13,go_sem,r1]
   ·refine HD.later ?_
    iterate 2 (refine Keeps.setCell ?_ (by show w.heap.size+1<w2.heap.size;exact hgl) _)
    exact Keeps.refl _ _
   ·iterate 2 (refine Below.setCell ?_ (by show w.heap.size≤w.heap.size+1;omega) _)
    exact BR
set_option maxRecDepth 100000 in
set_option maxHeartbeats 1000000 in
theorem implPrepare_no (ao:Option Addr) (cap:Nat) (ps:List Pd) (w:World) (hfi:Fine ps) (hF:Forms w) (hv:ProtosAt 0 w ao ps) (hc:¬(checkF ps).1=0) :
  Calls Tryz.prog 13 #[.agg #[.slice ao ps.length cap]] w fun e w'=>e=.returned (.agg #[.slice none 0 0,.int .i64 0])∧Below w.heap.size w w':=by
 have C0:=(Blk.new w #[.slice ao ps.length cap] 31).alloc (.cells #[.slice none 0 0,.int .i64 0] 38)
 have R0:=Blk.newIn (W:=w.alloc (.cells #[.slice ao ps.length cap] 31)) (n:=w.heap.size+1) #[.slice none 0 0,.int .i64 0] 38 (by simp)
 have B0:Below w.heap.size w ((w.alloc (.cells #[.slice ao ps.length cap] 31)).alloc (.cells #[.slice none 0 0,.int .i64 0] 38)):=((Below.refl _ _).alloc (Nat.le_refl _) _).alloc (by simp) _
 obtain⟨⟨f0,f1,f2⟩,hf⟩:∃f,f=checkF ps:=⟨_,rfl⟩
 have g0:(f0 != 0)=true:=by rw [←hf] at hc;simpa using hc
 have HCK:Hid (∀W,Below w.heap.size w W→Calls Tryz.prog 9 #[.agg #[.slice ao ps.length cap]] W fun e w'=>e=.returned (.agg #[.int .i64 f0,.int .i64 f1,.int .i64 f2])∧Below W.heap.size W w'):=fun W hb=>by
  have:=implCheckCode_any ao cap ps W hfi (hF.later hb) (hv.later (Keeps.of_below hb));rw [←hf] at this;exact this
 have hfd:=field_fault f0 f1 f2
 clear hf hc hF hv hfi
 go_enter Tryz.func13,Tryz.ntmps13
 have c0:=C0.cell
 go_wp2_with fail
 refine (HCK.out _ B0).mono ?_
 rintro e w1 ⟨rfl,hw1⟩
 have B1:=B0.trans (hw1.mono B0.size)
 have R1:=R0.later hw1
 clear hw1 B0 C0 R0 c0 HCK
 have r1:=R1.cell
 have rf1:=R1.frozen
 go_wp2_with fail
 refine bodyPost_ret (v:=.agg #[.slice none 0 0,.int .i64 0]) ?_ rfl ⟨rfl,?_⟩
 ·simp [results,Tryz.results13,go_sem,r1]
 ·iterate 2 (refine Below.setCell ?_ (by show w.heap.size≤w.heap.size+1;omega) _)
  exact B1
set_option maxRecDepth 100000 in
set_option maxHeartbeats 1000000 in
theorem specPrepare_no (ao:Option Addr) (cap:Nat) (ps:List Pd) (w:World) (hfi:Fine ps) (hv:ProtosAt 0 w ao ps) (hc:¬(checkF ps).1=0) :
  Calls Tryz.prog 12 #[.agg #[.slice ao ps.length cap]] w fun e w'=>e=.returned (.agg #[.slice none 0 0,.int .i64 0])∧Below w.heap.size w w':=by
 have C0:=(Blk.new w #[.slice ao ps.length cap] 31).alloc (.cells #[.slice none 0 0,.int .i64 0] 38)
 have R0:=Blk.newIn (W:=w.alloc (.cells #[.slice ao ps.length cap] 31)) (n:=w.heap.size+1) #[.slice none 0 0,.int .i64 0] 38 (by simp)
 have B0:Below w.heap.size w ((w.alloc (.cells #[.slice ao ps.length cap] 31)).alloc (.cells #[.slice none 0 0,.int .i64 0] 38)):=((Below.refl _ _).alloc (Nat.le_refl _) _).alloc (by simp) _
 obtain⟨⟨f0,f1,f2⟩,hf⟩:∃f,f=checkF ps:=⟨_,rfl⟩
 have g0:(f0 != 0)=true:=by rw [←hf] at hc;simpa using hc
 have HCK:Hid (∀W,Below w.heap.size w W→Calls Tryz.prog 7 #[.agg #[.slice ao ps.length cap]] W fun e w'=>e=.returned (.agg #[.int .i64 f0,.int .i64 f1,.int .i64 f2])∧Below W.heap.size W w'):=fun W hb=>by
  have:=specCheckCode_any ao cap ps W hfi (hv.later (Keeps.of_below hb));rw [←hf] at this;exact this
 clear hf hc hv hfi
 go_enter Tryz.func12,Tryz.ntmps12
 have c0:=C0.cell
 go_wp2_with fail
 refine (HCK.out _ B0).mono ?_
 rintro e w1 ⟨rfl,hw1⟩
 have B1:=B0.trans (hw1.mono B0.size)
 have R1:=R0.later hw1
 clear hw1 B0 C0 R0 c0 HCK
 have r1:=fun o=>(R1.alloc o).cell
 have rf1:=fun o=>(R1.alloc o).frozen
 go_wp2_with fail
 refine bodyPost_ret (v:=.agg #[.slice none 0 0,.int .i64 0]) ?_ rfl ⟨rfl,?_⟩
 ·simp [results,Tryz.results12,go_sem,r1]
 ·iterate 2 (refine Below.setCell ?_ (by show w.heap.size≤w.heap.size+1;omega) _)
  exact B1.alloc B1.size _
set_option maxRecDepth 100000 in
set_option maxHeartbeats 1000000 in
theorem specPrepare_any (ao:Option Addr) (cap:Nat) (ps:List Pd) (w:World) (hfi:Fine ps) (hv:ProtosAt 0 w ao ps) (hc:(checkF ps).1=0) :
  Calls Tryz.prog 12 #[.agg #[.slice ao ps.length cap]] w fun e w'=>∃ao' cap',e=.returned (.agg #[.slice ao' ps.length cap',.int .i64 (cAll ps ps.length:Int)])∧QpsAt w.heap.size w' ao' (qAll ps)∧Below w.heap.size w w':=by
 have hl:ps.length≤1048576:=by have:=hfi.bulk;unfold bulkPs at this;omega
 have C0:=(Blk.new w #[.slice ao ps.length cap] 31).alloc (.cells #[.slice none 0 0,.int .i64 0] 38)
 have R0:=Blk.newIn (W:=w.alloc (.cells #[.slice ao ps.length cap] 31)) (n:=w.heap.size+1) #[.slice none 0 0,.int .i64 0] 38 (by simp)
 have B0:Below w.heap.size w ((w.alloc (.cells #[.slice ao ps.length cap] 31)).alloc (.cells #[.slice none 0 0,.int .i64 0] 38)):=((Below.refl _ _).alloc (Nat.le_refl _) _).alloc (by simp) _
 obtain⟨⟨f0,f1,f2⟩,hf⟩:∃f,f=checkF ps:=⟨_,rfl⟩
 obtain rfl:f0=0:=by rw [←hf] at hc;exact hc
 have HCK:Hid (∀W,Below w.heap.size w W→Calls Tryz.prog 7 #[.agg #[.slice ao ps.length cap]] W fun e w'=>e=.returned (.agg #[.int .i64 0,.int .i64 f1,.int .i64 f2])∧Below W.heap.size W w'):=fun W hb=>by
  have:=specCheckCode_any ao cap ps W hfi (hv.later (Keeps.of_below hb));rw [←hf] at this;exact this
 have HPR:Hid (∀W,Below w.heap.size w W→Calls Tryz.prog 27 #[.agg #[.slice ao ps.length cap]] W fun e w'=>∃ao' cap',e=.returned (.agg #[.slice ao' ps.length cap',.int .i64 (cAll ps ps.length:Int)])∧QpsAt W.heap.size w' ao' (qAll ps)∧Below W.heap.size W w'):=fun W hb=>
  l6prepare_any ao cap ps W hl (fun p hp=>(hfi.few p hp).ins) (shape_q hc) (hv.later (Keeps.of_below hb))
 clear hf hc hv hfi
 go_enter Tryz.func12,Tryz.ntmps12
 have c0:=C0.cell
 go_wp2_with fail
 refine (HCK.out _ B0).mono ?_
 rintro e w1 ⟨rfl,hw1⟩
 have B1:=B0.trans (hw1.mono B0.size)
 have C1:=C0.later hw1
 have R1:=R0.later hw1
 clear hw1 B0 C0 R0 c0 HCK
 have c1:=fun o=>(C1.alloc o).cell
 go_wp2_with fail
 refine (HPR.out _ (B1.alloc B1.size _)).mono ?_
 rintro e w2 ⟨ao',cap',rfl,Q2,hw2⟩
 have B1a:=B1.alloc B1.size (.cells #[.int .i64 0,.int .i64 f1,.int .i64 f2] 27)
 have B2:=B1a.trans (hw2.mono B1a.size)
 have R2:=(R1.alloc _).later hw2
 have hr:=R1.lt
 clear hw2 c1
 have r2:=R2.cell
 have rf2:=R2.frozen
 go_wp2_with fail
 refine bodyPost_ret (v:=.agg #[.slice ao' ps.length cap',.int .i64 (cAll ps ps.length:Int)]) ?_ rfl ⟨ao',cap',rfl,?_,?_⟩
 ·simp [results,Tryz.results12,go_sem,r2]
 ·refine QpsAt.lower (lo:=w1.heap.size) (QpsAt.later (QpsAt.lower Q2 (by simp)) ?_) (by have:=B1.size;omega)
  iterate 2 (refine Keeps.setCell ?_ (by show w.heap.size+1<w1.heap.size;exact hr) _)
  exact Keeps.refl _ _
 ·iterate 2 (refine Below.setCell ?_ (by show w.heap.size≤w.heap.size+1;omega) _)
  exact B2
def QAns (lo hi:Nat) (w:World) (ao:Option Addr) (qss:List (List Qd)):Prop:=
 (ao=none∧qss=[])∨∃g gs,ao=some ⟨g,0,none⟩∧QOwn w g gs qss∧lo≤g∧∀j,j<qss.length→gs j<hi
theorem QpsAt.nil (lo:Nat) (w:World) (ao:Option Addr):QpsAt lo w ao []:=fun i x h=>by simp at h
theorem QAns.at {lo hi:Nat} {w:World} {ao:Option Addr} {qss:List (List Qd)} (h:QAns lo hi w ao qss):QpsAt lo w ao qss:=by
 rcases h with ⟨_,rfl⟩ | ⟨g,gs,rfl,h1,h2,_⟩
 ·exact QpsAt.nil _ _ _
 ·exact h1.at h2
theorem QAns.later {lo hi:Nat} {w w':World} {ao:Option Addr} {qss:List (List Qd)} (h:QAns lo hi w ao qss) (hk:Keeps lo w w'):QAns lo hi w' ao qss:=by
 rcases h with h | ⟨g,gs,rfl,h1,h2,h3⟩
 ·exact .inl h
 ·exact .inr ⟨g,gs,rfl,h1.later (hk.mono h2),h2,h3⟩
theorem Span.lower {g lo hi:Nat} {w w':World} (h:Span g hi w w') (hl:lo≤g):Span lo hi w w':=⟨h.os,h.tape,h.output,h.size,fun b hb hs=>h.block b (by omega) hs⟩
theorem Span.of_below {lo hi:Nat} {w w':World} (h:Below w.heap.size w w'):Span lo hi w w':=⟨h.os,h.tape,h.output,h.size,fun b _ hs=>h.block b hs⟩
theorem Span.below_lo {N lo hi:Nat} {w0 w w':World} (h:Span lo hi w w') (hb:Below N w0 w) (hN:N≤lo) (hs:N≤w.heap.size):Below N w0 w':=
 ⟨h.os.trans hb.os,h.tape.trans hb.tape,h.output.trans hb.output,Nat.le_trans hb.size h.size,fun b hl=>(h.block b (Or.inl (by omega)) (by omega)).trans (hb.block b hl)⟩
theorem Span.keeps {lo hi:Nat} {w w':World} (h:Span lo hi w w'):Keeps hi w w':=⟨h.size,fun k hk hs=>h.block k (.inr hk) hs⟩
theorem mark_ans (lo hi:Nat) (ao:Option Addr) (cap:Nat) (c:Int) (qss:List (List Qd)) (w:World) (hm:qss.length≤1048576) (hz:∀qs ∈ qss,qs.length≤1048576) (h:QAns lo hi w ao qss) :
  Calls Tryz.prog 16 #[.agg #[.slice ao qss.length cap,.int .i64 c],.int .i64 1] w fun e w'=>e=.returned (.int .i64 (kAt 1 qss qss.length:Int))∧QpsAt 0 w' ao (markedS 1 qss)∧Span lo hi w w':=by
 rcases h with ⟨_,rfl⟩ | ⟨g,gs,rfl,h1,h2,h3⟩
 ·exact (markQuick_none ao cap c w).mono fun e w' ⟨he,hb⟩=>⟨he,QpsAt.nil _ _ _,Span.of_below hb⟩
 ·exact (markQuick_any g cap hi c gs qss w hm hz h3 h1).mono fun e w' ⟨he,hq,hs⟩=>⟨he,hq.at (Nat.zero_le _),hs.lower h2⟩
noncomputable def qOf (ps:List Pd):List (List Qd):=if (checkF ps).1=0 then qAll ps else []
noncomputable def cOf (ps:List Pd):Int:=if (checkF ps).1=0 then (cAll ps ps.length:Int) else 0
theorem qOf_len {ps:List Pd} (h:ps.length≤1048576):(qOf ps).length≤1048576:=by
 unfold qOf
 split
 ·rw [qAll_len];exact h
 ·exact Nat.zero_le _
theorem qOf_each {ps:List Pd} (h:∀p ∈ ps,p.ins.length≤1048576):∀qs ∈ qOf ps,qs.length≤1048576:=by
 intro qs hq
 unfold qOf at hq
 split at hq
 ·obtain⟨j,hj⟩:=List.getElem?_of_mem hq
  have hl:j<ps.length:=by have:=(List.getElem?_eq_some_iff.1 hj).1;rwa [qAll_len] at this
  obtain⟨p,hp⟩:=some_of_lt hl
  obtain rfl:=Option.some.inj (hj.symm.trans (qAll_at hp))
  rw [qIns_len]
  exact h p (List.mem_of_getElem? hp)
 ·cases hq
theorem specPrep (ao:Option Addr) (cap:Nat) (ps:List Pd) (w:World) (hfi:Fine ps) (hv:ProtosAt 0 w ao ps) :
  Calls Tryz.prog 12 #[.agg #[.slice ao ps.length cap]] w fun e w'=>∃ao' cap',e=.returned (.agg #[.slice ao' (qOf ps).length cap',.int .i64 (cOf ps)])∧QpsAt 0 w' ao' (qOf ps)∧Below w.heap.size w w':=by
 by_cases hc:(checkF ps).1=0
 ·rw [qOf,if_pos hc,cOf,if_pos hc,qAll_len]
  exact (specPrepare_any ao cap ps w hfi hv hc).mono fun e w' ⟨a,c,h1,h2,h3⟩=>⟨a,c,h1,h2.lower (Nat.zero_le _),h3⟩
 ·rw [qOf,if_neg hc,cOf,if_neg hc]
  exact (specPrepare_no ao cap ps w hfi hv hc).mono fun e w' ⟨h1,h2⟩=>⟨none,0,h1,QpsAt.nil _ _ _,h2⟩
theorem implPrep (g cap:Nat) (ps:List Pd) (w:World) (hfi:Fine ps) (hF:Forms w) (hv:ProtosAt 0 w (some ⟨g,0,none⟩) ps) (hcap:CapP w g ps ps.length) :
  Calls Tryz.prog 13 #[.agg #[.slice (some ⟨g,0,none⟩) ps.length cap]] w fun e w'=>∃ao' cap',e=.returned (.agg #[.slice ao' (qOf ps).length cap',.int .i64 (cOf ps)])∧QAns w.heap.size w'.heap.size w' ao' (qOf ps)∧Below w.heap.size w w':=by
 by_cases hc:(checkF ps).1=0
 ·rw [qOf,if_pos hc,cOf,if_pos hc,qAll_len]
  refine (implPrepare_any g cap ps w hfi hF hv hcap hc).mono fun e w' ⟨a,gs,h1,h2,h3,h4⟩=>⟨some ⟨a,0,none⟩,ps.length,h1,.inr ⟨a,gs,rfl,h2,h3,fun j hj=>?_⟩,h4⟩
  obtain⟨qs,hq⟩:=some_of_lt hj
  exact (h2.row j qs hq).1.lt
 ·rw [qOf,if_neg hc,cOf,if_neg hc]
  exact (implPrepare_no _ cap ps w hfi hF hv hc).mono fun e w' ⟨h1,h2⟩=>⟨none,0,h1,.inl ⟨rfl,rfl⟩,h2⟩
theorem fineOf {ps:List Pd} (hb:bulkPs ps≤1048576) (hg:∀p ∈ ps,PdIn p):Fine ps:=by
 refine⟨hb,fun p hp=>?_,fun p hp=>(hg p hp).flts,fun p hp=>(hg p hp).nds⟩
 have h1:bulkP p≤sumL bulkP ps:=sumL_mem hp
 unfold bulkPs at hb
 generalize sumL bulkP ps=S at *
 unfold bulkP bulkVs bulkMs at h1
 exact⟨by omega,by omega,by omega,by omega⟩
theorem QpsAt.zero {lo:Nat} {w:World} {ao:Option Addr} {xs:List (List Qd)} (h:QpsAt lo w ao xs):QpsAt 0 w ao xs:=h.lower (Nat.zero_le _)
set_option maxRecDepth 100000 in
set_option maxHeartbeats 8000000 in
theorem prepLaw_any (ao:Option Addr) (cap:Nat) (ps:List Pd) (w:World) (hm:ps.length≤9223372036854775807) (hg:∀p ∈ ps,PdIn p) (hF:Forms w) (hv:ProtosAt 0 w ao ps) :
  Calls Tryz.prog 4 #[.agg #[.slice ao ps.length cap]] w fun e w'=>e=.returned (.bool true)∧Below w.heap.size w w':=by
 have C0:=Blk.new w #[.slice ao ps.length cap] 24
 have B0:=below_al (Below.refl w.heap.size w) (.cells #[.slice ao ps.length cap] 24)
 have hsz:=szCode_any ao cap ps 1048576 (w.alloc (.cells #[.slice ao ps.length cap] 24)) (by omega) (by omega) hm (fun p hp=>(hg p hp).sz) (hv.later (Keeps.of_below B0))
 by_cases hn:bulkPs ps≤1048576
 ·have FI:=fineOf hn hg
  have hps:ps.length≤1048576:=by unfold bulkPs at hn;omega
  rw [szN_pos (by omega)] at hsz
  obtain⟨q,hq⟩:∃q:Nat,(q:Int)=1048576 - (bulkPs ps:Int):=⟨(1048576 - bulkPs ps),by omega⟩
  rw [←hq] at hsz
  have HSZ:Hid (∀_:Unit,_):=fun _=>hsz
  have HTO:Hid (∀W,Below w.heap.size w W→Calls Tryz.prog 8 #[.agg #[.slice ao ps.length cap]] W fun e w'=>∃g,e=.returned (.agg #[.slice (some ⟨g,0,none⟩) ps.length ps.length])∧W.heap.size≤g∧ProtosOwn w' g ps∧CapP w' g ps ps.length∧Below W.heap.size W w'):=fun W hb=>toCode_cap ao cap ps W hps FI.few (hv.later (Keeps.of_below hb))
  obtain⟨n,hnq⟩:∃n,n=(qOf ps).length:=⟨_,rfl⟩
  obtain⟨m,hmq⟩:∃m,m=cOf ps:=⟨_,rfl⟩
  obtain⟨KK,hKK⟩:∃K:Nat,K=kAt 1 (qOf ps) (qOf ps).length:=⟨_,rfl⟩
  have hql:=qOf_len hps
  have hqe:=qOf_each (fun p hp=>(FI.few p hp).ins)
  have HSP:Hid (∀g W,ProtosAt 0 W (some ⟨g,0,none⟩) ps→Calls Tryz.prog 12 #[.agg #[.slice (some ⟨g,0,none⟩) ps.length ps.length]] W fun e w'=>∃ao' cap',e=.returned (.agg #[.slice ao' n cap',.int .i64 m])∧QpsAt 0 w' ao' (qOf ps)∧Below W.heap.size W w'):=fun g W hp=>by have:=specPrep (some ⟨g,0,none⟩) ps.length ps W FI hp;rw [←hnq,←hmq] at this;exact this
  have HIM:Hid (∀g W,Below w.heap.size w W→ProtosAt 0 W (some ⟨g,0,none⟩) ps→CapP W g ps ps.length→Calls Tryz.prog 13 #[.agg #[.slice (some ⟨g,0,none⟩) ps.length ps.length]] W fun e w'=>∃ao' cap',e=.returned (.agg #[.slice ao' n cap',.int .i64 m])∧QAns W.heap.size w'.heap.size w' ao' (qOf ps)∧Below W.heap.size W w'):=fun g W hb hp hc=>by have:=implPrep g ps.length ps W FI (hF.later hb) hp hc;rw [←hnq,←hmq] at this;exact this
  have HEQ:Hid (∀a b c d W,QpsAt 0 W a (qOf ps)→QpsAt 0 W b (qOf ps)→Calls Tryz.prog 14 #[.agg #[.slice a n c,.int .i64 m],.agg #[.slice b n d,.int .i64 m]] W fun e w'=>e=.returned (.bool true)∧Below W.heap.size W w'):=fun a b c d W h1 h2=>by have:=eqQuick_any a b c d (qOf ps) m W hql hqe h1 h2;rw [←hnq] at this;exact this
  have HEC:Hid (∀g k W,ProtosAt 0 W (some ⟨g,0,none⟩) ps→ProtosAt 0 W (some ⟨k,0,none⟩) ps→Calls Tryz.prog 11 #[.agg #[.slice (some ⟨g,0,none⟩) ps.length ps.length],.agg #[.slice (some ⟨k,0,none⟩) ps.length ps.length]] W fun e w'=>e=.returned (.bool true)∧Below W.heap.size W w'):=fun g k W h1 h2=>eqCode_any (some ⟨g,0,none⟩) (some ⟨k,0,none⟩) ps.length ps.length ps W hps FI.few FI.flts h1 h2
  have HMC:Hid (∀g hi W,MkAt hi W g ps→Calls Tryz.prog 15 #[.agg #[.slice (some ⟨g,0,none⟩) ps.length ps.length],.int .i64 1] W fun e w'=>(∃q:Nat,e=.returned (.int .i64 q)∧q≤1125899906842624)∧Span g hi W w'):=fun g hi W h=>markCode_any g ps.length ps hi W hps FI.few h
  have HMQ:Hid (∀lo hi a c W,QAns lo hi W a (qOf ps)→Calls Tryz.prog 16 #[.agg #[.slice a n c,.int .i64 m],.int .i64 1] W fun e w'=>e=.returned (.int .i64 KK)∧QpsAt 0 w' a (markedS 1 (qOf ps))∧Span lo hi W w'):=fun lo hi a c W h=>by have:=mark_ans lo hi a c m (qOf ps) W hql hqe h;rw [←hKK,←hnq] at this;exact this
  have HHQ:Hid (∀a c W,QpsAt 0 W a (markedS 1 (qOf ps))→Calls Tryz.prog 17 #[.agg #[.slice a n c,.int .i64 m],.int .i64 1] W fun e w'=>e=.returned (.int .i64 KK)∧Below W.heap.size W w'):=fun a c W h=>by have:=heldQuick_any a c m (qOf ps) W hql hqe h;rw [←hKK,←hnq] at this;exact this
  have q0:¬(q:Int)<0:=by omega
  clear hsz hn hg hF hv FI hm hq hnq hmq hKK hql hqe
  generalize qOf ps=qss at *
  go_enter Tryz.func4,Tryz.ntmps4
  have c0:=C0.cell
  go_wp2_with fail
  refine (HSZ.out ()).mono ?_
  rintro e w1 ⟨rfl,hw1⟩
  have B1:=B0.trans (hw1.mono B0.size)
  have C1:=C0.later hw1
  clear hw1 B0 C0 c0 HSZ
  have c1:=C1.cell
  go_wp2_with fail
  refine (HTO.out w1 B1).mono ?_
  rintro e w2 ⟨g2,rfl,_,P2,_,hw2⟩
  have B2:=B1.trans (hw2.mono B1.size)
  have C2:=C1.later hw2
  clear hw2 B1 C1 c1
  go_wp2_with fail
  refine (HSP.out g2 w2 (P2.at (Nat.zero_le _))).mono ?_
  rintro e w3 ⟨ao3,c3,rfl,Q3,hw3⟩
  have A3:=below_al (Below.refl w3.heap.size w3) (.cells #[.slice ao3 n c3,.int .i64 m] 38)
  have B3:=(B2.trans (hw3.mono B2.size)).trans (A3.mono (Nat.le_trans B2.size hw3.size))
  have C3:=(C2.later hw3).later A3
  have S3:=Blk.new w3 #[.slice ao3 n c3,.int .i64 m] 38
  have HQ3:Hid (QpsAt 0 (w3.alloc (.cells #[.slice ao3 n c3,.int .i64 m] 38)) ao3 qss):=Q3.later (Keeps.of_below A3)
  clear hw3 B2 C2 P2 A3 HSP Q3
  have c3_:=C3.cell
  go_wp2_with fail
  generalize hw3e:w3.alloc (.cells #[.slice ao3 n c3,.int .i64 m] 38)=w3a at *
  have hs3:w3a.heap.size=w3.heap.size+1:=by rw [←hw3e];simp
  clear hw3e
  refine (HTO.out w3a B3).mono ?_
  rintro e w4 ⟨gx,rfl,hgx,P4,K4,hw4⟩
  have A4:=below_al (Below.refl w4.heap.size w4) (.cells #[.slice (some ⟨gx,0,none⟩) ps.length ps.length] 31)
  have K3:Below w3a.heap.size w3a (w4.alloc (.cells #[.slice (some ⟨gx,0,none⟩) ps.length ps.length] 31)):=hw4.trans (A4.mono hw4.size)
  have S4:=Blk.new w4 #[.slice (some ⟨gx,0,none⟩) ps.length ps.length] 31
  have HM4:Hid (MkAt w4.heap.size (w4.alloc (.cells #[.slice (some ⟨gx,0,none⟩) ps.length ps.length] 31)) gx ps):=P4.mk.below A4
  have HP4:Hid (ProtosAt 0 (w4.alloc (.cells #[.slice (some ⟨gx,0,none⟩) ps.length ps.length] 31)) (some ⟨gx,0,none⟩) ps):=(P4.at (Nat.zero_le _)).later (Keeps.of_below A4)
  have HK4:Hid (CapP (w4.alloc (.cells #[.slice (some ⟨gx,0,none⟩) ps.length ps.length] 31)) gx ps ps.length):=K4.later A4 P4.1.lt
  clear hw4 A4 P4 K4 c3_
  have s4:=S4.cell
  go_wp2_with fail
  generalize hw4e:w4.alloc (.cells #[.slice (some ⟨gx,0,none⟩) ps.length ps.length] 31)=w4a at *
  have hs4:w4a.heap.size=w4.heap.size+1:=by rw [←hw4e];simp
  clear hw4e s4
  refine (HIM.out gx w4a (B3.trans (K3.mono B3.size)) HP4.out HK4.out).mono ?_
  rintro e w5 ⟨ao5,c5,rfl,Q5,hw5⟩
  have A5:=below_al (Below.refl w5.heap.size w5) (.cells #[.slice ao5 n c5,.int .i64 m] 38)
  have K4:Below w4a.heap.size w4a (w5.alloc (.cells #[.slice ao5 n c5,.int .i64 m] 38)):=hw5.trans (A5.mono hw5.size)
  have S5:=Blk.new w5 #[.slice ao5 n c5,.int .i64 m] 38
  have HQ5:Hid (QAns w4a.heap.size w5.heap.size (w5.alloc (.cells #[.slice ao5 n c5,.int .i64 m] 38)) ao5 qss):=Q5.later (Keeps.of_below A5)
  have hz5:=hw5.size
  clear hw5 A5 Q5
  have s5:=S5.cell
  have s3:=(S3.later K3).later K4 |>.cell
  go_wp2_with fail
  generalize hw5e:w5.alloc (.cells #[.slice ao5 n c5,.int .i64 m] 38)=w5a at *
  have hs5:w5a.heap.size=w5.heap.size+1:=by rw [←hw5e];simp
  clear hw5e s5 s3
  have K34:=K3.trans (K4.mono K3.size)
  refine (HEQ.out ao5 ao3 c5 c3 w5a HQ5.out.at.zero (HQ3.out.later (Keeps.of_below K34))).mono ?_
  rintro e w6 ⟨rfl,hw6⟩
  have s6x:=(S4.later K4).later hw6 |>.cell
  have s6c:=(C3.later K34).later hw6 |>.cell
  go_wp2_with fail
  have Dd:Below w6.heap.size w6 w6.drew:=(Below.refl _ _).drew
  have B6:Below w.heap.size w w6.drew:=((B3.trans (K34.mono B3.size)).trans (hw6.mono (Nat.le_trans B3.size K34.size))).drew
  have Cd:=((C3.later K34).later hw6).later Dd
  have Kd:=((S4.later K4).later hw6).later Dd
  have HPd:Hid (ProtosAt 0 w6.drew (some ⟨gx,0,none⟩) ps):=(HP4.out.later (Keeps.of_below (K4.trans (hw6.mono K4.size)))).later (Keeps.of_below Dd)
  go_region_held3 (fun w'=>w'.cell? ⟨w.heap.size,0,none⟩=some (.slice ao ps.length cap)∧w'.cell? ⟨w4.heap.size,0,none⟩=some (.slice (some ⟨gx,0,none⟩) ps.length ps.length)) (go_keep)
   (first
    | (go_at_call 8;refine (HTO.out w6.drew B6).mono ?_;rintro e wa ⟨ga,rfl,_,Pa,_,hwa⟩;have ca:=(Cd.later hwa).cell 0;have ka:=(Kd.later hwa).cell 0;have HPa:Hid (ProtosAt 0 wa (some ⟨ga,0,none⟩) ps):=Pa.at (Nat.zero_le _))
    | (go_at_call 11;refine (HEC.out gx ga wa (ProtosAt.later HPd.out (Keeps.of_below hwa)) HPa.out).mono ?_;rintro e wb ⟨rfl,hwb⟩;have cb:=((Cd.later hwa).later hwb).cell 0;have kb:=((Kd.later hwa).later hwb).cell 0))
  have K5:Below w5a.heap.size w5a wb:=((hw6.trans (Dd.mono hw6.size)).trans (hwa.mono (Nat.le_trans hw6.size Dd.size))).trans (hwb.mono (Nat.le_trans hw6.size (Nat.le_trans Dd.size hwa.size)))
  have K45:=K4.trans (K5.mono K4.size)
  clear Dd Cd Kd HPd HPa hwa hwb ca ka cb hw6 s6x s6c Pa
  go_wp2_with fail
  refine (HMC.out gx w4.heap.size wb (HM4.out.below K45)).mono ?_
  rintro e w7 ⟨⟨qm,rfl,hqm⟩,hsp⟩
  have hg4:w3a.heap.size≤w4a.heap.size:=K3.size
  have K37:Below w3a.heap.size w3a w7:=hsp.below_lo (K3.trans (K45.mono K3.size)) hgx (Nat.le_trans K3.size K45.size)
  have K57:Keeps w4a.heap.size w5a w7:=(Keeps.of_below K5).trans (hsp.keeps.mono (by omega))
  have S57:Blk w7 w5.heap.size #[.slice ao5 n c5,.int .i64 m] 38:=(K57.block _ hz5 S5.lt).trans S5
  have q7:¬(qm:Int)<0:=by omega
  clear hsp kb K5 K45
  have s7:=S57.cell
  have s3:=(S3.later K37).cell
  go_wp2_with fail
  refine (HEQ.out ao5 ao3 c5 c3 w7 (HQ5.out.later K57).at.zero (HQ3.out.later (Keeps.of_below K37))).mono ?_
  rintro e w8 ⟨rfl,hw8⟩
  have K38:=K37.trans (hw8.mono K37.size)
  have K58:=K57.trans (Keeps.of_below hw8)
  have S58:=S57.later hw8
  clear hw8 s7 s3 K37 K57 S57
  have s8:=S58.cell
  go_wp2_with fail
  refine (HMQ.out w4a.heap.size w5.heap.size ao5 c5 w8 (HQ5.out.later K58)).mono ?_
  rintro e w9 ⟨rfl,Q9,hsp⟩
  have K39:Below w3a.heap.size w3a w9:=hsp.below_lo K38 hg4 K38.size
  have S59:Blk w9 w5.heap.size #[.slice ao5 n c5,.int .i64 m] 38:=(hsp.block _ (.inr (Nat.le_refl _)) S58.lt).trans S58
  have HQ9:Hid (QpsAt 0 w9 ao5 (markedS 1 qss)):=Q9
  clear hsp s8 S58 K58 K38 Q9
  have s9:=S59.cell
  have k9:¬(KK:Int)<0:=by omega
  have k9e:((KK:Int) != KK)=false:=by simp
  go_wp2_with fail
  refine (HHQ.out ao5 c5 w9 HQ9.out).mono ?_
  rintro e w10 ⟨rfl,hw10⟩
  have C10:=(C3.later K39).later hw10
  have B10:=B3.trans ((K39.trans (hw10.mono K39.size)).mono B3.size)
  clear s9
  have c10:=C10.cell
  go_wp2_with fail
  refine (HTO.out w10 B10).mono ?_
  rintro e w11 ⟨g11,rfl,_,P11,K11,hw11⟩
  have B11:=B10.trans (hw11.mono B10.size)
  clear c10 C10 B10
  go_wp2_with fail
  refine (HIM.out g11 w11 B11 (P11.at (Nat.zero_le _)) K11).mono ?_
  rintro e w12 ⟨ao12,c12,rfl,Q12,hw12⟩
  have A12:=below_al (Below.refl w12.heap.size w12) (.cells #[.slice ao12 n c12,.int .i64 m] 38)
  have K9:=((hw10.trans (hw11.mono hw10.size)).trans (hw12.mono (Nat.le_trans hw10.size hw11.size))).trans (A12.mono (Nat.le_trans hw10.size (Nat.le_trans hw11.size hw12.size)))
  have S12:=Blk.new w12 #[.slice ao12 n c12,.int .i64 m] 38
  have HQ12:Hid (QpsAt 0 (w12.alloc (.cells #[.slice ao12 n c12,.int .i64 m] 38)) ao12 qss):=Q12.at.zero.later (Keeps.of_below A12)
  clear hw10 hw11 hw12 A12 Q12 P11 K11
  have s12:=S12.cell
  have s3:=((S3.later K39).later K9).cell
  go_wp2_with fail
  refine (HEQ.out ao12 ao3 c12 c3 _ HQ12.out (HQ3.out.later (Keeps.of_below (K39.trans (K9.mono K39.size))))).mono ?_
  rintro e w13 ⟨rfl,hw13⟩
  have K913:=K9.trans (hw13.mono K9.size)
  have S513:=S59.later K913
  clear s12 s3
  have s13:=S513.cell
  go_wp2_with fail
  refine (HHQ.out ao5 c5 w13 (HQ9.out.later (Keeps.of_below K913))).mono ?_
  rintro e w14 ⟨rfl,hw14⟩
  have K914:=K913.trans (hw14.mono K913.size)
  clear s13
  go_wp2_with fail
  go_ret
  exact⟨rfl,B3.trans ((K39.trans (K914.mono K39.size)).mono B3.size)⟩
 ·rw [szN_neg (by omega)] at hsz
  have HSZ:Hid (∀_:Unit,_):=fun _=>hsz
  clear hsz hn hg hF hv hm
  go_enter Tryz.func4,Tryz.ntmps4
  have c0:=C0.cell 0
  go_wp2_with fail
  refine (HSZ.out ()).mono ?_
  rintro e w1 ⟨rfl,hw1⟩
  have B1:=B0.trans (hw1.mono B0.size)
  clear c0 C0
  go_wp2_with fail
  go_ret
  exact⟨rfl,B1⟩
end Go.Proofs.YtaakadmnhpboiaaGreatDoor
