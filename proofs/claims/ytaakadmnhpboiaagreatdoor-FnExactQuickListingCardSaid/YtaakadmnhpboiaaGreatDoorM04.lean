import Derived.Test.YtaakadmnhpboiaaGreatDoorM02
import Derived.Test.YtaakadmnhpboiaaGreatDoorM03
import Derived.Laws.FloatArith
namespace Go.Proofs.YtaakadmnhpboiaaGreatDoor
open Go.RowKit Go.Deep
theorem size_set (w:World) (p:Addr) (v:Value):(w.setCell p v).heap.size=w.heap.size:=by simp
structure PFew (p:Pd):Prop where
 ups:p.ups.length≤1048576
 consts:p.consts.length≤1048576
 ins:p.ins.length≤1048576
 named:p.named.length≤1048576
def OwnRow (lo:Nat) (w:World) (ao:Option Addr) (t:TypeId) (n:Nat):Prop:=∃g,ao=some ⟨g,0,none⟩∧lo≤g∧Own w g t n
theorem OwnRow.later {lo:Nat} {w w':World} {ao:Option Addr} {t:TypeId} {n:Nat} (h:OwnRow lo w ao t n) (hk:Keeps lo w w'):OwnRow lo w' ao t n:=by
 obtain⟨g,e,hl,ho⟩:=h
 exact⟨g,e,hl,ho.of_block (hk.block g hl ho.lt)⟩
theorem OwnRow.lower {lo lo':Nat} {w:World} {ao:Option Addr} {t:TypeId} {n:Nat} (h:OwnRow lo w ao t n) (hl:lo'≤lo):OwnRow lo' w ao t n:=by
 obtain⟨g,e,h1,ho⟩:=h
 exact⟨g,e,Nat.le_trans hl h1,ho⟩
structure PSoft (lo:Nat) (w:World) (h:Ph) (p:Pd):Prop where
 ups:OwnRow lo w h.uo 156 (p.ups.length*2)
 consts:OwnRow lo w h.co 153 (p.consts.length*5)
 ins:OwnRow lo w h.io 93 (p.ins.length*5)
 named:OwnRow lo w h.no 170 (p.named.length*4)
theorem PSoft.later {lo:Nat} {w w':World} {h:Ph} {p:Pd} (x:PSoft lo w h p) (hk:Keeps lo w w'):PSoft lo w' h p:=⟨x.ups.later hk,x.consts.later hk,x.ins.later hk,x.named.later hk⟩
theorem PSoft.lower {lo lo':Nat} {w:World} {h:Ph} {p:Pd} (x:PSoft lo w h p) (hl:lo'≤lo):PSoft lo' w h p:=⟨x.ups.lower hl,x.consts.lower hl,x.ins.lower hl,x.named.lower hl⟩
structure POwn (lo:Nat) (w:World) (h:Ph) (p:Pd):Prop where
 pin:PIn lo w h p
 soft:PSoft lo w h p
theorem POwn.later {lo:Nat} {w w':World} {h:Ph} {p:Pd} (x:POwn lo w h p) (hk:Keeps lo w w'):POwn lo w' h p:=⟨x.pin.later hk,x.soft.later hk⟩
theorem POwn.lower {lo lo':Nat} {w:World} {h:Ph} {p:Pd} (x:POwn lo w h p) (hl:lo'≤lo):POwn lo' w h p:=⟨x.pin.lower hl,x.soft.lower hl⟩
theorem toUpS_ex (ao:Option Addr) (cap:Nat) (us:List Ud) (w:World) (hm:us.length≤1048576) (hu:UpsAt 0 w ao us) (lo:Nat) (hl:lo≤w.heap.size) :
  Calls Tryz.prog 100 #[.slice ao us.length cap] w fun e w'=>∃g,e=.returned (.slice (some ⟨g,0,none⟩) us.length us.length)∧(UpsAt lo w' (some ⟨g,0,none⟩) us∧OwnRow lo w' (some ⟨g,0,none⟩) 156 (us.length*2))∧Below w.heap.size w w':=
 (toUpS_any ao cap us w hm hu).mono fun _ _ h=>⟨_,h.1,⟨AllAt.lower h.2.1 hl,_,rfl,hl,h.2.2.1⟩,h.2.2.2⟩
theorem toValueS_ex (ao:Option Addr) (cap:Nat) (us:List Vd) (w:World) (hm:us.length≤1048576) (hu:ValsAt 0 w ao us) (lo:Nat) (hl:lo≤w.heap.size) :
  Calls Tryz.prog 101 #[.slice ao us.length cap] w fun e w'=>∃g,e=.returned (.slice (some ⟨g,0,none⟩) us.length us.length)∧(ValsAt lo w' (some ⟨g,0,none⟩) us∧OwnRow lo w' (some ⟨g,0,none⟩) 153 (us.length*5))∧Below w.heap.size w w':=
 (toValueS_any ao cap us w hm hu).mono fun _ _ h=>⟨_,h.1,⟨AllAt.lower h.2.1 hl,_,rfl,hl,h.2.2.1⟩,h.2.2.2⟩
theorem toInsS_ex (ao:Option Addr) (cap:Nat) (us:List Nd) (w:World) (hm:us.length≤1048576) (hu:InssAt 0 w ao us) (lo:Nat) (hl:lo≤w.heap.size) :
  Calls Tryz.prog 102 #[.slice ao us.length cap] w fun e w'=>∃g,e=.returned (.slice (some ⟨g,0,none⟩) us.length us.length)∧(InssAt lo w' (some ⟨g,0,none⟩) us∧OwnRow lo w' (some ⟨g,0,none⟩) 93 (us.length*5))∧Below w.heap.size w w':=
 (toInsS_any ao cap us w hm hu).mono fun _ _ h=>⟨_,h.1,⟨AllAt.lower h.2.1 hl,_,rfl,hl,h.2.2.1⟩,h.2.2.2⟩
theorem toNamedS_ex (ao:Option Addr) (cap:Nat) (us:List Md) (w:World) (hm:us.length≤1048576) (hu:NamsAt 0 w ao us) (lo:Nat) (hl:lo≤w.heap.size) :
  Calls Tryz.prog 103 #[.slice ao us.length cap] w fun e w'=>∃g,e=.returned (.slice (some ⟨g,0,none⟩) us.length us.length)∧(NamsAt lo w' (some ⟨g,0,none⟩) us∧OwnRow lo w' (some ⟨g,0,none⟩) 170 (us.length*4))∧Below w.heap.size w w':=
 (toNamedS_any ao cap us w hm hu).mono fun _ _ h=>⟨_,h.1,⟨AllAt.lower h.2.1 hl,_,rfl,hl,h.2.2.1⟩,h.2.2.2⟩
set_option maxHeartbeats 2000000 in
theorem toProto_any (p:Pd) (h:Ph) (w:World) (hz:PFew p) (hp:PIn 0 w h p) :
  Calls Tryz.prog 54 #[.agg (p.cells h)] w fun e w'=>∃h',e=.returned (.agg (p.cells h'))∧POwn w.heap.size w' h' p∧Below w.heap.size w w':=by
 obtain⟨z1,z2,z3,z4⟩:=hz
 obtain⟨i1,i2,i3,i4⟩:=hp
 obtain⟨nm,ln,pa,re,rg,us,cs,is,ms⟩:=p
 obtain⟨uo,uc,co,cc,io,ic,no,nc⟩:=h
 dsimp only [Pd.cells] at *
 have hb3:∀o1 o2 o3,Below w.heap.size w (((w.alloc o1).alloc o2).alloc o3):=fun o1 o2 o3=>(((Below.refl _ _).alloc (Nat.le_refl _) o1).alloc (by simp) o2).alloc (by simp;omega) o3
 have X0:Blk (((w.alloc (.cells #[.string nm,.int .i64 ln,.int .i64 pa,.bool re,.int .i64 rg,.slice uo us.length uc,.slice co cs.length cc,.slice io is.length ic,.slice no ms.length nc] 90)).alloc (.cells #[.string ⟨#[]⟩,.int .i64 0,.int .i64 0,.bool false,.int .i64 0,.slice none 0 0,.slice none 0 0,.slice none 0 0,.slice none 0 0] 57)).alloc (.cells #[.string nm,.int .i64 ln,.int .i64 pa,.bool re,.int .i64 rg,.slice none 0 0,.slice none 0 0,.slice none 0 0,.slice none 0 0] 57)) w.heap.size #[.string nm,.int .i64 ln,.int .i64 pa,.bool re,.int .i64 rg,.slice uo us.length uc,.slice co cs.length cc,.slice io is.length ic,.slice no ms.length nc] 90:=((Blk.new _ _ _).alloc _).alloc _
 have Y0:Blk (((w.alloc (.cells #[.string nm,.int .i64 ln,.int .i64 pa,.bool re,.int .i64 rg,.slice uo us.length uc,.slice co cs.length cc,.slice io is.length ic,.slice no ms.length nc] 90)).alloc (.cells #[.string ⟨#[]⟩,.int .i64 0,.int .i64 0,.bool false,.int .i64 0,.slice none 0 0,.slice none 0 0,.slice none 0 0,.slice none 0 0] 57)).alloc (.cells #[.string nm,.int .i64 ln,.int .i64 pa,.bool re,.int .i64 rg,.slice none 0 0,.slice none 0 0,.slice none 0 0,.slice none 0 0] 57)) (w.heap.size+1) #[.string ⟨#[]⟩,.int .i64 0,.int .i64 0,.bool false,.int .i64 0,.slice none 0 0,.slice none 0 0,.slice none 0 0,.slice none 0 0] 57:=by have:=(Blk.new (w.alloc (.cells #[.string nm,.int .i64 ln,.int .i64 pa,.bool re,.int .i64 rg,.slice uo us.length uc,.slice co cs.length cc,.slice io is.length ic,.slice no ms.length nc] 90)) #[.string ⟨#[]⟩,.int .i64 0,.int .i64 0,.bool false,.int .i64 0,.slice none 0 0,.slice none 0 0,.slice none 0 0,.slice none 0 0] 57).alloc (.cells #[.string nm,.int .i64 ln,.int .i64 pa,.bool re,.int .i64 rg,.slice none 0 0,.slice none 0 0,.slice none 0 0,.slice none 0 0] 57);simpa using this
 have Z0:Blk (((w.alloc (.cells #[.string nm,.int .i64 ln,.int .i64 pa,.bool re,.int .i64 rg,.slice uo us.length uc,.slice co cs.length cc,.slice io is.length ic,.slice no ms.length nc] 90)).alloc (.cells #[.string ⟨#[]⟩,.int .i64 0,.int .i64 0,.bool false,.int .i64 0,.slice none 0 0,.slice none 0 0,.slice none 0 0,.slice none 0 0] 57)).alloc (.cells #[.string nm,.int .i64 ln,.int .i64 pa,.bool re,.int .i64 rg,.slice none 0 0,.slice none 0 0,.slice none 0 0,.slice none 0 0] 57)) (w.heap.size+1+1) #[.string nm,.int .i64 ln,.int .i64 pa,.bool re,.int .i64 rg,.slice none 0 0,.slice none 0 0,.slice none 0 0,.slice none 0 0] 57:=by have:=Blk.new ((w.alloc (.cells #[.string nm,.int .i64 ln,.int .i64 pa,.bool re,.int .i64 rg,.slice uo us.length uc,.slice co cs.length cc,.slice io is.length ic,.slice no ms.length nc] 90)).alloc (.cells #[.string ⟨#[]⟩,.int .i64 0,.int .i64 0,.bool false,.int .i64 0,.slice none 0 0,.slice none 0 0,.slice none 0 0,.slice none 0 0] 57)) #[.string nm,.int .i64 ln,.int .i64 pa,.bool re,.int .i64 rg,.slice none 0 0,.slice none 0 0,.slice none 0 0,.slice none 0 0] 57;simpa using this
 go_enter Tryz.func54,Tryz.ntmps54
 go_wp2_with fail
 refine (toUpS_ex uo uc us _ z1 (i1.later (Keeps.of_below (hb3 _ _ _))) (w.heap.size+1+1+1) (by simp)).mono ?_
 rintro e w1 ⟨g1,rfl,q1,hw1⟩
 have B1:=(hb3 _ _ _).trans (hw1.mono (by simp;omega))
 have s1:w.heap.size+1+1+1≤w1.heap.size:=by have:=hw1.size;simpa using this
 have X1:=X0.later hw1
 have Y1:=Y0.later hw1
 have Z1:=Z0.later hw1
 clear hw1 X0 Y0 Z0
 have x1:=X1.cell
 have y1:=Z1.cell
 have f1:=Z1.frozen
 go_wp2_with fail
 clear x1 y1 f1
 have D1:=B1.setCell (p:=⟨w.heap.size+1+1,5,none⟩) (by show w.heap.size≤w.heap.size+1+1;omega) (.slice (some ⟨g1,0,none⟩) us.length us.length)
 have K1:=(Keeps.refl (w.heap.size+1+1+1) w1).setCell (p:=⟨w.heap.size+1+1,5,none⟩) (by show w.heap.size+1+1<_;omega) (.slice (some ⟨g1,0,none⟩) us.length us.length)
 have U1:=X1.setOther (p:=⟨w.heap.size+1+1,5,none⟩) (by show w.heap.size≠w.heap.size+1+1;omega) (.slice (some ⟨g1,0,none⟩) us.length us.length)
 have V1:=Y1.setOther (p:=⟨w.heap.size+1+1,5,none⟩) (by show w.heap.size+1≠w.heap.size+1+1;omega) (.slice (some ⟨g1,0,none⟩) us.length us.length)
 have W1:=Z1.set 5 (.slice (some ⟨g1,0,none⟩) us.length us.length)
 have t1:w.heap.size+1+1+1≤(w1.setCell ⟨w.heap.size+1+1,5,none⟩ (.slice (some ⟨g1,0,none⟩) us.length us.length)).heap.size:=by rw [size_set];exact s1
 refine (toValueS_ex co cc cs _ z2 (i2.later (Keeps.of_below D1)) (w.heap.size+1+1+1) t1).mono ?_
 rintro e w2 ⟨g2,rfl,q2,hw2⟩
 have B2:=D1.trans (hw2.mono D1.size)
 have s2:w.heap.size+1+1+1≤w2.heap.size:=Nat.le_trans t1 hw2.size
 have X2:=U1.later hw2
 have Y2:=V1.later hw2
 have Z2:Blk w2 (w.heap.size+1+1) #[.string nm,.int .i64 ln,.int .i64 pa,.bool re,.int .i64 rg,.slice (some ⟨g1,0,none⟩) us.length us.length,.slice none 0 0,.slice none 0 0,.slice none 0 0] 57:=by simpa using W1.later hw2
 replace q1:=And.intro (q1.1.later (K1.trans (Keeps.of_below hw2))) (q1.2.later (K1.trans (Keeps.of_below hw2)))
 clear hw2 X1 Y1 Z1 U1 V1 W1 D1 K1 B1
 have x2:=X2.cell
 have y2:=Z2.cell
 have f2:=Z2.frozen
 go_wp2_with fail
 clear x2 y2 f2
 have D2:=B2.setCell (p:=⟨w.heap.size+1+1,6,none⟩) (by show w.heap.size≤w.heap.size+1+1;omega) (.slice (some ⟨g2,0,none⟩) cs.length cs.length)
 have K2:=(Keeps.refl (w.heap.size+1+1+1) w2).setCell (p:=⟨w.heap.size+1+1,6,none⟩) (by show w.heap.size+1+1<_;omega) (.slice (some ⟨g2,0,none⟩) cs.length cs.length)
 have U2:=X2.setOther (p:=⟨w.heap.size+1+1,6,none⟩) (by show w.heap.size≠w.heap.size+1+1;omega) (.slice (some ⟨g2,0,none⟩) cs.length cs.length)
 have V2:=Y2.setOther (p:=⟨w.heap.size+1+1,6,none⟩) (by show w.heap.size+1≠w.heap.size+1+1;omega) (.slice (some ⟨g2,0,none⟩) cs.length cs.length)
 have W2:=Z2.set 6 (.slice (some ⟨g2,0,none⟩) cs.length cs.length)
 have t2:w.heap.size+1+1+1≤(w2.setCell ⟨w.heap.size+1+1,6,none⟩ (.slice (some ⟨g2,0,none⟩) cs.length cs.length)).heap.size:=by rw [size_set];exact s2
 refine (toInsS_ex io ic is _ z3 (i3.later (Keeps.of_below D2)) (w.heap.size+1+1+1) t2).mono ?_
 rintro e w3 ⟨g3,rfl,q3,hw3⟩
 have B3:=D2.trans (hw3.mono D2.size)
 have s3:w.heap.size+1+1+1≤w3.heap.size:=Nat.le_trans t2 hw3.size
 have X3:=U2.later hw3
 have Y3:=V2.later hw3
 have Z3:Blk w3 (w.heap.size+1+1) #[.string nm,.int .i64 ln,.int .i64 pa,.bool re,.int .i64 rg,.slice (some ⟨g1,0,none⟩) us.length us.length,.slice (some ⟨g2,0,none⟩) cs.length cs.length,.slice none 0 0,.slice none 0 0] 57:=by simpa using W2.later hw3
 replace q1:=And.intro (q1.1.later (K2.trans (Keeps.of_below hw3))) (q1.2.later (K2.trans (Keeps.of_below hw3)))
 replace q2:=And.intro (q2.1.later (K2.trans (Keeps.of_below hw3))) (q2.2.later (K2.trans (Keeps.of_below hw3)))
 clear hw3 X2 Y2 Z2 U2 V2 W2 D2 K2 B2
 have x3:=X3.cell
 have y3:=Z3.cell
 have f3:=Z3.frozen
 go_wp2_with fail
 clear x3 y3 f3
 have D3:=B3.setCell (p:=⟨w.heap.size+1+1,7,none⟩) (by show w.heap.size≤w.heap.size+1+1;omega) (.slice (some ⟨g3,0,none⟩) is.length is.length)
 have K3:=(Keeps.refl (w.heap.size+1+1+1) w3).setCell (p:=⟨w.heap.size+1+1,7,none⟩) (by show w.heap.size+1+1<_;omega) (.slice (some ⟨g3,0,none⟩) is.length is.length)
 have U3:=X3.setOther (p:=⟨w.heap.size+1+1,7,none⟩) (by show w.heap.size≠w.heap.size+1+1;omega) (.slice (some ⟨g3,0,none⟩) is.length is.length)
 have V3:=Y3.setOther (p:=⟨w.heap.size+1+1,7,none⟩) (by show w.heap.size+1≠w.heap.size+1+1;omega) (.slice (some ⟨g3,0,none⟩) is.length is.length)
 have W3:=Z3.set 7 (.slice (some ⟨g3,0,none⟩) is.length is.length)
 have t3:w.heap.size+1+1+1≤(w3.setCell ⟨w.heap.size+1+1,7,none⟩ (.slice (some ⟨g3,0,none⟩) is.length is.length)).heap.size:=by rw [size_set];exact s3
 refine (toNamedS_ex no nc ms _ z4 (i4.later (Keeps.of_below D3)) (w.heap.size+1+1+1) t3).mono ?_
 rintro e w4 ⟨g4,rfl,q4,hw4⟩
 have B4:=D3.trans (hw4.mono D3.size)
 have s4:w.heap.size+1+1+1≤w4.heap.size:=Nat.le_trans t3 hw4.size
 have X4:=U3.later hw4
 have Y4:=V3.later hw4
 have Z4:Blk w4 (w.heap.size+1+1) #[.string nm,.int .i64 ln,.int .i64 pa,.bool re,.int .i64 rg,.slice (some ⟨g1,0,none⟩) us.length us.length,.slice (some ⟨g2,0,none⟩) cs.length cs.length,.slice (some ⟨g3,0,none⟩) is.length is.length,.slice none 0 0] 57:=by simpa using W3.later hw4
 replace q1:=And.intro (q1.1.later (K3.trans (Keeps.of_below hw4))) (q1.2.later (K3.trans (Keeps.of_below hw4)))
 replace q2:=And.intro (q2.1.later (K3.trans (Keeps.of_below hw4))) (q2.2.later (K3.trans (Keeps.of_below hw4)))
 replace q3:=And.intro (q3.1.later (K3.trans (Keeps.of_below hw4))) (q3.2.later (K3.trans (Keeps.of_below hw4)))
 clear hw4 X3 Y3 Z3 U3 V3 W3 D3 K3 B3
 have x4:=X4.cell
 have y4:=Z4.cell
 have f4:=Z4.frozen
 have y5:=Y4.cell
 have f5:=Y4.frozen
 go_wp2_with fail
 refine bodyPost_ret (v:=.agg #[.string nm,.int .i64 ln,.int .i64 pa,.bool re,.int .i64 rg,.slice (some ⟨g1,0,none⟩) us.length us.length,.slice (some ⟨g2,0,none⟩) cs.length cs.length,.slice (some ⟨g3,0,none⟩) is.length is.length,.slice (some ⟨g4,0,none⟩) ms.length ms.length]) ?_ rfl ⟨⟨some ⟨g1,0,none⟩,us.length,some ⟨g2,0,none⟩,cs.length,some ⟨g3,0,none⟩,is.length,some ⟨g4,0,none⟩,ms.length⟩,rfl,?_,?_⟩
 ·simp [results,Tryz.results54,go_sem,y5]
 ·refine POwn.lower (lo:=w.heap.size+1+1+1) (POwn.later (w:=w4) ⟨⟨q1.1,q2.1,q3.1,q4.1⟩,⟨q1.2,q2.2,q3.2,q4.2⟩⟩ ?_) (by omega)
  iterate 10 (refine Keeps.setCell ?_ (by simp;try omega) _)
  exact Keeps.refl _ w4
 ·iterate 10 (refine Below.setCell ?_ (by simp;try omega) _)
  exact B4
theorem Tryz.info_Proto:(Tryz.prog.info? 57).map (fun i=>(i.zero,i.size,i.bytes))=some (some (.agg #[.string ByteArray.empty,.int .i64 0,.int .i64 0,.bool false,.int .i64 0,.slice none 0 0,.slice none 0 0,.slice none 0 0,.slice none 0 0]),9,144):=by kernel_rfl
def LaidP (w:World) (g:Nat) (ps:List Pd) (k:Nat):Prop:=∀j p,j<k→ps[j]?=some p→∃h,NineAt w g (j*9) h p∧POwn (g+1) w h p
theorem NineAt.later {w w':World} {b o:Nat} {h:Ph} {p:Pd} (x:NineAt w b o h p) (hb:Below w.heap.size w w') (hl:b<w.heap.size):NineAt w' b o h p:=by
 have k:=(bcell hb).1
 unfold NineAt
 rw [k _ _ hl,k _ _ hl,k _ _ hl,k _ _ hl,k _ _ hl,k _ _ hl,k _ _ hl,k _ _ hl,k _ _ hl]
 exact x
theorem LaidP.later {w w':World} {g:Nat} {ps:List Pd} {k:Nat} (h:LaidP w g ps k) (hb:Below w.heap.size w w') (hg:g<w.heap.size):LaidP w' g ps k:=by
 intro j p hj hp
 obtain⟨x,h1,h2⟩:=h j p hj hp
 exact⟨x,h1.later hb hg,h2.later (Keeps.of_below hb)⟩
def nine (p:Pd) (h:Ph):List Value:=[.string p.name,.int .i64 p.line,.int .i64 p.params,.bool p.rest,.int .i64 p.regs,.slice h.uo p.ups.length h.uc,.slice h.co p.consts.length h.cc,.slice h.io p.ins.length h.ic,.slice h.no p.named.length h.nc]
theorem Keeps.sets {lo g:Nat} : ∀(vs:List Value) (o:Nat) {a w:World},Keeps lo a w→g<lo→Keeps lo a (w.setCells g o vs)
 | [],_,_,_,h,_=>h
 | v::r,o,_,_,h,hg=>Keeps.sets r (o+1) (h.setCell (p:=⟨g,o,none⟩) hg v) hg
theorem LaidP.step {w:World} {g n k:Nat} {t:TypeId} {ps:List Pd} {p:Pd} {x:Ph} (h:LaidP w g ps k) (own:Own w g t n) (hn:k*9+9≤n) (hp:ps[k]?=some p) (hx:POwn (g+1) w x p) :
  LaidP (w.setCells g (k*9) (nine p x)) g ps (k+1):=by
 intro j y hj hy
 have K:=Keeps.sets (nine p x) (k*9) (Keeps.refl (g+1) w) (Nat.lt_succ_self g)
 by_cases e:j=k
 ·subst e
  obtain rfl:p=y:=Option.some.inj (hp.symm.trans hy)
  have c:=World.cell?_setCells_in g (nine p x) (j*9) w (fun i hi=>by
   have hi9:i<9:=hi
   obtain⟨u,hu⟩:=own.cell (i:=j*9+i) (by omega)
   rw [hu];rfl)
  exact⟨x,⟨c 0 (by simp [nine]),c 1 (by simp [nine]),c 2 (by simp [nine]),c 3 (by simp [nine]),c 4 (by simp [nine]),c 5 (by simp [nine]),c 6 (by simp [nine]),c 7 (by simp [nine]),c 8 (by simp [nine])⟩,hx.later K⟩
 ·obtain⟨z,h1,h2⟩:=h j y (by omega) hy
  have c:∀i,i<9→(w.setCells g (k*9) (nine p x)).cell? ⟨g,j*9+i,none⟩=w.cell? ⟨g,j*9+i,none⟩:=fun i hi=>
   World.cell?_setCells_out g (nine p x) (k*9) w _ (fun _ _=>Or.inl (by show j*9+i<k*9;omega))
  refine⟨z,?_,h2.later K⟩
  have c0:=c 0 (by omega)
  rw [Nat.add_zero] at c0
  unfold NineAt
  rw [c0,c 1 (by omega),c 2 (by omega),c 3 (by omega),c 4 (by omega),c 5 (by omega),c 6 (by omega),c 7 (by omega),c 8 (by omega)]
  exact h1
theorem LaidP.all {w:World} {g n:Nat} {t:TypeId} {ps:List Pd} (own:Own w g t n) (h:LaidP w g ps ps.length) {lo:Nat} (hl:lo≤g):ProtosAt lo w (some ⟨g,0,none⟩) ps:=by
 intro i p hi
 obtain⟨x,h1,h2⟩:=h i p (List.getElem?_eq_some_iff.1 hi).1 hi
 refine⟨g,0,rfl,hl,own.lt,x,?_,h2.pin.lower (by omega)⟩
 rw [Nat.zero_add]
 exact h1
def ProtosOwn (w:World) (g:Nat) (ps:List Pd):Prop:=Own w g 57 (ps.length*9)∧LaidP w g ps ps.length
theorem ProtosOwn.later {w w':World} {g:Nat} {ps:List Pd} (h:ProtosOwn w g ps) (hk:Keeps g w w'):ProtosOwn w' g ps:=by
 refine⟨h.1.of_block (hk.block g (Nat.le_refl _) h.1.lt),fun j p hj hp=>?_⟩
 obtain⟨x,hn,ho⟩:=h.2 j p hj hp
 refine⟨x,?_,ho.later (hk.mono (Nat.le_succ g))⟩
 have c:∀o,w'.cell? ⟨g,o,none⟩=w.cell? ⟨g,o,none⟩:=fun o=>hk.cell (Nat.le_refl _) h.1.lt
 unfold NineAt
 rw [c,c,c,c,c,c,c,c,c]
 exact hn
theorem ProtosOwn.at {w:World} {g:Nat} {ps:List Pd} (h:ProtosOwn w g ps) {lo:Nat} (hl:lo≤g):ProtosAt lo w (some ⟨g,0,none⟩) ps:=h.2.all h.1 hl
theorem ProtosAt.lower {lo lo':Nat} {w:World} {ao:Option Addr} {xs:List Pd} (h:ProtosAt lo w ao xs) (hl:lo'≤lo):ProtosAt lo' w ao xs:=by
 intro i x hx
 obtain⟨b,off,e,h1,hs,g,hn,hp⟩:=h i x hx
 exact⟨b,off,e,Nat.le_trans hl h1,hs,g,hn,hp.lower hl⟩
set_option maxHeartbeats 1000000 in
theorem toProtoS_any (ao:Option Addr) (cap:Nat) (ps:List Pd) (w:World) (hm:ps.length≤1048576) (hz:∀p ∈ ps,PFew p) (hu:ProtosAt 0 w ao ps) :
  Calls Tryz.prog 23 #[.slice ao ps.length cap] w fun e w'=>e=.returned (.slice (some ⟨w.heap.size,0,none⟩) ps.length ps.length)∧ProtosOwn w' w.heap.size ps∧Below w.heap.size w w':=by
 have hmk:=run_make_k (P:=Tryz.prog) 29 57 _ 9 144 Tryz.underlying29 Tryz.info_Proto .i64 .i64 ps.length (by omega) (by omega)
 go_enter Tryz.func23,Tryz.ntmps23
 go_wp2_with fail
 clear hmk
 go_loopw [4] (fun i wr=>∃k:Nat,k≤ps.length∧i=.int .i64 k∧Own wr w.heap.size 57 (ps.length*9)∧LaidP wr w.heap.size ps k∧Below w.heap.size w wr) (fun i _=>ps.length - (intOf i).toNat)
 case atStart=>exact ⟨0,Nat.zero_le _,rfl,Own.made _ _ _ _,fun j _ hj=>absurd hj (Nat.not_lt_zero _),(Below.refl _ _).alloc (Nat.le_refl _) _⟩
 case round=>
  obtain⟨k,hk,rfl,hown,hdone,hb⟩:=hrel
  by_cases hlt:k<ps.length
  ·obtain⟨p,huk⟩:=some_of_lt hlt
   obtain⟨b,off,rfl,_,hbl,x,⟨p0,p1,p2,p3,p4,p5,p6,p7,p8⟩,hin⟩:=hu.later (Keeps.of_below hb) k p huk
   have hf:=hz p (List.mem_of_getElem? huk)
   clear hu hz
   go_wp2_with fail
   refine (toProto_any p x _ hf hin).mono ?_
   rintro e w1 ⟨y,rfl,hy,hw1⟩
   have own1:=hown.later hw1
   have done1:=hdone.later hw1 hown.lt
   have B1:=hb.trans (hw1.mono hb.size)
   have R1:=own1.sets (nine p y) (k*9)
   have R2:=done1.step own1 (by omega) huk (hy.lower hown.lt)
   have R3:=Below.sets (nine p y) (k*9) B1 (Nat.le_refl _)
   have hn:k*9+9≤ps.length*9:=by omega
   obtain⟨v0,c0⟩:=own1.cell (i:=k*9) (by omega)
   obtain⟨v1,c1⟩:=own1.cell (i:=k*9+1) (by omega)
   obtain⟨v2,c2⟩:=own1.cell (i:=k*9+2) (by omega)
   obtain⟨v3,c3⟩:=own1.cell (i:=k*9+3) (by omega)
   obtain⟨v4,c4⟩:=own1.cell (i:=k*9+4) (by omega)
   obtain⟨v5,c5⟩:=own1.cell (i:=k*9+5) (by omega)
   obtain⟨v6,c6⟩:=own1.cell (i:=k*9+6) (by omega)
   obtain⟨v7,c7⟩:=own1.cell (i:=k*9+7) (by omega)
   obtain⟨v8,c8⟩:=own1.cell (i:=k*9+8) (by omega)
   have f0:=own1.frozen
   clear hown hdone hb own1 done1 B1 hw1 p0 p1 p2 p3 p4 p5 p6 p7 p8 hin hy
   unfold Pd.cells
   go_wp2_with fail
   go_roundw
   case rel=>exact ⟨k+1,by omega,by go_num,R1,R2,R3⟩
   case measure=>simp [intOf];omega
  ·go_wp2_with fail
   go_ret
   obtain rfl:k=ps.length:=by omega
   exact⟨rfl,⟨hown,hdone⟩,hb⟩
set_option maxHeartbeats 400000 in
theorem toCode_own (ao:Option Addr) (cap:Nat) (ps:List Pd) (w:World) (hm:ps.length≤1048576) (hz:∀p ∈ ps,PFew p) (hu:ProtosAt 0 w ao ps) :
  Calls Tryz.prog 8 #[.agg #[.slice ao ps.length cap]] w fun e w'=>∃g,e=.returned (.agg #[.slice (some ⟨g,0,none⟩) ps.length ps.length])∧w.heap.size≤g∧ProtosOwn w' g ps∧Below w.heap.size w w':=by
 have hb3:∀o1 o2 o3,Below w.heap.size w (((w.alloc o1).alloc o2).alloc o3):=fun o1 o2 o3=>(((Below.refl _ _).alloc (Nat.le_refl _) o1).alloc (by simp) o2).alloc (by simp;omega) o3
 go_enter Tryz.func8,Tryz.ntmps8
 go_wp2_with fail
 refine (toProtoS_any ao cap ps _ hm hz (hu.later (Keeps.of_below (hb3 _ _ _)))).mono ?_
 rintro e w1 ⟨rfl,q1,hw1⟩
 obtain⟨k1,k2⟩:=bcell hw1
 have s1:w.heap.size+1+1+1≤w1.heap.size:=by have:=hw1.size;simpa using this
 have B1:=(hb3 _ _ _).trans (hw1.mono (by simp;omega))
 have q1:ProtosOwn w1 (w.heap.size+1+1+1) ps:=by simpa using q1
 go_wp2_with fail
 refine bodyPost_ret (v:=.agg #[.slice (some ⟨w.heap.size+1+1+1,0,none⟩) ps.length ps.length]) ?_ rfl ⟨_,rfl,by omega,?_,?_⟩
 ·simp [results,Tryz.results8,go_sem,k1]
 ·refine ProtosOwn.later q1 ?_
  iterate 2 (refine Keeps.setCell ?_ (by simp;try omega) _)
  exact Keeps.refl _ w1
 ·iterate 2 (refine Below.setCell ?_ (by simp;try omega) _)
  exact B1
theorem toCode_any (ao:Option Addr) (cap:Nat) (ps:List Pd) (w:World) (hm:ps.length≤1048576) (hz:∀p ∈ ps,PFew p) (hu:ProtosAt 0 w ao ps) :
  Calls Tryz.prog 8 #[.agg #[.slice ao ps.length cap]] w fun e w'=>∃g,e=.returned (.agg #[.slice (some ⟨g,0,none⟩) ps.length ps.length])∧ProtosAt w.heap.size w' (some ⟨g,0,none⟩) ps∧Below w.heap.size w w':=
 (toCode_own ao cap ps w hm hz hu).mono fun _ _ ⟨g,h1,h2,h3,h4⟩=>⟨g,h1,h3.at h2,h4⟩
attribute [local go_sem] run_store_float
set_option maxHeartbeats 400000 in
theorem eqUp_any (u:Ud) (w:World):Calls Tryz.prog 151 #[u.val,u.val] w fun e w'=>e=.returned (.bool true)∧Below w.heap.size w w':=by
 obtain⟨l,x⟩:=u
 dsimp only [Ud.val]
 go_enter Tryz.func151,Tryz.ntmps151
 go_wp2_with fail
 go_ret
 refine⟨rfl,?_⟩
 repeat (first | exact Below.refl _ _ | refine Below.alloc ?_ (by simp;try omega) _)
set_option maxHeartbeats 400000 in
theorem eqUpS_any (ao bo:Option Addr) (c1 c2:Nat) (us:List Ud) (w:World) (hm:us.length≤1048576) (h1:UpsAt 0 w ao us) (h2:UpsAt 0 w bo us) :
  Calls Tryz.prog 125 #[.slice ao us.length c1,.slice bo us.length c2] w fun e w'=>e=.returned (.bool true)∧Below w.heap.size w w':=by
 go_enter Tryz.func125,Tryz.ntmps125
 go_wp2_with fail
 go_loopw [5] (fun i wr=>∃k:Nat,k≤us.length∧i=.int .i64 k∧Below w.heap.size w wr) (fun i _=>us.length - (intOf i).toNat)
 case atStart=>exact ⟨0,Nat.zero_le _,rfl,Below.refl _ _⟩
 case round=>
  obtain⟨k,hk,rfl,hb⟩:=hrel
  by_cases hlt:k<us.length
  ·obtain⟨u,huk⟩:=some_of_lt hlt
   obtain⟨b1,o1,rfl,_,hl1,p0,p1⟩:=h1.later (Keeps.of_below hb) k u huk
   obtain⟨b2,o2,rfl,_,hl2,q0,q1⟩:=h2.later (Keeps.of_below hb) k u huk
   clear h1 h2
   go_wp2_with fail
   go_region_held3 (fun w'=>w'.cell? ⟨b1,o1+k*2,none⟩=some (.bool u.loc)∧w'.cell? ⟨b1,o1+k*2+1,none⟩=some (.int .i64 u.idx)∧w'.cell? ⟨b2,o2+k*2,none⟩=some (.bool u.loc)∧w'.cell? ⟨b2,o2+k*2+1,none⟩=some (.int .i64 u.idx)) (go_keep)
    (first | (go_at_call 151;refine (eqUp_any u _).mono ?_;rintro e w1 ⟨rfl,hw1⟩;have d0:=(hw1.cell (p:=⟨b1,o1+k*2,none⟩) hl1).trans p0;have d1:=(hw1.cell (p:=⟨b1,o1+k*2+1,none⟩) hl1).trans p1;have d2:=(hw1.cell (p:=⟨b2,o2+k*2,none⟩) hl2).trans q0;have d3:=(hw1.cell (p:=⟨b2,o2+k*2+1,none⟩) hl2).trans q1))
   have B1:=hb.drew.trans (hw1.mono hb.size)
   go_wp2_with fail
   go_roundw
   case rel=>exact ⟨k+1,by omega,by go_num,B1⟩
   case measure=>simp [intOf];omega
  ·go_wp2_with fail
   go_ret
   exact⟨rfl,hb⟩
theorem quo_some (x:Nat) (hx:x<18446744073709551616) (h:(FloatKind.f64.format.order x 0 == some .eq)=true):∃r,floatBits .quo .f64 4607182418800017408 x=some r:=by
 rcases zero_bits x hx h with rfl | rfl
 ·exact⟨_,div_zero⟩
 ·exact⟨_,div_minus⟩
set_option maxHeartbeats 400000 in
theorem sameFloat_any (x:Nat) (hx64:x<18446744073709551616) (w:World):Calls Tryz.prog 169 #[.float .f64 x,.float .f64 x] w fun e w'=>e=.returned (.bool true)∧w'=w:=by
 cases hx:(FloatKind.f64.format.order x x != some .eq)
 ·have hx':(FloatKind.f64.format.order x x == some .eq)=true:=by simpa using hx
  cases h0:(FloatKind.f64.format.order x 0 == some .eq)
  ·clear hx64
   go_enter Tryz.func169,Tryz.ntmps169
   go_wp2_with fail
   go_ret
   exact⟨rfl,rfl⟩
  ·obtain⟨r,hr⟩:=quo_some x hx64 h0
   clear hx64
   have hd:=fun (w:World) (t:TypeId)=>run_float_arith (P:=Tryz.prog) w .quo t .f64 _ x r hr
   clear hr
   go_enter Tryz.func169,Tryz.ntmps169
   go_wp2_with fail
   go_ret
   exact⟨by simp,rfl⟩
 ·clear hx64
  go_enter Tryz.func169,Tryz.ntmps169
  go_wp2_with fail
  go_ret
  exact⟨rfl,rfl⟩
set_option maxHeartbeats 400000 in
theorem eqValue_any (u:Vd) (hf:u.flt<18446744073709551616) (w:World):Calls Tryz.prog 152 #[u.val,u.val] w fun e w'=>e=.returned (.bool true)∧Below w.heap.size w w':=by
 obtain⟨x0,x1,x2,x3,x4⟩:=u
 dsimp only [Vd.val] at hf ⊢
 have HF:Hid (x2<18446744073709551616):=hf
 clear hf
 go_enter Tryz.func152,Tryz.ntmps152
 go_wp2_with fail
 refine (sameFloat_any x2 HF.out _).mono ?_
 rintro e w1 ⟨rfl,rfl⟩
 go_wp2_with fail
 go_ret
 refine⟨rfl,?_⟩
 repeat (first | exact Below.refl _ _ | refine Below.alloc ?_ (by simp;try omega) _)
set_option maxHeartbeats 400000 in
theorem eqValueS_any (ao bo:Option Addr) (c1 c2:Nat) (us:List Vd) (w:World) (hm:us.length≤1048576) (hf:∀u ∈ us,u.flt<18446744073709551616) (h1:ValsAt 0 w ao us) (h2:ValsAt 0 w bo us) :
  Calls Tryz.prog 126 #[.slice ao us.length c1,.slice bo us.length c2] w fun e w'=>e=.returned (.bool true)∧Below w.heap.size w w':=by
 go_enter Tryz.func126,Tryz.ntmps126
 go_wp2_with fail
 go_loopw [5] (fun i wr=>∃k:Nat,k≤us.length∧i=.int .i64 k∧Below w.heap.size w wr) (fun i _=>us.length - (intOf i).toNat)
 case atStart=>exact ⟨0,Nat.zero_le _,rfl,Below.refl _ _⟩
 case round=>
  obtain⟨k,hk,rfl,hb⟩:=hrel
  by_cases hlt:k<us.length
  ·obtain⟨u,huk⟩:=some_of_lt hlt
   obtain⟨b1,o1,rfl,_,hl1,p0,p1,p2,p3,p4⟩:=h1.later (Keeps.of_below hb) k u huk
   obtain⟨b2,o2,rfl,_,hl2,q0,q1,q2,q3,q4⟩:=h2.later (Keeps.of_below hb) k u huk
   have hfu:=hf u (List.mem_of_getElem? huk)
   clear h1 h2 hf
   go_wp2_with fail
   go_region_held3 (fun w'=>w'.cell? ⟨b1,o1+k*5,none⟩=some (.int .i64 u.kind)∧w'.cell? ⟨b1,o1+k*5+1,none⟩=some (.int .i64 u.num)∧w'.cell? ⟨b1,o1+k*5+2,none⟩=some (.float .f64 u.flt)∧w'.cell? ⟨b1,o1+k*5+3,none⟩=some (.string u.str)∧w'.cell? ⟨b1,o1+k*5+4,none⟩=some (.int .i64 u.ref)∧w'.cell? ⟨b2,o2+k*5,none⟩=some (.int .i64 u.kind)∧w'.cell? ⟨b2,o2+k*5+1,none⟩=some (.int .i64 u.num)∧w'.cell? ⟨b2,o2+k*5+2,none⟩=some (.float .f64 u.flt)∧w'.cell? ⟨b2,o2+k*5+3,none⟩=some (.string u.str)∧w'.cell? ⟨b2,o2+k*5+4,none⟩=some (.int .i64 u.ref)) (go_keep)
    (first | (go_at_call 152;refine (eqValue_any u hfu _).mono ?_;rintro e w1 ⟨rfl,hw1⟩;have d00:=(hw1.cell (p:=⟨b1,o1+k*5,none⟩) hl1).trans p0;have d01:=(hw1.cell (p:=⟨b1,o1+k*5+1,none⟩) hl1).trans p1;have d02:=(hw1.cell (p:=⟨b1,o1+k*5+2,none⟩) hl1).trans p2;have d03:=(hw1.cell (p:=⟨b1,o1+k*5+3,none⟩) hl1).trans p3;have d04:=(hw1.cell (p:=⟨b1,o1+k*5+4,none⟩) hl1).trans p4;have d10:=(hw1.cell (p:=⟨b2,o2+k*5,none⟩) hl2).trans q0;have d11:=(hw1.cell (p:=⟨b2,o2+k*5+1,none⟩) hl2).trans q1;have d12:=(hw1.cell (p:=⟨b2,o2+k*5+2,none⟩) hl2).trans q2;have d13:=(hw1.cell (p:=⟨b2,o2+k*5+3,none⟩) hl2).trans q3;have d14:=(hw1.cell (p:=⟨b2,o2+k*5+4,none⟩) hl2).trans q4))
   have B1:=hb.drew.trans (hw1.mono hb.size)
   go_wp2_with fail
   go_roundw
   case rel=>exact ⟨k+1,by omega,by go_num,B1⟩
   case measure=>simp [intOf];omega
  ·go_wp2_with fail
   go_ret
   exact⟨rfl,hb⟩
set_option maxHeartbeats 400000 in
theorem eqIns_any (u:Nd) (w:World):Calls Tryz.prog 153 #[u.val,u.val] w fun e w'=>e=.returned (.bool true)∧Below w.heap.size w w':=by
 obtain⟨x0,x1,x2,x3,x4⟩:=u
 dsimp only [Nd.val]
 go_enter Tryz.func153,Tryz.ntmps153
 go_wp2_with fail
 go_ret
 refine⟨rfl,?_⟩
 repeat (first | exact Below.refl _ _ | refine Below.alloc ?_ (by simp;try omega) _)
set_option maxHeartbeats 400000 in
theorem eqInsS_any (ao bo:Option Addr) (c1 c2:Nat) (us:List Nd) (w:World) (hm:us.length≤1048576) (h1:InssAt 0 w ao us) (h2:InssAt 0 w bo us) :
  Calls Tryz.prog 127 #[.slice ao us.length c1,.slice bo us.length c2] w fun e w'=>e=.returned (.bool true)∧Below w.heap.size w w':=by
 go_enter Tryz.func127,Tryz.ntmps127
 go_wp2_with fail
 go_loopw [5] (fun i wr=>∃k:Nat,k≤us.length∧i=.int .i64 k∧Below w.heap.size w wr) (fun i _=>us.length - (intOf i).toNat)
 case atStart=>exact ⟨0,Nat.zero_le _,rfl,Below.refl _ _⟩
 case round=>
  obtain⟨k,hk,rfl,hb⟩:=hrel
  by_cases hlt:k<us.length
  ·obtain⟨u,huk⟩:=some_of_lt hlt
   obtain⟨b1,o1,rfl,_,hl1,p0,p1,p2,p3,p4⟩:=h1.later (Keeps.of_below hb) k u huk
   obtain⟨b2,o2,rfl,_,hl2,q0,q1,q2,q3,q4⟩:=h2.later (Keeps.of_below hb) k u huk
   clear h1 h2
   go_wp2_with fail
   go_region_held3 (fun w'=>w'.cell? ⟨b1,o1+k*5,none⟩=some (.int .i64 u.op)∧w'.cell? ⟨b1,o1+k*5+1,none⟩=some (.int .i64 u.a)∧w'.cell? ⟨b1,o1+k*5+2,none⟩=some (.int .i64 u.b)∧w'.cell? ⟨b1,o1+k*5+3,none⟩=some (.int .i64 u.c)∧w'.cell? ⟨b1,o1+k*5+4,none⟩=some (.int .i64 u.d)∧w'.cell? ⟨b2,o2+k*5,none⟩=some (.int .i64 u.op)∧w'.cell? ⟨b2,o2+k*5+1,none⟩=some (.int .i64 u.a)∧w'.cell? ⟨b2,o2+k*5+2,none⟩=some (.int .i64 u.b)∧w'.cell? ⟨b2,o2+k*5+3,none⟩=some (.int .i64 u.c)∧w'.cell? ⟨b2,o2+k*5+4,none⟩=some (.int .i64 u.d)) (go_keep)
    (first | (go_at_call 153;refine (eqIns_any u _).mono ?_;rintro e w1 ⟨rfl,hw1⟩;have d00:=(hw1.cell (p:=⟨b1,o1+k*5,none⟩) hl1).trans p0;have d01:=(hw1.cell (p:=⟨b1,o1+k*5+1,none⟩) hl1).trans p1;have d02:=(hw1.cell (p:=⟨b1,o1+k*5+2,none⟩) hl1).trans p2;have d03:=(hw1.cell (p:=⟨b1,o1+k*5+3,none⟩) hl1).trans p3;have d04:=(hw1.cell (p:=⟨b1,o1+k*5+4,none⟩) hl1).trans p4;have d10:=(hw1.cell (p:=⟨b2,o2+k*5,none⟩) hl2).trans q0;have d11:=(hw1.cell (p:=⟨b2,o2+k*5+1,none⟩) hl2).trans q1;have d12:=(hw1.cell (p:=⟨b2,o2+k*5+2,none⟩) hl2).trans q2;have d13:=(hw1.cell (p:=⟨b2,o2+k*5+3,none⟩) hl2).trans q3;have d14:=(hw1.cell (p:=⟨b2,o2+k*5+4,none⟩) hl2).trans q4))
   have B1:=hb.drew.trans (hw1.mono hb.size)
   go_wp2_with fail
   go_roundw
   case rel=>exact ⟨k+1,by omega,by go_num,B1⟩
   case measure=>simp [intOf];omega
  ·go_wp2_with fail
   go_ret
   exact⟨rfl,hb⟩
set_option maxHeartbeats 400000 in
theorem eqNamed_any (u:Md) (w:World):Calls Tryz.prog 154 #[u.val,u.val] w fun e w'=>e=.returned (.bool true)∧Below w.heap.size w w':=by
 obtain⟨x0,x1,x2,x3⟩:=u
 dsimp only [Md.val]
 go_enter Tryz.func154,Tryz.ntmps154
 go_wp2_with fail
 go_ret
 refine⟨rfl,?_⟩
 repeat (first | exact Below.refl _ _ | refine Below.alloc ?_ (by simp;try omega) _)
set_option maxHeartbeats 400000 in
theorem eqNamedS_any (ao bo:Option Addr) (c1 c2:Nat) (us:List Md) (w:World) (hm:us.length≤1048576) (h1:NamsAt 0 w ao us) (h2:NamsAt 0 w bo us) :
  Calls Tryz.prog 128 #[.slice ao us.length c1,.slice bo us.length c2] w fun e w'=>e=.returned (.bool true)∧Below w.heap.size w w':=by
 go_enter Tryz.func128,Tryz.ntmps128
 go_wp2_with fail
 go_loopw [5] (fun i wr=>∃k:Nat,k≤us.length∧i=.int .i64 k∧Below w.heap.size w wr) (fun i _=>us.length - (intOf i).toNat)
 case atStart=>exact ⟨0,Nat.zero_le _,rfl,Below.refl _ _⟩
 case round=>
  obtain⟨k,hk,rfl,hb⟩:=hrel
  by_cases hlt:k<us.length
  ·obtain⟨u,huk⟩:=some_of_lt hlt
   obtain⟨b1,o1,rfl,_,hl1,p0,p1,p2,p3⟩:=h1.later (Keeps.of_below hb) k u huk
   obtain⟨b2,o2,rfl,_,hl2,q0,q1,q2,q3⟩:=h2.later (Keeps.of_below hb) k u huk
   clear h1 h2
   go_wp2_with fail
   go_region_held3 (fun w'=>w'.cell? ⟨b1,o1+k*4,none⟩=some (.string u.name)∧w'.cell? ⟨b1,o1+k*4+1,none⟩=some (.int .i64 u.reg)∧w'.cell? ⟨b1,o1+k*4+2,none⟩=some (.int .i64 u.fr)∧w'.cell? ⟨b1,o1+k*4+3,none⟩=some (.int .i64 u.to)∧w'.cell? ⟨b2,o2+k*4,none⟩=some (.string u.name)∧w'.cell? ⟨b2,o2+k*4+1,none⟩=some (.int .i64 u.reg)∧w'.cell? ⟨b2,o2+k*4+2,none⟩=some (.int .i64 u.fr)∧w'.cell? ⟨b2,o2+k*4+3,none⟩=some (.int .i64 u.to)) (go_keep)
    (first | (go_at_call 154;refine (eqNamed_any u _).mono ?_;rintro e w1 ⟨rfl,hw1⟩;have d00:=(hw1.cell (p:=⟨b1,o1+k*4,none⟩) hl1).trans p0;have d01:=(hw1.cell (p:=⟨b1,o1+k*4+1,none⟩) hl1).trans p1;have d02:=(hw1.cell (p:=⟨b1,o1+k*4+2,none⟩) hl1).trans p2;have d03:=(hw1.cell (p:=⟨b1,o1+k*4+3,none⟩) hl1).trans p3;have d10:=(hw1.cell (p:=⟨b2,o2+k*4,none⟩) hl2).trans q0;have d11:=(hw1.cell (p:=⟨b2,o2+k*4+1,none⟩) hl2).trans q1;have d12:=(hw1.cell (p:=⟨b2,o2+k*4+2,none⟩) hl2).trans q2;have d13:=(hw1.cell (p:=⟨b2,o2+k*4+3,none⟩) hl2).trans q3))
   have B1:=hb.drew.trans (hw1.mono hb.size)
   go_wp2_with fail
   go_roundw
   case rel=>exact ⟨k+1,by omega,by go_num,B1⟩
   case measure=>simp [intOf];omega
  ·go_wp2_with fail
   go_ret
   exact⟨rfl,hb⟩
end Go.Proofs.YtaakadmnhpboiaaGreatDoor
namespace Go.Proofs.YtaakadmnhpboiaaGreatDoor
open Go.RowKit Go.Deep
def Flts (vs:List Vd):Prop:=∀u ∈ vs,u.flt<18446744073709551616
set_option maxHeartbeats 2000000 in
theorem eqProto_any (p:Pd) (h g:Ph) (w:World) (hz:PFew p) (hf:Flts p.consts) (hp:PIn 0 w h p) (gp:PIn 0 w g p) :
  Calls Tryz.prog 67 #[.agg (p.cells h),.agg (p.cells g)] w fun e w'=>e=.returned (.bool true)∧Below w.heap.size w w':=by
 obtain⟨z1,z2,z3,z4⟩:=hz
 obtain⟨i1,i2,i3,i4⟩:=hp
 obtain⟨j1,j2,j3,j4⟩:=gp
 obtain⟨nm,ln,pa,re,rg,us,cs,is,ms⟩:=p
 obtain⟨uo,uc,co,cc,io,ic,no,nc⟩:=h
 obtain⟨uo',uc',co',cc',io',ic',no',nc'⟩:=g
 dsimp only [Pd.cells] at *
 have hb2:∀o1 o2,Below w.heap.size w ((w.alloc o1).alloc o2):=fun o1 o2=>((Below.refl _ _).alloc (Nat.le_refl _) o1).alloc (by simp) o2
 go_enter Tryz.func67,Tryz.ntmps67
 go_wp2_with fail
 refine (eqUpS_any uo uo' uc uc' us _ z1 (i1.later (Keeps.of_below (hb2 _ _))) (j1.later (Keeps.of_below (hb2 _ _)))).mono ?_
 rintro e w1 ⟨rfl,hw1⟩
 have B1:=(hb2 _ _).trans (hw1.mono (by simp;omega))
 have X0:=(Blk.new w #[.string nm,.int .i64 ln,.int .i64 pa,.bool re,.int .i64 rg,.slice uo us.length uc,.slice co cs.length cc,.slice io is.length ic,.slice no ms.length nc] 57).alloc (.cells #[.string nm,.int .i64 ln,.int .i64 pa,.bool re,.int .i64 rg,.slice uo' us.length uc',.slice co' cs.length cc',.slice io' is.length ic',.slice no' ms.length nc'] 57)
 have Y0:=Blk.new (w.alloc (.cells #[.string nm,.int .i64 ln,.int .i64 pa,.bool re,.int .i64 rg,.slice uo us.length uc,.slice co cs.length cc,.slice io is.length ic,.slice no ms.length nc] 57)) #[.string nm,.int .i64 ln,.int .i64 pa,.bool re,.int .i64 rg,.slice uo' us.length uc',.slice co' cs.length cc',.slice io' is.length ic',.slice no' ms.length nc'] 57
 rw [nblk_alloc] at Y0
 have X1:=X0.later hw1
 have Y1:=Y0.later hw1
 clear X0 Y0 hw1
 have x1:=X1.cell
 have y1:=Y1.cell
 go_wp2_with fail
 refine (eqValueS_any co co' cc cc' cs _ z2 hf (i2.later (Keeps.of_below B1)) (j2.later (Keeps.of_below B1))).mono ?_
 rintro e w2 ⟨rfl,hw2⟩
 have B2:=B1.trans (hw2.mono B1.size)
 have X2:=X1.later hw2
 have Y2:=Y1.later hw2
 clear X1 Y1 hw2 x1 y1
 have x1:=X2.cell
 have y1:=Y2.cell
 go_wp2_with fail
 refine (eqInsS_any io io' ic ic' is _ z3 (i3.later (Keeps.of_below B2)) (j3.later (Keeps.of_below B2))).mono ?_
 rintro e w3 ⟨rfl,hw3⟩
 have B3:=B2.trans (hw3.mono B2.size)
 have X3:=X2.later hw3
 have Y3:=Y2.later hw3
 clear X2 Y2 hw3 x1 y1
 have x1:=X3.cell
 have y1:=Y3.cell
 go_wp2_with fail
 refine (eqNamedS_any no no' nc nc' ms _ z4 (i4.later (Keeps.of_below B3)) (j4.later (Keeps.of_below B3))).mono ?_
 rintro e w4 ⟨rfl,hw4⟩
 have B4:=B3.trans (hw4.mono B3.size)
 clear x1 y1
 go_wp2_with fail
 go_ret
 exact⟨rfl,B4⟩
set_option maxHeartbeats 1000000 in
theorem eqProtoS_any (ao bo:Option Addr) (c1 c2:Nat) (us:List Pd) (w:World) (hm:us.length≤1048576) (hz:∀p ∈ us,PFew p) (hf:∀p ∈ us,Flts p.consts) (h1:ProtosAt 0 w ao us) (h2:ProtosAt 0 w bo us) :
  Calls Tryz.prog 26 #[.slice ao us.length c1,.slice bo us.length c2] w fun e w'=>e=.returned (.bool true)∧Below w.heap.size w w':=by
 go_enter Tryz.func26,Tryz.ntmps26
 go_wp2_with fail
 go_loopw [5] (fun i wr=>∃k:Nat,k≤us.length∧i=.int .i64 k∧Below w.heap.size w wr) (fun i _=>us.length - (intOf i).toNat)
 case atStart=>exact ⟨0,Nat.zero_le _,rfl,Below.refl _ _⟩
 case round=>
  obtain⟨k,hk,rfl,hb⟩:=hrel
  by_cases hlt:k<us.length
  ·obtain⟨u,huk⟩:=some_of_lt hlt
   obtain⟨b1,o1,rfl,_,hl1,x,n1,i1⟩:=h1.later (Keeps.of_below hb) k u huk
   obtain⟨b2,o2,rfl,_,hl2,y,n2,i2⟩:=h2.later (Keeps.of_below hb) k u huk
   have hfu:=hf u (List.mem_of_getElem? huk)
   have hzu:=hz u (List.mem_of_getElem? huk)
   obtain⟨p0,p1,p2,p3,p4,p5,p6,p7,p8⟩:=id n1
   obtain⟨q0,q1,q2,q3,q4,q5,q6,q7,q8⟩:=id n2
   clear h1 h2 hf hz
   have i1d:PIn 0 wr.drew x u:=i1.later (Keeps.of_below (Below.refl _ _).drew)
   have i2d:PIn 0 wr.drew y u:=i2.later (Keeps.of_below (Below.refl _ _).drew)
   have n1d:NineAt wr.drew b1 (o1+k*9) x u:=n1
   have n2d:NineAt wr.drew b2 (o2+k*9) y u:=n2
   go_wp2_with fail
   go_region_held3 (fun w'=>w'.cell? ⟨b1,o1+k*9,none⟩=some (.string u.name)∧w'.cell? ⟨b1,o1+k*9+1,none⟩=some (.int .i64 u.line)∧w'.cell? ⟨b1,o1+k*9+2,none⟩=some (.int .i64 u.params)∧w'.cell? ⟨b1,o1+k*9+3,none⟩=some (.bool u.rest)∧w'.cell? ⟨b1,o1+k*9+4,none⟩=some (.int .i64 u.regs)∧w'.cell? ⟨b1,o1+k*9+5,none⟩=some (.slice x.uo u.ups.length x.uc)∧w'.cell? ⟨b1,o1+k*9+6,none⟩=some (.slice x.co u.consts.length x.cc)∧w'.cell? ⟨b1,o1+k*9+7,none⟩=some (.slice x.io u.ins.length x.ic)∧w'.cell? ⟨b1,o1+k*9+8,none⟩=some (.slice x.no u.named.length x.nc)∧w'.cell? ⟨b2,o2+k*9,none⟩=some (.string u.name)∧w'.cell? ⟨b2,o2+k*9+1,none⟩=some (.int .i64 u.line)∧w'.cell? ⟨b2,o2+k*9+2,none⟩=some (.int .i64 u.params)∧w'.cell? ⟨b2,o2+k*9+3,none⟩=some (.bool u.rest)∧w'.cell? ⟨b2,o2+k*9+4,none⟩=some (.int .i64 u.regs)∧w'.cell? ⟨b2,o2+k*9+5,none⟩=some (.slice y.uo u.ups.length y.uc)∧w'.cell? ⟨b2,o2+k*9+6,none⟩=some (.slice y.co u.consts.length y.cc)∧w'.cell? ⟨b2,o2+k*9+7,none⟩=some (.slice y.io u.ins.length y.ic)∧w'.cell? ⟨b2,o2+k*9+8,none⟩=some (.slice y.no u.named.length y.nc)) (go_keep)
    (first | (go_at_call 67;refine (eqProto_any u x y wr.drew hzu hfu i1d i2d).mono ?_;rintro e w1 ⟨rfl,hw1⟩;obtain ⟨d0,d1,d2,d3,d4,d5,d6,d7,d8⟩:=n1d.later hw1 hl1;obtain ⟨e0,e1,e2,e3,e4,e5,e6,e7,e8⟩:=n2d.later hw1 hl2))
   have B1:=hb.drew.trans (hw1.mono hb.size)
   go_wp2_with fail
   go_roundw
   case rel=>exact ⟨k+1,by omega,by go_num,B1⟩
   case measure=>simp [intOf];omega
  ·go_wp2_with fail
   go_ret
   exact⟨rfl,hb⟩
set_option maxHeartbeats 400000 in
theorem eqCode_any (ao bo:Option Addr) (c1 c2:Nat) (us:List Pd) (w:World) (hm:us.length≤1048576) (hz:∀p ∈ us,PFew p) (hf:∀p ∈ us,Flts p.consts) (h1:ProtosAt 0 w ao us) (h2:ProtosAt 0 w bo us) :
  Calls Tryz.prog 11 #[.agg #[.slice ao us.length c1],.agg #[.slice bo us.length c2]] w fun e w'=>e=.returned (.bool true)∧Below w.heap.size w w':=by
 have hb2:∀o1 o2,Below w.heap.size w ((w.alloc o1).alloc o2):=fun o1 o2=>((Below.refl _ _).alloc (Nat.le_refl _) o1).alloc (by simp) o2
 go_enter Tryz.func11,Tryz.ntmps11
 go_wp2_with fail
 refine (eqProtoS_any ao bo c1 c2 us _ hm hz hf (h1.later (Keeps.of_below (hb2 _ _))) (h2.later (Keeps.of_below (hb2 _ _)))).mono ?_
 rintro e w1 ⟨rfl,hw1⟩
 have B1:=(hb2 _ _).trans (hw1.mono (by simp;omega))
 go_wp2_with fail
 go_ret
 exact⟨rfl,B1⟩
set_option maxHeartbeats 400000 in
theorem eqFault_any (c p a:Int) (w:World) :
  Calls Tryz.prog 10 #[.agg #[.int .i64 c,.int .i64 p,.int .i64 a],.agg #[.int .i64 c,.int .i64 p,.int .i64 a]] w fun e w'=>e=.returned (.bool true)∧Below w.heap.size w w':=by
 go_enter Tryz.func10,Tryz.ntmps10
 go_wp2_with fail
 go_ret
 refine⟨rfl,?_⟩
 repeat (first | exact Below.refl _ _ | refine Below.alloc ?_ (by simp;try omega) _)
def inR (x lo hi:Int):Bool:=decide (lo≤x) && decide (x≤hi)
set_option maxHeartbeats 400000 in
theorem l3in_any (x lo hi:Int) (w:World) :
  Calls Tryz.prog 94 #[.int .i64 x,.int .i64 lo,.int .i64 hi] w fun e w'=>e=.returned (.bool (inR x lo hi))∧w'=w:=by
 go_enter Tryz.func94,Tryz.ntmps94
 go_wp2
 ·go_ret
  exact⟨ret_bool (by simp [inR, *]),rfl⟩
 ·go_ret
  exact⟨ret_bool (by simp [inR];omega),rfl⟩
set_option maxHeartbeats 400000 in
theorem within_any (x lo hi:Int) (w:World) :
  Calls Tryz.prog 104 #[.int .i64 x,.int .i64 lo,.int .i64 hi] w fun e w'=>e=.returned (.bool (inR x lo hi))∧w'=w:=by
 go_enter Tryz.func104,Tryz.ntmps104
 go_wp2
 ·go_ret
  exact⟨ret_bool (by simp [inR, *]),rfl⟩
 ·go_ret
  exact⟨ret_bool (by simp [inR];omega),rfl⟩
def most (p:Pd):Int:=if p.rest then wrap64 (p.regs - 1) else p.regs
def headOk (p:Pd) (i:Nat):Bool:=
 decide (p.name.size≤40) && inR p.line 0 100000 && inR p.regs 0 250 && inR p.params 0 (most p) && decide (p.ups.length≤250) && decide (p.consts.length≤500) && (decide (0<i) || (p.params == 0 && (p.ups.length:Int) == 0))
theorem ret_ib {k:Int} {a b:Bool} (h:a=b):Ending.returned (.tuple #[.int .i64 k,.bool a])=.returned (.tuple #[.int .i64 k,.bool b]):=by rw [h]
set_option maxHeartbeats 2000000 in
theorem l3headOk_any (ao:Option Addr) (cap:Nat) (ps:List Pd) (i:Nat) (p:Pd) (w:World) (hi:ps[i]?=some p) (hz:PFew p) (_hm:ps.length≤1048576) (hv:ProtosAt 0 w ao ps) :
  Calls Tryz.prog 90 #[.agg #[.slice ao ps.length cap],.int .i64 i] w fun e w'=>e=.returned (.bool (headOk p i))∧Below w.heap.size w w':=by
 have hlt:i<ps.length:=(List.getElem?_eq_some_iff.1 hi).1
 have hb1:∀o,Below w.heap.size w (w.alloc o):=fun o=>(Below.refl _ _).alloc (Nat.le_refl _) o
 obtain⟨b,off,rfl,_,hbl,h,n1,i1⟩:=hv i p hi
 clear hv hi
 obtain⟨z1,z2,z3,z4⟩:=hz
 obtain⟨nm,ln,pa,re,rg,us,cs,is,ms⟩:=p
 obtain⟨uo,uc,co,cc,io,ic,no,nc⟩:=h
 obtain⟨p0,p1,p2,p3,p4,p5,p6,p7,p8⟩:=n1
 dsimp only at *
 go_enter Tryz.func90,Tryz.ntmps90
 go_wp2_with (go_at_call 94;refine (l3in_any _ _ _ _).mono ?_;rintro e w' ⟨rfl,rfl⟩)
 all_goals
  go_ret
  refine⟨ret_bool ?_,(hb1 _).alloc (by simp) _⟩
  clear p0 p1 p2 p3 p4 p5 p6 p7 p8 hb1
  first
  | (simp_all [headOk,most];done)
  | (simp_all [headOk,most];omega)
set_option maxHeartbeats 2000000 in
theorem checkHead_any (ao:Option Addr) (cap:Nat) (ps:List Pd) (i:Nat) (p:Pd) (w:World) (hi:ps[i]?=some p) (hz:PFew p) (_hm:ps.length≤1048576) (hv:ProtosAt 0 w ao ps) :
  Calls Tryz.prog 56 #[.agg #[.slice ao ps.length cap],.int .i64 i] w fun e w'=>e=.returned (.tuple #[.int .i64 0,.bool (headOk p i)])∧Below w.heap.size w w':=by
 have hlt:i<ps.length:=(List.getElem?_eq_some_iff.1 hi).1
 have hb1:∀o,Below w.heap.size w (w.alloc o):=fun o=>(Below.refl _ _).alloc (Nat.le_refl _) o
 obtain⟨b,off,rfl,_,hbl,h,n1,i1⟩:=hv i p hi
 clear hv hi
 obtain⟨z1,z2,z3,z4⟩:=hz
 obtain⟨nm,ln,pa,re,rg,us,cs,is,ms⟩:=p
 obtain⟨uo,uc,co,cc,io,ic,no,nc⟩:=h
 obtain⟨p0,p1,p2,p3,p4,p5,p6,p7,p8⟩:=n1
 dsimp only at *
 go_enter Tryz.func56,Tryz.ntmps56
 go_wp2_with (go_at_call 104;refine (within_any _ _ _ _).mono ?_;rintro e w' ⟨rfl,rfl⟩)
 all_goals
  go_ret2
  refine⟨ret_ib ?_,(hb1 _).alloc (by simp) _⟩
  clear p0 p1 p2 p3 p4 p5 p6 p7 p8 hb1
  first
  | (simp_all [headOk,most];done)
  | (simp_all [headOk,most];omega)
attribute [local go_sem] run_store_float
def fz (x:Nat):Bool:=FloatKind.f64.format.order x 0 == some .eq
def zeroB (v:Vd) (n f s r:Bool):Bool:=(n || v.num == 0) && (f || fz v.flt) && (s || v.str.toList.isEmpty) && (r || v.ref == 0)
set_option maxHeartbeats 1000000 in
theorem l1zero_any (v:Vd) (n f s r:Bool) (w:World) :
  Calls Tryz.prog 162 #[v.val,.bool n,.bool f,.bool s,.bool r] w fun e w'=>e=.returned (.bool (zeroB v n f s r))∧Below w.heap.size w w':=by
 obtain⟨x0,x1,x2,x3,x4⟩:=v
 dsimp only [Vd.val]
 go_enter Tryz.func162,Tryz.ntmps162
 go_wp2_with fail
 all_goals
  go_ret
  refine⟨ret_bool ?_,(Below.refl _ _).alloc (Nat.le_refl _) _⟩
  simp_all [zeroB,fz]
def validB (v:Vd):Bool:=
 if v.kind=0 then zeroB v false false false false
 else if v.kind=1 then zeroB v true false false false && (v.num == 0 || v.num == 1)
 else if v.kind=2 then zeroB v true false false false
 else if v.kind=3 then zeroB v false true false false
 else if v.kind=4 then zeroB v false false true false && decide ((v.str.size:Int)≤4000)
 else if v.kind=5∨v.kind=6∨v.kind=7 then zeroB v false false false true && decide (0≤v.ref)
 else if v.kind=8 then zeroB v true false false false && (decide (0≤v.num) && decide (v.num<15))
 else false
theorem kinds (k:Int):k=0∨k=1∨k=2∨k=3∨k=4∨k=5∨k=6∨k=7∨k=8∨(k≠0∧k≠1∧k≠2∧k≠3∧k≠4∧k≠5∧k≠6∧k≠7∧k≠8):=by omega
set_option maxHeartbeats 2000000 in
theorem ValueOk_any (v:Vd) (w:World) :
  Calls Tryz.prog 136 #[v.val] w fun e w'=>e=.returned (.bool (validB v))∧Below w.heap.size w w':=by
 obtain⟨x0,x1,x2,x3,x4⟩:=v
 have hl:∀(n f s r:Bool) (w:World),Hid (Calls Tryz.prog 162 #[.agg #[.int .i64 x0,.int .i64 x1,.float .f64 x2,.string x3,.int .i64 x4],.bool n,.bool f,.bool s,.bool r] w fun e w'=>e=.returned (.bool (zeroB ⟨x0,x1,x2,x3,x4⟩ n f s r))∧Below w.heap.size w w'):=fun n f s r w=>l1zero_any ⟨x0,x1,x2,x3,x4⟩ n f s r w
 have hb1:∀o,Below w.heap.size w (w.alloc o):=fun o=>(Below.refl _ _).alloc (Nat.le_refl _) o
 have X0:=Blk.new w #[.int .i64 x0,.int .i64 x1,.float .f64 x2,.string x3,.int .i64 x4] 153
 dsimp only [Vd.val]
 rcases kinds x0 with rfl | rfl | rfl | rfl | rfl | rfl | rfl | rfl | rfl | hk
 rotate_right
 ·obtain⟨h0,h1,h2,h3,h4,h5,h6,h7,h8⟩:=hk
  have k0:(x0 == 0)=false:=by simpa using h0
  have k1:(x0 == 1)=false:=by simpa using h1
  have k2:(x0 == 2)=false:=by simpa using h2
  have k3:(x0 == 3)=false:=by simpa using h3
  have k4:(x0 == 4)=false:=by simpa using h4
  have k5:(x0 == 5)=false:=by simpa using h5
  have k6:(x0 == 6)=false:=by simpa using h6
  have k7:(x0 == 7)=false:=by simpa using h7
  have k8:(x0 == 8)=false:=by simpa using h8
  go_enter Tryz.func136,Tryz.ntmps136
  go_wp2_with fail
  go_ret
  exact⟨ret_bool (by simp [validB,h0,h1,h2,h3,h4,h5,h6,h7,h8]),hb1 _⟩
 all_goals
  go_enter Tryz.func136,Tryz.ntmps136
  go_wp2_with (go_at_call 162;refine (hl _ _ _ _ _).out.mono ?_;rintro e w1 ⟨rfl,hw1⟩;have y1:=(X0.later hw1).cell)
  all_goals
   go_ret
   refine⟨ret_bool ?_,(hb1 _).trans (hw1.mono (by simp))⟩
   clear y1 X0 hl hb1 hw1
   first | (simp_all [validB];done) | (simp_all [validB];omega)
end Go.Proofs.YtaakadmnhpboiaaGreatDoor
