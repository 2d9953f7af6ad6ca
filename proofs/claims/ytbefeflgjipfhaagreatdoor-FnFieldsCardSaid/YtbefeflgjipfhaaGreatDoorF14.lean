import Derived.Test.YtbefeflgjipfhaaGreatDoorF13
set_option maxRecDepth 8000
set_option maxHeartbeats 4000000
namespace Go.Proofs.YtbefeflgjipfhaaGreatDoor
open Go.Deep Go.Proofs.Tryz Go.RowKit
attribute [local go_sem] A7 vi
theorem A9y (x y:Int) (w:World) (h1:0<=x) (h2:x<=1000000) (hy:0<y) (hy2:y<=1000000):Calls prog 338 #[.int .i64 x,.int .i64 y] w fun e w'=>e=.returned (.int .i64 (x / y))/\w'=w:=by
 have hd:x.tdiv y=x / y:=Int.tdiv_eq_ediv_of_nonneg h1
 have hm:x.tmod y=x%y:=Int.tmod_eq_emod_of_nonneg h1
 have q0:0<=x / y:=Int.ediv_nonneg h1 (by omega)
 have q1:x / y<=x:=Int.ediv_le_self _ h1
 have hw:IntKind.i64.wrap (x / y)=x / y:=wr (by omega) (by omega)
 have m0:0<=x%y:=Int.emod_nonneg _ (by omega)
 have m1:x%y<y:=Int.emod_lt_of_pos _ hy
 have hw2:IntKind.i64.wrap (x%y)=x%y:=wr (by omega) (by omega)
 have y0:¬y=0:=by omega
 have x0:¬x<0:=by omega
 have yn:¬y<0:=by omega
 clear q0 q1 m0 m1
 go_enter func338,ntmps338
 go_wp2_with fail
 all_goals go_ret
 all_goals exact⟨rfl,rfl⟩
theorem Vq (x y:Int) (w:World) (h1:0<=x) (h2:x<=1000000) (hy:0<y) (hy2:y<=1000000):Calls prog 277 #[.int .i64 6,.int .i64 x,.int .i64 y] w fun e w'=>e=.returned (.agg #[.int .i64 0,.int .i64 2,.int .i64 (x%y),.float .f64 0,.string ByteArray.empty,.int .i64 0])/\Below w.heap.size w w':=by
 have q0:0<=x / y:=Int.ediv_nonneg h1 (by omega)
 have q1:y*(x / y)<=x:=Int.mul_ediv_self_le (by omega)
 have q2:0<=y*(x / y):=Int.mul_nonneg (by omega) q0
 have hm:x-y*(x / y)=x%y:=by have:=Int.mul_ediv_add_emod x y;omega
 have w1:IntKind.i64.wrap (y*(x / y))=y*(x / y):=wr (by omega) (by omega)
 have m0:0<=x%y:=Int.emod_nonneg _ (by omega)
 have w2:IntKind.i64.wrap (x-y*(x / y))=x%y:=by rw[hm];exact wr (by omega) (by have:=Int.emod_lt_of_pos x hy;omega)
 have y0:¬y=0:=by omega
 have X:=Blk.new w vdz 216
 have B0:Below w.heap.size w (w.alloc (.cells vdz 216)):=(Below.refl _ _).alloc (Nat.le_refl _) _
 clear q0 q1 q2 hm m0
 go_enter func277,ntmps277
 go_wp2_with fail
 refine(A9y x y _ h1 h2 hy hy2).mono ?_
 rintro e w3 ⟨rfl,rfl⟩
 go_wp2_with fail
 refine(Gu _ _).mono ?_
 rintro e w1 ⟨rfl,hw1⟩
 have X1:=X.l hw1
 have x1:=X1.cell
 have f1:=X1.frozen
 go_wp2_with fail
 have R:=(((((X1.set 0 (.int .i64 0)).set 1 (.int .i64 2)).set 2 (.int .i64 (x%y))).set 3 (.float .f64 0)).set 4 (.string ByteArray.empty)).set 5 (.int .i64 0)
 have r:=R.cell
 exact bodyPost_ret (v:=.agg #[.int .i64 0,.int .i64 2,.int .i64 (x%y),.float .f64 0,.string ByteArray.empty,.int .i64 0]) (by simp[results,results277,go_sem,r]) rfl ⟨rfl,(((((bl2 B0 hw1).setCell (Nat.le_refl _) _).setCell (Nat.le_refl _) _).setCell (Nat.le_refl _) _).setCell (Nat.le_refl _) _).setCell (Nat.le_refl _) _ |>.setCell (Nat.le_refl _) _⟩
theorem Qh (x y:Int) (w:World) (h1:0<=x) (h2:x<=1000000) (hy:0<y) (hy2:y<=1000000):Calls prog 216 #[.int .i64 6,.agg (vi x),.agg (vi y)] w fun e w'=>e=.returned (.agg #[.int .i64 0,.int .i64 2,.int .i64 (x%y),.float .f64 0,.string ByteArray.empty,.int .i64 0])/\Below w.heap.size w w':=by
 have B0:Below w.heap.size w (((w.alloc (.cells (vi x) 52)).alloc (.cells (vi y) 52)).alloc (.cells vdz 216)):=(((Below.refl _ _).alloc (Nat.le_refl _) _).alloc (by simp) _).alloc (by simp;omega) _
 have X:=((Blk.new w (vi x) 52).alloc (.cells (vi y) 52)).alloc (.cells vdz 216)
 have Y:=(nb (vi y) 52 (W:=w.alloc (.cells (vi x) 52)) (n:=w.heap.size+1) (by simp)).alloc (.cells vdz 216)
 have Z:=nb vdz 216 (W:=(w.alloc (.cells (vi x) 52)).alloc (.cells (vi y) 52)) (n:=w.heap.size+1+1) (by simp)
 go_enter func216,ntmps216
 go_wp2_with fail
 refine(Gt x y _).mono ?_
 rintro e w1 ⟨rfl,hw1⟩
 have X1:=X.l hw1
 have Y1:=Y.l hw1
 have Z1:=Z.l hw1
 have B1:=bl2 B0 hw1
 clear X Y Z B0 hw1
 have c1:=X1.cell
 have c2:=Y1.cell
 go_wp2_with fail
 refine(Vq x y _ h1 h2 hy hy2).mono ?_
 rintro e w2 ⟨rfl,hw2⟩
 have Z2:=Z1.l hw2
 have z:=Z2.cell
 have f:=Z2.frozen
 have B2:=bl2 B1 hw2
 clear X1 Y1 Z1 B1 hw2 c1 c2
 go_wp2_with fail
 have R:=(((((Z2.set 0 (.int .i64 0)).set 1 (.int .i64 2)).set 2 (.int .i64 (x%y))).set 3 (.float .f64 0)).set 4 (.string ByteArray.empty)).set 5 (.int .i64 0)
 have r:=R.cell
 exact bodyPost_ret (v:=.agg #[.int .i64 0,.int .i64 2,.int .i64 (x%y),.float .f64 0,.string ByteArray.empty,.int .i64 0]) (by simp[results,results216,go_sem,r]) rfl ⟨rfl,((((B2.setCell (by simp;omega) _).setCell (by simp;omega) _).setCell (by simp;omega) _).setCell (by simp;omega) _).setCell (by simp;omega) _ |>.setCell (by simp;omega) _⟩
theorem A0j (x y:Int) (w:World) (h1:0<=x) (h2:x<=1000000) (hy:0<y) (hy2:y<=1000000):Calls prog 154 #[.int .i64 6,.agg (vi x),.agg (vi y)] w fun e w'=>e=.returned (.agg #[.int .i64 0,.int .i64 2,.int .i64 (x%y),.float .f64 0,.string ByteArray.empty,.int .i64 0])/\Below w.heap.size w w':=by
 have HV:Hid (∀(z:Int) W,Calls prog 212 #[.agg (vi z)] W fun e w'=>e=.returned (.bool true)/\Below W.heap.size W w'):=fun z W=>(Dz ⟨2,z,0,ByteArray.empty,0⟩ W).mono (by rintro e w' ⟨rfl,h⟩;exact⟨Ac (by kernel_rfl),h⟩)
 have B0:Below w.heap.size w (((w.alloc (.cells (vi x) 52)).alloc (.cells (vi y) 52)).alloc (.cells vdz 216)):=(((Below.refl _ _).alloc (Nat.le_refl _) _).alloc (by simp) _).alloc (by simp;omega) _
 have X:=((Blk.new w (vi x) 52).alloc (.cells (vi y) 52)).alloc (.cells vdz 216)
 have Y:=(nb (vi y) 52 (W:=w.alloc (.cells (vi x) 52)) (n:=w.heap.size+1) (by simp)).alloc (.cells vdz 216)
 have Z:=nb vdz 216 (W:=(w.alloc (.cells (vi x) 52)).alloc (.cells (vi y) 52)) (n:=w.heap.size+1+1) (by simp)
 go_enter func154,ntmps154
 go_wp2_with fail
 refine(HV.out x _).mono ?_
 rintro e w1 ⟨rfl,hw1⟩
 have X1:=X.l hw1
 have Y1:=Y.l hw1
 have Z1:=Z.l hw1
 have B1:=bl2 B0 hw1
 clear X Y Z B0 hw1
 have c2:=Y1.cell
 go_wp2_with fail
 refine(HV.out y _).mono ?_
 rintro e w2 ⟨rfl,hw2⟩
 have X2:=X1.l hw2
 have Y2:=Y1.l hw2
 have Z2:=Z1.l hw2
 have B2:=bl2 B1 hw2
 clear X1 Y1 Z1 B1 hw2 c2
 go_wp2_with fail
 refine(Bn 6 1 6 _).mono ?_
 rintro e w3 ⟨rfl,rfl⟩
 have c1:=X2.cell
 have hi:inR 6 1 6=true:=by decide
 go_wp2_with fail
 refine(Cq x _).mono ?_
 rintro e w4 ⟨rfl,hw4⟩
 have X4:=X2.l hw4
 have Y4:=Y2.l hw4
 have Z4:=Z2.l hw4
 have B4:=bl2 B2 hw4
 clear X2 Y2 Z2 B2 hw4 c1
 have c1:=Y4.cell
 go_wp2_with fail
 refine(Cq y _).mono ?_
 rintro e w5 ⟨rfl,hw5⟩
 have X5:=X4.l hw5
 have Y5:=Y4.l hw5
 have Z5:=Z4.l hw5
 have B5:=bl2 B4 hw5
 clear X4 Y4 Z4 B4 hw5 c1
 have c1:=X5.cell
 have c2:=Y5.cell
 go_wp2_with fail
 refine(Qh x y _ h1 h2 hy hy2).mono ?_
 rintro e w6 ⟨rfl,hw6⟩
 have Z6:=Z5.l hw6
 have z:=Z6.cell
 have f:=Z6.frozen
 have B6:=bl2 B5 hw6
 clear X5 Y5 Z5 B5 hw6 c1 c2
 go_wp2_with fail
 have R:=(((((Z6.set 0 (.int .i64 0)).set 1 (.int .i64 2)).set 2 (.int .i64 (x%y))).set 3 (.float .f64 0)).set 4 (.string ByteArray.empty)).set 5 (.int .i64 0)
 have r:=R.cell
 exact bodyPost_ret (v:=.agg #[.int .i64 0,.int .i64 2,.int .i64 (x%y),.float .f64 0,.string ByteArray.empty,.int .i64 0]) (by simp[results,results154,go_sem,r]) rfl ⟨rfl,((((B6.setCell (by simp;omega) _).setCell (by simp;omega) _).setCell (by simp;omega) _).setCell (by simp;omega) _).setCell (by simp;omega) _ |>.setCell (by simp;omega) _⟩
def bi (b:Bool):Int:=if b then 1 else 0
theorem Sd (b:Bool) (w:World):Calls prog 171 #[.bool b] w fun e w'=>e=.returned (.agg (va 1 (bi b) 0 ByteArray.empty 0))/\Below w.heap.size w w':=by
 cases b
 ·go_enter func171,ntmps171
  go_wp2_with fail
  exact bodyPost_ret (v:=.agg (va 1 0 0 ByteArray.empty 0)) (by simp[results,results171,go_sem];rfl) rfl ⟨rfl,(Below.refl _ _).alloc (Nat.le_refl _) _⟩
 ·go_enter func171,ntmps171
  go_wp2_with fail
  exact bodyPost_ret (v:=.agg (va 1 1 0 ByteArray.empty 0)) (by simp[results,results171,go_sem];rfl) rfl ⟨rfl,(Below.refl _ _).alloc (Nat.le_refl _) _⟩
theorem A6t (x y:Int) (w:World):Calls prog 211 #[.agg (vi x),.agg (vi y)] w fun e w'=>e=.returned (.bool (decide (x=y)))/\Below w.heap.size w w':=by
 have HV:Hid (∀(z:Int) W,Calls prog 212 #[.agg (vi z)] W fun e w'=>e=.returned (.bool true)/\Below W.heap.size W w'):=fun z W=>(Dz ⟨2,z,0,ByteArray.empty,0⟩ W).mono (by rintro e w' ⟨rfl,h⟩;exact⟨Ac (by kernel_rfl),h⟩)
 have B0:Below w.heap.size w ((w.alloc (.cells (vi x) 52)).alloc (.cells (vi y) 52)):=(((Below.refl _ _).alloc (Nat.le_refl _) _).alloc (by simp) _)
 have X:=((Blk.new w (vi x) 52).alloc (.cells (vi y) 52))
 have Y:=Blk.new1 w (.cells (vi x) 52) (vi y) 52
 go_enter func211,ntmps211
 go_wp2_with fail
 refine(HV.out x _).mono ?_
 rintro e w1 ⟨rfl,hw1⟩
 have X1:=X.l hw1
 have Y1:=Y.l hw1
 have B1:=bl2 B0 hw1
 clear X Y B0 hw1
 have c2:=Y1.cell
 go_wp2_with fail
 refine(HV.out y _).mono ?_
 rintro e w2 ⟨rfl,hw2⟩
 have X2:=X1.l hw2
 have Y2:=Y1.l hw2
 have B2:=bl2 B1 hw2
 clear X1 Y1 B1 hw2 c2
 have c1:=X2.cell
 go_wp2_with fail
 refine(Cq x _).mono ?_
 rintro e w4 ⟨rfl,hw4⟩
 have X4:=X2.l hw4
 have Y4:=Y2.l hw4
 have B4:=bl2 B2 hw4
 clear X2 Y2 B2 hw4 c1
 have c1:=Y4.cell
 go_wp2_with fail
 refine(Cq y _).mono ?_
 rintro e w5 ⟨rfl,hw5⟩
 have X5:=X4.l hw5
 have Y5:=Y4.l hw5
 have B5:=bl2 B4 hw5
 clear X4 Y4 B4 hw5 c1
 have c1:=X5.cell
 have c2:=Y5.cell
 go_wp2_with fail
 refine(H9 x y _).mono ?_
 rintro e w6 ⟨rfl,hw6⟩
 go_wp2_with fail
 go_ret
 exact⟨Ac (by unfold ord;by_cases h:x=y;subst h;simp;have:¬(x=y):=h;simp[h];split<;>simp;omega),bl2 B5 hw6⟩
theorem A3f (x y:Int) (w:World):Calls prog 154 #[.int .i64 13,.agg (vi x),.agg (vi y)] w fun e w'=>e=.returned (.agg (vd 1 (bi (decide (x=y))) 0 ByteArray.empty 0))/\Below w.heap.size w w':=by
 have HV:Hid (∀(z:Int) W,Calls prog 212 #[.agg (vi z)] W fun e w'=>e=.returned (.bool true)/\Below W.heap.size W w'):=fun z W=>(Dz ⟨2,z,0,ByteArray.empty,0⟩ W).mono (by rintro e w' ⟨rfl,h⟩;exact⟨Ac (by kernel_rfl),h⟩)
 have B0:Below w.heap.size w (((w.alloc (.cells (vi x) 52)).alloc (.cells (vi y) 52)).alloc (.cells vdz 216)):=(((Below.refl _ _).alloc (Nat.le_refl _) _).alloc (by simp) _).alloc (by simp;omega) _
 have X:=((Blk.new w (vi x) 52).alloc (.cells (vi y) 52)).alloc (.cells vdz 216)
 have Y:=(nb (vi y) 52 (W:=w.alloc (.cells (vi x) 52)) (n:=w.heap.size+1) (by simp)).alloc (.cells vdz 216)
 have Z:=nb vdz 216 (W:=(w.alloc (.cells (vi x) 52)).alloc (.cells (vi y) 52)) (n:=w.heap.size+1+1) (by simp)
 go_enter func154,ntmps154
 go_wp2_with fail
 refine(HV.out x _).mono ?_
 rintro e w1 ⟨rfl,hw1⟩
 have X1:=X.l hw1
 have Y1:=Y.l hw1
 have Z1:=Z.l hw1
 have B1:=bl2 B0 hw1
 clear X Y Z B0 hw1
 have c2:=Y1.cell
 go_wp2_with fail
 refine(HV.out y _).mono ?_
 rintro e w2 ⟨rfl,hw2⟩
 have X2:=X1.l hw2
 have Y2:=Y1.l hw2
 have Z2:=Z1.l hw2
 have B2:=bl2 B1 hw2
 clear X1 Y1 Z1 B1 hw2 c2
 have i1:inR 13 1 6=false:=by decide
 have i2:inR 13 7 11=false:=by decide
 go_wp2_with fail
 refine(Bn 13 1 6 _).mono ?_
 rintro e w3 ⟨rfl,rfl⟩
 go_wp2_with fail
 refine(Bn 13 7 11 _).mono ?_
 rintro e w3 ⟨rfl,rfl⟩
 have c1:=X2.cell
 have c2:=Y2.cell
 go_wp2_with fail
 refine(A6t x y _).mono ?_
 rintro e w4 ⟨rfl,hw4⟩
 go_wp2_with fail
 refine(Sd _ _).mono ?_
 rintro e w6 ⟨rfl,hw6⟩
 have Z6:=(Z2.l hw4).l hw6
 have z:=Z6.cell
 have f:=Z6.frozen
 have B6:=bl2 (bl2 B2 hw4) hw6
 clear X2 Y2 Z2 B2 hw6 hw4 c1 c2
 go_wp2_with fail
 have R:=(((((Z6.set 0 (.int .i64 0)).set 1 (.int .i64 1)).set 2 (.int .i64 (bi (decide (x=y))))).set 3 (.float .f64 0)).set 4 (.string ByteArray.empty)).set 5 (.int .i64 0)
 have r:=R.cell
 exact bodyPost_ret (v:=.agg (vd 1 (bi (decide (x=y))) 0 ByteArray.empty 0)) (by simp[results,results154,go_sem,r]) rfl ⟨rfl,((((B6.setCell (by simp;omega) _).setCell (by simp;omega) _).setCell (by simp;omega) _).setCell (by simp;omega) _).setCell (by simp;omega) _ |>.setCell (by simp;omega) _⟩
abbrev oc (v:Value):Array Value:=#[v,.int .i64 0,.int .i64 0,.float .f64 0,.string ByteArray.empty,.int .i64 0,.slice none 0 0,.int .i64 0]
theorem La (so:Option Addr) (sl sc:Nat) (w:World):Calls prog 208 #[.slice so sl sc] w fun e' w'=>e'=.returned (.agg (oc (.slice so sl sc)))/\Below w.heap.size w w':=by
 go_enter func208,ntmps208
 go_wp2_with fail
 exact bodyPost_ret (v:=.agg (oc (.slice so sl sc))) (by simp[results,results208,go_sem];rfl) rfl ⟨rfl,(Below.refl _ _).alloc (Nat.le_refl _) _⟩
theorem Ms (w:World):Calls prog 129 #[.int .i64 0] w fun e' w'=>e'=.returned .nilIface/\w'=w:=by
 go_enter func129,ntmps129
 go_wp2_with fail
 go_ret
 exact⟨rfl,rfl⟩
theorem Yu (bl:Nat) (x y:Int) (w:World) (h1:0<=x) (h2:x<=1000000) (hy:0<y) (hy2:y<=1000000):Calls prog 137 #[pz' bl,.int .i64 6,.agg (vi x),.agg (vi y)] w fun e' w'=>∃g,e'=.returned (.tuple #[.agg (oc (.slice (some ⟨g,0,none⟩) 1 1)),.nilIface])/\w.heap.size<=g/\Blk w' g (va 2 (x%y) 0 ByteArray.empty 0) 52/\Below w.heap.size w w':=by
 have HBN:Hid (∀W,Calls prog 154 #[.int .i64 6,.agg (vi x),.agg (vi y)] W fun e w'=>e=.returned (.agg (vd 2 (x%y) 0 ByteArray.empty 0))/\Below W.heap.size W w'):=fun W=>A0j x y W h1 h2 hy hy2
 clear h1 h2 hy hy2
 have B3:∀o1 o2 o3,Below w.heap.size w (((w.alloc o1).alloc o2).alloc o3):=fun _ _ _=>bl2 (bl2 ((Below.refl _ _).alloc (Nat.le_refl _) _) ((Below.refl _ _).alloc (Nat.le_refl _) _)) ((Below.refl _ _).alloc (Nat.le_refl _) _)
 have X0:∀o2 o3,Blk (((w.alloc (.cells (vi x) 52)).alloc o2).alloc o3) w.heap.size (vi x) 52:=fun _ _=>((Blk.new w _ _).alloc _).alloc _
 have Y0:∀o1 o3,Blk (((w.alloc o1).alloc (.cells (vi y) 52)).alloc o3) (w.heap.size+1) (vi y) 52:=fun _ _=>(Blk.new1 w _ _ _).alloc _
 have R0:∀o1 o2,Blk (((w.alloc o1).alloc o2).alloc (.cells (oc (.slice none 0 0)) 189)) (w.heap.size+1+1) (oc (.slice none 0 0)) 189:=fun o1 o2=>by have:=Blk.new ((w.alloc o1).alloc o2) (oc (.slice none 0 0)) 189;simpa using this
 go_enter func137,ntmps137
 go_wp2_with fail
 refine(HBN.out _).mono ?_
 rintro e w1 ⟨rfl,hw1⟩
 have X1:=(X0 _ _).l hw1
 have Y1:=(Y0 _ _).l hw1
 have R1:=(R0 _ _).l hw1
 have b1:=bl2 (B3 _ _ _) hw1
 have xa:=fun o=>(X1.alloc o).cell
 have ya:=fun o=>(Y1.alloc o).cell
 go_wp2_with fail
 have V2:=Blk.new w1 (vd 2 (x%y) 0 ByteArray.empty 0) 216
 have R2:=R1.alloc (.cells (vd 2 (x%y) 0 ByteArray.empty 0) 216)
 have b2:=bl2 b1 ((Below.refl _ _).alloc (Nat.le_refl _) (.cells (vd 2 (x%y) 0 ByteArray.empty 0) 216))
 clear xa ya X1 Y1 R1
 revert V2 R2 b2
 obtain⟨W,hW⟩:∃z,z=w1.alloc (.cells (vd 2 (x%y) 0 ByteArray.empty 0) 216):=⟨_,rfl⟩
 rw[←hW]
 clear hW
 intro V2 R2 b2
 have vs:=V2.cell
 have G3:=Blk.new W.drew (va 2 (x%y) 0 ByteArray.empty 0) 52
 have D3:Below W.heap.size W (W.drew.alloc (.cells (va 2 (x%y) 0 ByteArray.empty 0) 52)):=bl2 (Below.refl _ _).drew ((Below.refl _ _).alloc (Nat.le_refl _) _)
 have vd1:=(V2.l (Below.refl _ _).drew).cell
 have vd2:=(V2.l D3).cell
 have nr:w1.heap.size∉[w.heap.size+1+1]:=by simpa using Aa V2 R2 (by decide)
 clear vs
 go_region_held3 (fun V=>∀o',V.cell? ⟨w1.heap.size,o',none⟩=(#[.int .i64 0,.int .i64 2,.int .i64 (x%y),.float .f64 0,.string ByteArray.empty,.int .i64 0]:Array Value)[o']?) (first|with_reducible exact vd1|with_reducible exact vd3|with_reducible exact(V2.l (((Below.refl _ _).alloc (Nat.le_refl _) _).drew)).cell|with_reducible exact(V2.l (bl2 (Below.refl _ _).drew ((Below.refl _ _).alloc (Nat.le_refl _) _))).cell|with_reducible exact(V3.chg ((((((((Chg.refl [w.heap.size+1+1] _).set (List.mem_singleton.2 rfl) _ _).set (List.mem_singleton.2 rfl) _ _).set (List.mem_singleton.2 rfl) _ _).set (List.mem_singleton.2 rfl) _ _).set (List.mem_singleton.2 rfl) _ _).set (List.mem_singleton.2 rfl) _ _).set (List.mem_singleton.2 rfl) _ _ |>.set (List.mem_singleton.2 rfl) _ _) nr).cell) (first|(go_at_call 208;refine(La _ _ _ _).mono ?_;rintro e w2 ⟨rfl,hw2⟩;have b3:Below W.heap.size W w2:=bl2 D3 hw2;have V3:=V2.l b3;have vd3:=V3.cell;have rs2:=(R2.l b3).cell;have rf2:=(R2.l b3).frozen)|(go_at_call 129;refine(Ms _).mono ?_;rintro e w3 ⟨rfl,rfl⟩))
 have G4:=G3.l hw2
 have b4:=bl2 b2 b3
 have R4:=R2.l b3
 have C9:Chg [w.heap.size+1+1] w3 _:=(((((((Chg.refl [w.heap.size+1+1] w3).set (List.mem_singleton.2 rfl) 0 (.slice (some ⟨W.heap.size,0,none⟩) 1 1)).set (List.mem_singleton.2 rfl) 1 (.int .i64 0)).set (List.mem_singleton.2 rfl) 2 (.int .i64 0)).set (List.mem_singleton.2 rfl) 3 (.float .f64 0)).set (List.mem_singleton.2 rfl) 4 (.string ByteArray.empty)).set (List.mem_singleton.2 rfl) 5 (.int .i64 0)).set (List.mem_singleton.2 rfl) 6 (.slice none 0 0) |>.set (List.mem_singleton.2 rfl) 7 (.int .i64 0)
 have r:=(((((((R4.set 0 (.slice (some ⟨W.heap.size,0,none⟩) 1 1)).set 1 (.int .i64 0)).set 2 (.int .i64 0)).set 3 (.float .f64 0)).set 4 (.string ByteArray.empty)).set 5 (.int .i64 0)).set 6 (.slice none 0 0) |>.set 7 (.int .i64 0)).cell
 have G9:=G4.chg C9 (by simpa using Aa G4 R4 (by decide))
 have B9:=C9.low (lo:=w.heap.size) b4.size (by simp;omega)
 have hge:=b2.size
 have HF:Hid (Blk _ W.heap.size (va 2 (x%y) 0 ByteArray.empty 0) 52/\Below w.heap.size w _):=⟨G9,b4.trans B9⟩
 clear G9 B9 C9 R4 G4 b4
 go_wp2_with fail
 refine bodyPost_ret (v:=.tuple #[.agg (oc (.slice (some ⟨W.heap.size,0,none⟩) 1 1)),.nilIface]) ?_ rfl ⟨W.heap.size,rfl,hge,HF.out⟩
 simp[results,results137,go_sem,r]
theorem A14 (bl:Nat) (x y:Int) (w:World):Calls prog 137 #[pz' bl,.int .i64 13,.agg (vi x),.agg (vi y)] w fun e' w'=>∃g,e'=.returned (.tuple #[.agg (oc (.slice (some ⟨g,0,none⟩) 1 1)),.nilIface])/\w.heap.size<=g/\Blk w' g (va 1 (bi (decide (x=y))) 0 ByteArray.empty 0) 52/\Below w.heap.size w w':=by
 have HBN:Hid (∀W,Calls prog 154 #[.int .i64 13,.agg (vi x),.agg (vi y)] W fun e w'=>e=.returned (.agg (vd 1 (bi (decide (x=y))) 0 ByteArray.empty 0))/\Below W.heap.size W w'):=fun W=>A3f x y W
 have B3:∀o1 o2 o3,Below w.heap.size w (((w.alloc o1).alloc o2).alloc o3):=fun _ _ _=>bl2 (bl2 ((Below.refl _ _).alloc (Nat.le_refl _) _) ((Below.refl _ _).alloc (Nat.le_refl _) _)) ((Below.refl _ _).alloc (Nat.le_refl _) _)
 have X0:∀o2 o3,Blk (((w.alloc (.cells (vi x) 52)).alloc o2).alloc o3) w.heap.size (vi x) 52:=fun _ _=>((Blk.new w _ _).alloc _).alloc _
 have Y0:∀o1 o3,Blk (((w.alloc o1).alloc (.cells (vi y) 52)).alloc o3) (w.heap.size+1) (vi y) 52:=fun _ _=>(Blk.new1 w _ _ _).alloc _
 have R0:∀o1 o2,Blk (((w.alloc o1).alloc o2).alloc (.cells (oc (.slice none 0 0)) 189)) (w.heap.size+1+1) (oc (.slice none 0 0)) 189:=fun o1 o2=>by have:=Blk.new ((w.alloc o1).alloc o2) (oc (.slice none 0 0)) 189;simpa using this
 go_enter func137,ntmps137
 go_wp2_with fail
 refine(HBN.out _).mono ?_
 rintro e w1 ⟨rfl,hw1⟩
 have X1:=(X0 _ _).l hw1
 have Y1:=(Y0 _ _).l hw1
 have R1:=(R0 _ _).l hw1
 have b1:=bl2 (B3 _ _ _) hw1
 have xa:=fun o=>(X1.alloc o).cell
 have ya:=fun o=>(Y1.alloc o).cell
 go_wp2_with fail
 have V2:=Blk.new w1 (vd 1 (bi (decide (x=y))) 0 ByteArray.empty 0) 216
 have R2:=R1.alloc (.cells (vd 1 (bi (decide (x=y))) 0 ByteArray.empty 0) 216)
 have b2:=bl2 b1 ((Below.refl _ _).alloc (Nat.le_refl _) (.cells (vd 1 (bi (decide (x=y))) 0 ByteArray.empty 0) 216))
 clear xa ya X1 Y1 R1
 revert V2 R2 b2
 obtain⟨W,hW⟩:∃z,z=w1.alloc (.cells (vd 1 (bi (decide (x=y))) 0 ByteArray.empty 0) 216):=⟨_,rfl⟩
 rw[←hW]
 clear hW
 intro V2 R2 b2
 have vs:=V2.cell
 have G3:=Blk.new W.drew (va 1 (bi (decide (x=y))) 0 ByteArray.empty 0) 52
 have D3:Below W.heap.size W (W.drew.alloc (.cells (va 1 (bi (decide (x=y))) 0 ByteArray.empty 0) 52)):=bl2 (Below.refl _ _).drew ((Below.refl _ _).alloc (Nat.le_refl _) _)
 have vd1:=(V2.l (Below.refl _ _).drew).cell
 have vd2:=(V2.l D3).cell
 have nr:w1.heap.size∉[w.heap.size+1+1]:=by simpa using Aa V2 R2 (by decide)
 clear vs
 go_region_held3 (fun V=>∀o',V.cell? ⟨w1.heap.size,o',none⟩=(#[.int .i64 0,.int .i64 1,.int .i64 (bi (decide (x=y))),.float .f64 0,.string ByteArray.empty,.int .i64 0]:Array Value)[o']?) (first|with_reducible exact vd1|with_reducible exact vd3|with_reducible exact(V2.l (((Below.refl _ _).alloc (Nat.le_refl _) _).drew)).cell|with_reducible exact(V2.l (bl2 (Below.refl _ _).drew ((Below.refl _ _).alloc (Nat.le_refl _) _))).cell|with_reducible exact(V3.chg ((((((((Chg.refl [w.heap.size+1+1] _).set (List.mem_singleton.2 rfl) _ _).set (List.mem_singleton.2 rfl) _ _).set (List.mem_singleton.2 rfl) _ _).set (List.mem_singleton.2 rfl) _ _).set (List.mem_singleton.2 rfl) _ _).set (List.mem_singleton.2 rfl) _ _).set (List.mem_singleton.2 rfl) _ _ |>.set (List.mem_singleton.2 rfl) _ _) nr).cell) (first|(go_at_call 208;refine(La _ _ _ _).mono ?_;rintro e w2 ⟨rfl,hw2⟩;have b3:Below W.heap.size W w2:=bl2 D3 hw2;have V3:=V2.l b3;have vd3:=V3.cell;have rs2:=(R2.l b3).cell;have rf2:=(R2.l b3).frozen)|(go_at_call 129;refine(Ms _).mono ?_;rintro e w3 ⟨rfl,rfl⟩))
 have G4:=G3.l hw2
 have b4:=bl2 b2 b3
 have R4:=R2.l b3
 have C9:Chg [w.heap.size+1+1] w3 _:=(((((((Chg.refl [w.heap.size+1+1] w3).set (List.mem_singleton.2 rfl) 0 (.slice (some ⟨W.heap.size,0,none⟩) 1 1)).set (List.mem_singleton.2 rfl) 1 (.int .i64 0)).set (List.mem_singleton.2 rfl) 2 (.int .i64 0)).set (List.mem_singleton.2 rfl) 3 (.float .f64 0)).set (List.mem_singleton.2 rfl) 4 (.string ByteArray.empty)).set (List.mem_singleton.2 rfl) 5 (.int .i64 0)).set (List.mem_singleton.2 rfl) 6 (.slice none 0 0) |>.set (List.mem_singleton.2 rfl) 7 (.int .i64 0)
 have r:=(((((((R4.set 0 (.slice (some ⟨W.heap.size,0,none⟩) 1 1)).set 1 (.int .i64 0)).set 2 (.int .i64 0)).set 3 (.float .f64 0)).set 4 (.string ByteArray.empty)).set 5 (.int .i64 0)).set 6 (.slice none 0 0) |>.set 7 (.int .i64 0)).cell
 have G9:=G4.chg C9 (by simpa using Aa G4 R4 (by decide))
 have B9:=C9.low (lo:=w.heap.size) b4.size (by simp;omega)
 have hge:=b2.size
 have HF:Hid (Blk _ W.heap.size (va 1 (bi (decide (x=y))) 0 ByteArray.empty 0) 52/\Below w.heap.size w _):=⟨G9,b4.trans B9⟩
 clear G9 B9 C9 R4 G4 b4
 go_wp2_with fail
 refine bodyPost_ret (v:=.tuple #[.agg (oc (.slice (some ⟨W.heap.size,0,none⟩) 1 1)),.nilIface]) ?_ rfl ⟨W.heap.size,rfl,hge,HF.out⟩
 simp[results,results137,go_sem,r]
theorem Pj (bl bm:Nat) (so:Option Addr) (sl sc:Nat) (m:Mc) (w:World) (l0:w.cell? ⟨bl,0,none⟩=some (pz' bm)) (hbl:bl∉[bm]) (M:MAt w bm m) :
  Calls prog 133 #[pz' bl,.agg (oc (.slice so sl sc)),.nilIface] w fun e' w'=>e'=.returned .nilIface/\Chg [bm] w w'/\MAt w' bm {m with has:=.bool true,got:=.slice so sl sc}:=by
 have B0:Below w.heap.size w (w.alloc (.cells (oc (.slice so sl sc)) 189)).drew:=((Below.refl _ _).alloc (Nat.le_refl _) _).drew
 have Z:Blk (w.alloc (.cells (oc (.slice so sl sc)) 189)).drew w.heap.size (oc (.slice so sl sc)) 189:=Blk.new w _ _
 have zs:=Z.cell
 have l1:(w.alloc (.cells (oc (.slice so sl sc)) 189)).drew.cell? ⟨bl,0,none⟩=some (.pointer (some ⟨bm,0,none⟩)):=cb l0 B0
 have HG:Hid (Calls prog 102 #[pz' bm,.slice so sl sc] (w.alloc (.cells (oc (.slice so sl sc)) 189)).drew fun e w'=>e=.returned (.tuple #[])/\Chg [bm] (w.alloc (.cells (oc (.slice so sl sc)) 189)).drew w'/\MAt w' bm {m with has:=.bool true,got:=.slice so sl sc}):=Nb bm m so sl sc _ (M.l B0)
 have hm:=M.lt
 go_enter func133,ntmps133
 go_wp2_with fail
 go_region_held3 (fun V=>V.cell? ⟨bl,0,none⟩=some (.pointer (some ⟨bm,0,none⟩))/\(∀o',V.cell? ⟨w.heap.size,o',none⟩=(#[.slice so sl sc,.int .i64 0,.int .i64 0,.float .f64 0,.string ByteArray.empty,.int .i64 0,.slice none 0 0,.int .i64 0]:Array Value)[o']?)) (first|with_reducible exact⟨l1,zs⟩|with_reducible exact⟨l2,zs2⟩) (first|(go_at_call 102;refine HG.out.mono ?_;rintro e w1 ⟨rfl,hC,hX⟩;have l2:=hC.cell hbl l1;have zs2:=(Z.chg hC (by simp;omega)).cell))
 go_wp2_with fail
 go_ret
 exact⟨rfl,((Chg.refl _ _).below B0).trans hC (fun _ h=>h),hX⟩
structure KAt (w:World) (bl cp ck pc kn kc:Nat):Prop where
 l:w.cell? ⟨bl,1,none⟩=some (.slice (some ⟨cp,0,none⟩) 1 pc)
 p:w.cell? ⟨cp,6,none⟩=some (.slice (some ⟨ck,0,none⟩) kn kc)
theorem V9 (bl bc cp ck pc kn kc i:Nat) (cc:Cc) (a b:Int) (c:Nat) (d:ByteArray) (e:Int) (w:World) (K:KAt w bl cp ck pc kn kc) (C:CAt w bc {cc with proto:=.int .i64 0}) (hi:i<kn) (g:∀j,j<5->w.cell? ⟨ck,i*5+j,none⟩=(va a b c d e)[j]?) :
  Calls prog 122 #[pz' bl,pz' bc,.int .i64 i] w fun e' w'=>e'=.returned (.agg (va a b c d e))/\Below w.heap.size w w':=by
 have hk':(i:Int)<kn:=by omega
 have hk0:(0:Int)<=i:=by omega
 have cx:=fun o=>(C.alloc o).cell
 have l1:=ca K.l
 have p1:=ca K.p
 have g0:=g 0 (by decide)
 have g1:=g 1 (by decide)
 have g2:=g 2 (by decide)
 have g3:=g 3 (by decide)
 have g4:=g 4 (by decide)
 simp only[Nat.add_zero]at g0
 simp at g0 g1 g2 g3 g4
 have g0:=ca g0
 have g1:=ca g1
 have g2:=ca g2
 have g3:=ca g3
 have g4:=ca g4
 clear g K
 go_enter func122,ntmps122
 go_wp2_with fail
 go_region
 go_wp2_with fail
 have r:=(Blk.new w (va a b c d e) 52).cell
 exact bodyPost_ret (v:=.agg (va a b c d e)) (by simp[results,results122,go_sem,r]) rfl ⟨rfl,((Below.refl _ _).alloc (Nat.le_refl _) _).drew⟩
theorem A3m (bl bc:Nat) (o a k c d e f:Int) (v:Value) (L:List Nat) (Q:World->Prop) (w:World) (hL:∀b∈L,b<w.heap.size)
  (HC:Hid (∀W,Below w.heap.size w W->Calls prog 122 #[.pointer (some ⟨bl,0,none⟩),.pointer (some ⟨bc,0,none⟩),.int .i64 k] W fun e w'=>e=.returned (v)/\Below W.heap.size W w'))
  (HP:Hid (∀W,Below w.heap.size w W->Calls prog 121 #[.pointer (some ⟨bc,0,none⟩),.int .i64 a,v] W fun e w'=>e=.returned (.tuple #[])/\Chg L W w'/\Q w')) :
  Calls prog 38 #[.pointer (some ⟨bl,0,none⟩),.pointer (some ⟨bc,0,none⟩),.agg (qa o a k c d e f)] w fun e w'=>e=.returned .nilIface/\Chg L w w'/\Q w':=by
 have X:=Blk.new w (qa o a k c d e f) 161
 have xs:∀i,(w.alloc (.cells (qa o a k c d e f) 161)).drew.cell? ⟨w.heap.size,i,none⟩=(qa o a k c d e f)[i]?:=X.cell
 have B0:Below w.heap.size w (w.alloc (.cells (qa o a k c d e f) 161)).drew:=((Below.refl _ _).alloc (Nat.le_refl _) _).drew
 go_enter func38,ntmps38
 go_wp2_with fail
 go_region_held3 (fun W=>(∀i,W.cell? ⟨w.heap.size,i,none⟩=(qa o a k c d e f)[i]?)) (with_reducible exact xs) (first|(go_at_call 122;refine(HC.out _ B0).mono ?_;rintro e w1 ⟨rfl,hw1⟩;have X1:=Blk.l (w:=(w.alloc (.cells (qa o a k c d e f) 161)).drew) X hw1;have xs:=X1.cell)|(go_at_call 121;refine(HP.out _ (bl2 B0 hw1)).mono ?_;rintro e w2 ⟨rfl,hC,hQ⟩;have xs:=(X1.chg hC (notin hL (Nat.le_refl _))).cell))
 go_wp2_with fail
 go_ret
 exact⟨rfl,((Chg.refl L w).below (bl2 B0 hw1)).trans hC (fun _ h=>h),hQ⟩
theorem OpR.reg2 {bc br n qb:Nat} {cc:Cc} {qc:Array Value} {ρ:Nat->R8} {w W:World} (h:OpR bc br n qb cc qc ρ w W) (r:Nat) (x:Int) (k:Value) (a b:Int) (c:Nat) (d:ByteArray) (e:Int) (p l:Value) (hr:r<n) (hn:n<=100) (hx:x=r∨x = -1-r) (hρ:ρ r=.v5 k a b c d e p l) :
  Calls prog 123 #[pz' bc,.int .i64 x] W fun e' w'=>e'=.returned (.agg (va a b c d e))/\OpR bc br n qb cc qc (if x<0 then upd ρ r .none else ρ) w w'/\FrT [178] W w'/\Chg [br] W w':=by
 refine(A7d bc br r n x cc ρ k a b c d e p l W hr hn hx hρ h.c h.x).mono ?_
 rintro e' w' ⟨rfl,hc,hx'⟩
 exact⟨rfl,(h.call hc hx').1,(h.call hc hx').2,hc⟩
structure KO (bl cp ck pc kn kc i br:Nat) (v:Array Value) (w W:World):Prop where
 k:KAt W bl cp ck pc kn kc
 g:∀j,j<5->W.cell? ⟨ck,i*5+j,none⟩=v[j]?
 lt:bl<w.heap.size/\cp<w.heap.size/\ck<w.heap.size
 ne:bl≠br/\cp≠br/\ck≠br
theorem KO.keep {bl cp ck pc kn kc i br N:Nat} {v:Array Value} {w W W':World} (h:KO bl cp ck pc kn kc i br v w W) (hb:Below N W W') (hN:w.heap.size<=N):KO bl cp ck pc kn kc i br v w W':=
 ⟨⟨(hb.cell (p:=⟨bl,1,none⟩) (Nat.lt_of_lt_of_le h.lt.1 hN)).trans h.k.l,(hb.cell (p:=⟨cp,6,none⟩) (Nat.lt_of_lt_of_le h.lt.2.1 hN)).trans h.k.p⟩,fun j hj=>(hb.cell (p:=⟨ck,i*5+j,none⟩) (Nat.lt_of_lt_of_le h.lt.2.2 hN)).trans (h.g j hj),h.lt,h.ne⟩
theorem Chg.at {L:List Nat} {w w':World} (h:Chg L w w') {b o:Nat} (hb:b∉L) (hl:b<w.heap.size):w'.cell? ⟨b,o,none⟩=w.cell? ⟨b,o,none⟩:=by
 simp only[World.cell?,h.block b hb hl]
theorem KO.chg {bl cp ck pc kn kc i br:Nat} {v:Array Value} {w W W':World} (h:KO bl cp ck pc kn kc i br v w W) (hc:Chg [br] W W') (hs:w.heap.size<=W.heap.size):KO bl cp ck pc kn kc i br v w W':=
 ⟨⟨(hc.at (by simpa using h.ne.1) (Nat.lt_of_lt_of_le h.lt.1 hs)).trans h.k.l,(hc.at (by simpa using h.ne.2.1) (Nat.lt_of_lt_of_le h.lt.2.1 hs)).trans h.k.p⟩,fun j hj=>(hc.at (by simpa using h.ne.2.2) (Nat.lt_of_lt_of_le h.lt.2.2 hs)).trans (h.g j hj),h.lt,h.ne⟩
theorem Xx (bl bm bc br n rF rC cp ck pc kn kc i:Nat) (o xA op xC xF xE a0 x y ra rb:Int) (cc:Cc) (m:Mc) (ρ:Nat->R8) (k1 p1 l1:Value) (w:World) (hrF:rF<n) (hrC:rC<n) (hn:n<=100) (hF:xF=rF) (hC:xC=rC∨xC = -1-rC) (hE:xE=0) (ha:0<=a0) (ha1:a0<=6000) (hi:i<kn)
  (h1:upd ρ rF .none rC=.v5 k1 2 x 0 ByteArray.empty 0 p1 l1) (C:CAt w bc {cc with proto:=.int .i64 0,regs:=.slice (some ⟨br,0,none⟩) n n,at_:=.int .i64 a0}) (X:RgA w br n ρ) (l0:w.cell? ⟨bl,0,none⟩=some (pz' bm)) (hlc:bl≠bc) (hcc:cp≠bc/\ck≠bc) (hbm:bl∉[bm]) (M:MAt w bm m)
  (K:KO bl cp ck pc kn kc i br (vi y) w w)
  (HBIN:Hid (∀W,Calls prog 137 #[pz' bl,.int .i64 op,.agg (vi x),.agg (vi y)] W fun e' w'=>∃g,e'=.returned (.tuple #[.agg (oc (.slice (some ⟨g,0,none⟩) 1 1)),.nilIface])/\W.heap.size<=g/\Blk w' g (va ra rb 0 ByteArray.empty 0) 52/\Below W.heap.size W w')) :
  Calls prog 77 #[pz' bl,pz' bc,.agg (qa o xA op xC i xE xF)] w fun e' w'=>e'=.returned .nilIface/\∃g,w.heap.size<=g/\Blk w' g (va ra rb 0 ByteArray.empty 0) 52/\Chg [bc,br,bm] w w'/\RgA w' br n (if xC<0 then upd (upd ρ rF .none) rC .none else upd ρ rF .none)/\CAt w' bc {cc with proto:=.int .i64 0,regs:=.slice (some ⟨br,0,none⟩) n n,at_:=.int .i64 (a0+1)}/\MAt w' bm {m with has:=.bool true,got:=.slice (some ⟨g,0,none⟩) 1 1}:=by
 obtain⟨ρ2,hρ2⟩:∃z,z=(if xC<0 then upd (upd ρ rF .none) rC .none else upd ρ rF .none):=⟨_,rfl⟩
 rw[←hρ2]
 have Hρ:Hid (ρ2=(if xC<0 then upd (upd ρ rF .none) rC .none else upd ρ rF .none)):=hρ2
 clear hρ2
 have B0:Below w.heap.size w (w.alloc (.cells (qa o xA op xC i xE xF) 161)):=(Below.refl _ _).alloc (Nat.le_refl _) _
 have Z0:=Blk.new w (qa o xA op xC i xE xF) 161
 have H1:Hid (upd ρ rF .none rC=.v5 k1 2 x 0 ByteArray.empty 0 p1 l1):=h1
 have HCx:Hid (xC=rC∨xC = -1-rC):=hC
 have wa:IntKind.i64.wrap (a0+1)=a0+1:=wr (by omega) (by omega)
 subst hF hE
 clear h1 hC
 have zs:=Z0.cell
 go_enter func77,ntmps77
 go_wp2_with fail
 refine(U0 bc br rF n {cc with proto:=.int .i64 0,at_:=.int .i64 a0} ρ _ hrF (C.l B0) (X.l B0)).mono ?_
 rintro e w1 ⟨rfl,C1,X1⟩
 have nbr:bc≠br:=Aa C X.blk (by decide)
 have hbr:bl≠br:=K.ne.1
 have D1:=(C.l B0).chg C1 (by simpa using nbr)
 have ds:=D1.cell
 have df:=D1.frozen
 clear zs
 go_wp2_with fail
 have C2:Chg [bc] w1 (w1.setCell ⟨bc,3,none⟩ (.int .i64 (a0+1))):=(Chg.refl _ _).set (by simp) _ _
 have E2:=D1.set 3 (.int .i64 (a0+1))
 have X2:=X1.chg C2 (by simpa using Ne.symm nbr)
 have Z2:=(Z0.chg C1 (by simpa using Aa Z0 (X.l B0).blk (by decide))).chg C2 (by simpa using Aa (Z0.chg C1 (by simpa using Aa Z0 (X.l B0).blk (by decide))) D1 (by decide))
 have K1:=(K.keep B0 (Nat.le_refl _)).chg C1 B0.size
 have hs1:w.heap.size<=w1.heap.size:=Nat.le_trans B0.size C1.size
 have K2:KO bl cp ck pc kn kc i br (vi y) w (w1.setCell ⟨bc,3,none⟩ (.int .i64 (a0+1))):=⟨⟨(C2.at (by simpa using hlc) (Nat.lt_of_lt_of_le K.lt.1 hs1)).trans K1.k.l,(C2.at (by simpa using hcc.1) (Nat.lt_of_lt_of_le K.lt.2.1 hs1)).trans K1.k.p⟩,fun j hj=>(C2.at (by simpa using hcc.2) (Nat.lt_of_lt_of_le K.lt.2.2 hs1)).trans (K1.g j hj),K.lt,K.ne⟩
 have nmr:bm∉[br]:=by simpa using Aa M X.blk (by decide)
 have nmc:bm∉[bc]:=by simpa using Aa M C (by decide)
 have M2:=((M.l B0).chg C1 nmr).chg C2 nmc
 have l2:=C2.cell (by simpa using hlc) (C1.cell (by simpa using K.ne.1) (cb l0 B0))
 have G2:Chg [bc,br,bm] w (w1.setCell ⟨bc,3,none⟩ (.int .i64 (a0+1))):=(((Chg.refl _ _).below B0).trans C1 (fun b h=>by simp at h;simp[h])).trans C2 (fun b h=>by simp at h;simp[h])
 have hs2:w.heap.size<(w1.setCell ⟨bc,3,none⟩ (.int .i64 (a0+1))).heap.size:=Z2.lt
 clear ds df C2 D1 X1 K1 C1 hs1 K M l0 Z0 B0
 revert E2 X2 Z2 K2 M2 l2 G2 hs2
 obtain⟨V,hV⟩:∃z,z=w1.setCell ⟨bc,3,none⟩ (.int .i64 (a0+1)):=⟨_,rfl⟩
 rw[←hV]
 clear hV
 intro E2 X2 Z2 K2 M2 l2 G2 hs2
 have DW:Below V.heap.size V V.drew:=(Below.refl _ _).drew
 have O2:OpR bc br n w.heap.size {cc with proto:=.int .i64 0,at_:=.int .i64 (a0+1)} (qa o xA op xC i 0 rF) (upd ρ rF .none) V V.drew:=⟨Z2.l DW,Blk.l E2 DW,X2.l DW,(Chg.refl _ _).below DW⟩
 have HO:Hid (OpR bc br n w.heap.size {cc with proto:=.int .i64 0,at_:=.int .i64 (a0+1)} (qa o xA op xC i 0 rF) (upd ρ rF .none) V V.drew/\KO bl cp ck pc kn kc i br (vi y) w V.drew):=⟨O2,K2.keep DW (Nat.le_of_lt hs2)⟩
 have zs:=O2.q.cell
 clear O2 E2 X2 Z2 K2 C X
 refine Js (fun a W=>∃b1 b2,a=tmA ((fun x' y' p q=>#[pz' bl,pz' bc,.agg (qa o xA op xC i 0 rF),undef,undef,pz' w.heap.size,.nilIface,p,q,pz' bc,.pointer (some ⟨w.heap.size,6,none⟩),.int .i64 rF,.tuple #[],pz' bc,pz' bc,.pointer (some ⟨bc,3,none⟩),.int .i64 a0,.int .i64 (a0+1),pz' bc,.pointer (some ⟨bc,3,none⟩),pz' bc,.pointer (some ⟨w.heap.size,3,none⟩),.int .i64 xC,x',pz' bl,pz' bc,.pointer (some ⟨w.heap.size,4,none⟩),.int .i64 i,y',undef,undef,undef,undef,undef,undef,undef,undef,undef,undef,undef,undef,undef,undef,undef]) (.agg (va 2 x 0 ByteArray.empty 0)) (.agg (va 2 y 0 ByteArray.empty 0)) (pz' b1) (pz' b2))/\OpR bc br n w.heap.size {cc with proto:=.int .i64 0,at_:=.int .i64 (a0+1)} (qa o xA op xC i 0 rF) ρ2 V W/\Blk W b1 (va 2 x 0 ByteArray.empty 0) 52/\Blk W b2 (va 2 y 0 ByteArray.empty 0) 52) ?_ ?_
 ·refine rgM (fun W=>(∀o',W.cell? ⟨w.heap.size,o',none⟩=(#[.int .i64 o,.int .i64 xA,.int .i64 op,.int .i64 xC,.int .i64 i,.int .i64 0,.int .i64 rF]:Array Value)[o']?)) zs (fun hS=>?_)
  iterate 3 (refine tkM rfl (by kernel_rfl) (by rfl) hS ⟨?_,fun W hW=>?_,?_⟩;rotate_left;(focus (go_simp;with_reducible rfl));simp only[Act.put,List.getElem_toArray,List.getElem_cons_zero,List.getElem_cons_succ,List.setIfInBounds_toArray,List.set_cons_succ,List.set_cons_zero])
  refine He [4,5,6,7,3,8,9,10,11,12] (by kernel_rfl) ?_
  iterate 4 (refine tkM rfl (by kernel_rfl) (by rfl) hS ⟨?_,fun W hW=>?_,?_⟩;rotate_left;(focus (go_simp;with_reducible rfl));simp only[Act.put,List.getElem_toArray,List.getElem_cons_zero,List.getElem_cons_succ,List.setIfInBounds_toArray,List.set_cons_succ,List.set_cons_zero])
  refine twoC 3 8 9 10 11 12 (by kernel_rfl) (by decide) (fun x' y' p q=>#[pz' bl,pz' bc,.agg (qa o xA op xC i 0 rF),undef,undef,pz' w.heap.size,.nilIface,p,q,pz' bc,.pointer (some ⟨w.heap.size,6,none⟩),.int .i64 rF,.tuple #[],pz' bc,pz' bc,.pointer (some ⟨bc,3,none⟩),.int .i64 a0,.int .i64 (a0+1),pz' bc,.pointer (some ⟨bc,3,none⟩),pz' bc,.pointer (some ⟨w.heap.size,3,none⟩),.int .i64 xC,x',pz' bl,pz' bc,.pointer (some ⟨w.heap.size,4,none⟩),.int .i64 i,y',undef,undef,undef,undef,undef,undef,undef,undef,undef,undef,undef,undef,undef,undef,undef]) V.heap.size (va 2 x 0 ByteArray.empty 0) (va 2 y 0 ByteArray.empty 0) (fun W=>OpR bc br n w.heap.size {cc with proto:=.int .i64 0,at_:=.int .i64 (a0+1)} (qa o xA op xC i 0 rF) (upd ρ rF .none) V W/\KO bl cp ck pc kn kc i br (vi y) w W) (fun W=>OpR bc br n w.heap.size {cc with proto:=.int .i64 0,at_:=.int .i64 (a0+1)} (qa o xA op xC i 0 rF) ρ2 V W/\KO bl cp ck pc kn kc i br (vi y) w W) (fun W=>OpR bc br n w.heap.size {cc with proto:=.int .i64 0,at_:=.int .i64 (a0+1)} (qa o xA op xC i 0 rF) ρ2 V W/\KO bl cp ck pc kn kc i br (vi y) w W) [178] (by decide) (fun W h=>h.1.q.cell) (fun W h=>h.1.q.cell) (fun W h=>h.1.q.cell) (fun W W' h hf hb=>⟨h.1.keep hf hb (Nat.le_refl _),h.2.keep hb (Nat.le_of_lt hs2)⟩) (fun W W' h hf hb=>⟨h.1.keep hf hb (Nat.le_refl _),h.2.keep hb (Nat.le_of_lt hs2)⟩) (fun W W' h hf hb=>⟨h.1.keep hf hb (Nat.le_refl _),h.2.keep hb (Nat.le_of_lt hs2)⟩) ?_ ?_ ?_ ?_ ?_ ?_ ?_ undef undef undef undef _ HO.out (by simp)
  ·intro x' y' p q W hR
   refine⟨_,rfl,by rfl,fun K hK=>?_⟩
   go_wp2_with fail
   refine(hR.1.reg2 rC xC k1 2 x 0 ByteArray.empty 0 p1 l1 hrC hn HCx.out H1.out).mono ?_
   rintro e' w3 ⟨rfl,g1,g2,g3⟩
   rw[←Hρ.out]at g1
   exact hK.out _ ⟨g1,hR.2.chg g3 (Nat.le_trans (Nat.le_of_lt hs2) hR.1.g.size)⟩ g2
  ·intro x' y' p q W hR
   refine⟨_,rfl,by rfl,fun K hK=>?_⟩
   go_wp2_with fail
   refine(V9 bl bc cp ck pc kn kc i {cc with regs:=.slice (some ⟨br,0,none⟩) n n,at_:=.int .i64 (a0+1)} 2 y 0 ByteArray.empty 0 W hR.2.k hR.1.c hi hR.2.g).mono ?_
   rintro e' w3 ⟨rfl,hw3⟩
   exact hK.out _ ⟨hR.1.keep (FrT.below hw3) hw3 hR.1.g.size,hR.2.keep hw3 (Nat.le_trans (Nat.le_of_lt hs2) hR.1.g.size)⟩ (FrT.below hw3)
  ·intro x' y' p q W
   refine⟨_,rfl,by rfl,fun K hK=>?_⟩
   go_wp2_with fail
   exact hK.out
  ·intro x' y' p q W
   refine⟨_,rfl,by rfl,fun K hK=>?_⟩
   go_wp2_with fail
   exact hK.out
  ·intro y' b' q W D
   refine⟨_,rfl,by rfl,fun K hK=>?_⟩
   have dc:=D.cell
   have df:=D.frozen
   go_wp2_with fail
   exact hK.out _ ((((((Chg.refl [b'] W).set (by simp) _ _).set (by simp) _ _).set (by simp) _ _).set (by simp) _ _).set (by simp) _ _) (((((D.set 0 _).set 1 _).set 2 _).set 3 _).set 4 _)
  ·intro x' p b' W D
   refine⟨_,rfl,by rfl,fun K hK=>?_⟩
   have dc:=D.cell
   have df:=D.frozen
   go_wp2_with fail
   exact hK.out _ ((((((Chg.refl [b'] W).set (by simp) _ _).set (by simp) _ _).set (by simp) _ _).set (by simp) _ _).set (by simp) _ _) (((((D.set 0 _).set 1 _).set 2 _).set 3 _).set 4 _)
  ·intro b1 b2 W hR D1 D2 _ _
   exact⟨rfl,b1,b2,rfl,hR.1,D1,D2⟩
 ·rintro a W ⟨b1,b2,rfl,hR,D1,D2⟩
  have HR:Hid (OpR bc br n w.heap.size {cc with proto:=.int .i64 0,at_:=.int .i64 (a0+1)} (qa o xA op xC i 0 rF) ρ2 V W):=hR
  have q1:=hR.q.cell
  have d1:=D1.cell
  have d2:=D2.cell
  have lW:=hR.g.cell (by simpa using hbr) l2
  have MW:=M2.chg hR.g nmr
  clear hR zs
  dsimp only[tmA]
  go_wp2_with fail
  refine(HBIN.out W).mono ?_
  rintro e w3 ⟨g,rfl,hg,G3,b3⟩
  go_wp2_with fail
  refine(Pj bl bm (some ⟨g,0,none⟩) 1 1 m _ (cb lW b3) hbm (MW.l b3)).mono ?_
  rintro e w4 ⟨rfl,C4,M4⟩
  go_wp2_with fail
  go_ret
  have gV:=HR.out.g.size
  have nbm:br∉[bm]:=fun h=>nmr (by simp at h;simp[h])
  refine⟨rfl,g,by omega,G3.chg C4 (by simpa using Aa G3 (MW.l b3) (by decide)),((G2.trans HR.out.g (fun b h=>by simp at h;simp[h])).below b3).trans C4 (fun b h=>by simp at h;simp[h]),(HR.out.x.l b3).chg C4 nbm,Blk.chg (HR.out.c.l b3) C4 (fun h=>nmc (by simp at h;simp[h])),M4⟩
theorem A8e (g:Nat) (a b:Int) (c:Nat) (d:ByteArray) (e:Int) (w:World) (G:Blk w g (va a b c d e) 52):Calls prog 143 #[.slice (some ⟨g,0,none⟩) 1 1,.int .i64 0] w fun e' w'=>e'=.returned (.agg (va a b c d e))/\Below w.heap.size w w':=by
 have gs:=fun o=>(G.alloc o).cell
 go_enter func143,ntmps143
 go_wp2_with fail
 have r:=(Blk.new w (va a b c d e) 52).cell
 exact bodyPost_ret (v:=.agg (va a b c d e)) (by simp[results,results143,go_sem,r]) rfl ⟨rfl,(Below.refl _ _).alloc (Nat.le_refl _) _⟩
theorem Yi (g:Nat) (a b:Int) (c:Nat) (d:ByteArray) (e:Int) (w:World) (G:Blk w g (va a b c d e) 52):Calls prog 142 #[.slice (some ⟨g,0,none⟩) 1 1] w fun e' w'=>e'=.returned (.agg (va a b c d e))/\Below w.heap.size w w':=by
 have B0:∀o,Below w.heap.size w (w.alloc o):=fun _=>(Below.refl _ _).alloc (Nat.le_refl _) _
 go_enter func142,ntmps142
 go_wp2_with fail
 refine(A8e g a b c d e _ (G.alloc _)).mono ?_
 rintro e' w1 ⟨rfl,hw1⟩
 have R1:=(Blk.new w v0 52).l hw1
 have rs:=R1.cell
 have rf:=R1.frozen
 go_wp2_with fail
 have r:=(((((R1.set 0 (.int .i64 a)).set 1 (.int .i64 b)).set 2 (.float .f64 c)).set 3 (.string d)).set 4 (.int .i64 e)).cell
 exact bodyPost_ret (v:=.agg (va a b c d e)) (by simp[results,results142,go_sem,r]) rfl ⟨rfl,(((((bl2 (B0 _) hw1).setCell (Nat.le_refl _) _).setCell (Nat.le_refl _) _).setCell (Nat.le_refl _) _).setCell (Nat.le_refl _) _).setCell (Nat.le_refl _) _⟩
theorem A1x (b:Bool):Bl ⟨1,bi b,0,ByteArray.empty,0⟩=true:=by cases b<;>kernel_rfl
theorem A1u (b:Bool) (w:World):Calls prog 139 #[.agg (va 1 (bi b) 0 ByteArray.empty 0)] w fun e' w'=>e'=.returned (.bool b)/\Below w.heap.size w w':=by
 have B0:∀o,Below w.heap.size w (w.alloc o):=fun _=>(Below.refl _ _).alloc (Nat.le_refl _) _
 have X:=Blk.new w (va 1 (bi b) 0 ByteArray.empty 0) 52
 have HV:Hid (∀W,Calls prog 212 #[.agg (va 1 (bi b) 0 ByteArray.empty 0)] W fun e w'=>e=.returned (.bool true)/\Below W.heap.size W w'):=fun W=>(Dz ⟨1,bi b,0,ByteArray.empty,0⟩ W).mono (by rintro e w' ⟨rfl,h⟩;exact⟨Ac (A1x b),h⟩)
 go_enter func139,ntmps139
 go_wp2_with fail
 refine(HV.out _).mono ?_
 rintro e w1 ⟨rfl,hw1⟩
 have xs:=(X.l hw1).cell
 go_wp2_with fail
 go_ret
 exact⟨Ac (by cases b<;>rfl),bl2 (B0 _) hw1⟩
theorem A5l (lo g cap i:Nat) (ps:List Pr) (p:Pr) (tn a b:Int) (d:ByteArray) (w:World) (ha:a=2∨a=4) (hv:Bl ⟨a,b,0,d,0⟩=true) (hl:ps.length<=500) (hi:ps[i]?=some p) (hpl:G8 ps a b d=i) (P:Cz w lo (.slice (some ⟨g,0,none⟩) ps.length cap) ps) :
  Calls prog 166 #[.agg (tbv (.slice (some ⟨g,0,none⟩) ps.length cap) tn),.agg (va a b 0 d 0)] w fun e' w'=>e'=.returned (.agg (va p.xa p.xb 0 p.xd 0))/\Below w.heap.size w w':=by
 obtain⟨L,hL⟩:∃L,L=ps.length:=⟨_,rfl⟩
 have HP:Hid (Cz w lo (.slice (some ⟨g,0,none⟩) ps.length cap) ps):=P
 have HPL:Hid (∀W,Below w.heap.size w W->Calls prog 162 #[.agg (tbv (.slice (some ⟨g,0,none⟩) L cap) tn),.agg (va a b 0 d 0)] W fun e' w'=>e'=.returned (.int .i64 i)/\Below W.heap.size W w'):=fun W hW=>(by rw[hL];exact(Hu lo _ ps tn a b d W ha hv hl (Ab P hW)).mono fun e w' ⟨h1,h2⟩=>⟨h1.trans (Cr hpl),h2⟩)
 have hiL:i<L:=by rw[hL];exact(List.getElem?_eq_some_iff.1 hi).1
 rw[←hL]
 have i0:(0:Int)<=i:=by omega
 have i1:(i:Int)<L:=by omega
 clear P ha hv hpl hL
 have B3:∀o1 o2 o3,Below w.heap.size w (((w.alloc o1).alloc o2).alloc o3):=fun _ _ _=>bl2 (bl2 ((Below.refl _ _).alloc (Nat.le_refl _) _) ((Below.refl _ _).alloc (Nat.le_refl _) _)) ((Below.refl _ _).alloc (Nat.le_refl _) _)
 have T0:∀o2 o3,Blk (((w.alloc (.cells (tbv (.slice (some ⟨g,0,none⟩) L cap) tn) 145)).alloc o2).alloc o3) w.heap.size (tbv (.slice (some ⟨g,0,none⟩) L cap) tn) 145:=fun _ _=>((Blk.new w _ _).alloc _).alloc _
 have R0:∀o1 o2,Blk (((w.alloc o1).alloc o2).alloc (.cells v0 52)) (w.heap.size+1+1) v0 52:=fun o1 o2=>by have:=Blk.new ((w.alloc o1).alloc o2) v0 52;simpa using this
 go_enter func166,ntmps166
 go_wp2_with fail
 refine(HPL.out _ (B3 _ _ _)).mono ?_
 rintro e w1 ⟨rfl,hw1⟩
 have b1:=bl2 (B3 _ _ _) hw1
 have T1:=(T0 _ _).l hw1
 have R1:=(R0 _ _).l hw1
 have P1:=Ab HP.out b1
 have c5:=Hf P1 hi (j:=5) (by decide)
 have c6:=Hf P1 hi (j:=6) (by decide)
 have c7:=Hf P1 hi (j:=7) (by decide)
 have c8:=Hf P1 hi (j:=8) (by decide)
 have c9:=Hf P1 hi (j:=9) (by decide)
 simp at c5 c6 c7 c8 c9
 have ts:=T1.cell
 have rs:=R1.cell
 have rf:=R1.frozen
 clear P1
 go_wp2_with fail
 have r:=(((((R1.set 0 (.int .i64 p.xa)).set 1 (.int .i64 p.xb)).set 2 (.float .f64 0)).set 3 (.string p.xd)).set 4 (.int .i64 0)).cell
 exact bodyPost_ret (v:=.agg (va p.xa p.xb 0 p.xd 0)) (by simp[results,results166,go_sem,r]) rfl ⟨rfl,(((((b1.setCell (p:=⟨w.heap.size+1+1,0,none⟩) (by show w.heap.size<=w.heap.size+1+1;omega) _).setCell (p:=⟨w.heap.size+1+1,1,none⟩) (by show w.heap.size<=w.heap.size+1+1;omega) _).setCell (p:=⟨w.heap.size+1+1,2,none⟩) (by show w.heap.size<=w.heap.size+1+1;omega) _).setCell (p:=⟨w.heap.size+1+1,3,none⟩) (by show w.heap.size<=w.heap.size+1+1;omega) _).setCell (p:=⟨w.heap.size+1+1,4,none⟩) (by show w.heap.size<=w.heap.size+1+1;omega) _)⟩
abbrev ocz:Array Value:=#[.slice none 0 0,.int .i64 0,.int .i64 0,.float .f64 0,.string ⟨#[]⟩,.int .i64 0,.slice none 0 0,.int .i64 0]
theorem A1n (bl bm bs gs ls lc rf lo g cap i:Nat) (m:Mc) (sp sk so ve:Value) (ps:List Pr) (p:Pr) (tn a b:Int) (d:ByteArray) (w:World) (ha:a=2∨a=4) (hv:Bl ⟨a,b,0,d,0⟩=true) (hl:ps.length<=500) (hi:ps[i]?=some p) (hpl:G8 ps a b d=i) (hxa:¬p.xa=0) (hrf:rf<ls)
  (l0:w.cell? ⟨bl,0,none⟩=some (pz' bm)) (M:MAt w bm {m with slots:=.slice (some ⟨gs,0,none⟩) ls lc}) (sg:w.cell? ⟨gs,rf,none⟩=some (pz' bs)) (Y:Blk w bs (st sp sk so ve (.slice (some ⟨g,0,none⟩) ps.length cap) (.int .i64 tn)) 176) (P:Cz w lo (.slice (some ⟨g,0,none⟩) ps.length cap) ps) :
  Calls prog 134 #[pz' bl,.agg (va 5 0 0 ByteArray.empty rf),.agg (va a b 0 d 0)] w fun e' w'=>∃h,e'=.returned (.tuple #[.agg (oc (.slice (some ⟨h,0,none⟩) 1 1)),.nilIface])/\w.heap.size<=h/\Blk w' h (va p.xa p.xb 0 p.xd 0) 52/\Below w.heap.size w w':=by
 obtain⟨L,hL⟩:∃L,L=ps.length:=⟨_,rfl⟩
 have HGET:Hid (∀W,Below w.heap.size w W->Calls prog 166 #[.agg (tbv (.slice (some ⟨g,0,none⟩) L cap) tn),.agg (va a b 0 d 0)] W fun e' w'=>e'=.returned (.agg (va p.xa p.xb 0 p.xd 0))/\Below W.heap.size W w'):=fun W hW=>(by rw[hL];exact A5l lo g cap i ps p tn a b d W ha hv hl hi hpl (Ab P hW))
 have HTAB:Hid (∀W,Below w.heap.size w W->Calls prog 128 #[pz' bm,.agg (va 5 0 0 ByteArray.empty rf)] W fun e' w'=>e'=.returned (pz' bs)/\Below W.heap.size W w'):=fun W hW=>Hz bm bs gs ls lc rf m W hrf (M.l hW) (cb sg hW)
 rw[←hL]at Y
 have HY:Hid (Blk w bs (st sp sk so ve (.slice (some ⟨g,0,none⟩) L cap) (.int .i64 tn)) 176):=Y
 have HL:Hid (w.cell? ⟨bl,0,none⟩=some (.pointer (some ⟨bm,0,none⟩))):=l0
 clear hL P M sg Y l0 ha hv hpl hi
 have B3:Below w.heap.size w (((w.alloc (.cells (va 5 0 0 ByteArray.empty rf) 52)).alloc (.cells (va a b 0 d 0) 52)).alloc (.cells ocz 189)):=bl2 (bl2 ((Below.refl _ _).alloc (Nat.le_refl _) _) ((Below.refl _ _).alloc (Nat.le_refl _) _)) ((Below.refl _ _).alloc (Nat.le_refl _) _)
 have V0:Blk (((w.alloc (.cells (va 5 0 0 ByteArray.empty rf) 52)).alloc (.cells (va a b 0 d 0) 52)).alloc (.cells ocz 189)) w.heap.size (va 5 0 0 ByteArray.empty rf) 52:=((Blk.new w _ _).alloc _).alloc _
 have K0:Blk (((w.alloc (.cells (va 5 0 0 ByteArray.empty rf) 52)).alloc (.cells (va a b 0 d 0) 52)).alloc (.cells ocz 189)) (w.heap.size+1) (va a b 0 d 0) 52:=(Blk.new1 w _ _ _).alloc _
 have R0:Blk (((w.alloc (.cells (va 5 0 0 ByteArray.empty rf) 52)).alloc (.cells (va a b 0 d 0) 52)).alloc (.cells ocz 189)) (w.heap.size+1+1) ocz 189:=by have:=Blk.new ((w.alloc (.cells (va 5 0 0 ByteArray.empty rf) 52)).alloc (.cells (va a b 0 d 0) 52)) ocz 189;simpa using this
 go_enter func134,ntmps134
 go_wp2_with fail
 refine wp_loop_rounds 1 ?_
 rw[rounds_succ]
 revert B3 V0 K0 R0
 obtain⟨W,hW⟩:∃z,z=(((w.alloc (.cells (va 5 0 0 ByteArray.empty rf) 52)).alloc (.cells (va a b 0 d 0) 52)).alloc (.cells ocz 189)):=⟨_,rfl⟩
 rw[←hW]
 clear hW
 intro B3 V0 K0 R0
 have DW:Below W.heap.size W W.drew:=(Below.refl _ _).drew
 have l1:=cb HL.out (bl2 B3 DW)
 have vs:=(V0.l DW).cell
 go_wp2_with fail
 go_region_held3 (fun V=>V.cell? ⟨bl,0,none⟩=some (.pointer (some ⟨bm,0,none⟩))/\(∀o',V.cell? ⟨w.heap.size,o',none⟩=(#[.int .i64 5,.int .i64 0,.float .f64 0,.string ByteArray.empty,.int .i64 rf]:Array Value)[o']?)) (first|with_reducible exact⟨l1,vs⟩|with_reducible exact⟨l2,vs2⟩) (first|(go_at_call 128;refine(HTAB.out _ (bl2 B3 DW)).mono ?_;rintro e w1 ⟨rfl,hw1⟩;have l2:=cb l1 hw1;have vs2:=((V0.l DW).l hw1).cell))
 have b1:Below W.heap.size W w1:=bl2 DW hw1
 have K1:=K0.l b1
 have R1:=R0.l b1
 have Y1:=HY.out.l (bl2 B3 b1)
 have B4:=bl2 B3 b1
 clear l1 l2 vs vs2 hw1 HTAB V0 K0 R0 b1 DW
 go_wp2_with fail
 have DW:Below w1.heap.size w1 w1.drew:=(Below.refl _ _).drew
 have DA:Below w1.heap.size w1 (w1.alloc (.cells v0 52)).drew:=((Below.refl _ _).alloc (Nat.le_refl _) _).drew
 have ks:=(K1.l DW).cell
 have ys:=(Y1.l DW).cell
 have nk:w.heap.size+1∉[w1.heap.size]:=by simpa using Nat.ne_of_lt K1.lt
 have ny:bs∉[w1.heap.size]:=by simpa using Nat.ne_of_lt Y1.lt
 go_region_held3 (fun V=>(∀o',V.cell? ⟨bs,o',none⟩=(#[sp,sk,so,ve,.slice (some ⟨g,0,none⟩) L cap,.int .i64 tn,.pointer none,.bool false,.int .i64 0,.slice none 0 0,.int .i64 0,.int .i64 0,.float .f64 0,.string ByteArray.empty,.int .i64 0]:Array Value)[o']?)/\(∀o',V.cell? ⟨w.heap.size+1,o',none⟩=(#[.int .i64 a,.int .i64 b,.float .f64 0,.string d,.int .i64 0]:Array Value)[o']?)) (first|with_reducible exact⟨ys,ks⟩|with_reducible exact⟨ys2,ks2⟩|with_reducible exact⟨(Y1.l DA).cell,(K1.l DA).cell⟩|with_reducible exact⟨((Y1.l DW).alloc _).cell,((K1.l DW).alloc _).cell⟩|with_reducible exact⟨(Y2.alloc _).cell,(K2.alloc _).cell⟩|with_reducible exact⟨(Y2.chg ((((((Chg.refl [w1.heap.size] _).set (List.mem_singleton.2 rfl) _ _).set (List.mem_singleton.2 rfl) _ _).set (List.mem_singleton.2 rfl) _ _).set (List.mem_singleton.2 rfl) _ _).set (List.mem_singleton.2 rfl) _ _) ny).cell,(K2.chg ((((((Chg.refl [w1.heap.size] _).set (List.mem_singleton.2 rfl) _ _).set (List.mem_singleton.2 rfl) _ _).set (List.mem_singleton.2 rfl) _ _).set (List.mem_singleton.2 rfl) _ _).set (List.mem_singleton.2 rfl) _ _) nk).cell⟩) (first|(go_at_call 166;first|(refine(HGET.out _ (bl2 B4 DA)).mono ?_;rintro e w2 ⟨rfl,hw2⟩;have b2:Below w1.heap.size w1 w2:=bl2 DA hw2;have Y2:=Y1.l b2;have K2:=K1.l b2;have ys2:=Y2.cell;have ks2:=K2.cell;have O2:=((Blk.new w1 v0 52).l (Below.refl _ _).drew).l hw2;have os:=O2.cell;have of':=O2.frozen)|(refine(HGET.out _ (bl2 B4 DW)).mono ?_;rintro e w2 ⟨rfl,hw2⟩;have b2:Below w1.heap.size w1 w2:=bl2 DW hw2;have Y2:=Y1.l b2;have K2:=K1.l b2;have ys2:=Y2.cell;have ks2:=K2.cell)))
 all_goals
  have R2:=R1.l b2
  have B5:=bl2 B4 b2
  first
   | refine Kj (S:=fun U=>Blk U w1.heap.size (va p.xa p.xb 0 p.xd 0) 52/\Blk U (w.heap.size+1+1) ocz 189/\Below w.heap.size w U) ⟨((((O2.set 0 _).set 1 _).set 2 _).set 3 _).set 4 _,R2.chg ((((((Chg.refl [w1.heap.size] _).set (List.mem_singleton.2 rfl) _ _).set (List.mem_singleton.2 rfl) _ _).set (List.mem_singleton.2 rfl) _ _).set (List.mem_singleton.2 rfl) _ _).set (List.mem_singleton.2 rfl) _ _) (by simpa using Nat.ne_of_lt R1.lt),((((B5.setCell (p:=⟨w1.heap.size,0,none⟩) B4.size _).setCell (p:=⟨w1.heap.size,1,none⟩) B4.size _).setCell (p:=⟨w1.heap.size,2,none⟩) B4.size _).setCell (p:=⟨w1.heap.size,3,none⟩) B4.size _).setCell (p:=⟨w1.heap.size,4,none⟩) B4.size _⟩ (fun U hU=>?_)
   | refine Kj (S:=fun U=>Blk U w2.heap.size (va p.xa p.xb 0 p.xd 0) 52/\Blk U (w.heap.size+1+1) ocz 189/\Below w.heap.size w U) ⟨Blk.new w2 _ _,R2.alloc _,bl2 B5 ((Below.refl _ _).alloc (Nat.le_refl _) _)⟩ (fun U hU=>?_)
  obtain⟨GU,RU,BU⟩:=hU
  clear ys ks ys2 ks2 Y2 K2 R2 B5 HGET
  have gs':=GU.cell
  have ga:=fun o=>(GU.alloc o).cell
  go_wp2_with fail
  refine(La _ _ _ _).mono ?_
  rintro e w6 ⟨rfl,hw6⟩
  have A6:=(Blk.new U (va p.xa p.xb 0 p.xd 0) 52).l hw6
  have R6:=(RU.alloc _).l hw6
  have B6:=bl2 (bl2 BU ((Below.refl _ _).alloc (Nat.le_refl _) _)) hw6
  have hU:=BU.size
  have rs:=R6.cell
  have rf':=R6.frozen
  clear gs' ga
  go_wp2_with fail
  have C9:Chg [w.heap.size+1+1] w6 _:=(((((((Chg.refl [w.heap.size+1+1] w6).set (List.mem_singleton.2 rfl) 0 (.slice (some ⟨U.heap.size,0,none⟩) 1 1)).set (List.mem_singleton.2 rfl) 1 (.int .i64 0)).set (List.mem_singleton.2 rfl) 2 (.int .i64 0)).set (List.mem_singleton.2 rfl) 3 (.float .f64 0)).set (List.mem_singleton.2 rfl) 4 (.string ByteArray.empty)).set (List.mem_singleton.2 rfl) 5 (.int .i64 0)).set (List.mem_singleton.2 rfl) 6 (.slice none 0 0) |>.set (List.mem_singleton.2 rfl) 7 (.int .i64 0)
  have r:=(((((((R6.set 0 (.slice (some ⟨U.heap.size,0,none⟩) 1 1)).set 1 (.int .i64 0)).set 2 (.int .i64 0)).set 3 (.float .f64 0)).set 4 (.string ByteArray.empty)).set 5 (.int .i64 0)).set 6 (.slice none 0 0) |>.set 7 (.int .i64 0)).cell
  refine bodyPost_ret (v:=.tuple #[.agg (oc (.slice (some ⟨U.heap.size,0,none⟩) 1 1)),.nilIface]) ?_ rfl ⟨U.heap.size,rfl,hU,A6.chg C9 (by simpa using Aa A6 R6 (by decide)),B6.trans (C9.low (lo:=w.heap.size) B6.size (by simp;omega))⟩
  simp[results,results134,go_sem,r]
theorem A7x (bl bc br n r:Nat) (o b c d e f:Int) (cc:Cc) (ρ:Nat->R8) (w:World) (hr:r<n) (C:CAt w bc {cc with regs:=.slice (some ⟨br,0,none⟩) n n}) (X:RgA w br n ρ) :
  Calls prog 75 #[pz' bl,pz' bc,.agg (qa o r b c d e f)] w fun e w'=>e=.returned .nilIface/\Chg [br] w w'/\RgA w' br n (upd ρ r .none):=by
 have B0:∀o,Below w.heap.size w (w.alloc o):=fun _=>(Below.refl _ _).alloc (Nat.le_refl _) _
 go_enter func75,ntmps75
 go_wp2_with fail
 refine(U0 bc br r n cc ρ _ hr (C.alloc _) (X.alloc _)).mono ?_
 rintro e w1 ⟨rfl,hC,hX⟩
 go_wp2_with fail
 go_ret
 exact⟨rfl,((Chg.refl _ _).below (B0 _)).trans hC (fun _ h=>h),hX⟩
theorem A7y (bl bc br n r:Nat) (o b c d e f:Int) (cc:Cc) (ρ:Nat->R8) (w:World) (hr:r<n) (C:CAt w bc {cc with regs:=.slice (some ⟨br,0,none⟩) n n}) (X:RgA w br n ρ) :
  Calls prog 55 #[pz' bl,pz' bc,.agg (qa o r b c d e f)] w fun e w'=>e=.returned .nilIface/\Chg [br] w w'/\RgA w' br n (upd ρ r (.li none 0 0)):=by
 have B0:∀o,Below w.heap.size w (w.alloc o):=fun _=>(Below.refl _ _).alloc (Nat.le_refl _) _
 go_enter func55,ntmps55
 go_wp2_with fail
 refine(putL bc br r n cc ρ none 0 0 _ hr (C.alloc _) (X.alloc _)).mono ?_
 rintro e w1 ⟨rfl,hC,hX⟩
 go_wp2_with fail
 go_ret
 exact⟨rfl,((Chg.refl _ _).below (B0 _)).trans hC (fun _ h=>h),hX⟩
theorem A7z (bl bc br n r1 r2:Nat) (o xB c d e f:Int) (cc:Cc) (ρ ρ':Nat->R8) (k p l:Value) (va1 vb:Int) (vc:Nat) (vd':ByteArray) (ve:Int) (w:World) (hr1:r1<n) (hr2:r2<n) (hn:n<=100) (hx:xB=r2∨xB = -1-r2) (hρ:ρ r2=.v5 k va1 vb vc vd' ve p l) (hρ':ρ'=if xB<0 then upd ρ r2 .none else ρ) (C:CAt w bc {cc with regs:=.slice (some ⟨br,0,none⟩) n n}) (X:RgA w br n ρ) :
  Calls prog 39 #[pz' bl,pz' bc,.agg (qa o r1 xB c d e f)] w fun e w'=>e=.returned .nilIface/\Chg [br] w w'/\RgA w' br n (upd ρ' r1 (.val va1 vb vc vd' ve)):=by
 have O0:OpR bc br n w.heap.size cc (qa o r1 xB c d e f) ρ w (w.alloc (.cells (qa o r1 xB c d e f) 161)).drew:=⟨(Blk.new w _ _).l (Below.refl _ _).drew,C.l ((Below.refl _ _).alloc (Nat.le_refl _) _).drew,X.l ((Below.refl _ _).alloc (Nat.le_refl _) _).drew,(Chg.refl _ _).below ((Below.refl _ _).alloc (Nat.le_refl _) _).drew⟩
 have HO:Hid (OpR bc br n w.heap.size cc (qa o r1 xB c d e f) ρ w (w.alloc (.cells (qa o r1 xB c d e f) 161)).drew):=O0
 have zs:=O0.q.cell
 have HX:Hid (xB=r2∨xB = -1-r2):=hx
 have HR:Hid (ρ r2=.v5 k va1 vb vc vd' ve p l):=hρ
 have HR':Hid (ρ'=if xB<0 then upd ρ r2 .none else ρ):=hρ'
 clear hx hρ hρ' O0 C X
 go_enter func39,ntmps39
 go_wp2_with fail
 go_region_held3 (fun V=>(∀o',V.cell? ⟨w.heap.size,o',none⟩=(#[.int .i64 o,.int .i64 r1,.int .i64 xB,.int .i64 c,.int .i64 d,.int .i64 e,.int .i64 f]:Array Value)[o']?)) (first|with_reducible exact zs|with_reducible exact zs1|with_reducible exact zs2) (first|(go_at_call 123;refine(HO.out.reg2 r2 xB k va1 vb vc vd' ve p l hr2 hn HX.out HR.out).mono ?_;rintro e w1 ⟨rfl,O1,_,_⟩;rw[←HR'.out]at O1;have HO1:Hid (OpR bc br n w.heap.size cc (qa o r1 xB c d e f) ρ' w w1):=O1;have zs1:=O1.q.cell)|(go_at_call 121;refine(A6j bc br r1 n cc ρ' va1 vb vc vd' ve _ hr1 HO1.out.c HO1.out.x).mono ?_;rintro e w2 ⟨rfl,C2,X2⟩;have HO2:Hid (OpR bc br n w.heap.size cc (qa o r1 xB c d e f) (upd ρ' r1 (.val va1 vb vc vd' ve)) w w2):=(HO1.out.call C2 X2).1;have zs2:=HO2.out.q.cell))
 go_wp2_with fail
 go_ret
 exact⟨rfl,HO2.out.g,HO2.out.x⟩
theorem A3n (bl bc br n r:Nat) (o xA b c d e f ln:Int) (cc:Cc) (ρ:Nat->R8) (lo:Option Addr) (ll lc:Nat) (w:World) (hr:r<n) (hn:n<=100) (hx:xA = -1-r) (hρ:ρ r=.li lo ll lc) (C:CAt w bc {cc with regs:=.slice (some ⟨br,0,none⟩) n n,line:=.int .i64 ln}) (X:RgA w br n ρ) :
  Calls prog 62 #[pz' bl,pz' bc,.agg (qa o xA b c d e f)] w fun e w'=>e=.returned .nilIface/\Chg [bc,br] w w'/\CAt w' bc {cc with regs:=.slice (some ⟨br,0,none⟩) n n,line:=.int .i64 ln,leaving:=.bool true,one:=.bool false,wk:=.int .i64 1,wv:=.slice lo ll lc,wt:=.string ByteArray.empty,saved:=.int .i64 ln}/\RgA w' br n (upd ρ r .none):=by
 have B0:∀o,Below w.heap.size w (w.alloc o):=fun _=>(Below.refl _ _).alloc (Nat.le_refl _) _
 have nbr:bc≠br:=Aa C X.blk (by decide)
 have HX:Hid (xA = -1-r):=hx
 clear hx
 go_enter func62,ntmps62
 go_wp2_with fail
 refine(A2j bc br r n xA {cc with line:=.int .i64 ln} ρ lo ll lc _ hr hn HX.out hρ (C.alloc _) (X.alloc _)).mono ?_
 rintro e w1 ⟨rfl,hC1,hX1⟩
 have D1:=(C.alloc _).chg hC1 (by simpa using nbr)
 go_wp2_with fail
 refine(Oe bc {cc with regs:=.slice (some ⟨br,0,none⟩) n n} 1 ln lo ll lc ByteArray.empty _ D1).mono ?_
 rintro e w2 ⟨rfl,hC2,hD2⟩
 go_wp2_with fail
 go_ret
 exact⟨rfl,(((Chg.refl _ _).below (B0 _)).trans hC1 (by simp)).trans hC2 (by simp),hD2,hX1.chg hC2 (by simpa using Ne.symm nbr)⟩
end Go.Proofs.YtbefeflgjipfhaaGreatDoor
