import Derived.Test.YtbefeflgjipfhaaGreatDoorF04
set_option maxHeartbeats 1000000
namespace Go.Proofs.YtbefeflgjipfhaaGreatDoor
open Go.Deep Go.Proofs.Tryz Go.RowKit
attribute [local go_sem] A7
abbrev vi (x:Int):Array Value:=#[.int .i64 2,.int .i64 x,.float .f64 0,.string ByteArray.empty,.int .i64 0]
attribute [local go_sem] vi
theorem bl2 {w w1 w2:World} (h:Below w.heap.size w w1) (k:Below w1.heap.size w1 w2):Below w.heap.size w w2:=h.trans (k.mono h.size)
theorem nb {W:World} {n:Nat} (arr:Array Value) (t:TypeId) (h:W.heap.size=n):Blk (W.alloc (.cells arr t)) n arr t:=h▸Blk.new W arr t
theorem Gu (x:Int) (w:World):Calls prog 132 #[.int .i64 x] w fun e w'=>e=.returned (.agg (vi x))/\Below w.heap.size w w':=by
 go_enter func132,ntmps132
 go_wp2_with fail
 exact bodyPost_ret (v:=.agg (vi x)) (by simp[results,results132,go_sem];rfl) rfl ⟨rfl,(Below.refl _ _).alloc (Nat.le_refl _) _⟩
theorem Cq (x:Int) (w:World):Calls prog 147 #[.agg (vi x)] w fun e w'=>e=.returned (.bool true)/\Below w.heap.size w w':=by
 go_enter func147,ntmps147
 go_wp2_with fail
 go_ret
 exact⟨rfl,(Below.refl _ _).alloc (Nat.le_refl _) _⟩
theorem Gt (x y:Int) (w:World):Calls prog 155 #[.agg (vi x),.agg (vi y)] w fun e w'=>e=.returned (.bool true)/\Below w.heap.size w w':=by
 go_enter func155,ntmps155
 go_wp2_with fail
 go_ret
 exact⟨rfl,((Below.refl _ _).alloc (Nat.le_refl _) _).alloc (by simp) _⟩
theorem Rt (x:Int) (w:World):Calls prog 156 #[.int .i64 x,.int .i64 1,.int .i64 (x+1)] w fun e w'=>e=.returned (.bool false)/\Below w.heap.size w w':=by
 have h:¬x+1<x:=by omega
 go_enter func156,ntmps156
 go_wp2_with fail
 go_ret
 exact⟨rfl,Below.refl _ _⟩
def ord (x y:Int):Int:=if x<y then -1 else if y<x then 1 else 0
theorem A85 (x:Int) (w:World):Calls prog 335 #[.int .i64 x] w fun e w'=>e=.returned (.bool false)/\w'=w:=by
 go_enter func335,ntmps335
 go_wp2_with fail
 go_ret
 simp
theorem A3l (x y:Int) (w:World):Calls prog 273 #[.int .i64 x,.int .i64 y] w fun e w'=>e=.returned (.int .i64 (ord x y))/\w'=w:=by
 go_enter func273,ntmps273
 go_wp2_with (first|(go_at_call 335;refine(A85 _ _).mono ?_;rintro e w1 ⟨rfl,rfl⟩))
 all_goals go_ret
 all_goals exact⟨Cr (by unfold ord;split<;>(try split)<;>omega),rfl⟩
theorem H9 (x y:Int) (w:World):Calls prog 214 #[.agg (vi x),.agg (vi y)] w fun e w'=>e=.returned (.int .i64 (ord x y))/\Below w.heap.size w w':=by
 have B2:Below w.heap.size w ((w.alloc (.cells (vi x) 52)).alloc (.cells (vi y) 52)):=((Below.refl _ _).alloc (Nat.le_refl _) _).alloc (by simp) _
 go_enter func214,ntmps214
 go_wp2_with fail
 refine(Gt x y _).mono ?_
 rintro e w1 ⟨rfl,hw1⟩
 have X:=(((Blk.new w (vi x) 52).alloc (.cells (vi y) 52)).l hw1).cell
 have Y:=((nb (vi y) 52 (W:=w.alloc (.cells (vi x) 52)) (n:=w.heap.size+1) (by simp)).l hw1).cell
 go_wp2_with fail
 refine(A3l x y _).mono ?_
 rintro e w2 ⟨rfl,rfl⟩
 go_wp2_with fail
 go_ret
 exact⟨rfl,bl2 B2 hw1⟩
theorem Jh (x y:Int) (w:World):Calls prog 152 #[.agg (vi x),.agg (vi y)] w fun e w'=>e=.returned (.int .i64 (ord x y))/\Below w.heap.size w w':=by
 have B2:Below w.heap.size w ((w.alloc (.cells (vi x) 52)).alloc (.cells (vi y) 52)):=((Below.refl _ _).alloc (Nat.le_refl _) _).alloc (by simp) _
 have HV:Hid (∀(z:Int) W,Calls prog 212 #[.agg (vi z)] W fun e w'=>e=.returned (.bool true)/\Below W.heap.size W w'):=fun z W=>(Dz ⟨2,z,0,ByteArray.empty,0⟩ W).mono (by rintro e w' ⟨rfl,h⟩;exact⟨Ac (by kernel_rfl),h⟩)
 have X:=(Blk.new w (vi x) 52).alloc (.cells (vi y) 52)
 have Y:=nb (vi y) 52 (W:=w.alloc (.cells (vi x) 52)) (n:=w.heap.size+1) (by simp)
 go_enter func152,ntmps152
 go_wp2_with fail
 refine(HV.out x _).mono ?_
 rintro e w1 ⟨rfl,hw1⟩
 have X1:=X.l hw1
 have Y1:=Y.l hw1
 have B1:=bl2 B2 hw1
 clear X Y B2 hw1
 have c1:=Y1.cell
 go_wp2_with fail
 refine(HV.out y _).mono ?_
 rintro e w2 ⟨rfl,hw2⟩
 have X2:=X1.l hw2
 have Y2:=Y1.l hw2
 have B2:=bl2 B1 hw2
 clear X1 Y1 B1 hw2 c1
 have c1:=X2.cell
 go_wp2_with fail
 refine(Cq x _).mono ?_
 rintro e w3 ⟨rfl,hw3⟩
 have X3:=X2.l hw3
 have Y3:=Y2.l hw3
 have B3:=bl2 B2 hw3
 clear X2 Y2 B2 hw3 c1
 have c1:=Y3.cell
 go_wp2_with fail
 refine(Cq y _).mono ?_
 rintro e w4 ⟨rfl,hw4⟩
 have X4:=X3.l hw4
 have Y4:=Y3.l hw4
 have B4:=bl2 B3 hw4
 clear X3 Y3 B3 hw4 c1
 have c1:=X4.cell
 have c2:=Y4.cell
 go_wp2_with fail
 refine(H9 x y _).mono ?_
 rintro e w5 ⟨rfl,hw5⟩
 go_wp2_with fail
 go_ret
 exact⟨rfl,bl2 B4 hw5⟩
theorem A12 (x:Int) (w:World):Calls prog 148 #[.agg (vi x)] w fun e w'=>e=.returned (.bool (decide (x=0)))/\Below w.heap.size w w':=by
 have X:=Blk.new w (vi x) 52
 have xs:∀o,(w.alloc (.cells (vi x) 52)).drew.cell? ⟨w.heap.size,o,none⟩=(vi x)[o]?:=X.cell
 have B0:Below w.heap.size w (w.alloc (.cells (vi x) 52)).drew:=((Below.refl _ _).alloc (Nat.le_refl _) _).drew
 go_enter func148,ntmps148
 go_wp2_with fail
 go_region_held3 (fun W=>(∀o,W.cell? ⟨w.heap.size,o,none⟩=(vi x)[o]?)) (with_reducible exact xs) (first|(go_at_call 132;refine(Gu 0 _).mono ?_;rintro e w1 ⟨rfl,hw1⟩;have X1:=Blk.l (w:=(w.alloc (.cells (vi x) 52)).drew) X hw1;have xs:=X1.cell)|(go_at_call 152;refine(Jh x 0 _).mono ?_;rintro e w2 ⟨rfl,hw2⟩;have xs:=(X1.l hw2).cell))
 go_wp2_with fail
 go_ret
 exact⟨Ac (by unfold ord;by_cases h:x=0<;>simp[h]<;>split<;>(try split)<;>simp<;>omega),bl2 (bl2 B0 hw1) hw2⟩
theorem Sc (x:Int) (w:World):Calls prog 153 #[.agg (vi x)] w fun e w'=>e=.returned (.bool (decide (x<0)))/\Below w.heap.size w w':=by
 have X:=Blk.new w (vi x) 52
 have xs:∀o,(w.alloc (.cells (vi x) 52)).drew.cell? ⟨w.heap.size,o,none⟩=(vi x)[o]?:=X.cell
 have B0:Below w.heap.size w (w.alloc (.cells (vi x) 52)).drew:=((Below.refl _ _).alloc (Nat.le_refl _) _).drew
 go_enter func153,ntmps153
 go_wp2_with fail
 go_region_held3 (fun W=>(∀o,W.cell? ⟨w.heap.size,o,none⟩=(vi x)[o]?)) (with_reducible exact xs) (first|(go_at_call 132;refine(Gu 0 _).mono ?_;rintro e w1 ⟨rfl,hw1⟩;have X1:=Blk.l (w:=(w.alloc (.cells (vi x) 52)).drew) X hw1;have xs:=X1.cell)|(go_at_call 152;refine(Jh x 0 _).mono ?_;rintro e w2 ⟨rfl,hw2⟩;have xs:=(X1.l hw2).cell))
 go_wp2_with fail
 go_ret
 exact⟨Ac (by unfold ord;by_cases h:x<0<;>simp[h]<;>split<;>simp<;>omega),bl2 (bl2 B0 hw1) hw2⟩
abbrev vdz:Array Value:=#[.int .i64 0,.int .i64 0,.int .i64 0,.float .f64 0,.string ByteArray.empty,.int .i64 0]
theorem Vp (x y:Int) (w:World) (h1 : -9000000000000000000<=x+y) (h2:x+y<=9000000000000000000) (hy:y≠0):Calls prog 277 #[.int .i64 1,.int .i64 x,.int .i64 y] w fun e w'=>e=.returned (.agg #[.int .i64 0,.int .i64 2,.int .i64 (x+y),.float .f64 0,.string ByteArray.empty,.int .i64 0])/\Below w.heap.size w w':=by
 have hw:=wr h1 h2
 have X:=Blk.new w vdz 216
 have B0:Below w.heap.size w (w.alloc (.cells vdz 216)):=(Below.refl _ _).alloc (Nat.le_refl _) _
 go_enter func277,ntmps277
 go_wp2_with fail
 refine(Gu _ _).mono ?_
 rintro e w1 ⟨rfl,hw1⟩
 have X1:=X.l hw1
 have x1:=X1.cell
 have f1:=X1.frozen
 go_wp2_with fail
 have R:=(((((X1.set 0 (.int .i64 0)).set 1 (.int .i64 2)).set 2 (.int .i64 (x+y))).set 3 (.float .f64 0)).set 4 (.string ByteArray.empty)).set 5 (.int .i64 0)
 have r:=R.cell
 exact bodyPost_ret (v:=.agg #[.int .i64 0,.int .i64 2,.int .i64 (x+y),.float .f64 0,.string ByteArray.empty,.int .i64 0]) (by simp[results,results277,go_sem,r]) rfl ⟨rfl,(((((bl2 B0 hw1).setCell (Nat.le_refl _) _).setCell (Nat.le_refl _) _).setCell (Nat.le_refl _) _).setCell (Nat.le_refl _) _).setCell (Nat.le_refl _) _ |>.setCell (Nat.le_refl _) _⟩
theorem Qg (x y:Int) (w:World) (h1 : -9000000000000000000<=x+y) (h2:x+y<=9000000000000000000) (hy:y≠0):Calls prog 216 #[.int .i64 1,.agg (vi x),.agg (vi y)] w fun e w'=>e=.returned (.agg #[.int .i64 0,.int .i64 2,.int .i64 (x+y),.float .f64 0,.string ByteArray.empty,.int .i64 0])/\Below w.heap.size w w':=by
 have B0:Below w.heap.size w (((w.alloc (.cells (vi x) 52)).alloc (.cells (vi y) 52)).alloc (.cells vdz 216)):=(((Below.refl _ _).alloc (Nat.le_refl _) _).alloc (by simp) _).alloc (by simp;omega) _
 have X:=((Blk.new w (vi x) 52).alloc (.cells (vi y) 52)).alloc (.cells vdz 216)
 have Y:=(nb (vi y) 52 (W:=w.alloc (.cells (vi x) 52)) (n:=w.heap.size+1) (by simp)).alloc (.cells vdz 216)
 have Z:=nb vdz 216 (W:=(w.alloc (.cells (vi x) 52)).alloc (.cells (vi y) 52)) (n:=w.heap.size+1+1) (by simp)
 go_enter func216,ntmps216
 go_wp2_with fail
 refine(Gt x y _).mono ?_
 rintro e w1 ⟨rfl,hw1⟩
 have X1:=X.l hw1
 have Y1:=Y.l hw1
 have Z1:=Z.l hw1
 have B1:=bl2 B0 hw1
 clear X Y Z B0 hw1
 have c1:=X1.cell
 have c2:=Y1.cell
 go_wp2_with fail
 refine(Vp x y _ h1 h2 hy).mono ?_
 rintro e w2 ⟨rfl,hw2⟩
 have Z2:=Z1.l hw2
 have z:=Z2.cell
 have f:=Z2.frozen
 have B2:=bl2 B1 hw2
 clear X1 Y1 Z1 B1 hw2 c1 c2
 go_wp2_with fail
 have R:=(((((Z2.set 0 (.int .i64 0)).set 1 (.int .i64 2)).set 2 (.int .i64 (x+y))).set 3 (.float .f64 0)).set 4 (.string ByteArray.empty)).set 5 (.int .i64 0)
 have r:=R.cell
 exact bodyPost_ret (v:=.agg #[.int .i64 0,.int .i64 2,.int .i64 (x+y),.float .f64 0,.string ByteArray.empty,.int .i64 0]) (by simp[results,results216,go_sem,r]) rfl ⟨rfl,((((B2.setCell (by simp;omega) _).setCell (by simp;omega) _).setCell (by simp;omega) _).setCell (by simp;omega) _).setCell (by simp;omega) _ |>.setCell (by simp;omega) _⟩
theorem A0i (x y:Int) (w:World) (h1 : -9000000000000000000<=x+y) (h2:x+y<=9000000000000000000) (hy:y≠0):Calls prog 154 #[.int .i64 1,.agg (vi x),.agg (vi y)] w fun e w'=>e=.returned (.agg #[.int .i64 0,.int .i64 2,.int .i64 (x+y),.float .f64 0,.string ByteArray.empty,.int .i64 0])/\Below w.heap.size w w':=by
 have HV:Hid (∀(z:Int) W,Calls prog 212 #[.agg (vi z)] W fun e w'=>e=.returned (.bool true)/\Below W.heap.size W w'):=fun z W=>(Dz ⟨2,z,0,ByteArray.empty,0⟩ W).mono (by rintro e w' ⟨rfl,h⟩;exact⟨Ac (by kernel_rfl),h⟩)
 have B0:Below w.heap.size w (((w.alloc (.cells (vi x) 52)).alloc (.cells (vi y) 52)).alloc (.cells vdz 216)):=(((Below.refl _ _).alloc (Nat.le_refl _) _).alloc (by simp) _).alloc (by simp;omega) _
 have X:=((Blk.new w (vi x) 52).alloc (.cells (vi y) 52)).alloc (.cells vdz 216)
 have Y:=(nb (vi y) 52 (W:=w.alloc (.cells (vi x) 52)) (n:=w.heap.size+1) (by simp)).alloc (.cells vdz 216)
 have Z:=nb vdz 216 (W:=(w.alloc (.cells (vi x) 52)).alloc (.cells (vi y) 52)) (n:=w.heap.size+1+1) (by simp)
 go_enter func154,ntmps154
 go_wp2_with fail
 refine(HV.out x _).mono ?_
 rintro e w1 ⟨rfl,hw1⟩
 have X1:=X.l hw1
 have Y1:=Y.l hw1
 have Z1:=Z.l hw1
 have B1:=bl2 B0 hw1
 clear X Y Z B0 hw1
 have c2:=Y1.cell
 go_wp2_with fail
 refine(HV.out y _).mono ?_
 rintro e w2 ⟨rfl,hw2⟩
 have X2:=X1.l hw2
 have Y2:=Y1.l hw2
 have Z2:=Z1.l hw2
 have B2:=bl2 B1 hw2
 clear X1 Y1 Z1 B1 hw2 c2
 go_wp2_with fail
 refine(Bn 1 1 6 _).mono ?_
 rintro e w3 ⟨rfl,rfl⟩
 have c1:=X2.cell
 have hi:inR 1 1 6=true:=by decide
 go_wp2_with fail
 refine(Cq x _).mono ?_
 rintro e w4 ⟨rfl,hw4⟩
 have X4:=X2.l hw4
 have Y4:=Y2.l hw4
 have Z4:=Z2.l hw4
 have B4:=bl2 B2 hw4
 clear X2 Y2 Z2 B2 hw4 c1
 have c1:=Y4.cell
 go_wp2_with fail
 refine(Cq y _).mono ?_
 rintro e w5 ⟨rfl,hw5⟩
 have X5:=X4.l hw5
 have Y5:=Y4.l hw5
 have Z5:=Z4.l hw5
 have B5:=bl2 B4 hw5
 clear X4 Y4 Z4 B4 hw5 c1
 have c1:=X5.cell
 have c2:=Y5.cell
 go_wp2_with fail
 refine(Qg x y _ h1 h2 hy).mono ?_
 rintro e w6 ⟨rfl,hw6⟩
 have Z6:=Z5.l hw6
 have z:=Z6.cell
 have f:=Z6.frozen
 have B6:=bl2 B5 hw6
 clear X5 Y5 Z5 B5 hw6 c1 c2
 go_wp2_with fail
 have R:=(((((Z6.set 0 (.int .i64 0)).set 1 (.int .i64 2)).set 2 (.int .i64 (x+y))).set 3 (.float .f64 0)).set 4 (.string ByteArray.empty)).set 5 (.int .i64 0)
 have r:=R.cell
 exact bodyPost_ret (v:=.agg #[.int .i64 0,.int .i64 2,.int .i64 (x+y),.float .f64 0,.string ByteArray.empty,.int .i64 0]) (by simp[results,results154,go_sem,r]) rfl ⟨rfl,((((B6.setCell (by simp;omega) _).setCell (by simp;omega) _).setCell (by simp;omega) _).setCell (by simp;omega) _).setCell (by simp;omega) _ |>.setCell (by simp;omega) _⟩
end Go.Proofs.YtbefeflgjipfhaaGreatDoor
namespace Go.Proofs.YtbefeflgjipfhaaGreatDoor
open Go.Deep Go.Proofs.Tryz Go.RowKit
attribute [local go_sem] A7
structure R8 where
 (k a b c d e p l:Value)
abbrev R8.none:R8:=⟨.int .i64 0,.int .i64 0,.int .i64 0,.float .f64 0,.string ByteArray.empty,.int .i64 0,.pointer .none,.slice .none 0 0⟩
abbrev R8.val (a b:Int) (c:Nat) (d:ByteArray) (e:Int):R8:=⟨.int .i64 1,.int .i64 a,.int .i64 b,.float .f64 c,.string d,.int .i64 e,.pointer .none,.slice .none 0 0⟩
theorem Qw (bc:Nat) (cc:Cc) (a t:Int) (b:Bool) (w:World) (h0:0<=a) (h1:a<=6000) (C:CAt w bc {cc with at_:=.int .i64 a}) :
  Calls prog 138 #[.pointer (some ⟨bc,0,none⟩),.int .i64 t,.bool b] w fun e' w'=>e'=.returned (.tuple #[])/\Chg [bc] w w'/\CAt w' bc {cc with at_:=.int .i64 (if b then t else a+1)}:=by
 have cx:=C.cell
 have f:=C.frozen
 cases b
 ·go_enter func138,ntmps138
  go_wp2_with fail
  go_end0
  exact⟨rfl,(Chg.refl _ _).set (by simp) _ _,C.set 3 _⟩
 ·go_enter func138,ntmps138
  go_wp2_with fail
  go_end0
  exact⟨rfl,(Chg.refl _ _).set (by simp) _ _,C.set 3 _⟩
theorem cb {w w':World} {b o:Nat} {v:Value} (h:w.cell? ⟨b,o,none⟩=some v) (hb:Below w.heap.size w w'):w'.cell? ⟨b,o,none⟩=some v:=(hb.cell (p:=⟨b,o,none⟩) (World.block_lt_of_cell? _ _ h)).trans h
theorem ca {w:World} {b o:Nat} {v:Value} (h:w.cell? ⟨b,o,none⟩=some v) (x:Obj):(w.alloc x).cell? ⟨b,o,none⟩=some v:=cb h ((Below.refl _ _).alloc (Nat.le_refl _) _)
end Go.Proofs.YtbefeflgjipfhaaGreatDoor
namespace Go.Proofs.YtbefeflgjipfhaaGreatDoor
open Go.Deep Go.Proofs.Tryz Go.RowKit
attribute [local go_sem] A7 vi
theorem Blk.chg {L:List Nat} {w w':World} {b:Nat} {A:Array Value} {t:TypeId} (h:Blk w b A t) (hc:Chg L w w') (hb:b∉L):Blk w' b A t:=(hc.block b hb h.lt).trans h
theorem notin {L:List Nat} {n:Nat} (h:∀b∈L,b<n) {k:Nat} (hk:n<=k):k∉L:=fun hm=>by have:=h k hm;omega
abbrev qa (o a b c d e f:Int):Array Value:=#[.int .i64 o,.int .i64 a,.int .i64 b,.int .i64 c,.int .i64 d,.int .i64 e,.int .i64 f]
theorem A0q (bl bm bc:Nat) (o a b c d e f:Int) (m:Mc) (k n:Int) (w:World) (h0:w.cell? ⟨bl,0,none⟩=some (.pointer (some ⟨bm,0,none⟩))) (h5:w.cell? ⟨bl,5,none⟩=some (.int .i64 n)) (hk:0<=k) (hn:k<n) (hm:n<=5000) (X:MAt w bm {m with rk:=.int .i64 k}) :
  Calls prog 37 #[.pointer (some ⟨bl,0,none⟩),.pointer (some ⟨bc,0,none⟩),.agg (qa o a b c d e f)] w fun e w'=>e=.returned .nilIface/\Chg [bm] w w'/\MAt w' bm {m with rk:=.int .i64 (k+1)}:=by
 have B0:∀o,Below w.heap.size w (w.alloc o):=fun _=>(Below.refl _ _).alloc (Nat.le_refl _) _
 go_enter func37,ntmps37
 go_wp2_with fail
 refine(A09 bl bm m k n _ (ca h0 _) (ca h5 _) hk hn hm (X.alloc _)).mono ?_
 rintro e w1 ⟨rfl,hC,hX⟩
 go_wp2_with fail
 go_ret
 exact⟨rfl,((Chg.refl _ _).below (B0 _)).trans hC (fun _ h=>h),hX⟩
abbrev R8.int (x:Int):R8:=.val 2 x 0 ByteArray.empty 0
theorem Oe (bc:Nat) (cc:Cc) (k ln:Int) (vo:Option Addr) (vl vc:Nat) (tr:ByteArray) (w:World) (C:CAt w bc {cc with line:=.int .i64 ln}) :
  Calls prog 145 #[.pointer (some ⟨bc,0,none⟩),.bool false,.agg #[.int .i64 k,.slice vo vl vc,.string tr]] w fun e' w'=>e'=.returned (.tuple #[])/\Chg [bc] w w'/\CAt w' bc {cc with line:=.int .i64 ln,leaving:=.bool true,one:=.bool false,wk:=.int .i64 k,wv:=.slice vo vl vc,wt:=.string tr,saved:=.int .i64 ln}:=by
 have cx:=fun o=>(C.alloc o).cell
 have f:=fun o=>(C.alloc o).frozen
 go_enter func145,ntmps145
 go_wp2_with fail
 go_region
 go_wp2_with fail
 go_end0
 refine⟨rfl,((((((((Chg.refl [bc] w).below ((Below.refl _ _).alloc (Nat.le_refl _) _)).set (by simp) _ _).set (by simp) _ _).set (by simp) _ _).set (by simp) _ _).set (by simp) _ _).set (by simp) _ _).below (Below.refl _ _).drew,?_⟩
 have h:=((((((C.alloc (.cells #[.int .i64 k,.slice vo vl vc,.string tr] 37)).set 8 (.bool true)).set 9 (.bool false)).set 10 (.int .i64 k)).set 11 (.slice vo vl vc)).set 12 (.string tr)).set 5 (.int .i64 ln) |>.l (Below.refl _ _).drew
 simp only[List.setIfInBounds_toArray,List.set_cons_zero,List.set_cons_succ]at h
 exact h
end Go.Proofs.YtbefeflgjipfhaaGreatDoor
