import Derived.Test.YtgopdffmnikhdaaGreatDoorT34
import Derived.Test.YtgopdffmnikhdaaGreatDoorT25
namespace Go.Proofs.YtgopdffmnikhdaaGreatDoor
open Go.RowKit Go.Deep
def StPost (L:Nat) (w:World) (T:St) (e:Ending) (w':World):Prop:=(∃rb to tc go gc,e=.returned (.agg #[.bool rb,.slice to T.types.length tc,.slice go T.guards.length gc])∧RowI L w' to tc T.types∧RowG L w' go gc T.guards)∧Below w.heap.size w w'
theorem Blk.three {w:World} {b:Nat} {x y z x' y' z':Value} {t:TypeId} (h:Blk w b #[x,y,z] t):Blk (((w.setCell ⟨b,0,none⟩ x').setCell ⟨b,1,none⟩ y').setCell ⟨b,2,none⟩ z') b #[x',y',z'] t:=((h.set 0 x').set 1 y').set 2 z'
def setL:List Int→Nat→List Int→List Int
 | ts,_,[]=>ts
 | ts,o,u::us=>setL (ts.set o u) (o+1) us
theorem setL_get (us:List Int):∀(ts:List Int) (o j:Nat),o+us.length≤ts.length→(setL ts o us)[j]?=if o≤j∧j<o+us.length then us[j - o]? else ts[j]?:=by
 induction us with
 | nil=>intro ts o j _;unfold setL;rw [if_neg (by simp <;> omega)]
 | cons u r ih=>
  intro ts o j h
  simp at h
  unfold setL
  rw [ih (ts.set o u) (o+1) j (by simp;omega),List.getElem?_set]
  by_cases h1:o=j
  ·subst h1
   rw [if_neg (by omega),if_pos rfl,if_pos (by omega),if_pos (by simp)]
   simp
  ·by_cases h2:o+1≤j∧j<o+1+r.length
   ·rw [if_pos h2,if_pos (by simp;omega)]
    rw [show j - o=(j - (o+1))+1 by omega]
    rfl
   ·rw [if_neg h2,if_neg h1,if_neg (by simp;omega)]
theorem setL_zero {ts:List Int} {b:Nat} (hb:b≤ts.length):setL ts b (List.replicate (ts.length - b) 0)=ts.take b ++ List.replicate (ts.length - b) 0:=by
 apply List.ext_getElem?
 intro j
 rw [setL_get _ _ _ _ (by simp;omega),List.getElem?_append,List.length_take,List.length_replicate,Nat.min_eq_left hb]
 by_cases h1:j<b
 ·rw [if_neg (by omega),if_pos h1,List.getElem?_take_of_lt h1]
 ·rw [if_neg h1]
  by_cases h2:j<ts.length
  ·rw [if_pos (by omega)]
  ·rw [if_neg (by omega),List.getElem?_eq_none (by omega),List.getElem?_eq_none (by simp;omega)]
theorem owns_sets {base g m cap:Nat} (us:List Int):∀{w:World} {ts:List Int} (o:Nat),w.ownsRow base 3 1 (.slice (some ⟨g,0,none⟩) m cap) m (ints ts)→(w.setCells g o (us.map (Value.int .i64))).ownsRow base 3 1 (.slice (some ⟨g,0,none⟩) m cap) m (ints (setL ts o us)):=by
 induction us with
 | nil=>intro w ts o h;exact h
 | cons u r ih=>
  intro w ts o h
  have h1:=(h.stored o (.int .i64 u)).1
  rw [ints_set] at h1
  exact ih (o+1) h1
theorem below_sets {n:Nat} {g:Nat} (us:List Value):∀{w w':World} (o:Nat),Below n w w'→n≤g→Below n w (w'.setCells g o us):=by
 induction us with
 | nil=>intro w w' o h _;exact h
 | cons u r ih=>intro w w' o h hg;exact ih (o+1) (h.setCell (by dsimp only;exact hg) _) hg
theorem sets_other (us:List Value):∀(w:World) (g o k:Nat),k≠g→(w.setCells g o us).heap[k]?=w.heap[k]?:=by
 induction us with
 | nil=>intro w g o k _;rfl
 | cons u r ih=>intro w g o k hk;exact (ih _ g (o+1) k hk).trans (Below.heap_setCell _ _ _ _ hk)
theorem Tryz.zero_int:∀w:World,(zeroValue 3).run Tryz.prog w=.ok (.int .i64 0) w:=fun _=>by kernel_rfl
set_option maxRecDepth 100000 in
set_option maxHeartbeats 4000000 in
theorem stateThere_other (op:Int) (na nb nc nd:Int) (ab bb:Bool) (ao ago bo bgo:Option Addr) (ac agc bc bgc L m:Nat) (s:St) (ts:List Int) (gs:List Gd) (w:World) (hL:L≤w.heap.size) (hm:s.types.length=m) (ht:ts.length=m) (hm2:m≤250) (_R1:RowI L w ao ac s.types) (_R2:RowG L w ago agc s.guards) (R3:RowI L w bo bc ts) (R4:RowG L w bgo bgc gs) (h41:op≠41) (h31:op≠31) :
  Calls Tryz.prog 358 #[.agg #[.int .i64 op,.int .i64 na,.int .i64 nb,.int .i64 nc,.int .i64 nd],.agg #[.bool ab,.slice ao s.types.length ac,.slice ago s.guards.length agc],.agg #[.bool bb,.slice bo ts.length bc,.slice bgo gs.length bgc]] w (StPost L w ⟨ts,gs⟩):=by
 have C1:=(((Blk.new w #[.int .i64 op,.int .i64 na,.int .i64 nb,.int .i64 nc,.int .i64 nd] 48).alloc (.cells #[.bool ab,.slice ao s.types.length ac,.slice ago s.guards.length agc] 318)).alloc (.cells #[.bool bb,.slice bo ts.length bc,.slice bgo gs.length bgc] 318)).alloc (.cells #[.bool false,.slice none 0 0,.slice none 0 0] 318)
 have C2:=((Blk.new (w.alloc (.cells #[.int .i64 op,.int .i64 na,.int .i64 nb,.int .i64 nc,.int .i64 nd] 48)) #[.bool ab,.slice ao s.types.length ac,.slice ago s.guards.length agc] 318).alloc (.cells #[.bool bb,.slice bo ts.length bc,.slice bgo gs.length bgc] 318)).alloc (.cells #[.bool false,.slice none 0 0,.slice none 0 0] 318)
 have C3:=(Blk.new ((w.alloc (.cells #[.int .i64 op,.int .i64 na,.int .i64 nb,.int .i64 nc,.int .i64 nd] 48)).alloc (.cells #[.bool ab,.slice ao s.types.length ac,.slice ago s.guards.length agc] 318)) #[.bool bb,.slice bo ts.length bc,.slice bgo gs.length bgc] 318).alloc (.cells #[.bool false,.slice none 0 0,.slice none 0 0] 318)
 have C4:=Blk.new (((w.alloc (.cells #[.int .i64 op,.int .i64 na,.int .i64 nb,.int .i64 nc,.int .i64 nd] 48)).alloc (.cells #[.bool ab,.slice ao s.types.length ac,.slice ago s.guards.length agc] 318)).alloc (.cells #[.bool bb,.slice bo ts.length bc,.slice bgo gs.length bgc] 318)) #[.bool false,.slice none 0 0,.slice none 0 0] 318
 simp only [nblk_alloc] at C2 C3 C4
 have B4:Below w.heap.size w ((((w.alloc (.cells #[.int .i64 op,.int .i64 na,.int .i64 nb,.int .i64 nc,.int .i64 nd] 48)).alloc (.cells #[.bool ab,.slice ao s.types.length ac,.slice ago s.guards.length agc] 318)).alloc (.cells #[.bool bb,.slice bo ts.length bc,.slice bgo gs.length bgc] 318)).alloc (.cells #[.bool false,.slice none 0 0,.slice none 0 0] 318)):=((((Below.refl _ _).alloc (Nat.le_refl _) _).alloc (by simp) _).alloc (by simp;omega) _).alloc (by simp;omega) _
 have HB4:Hid (∀o,Below w.heap.size w ((((w.alloc (.cells #[.int .i64 op,.int .i64 na,.int .i64 nb,.int .i64 nc,.int .i64 nd] 48)).alloc (.cells #[.bool ab,.slice ao s.types.length ac,.slice ago s.guards.length agc] 318)).alloc (.cells #[.bool bb,.slice bo ts.length bc,.slice bgo gs.length bgc] 318)).alloc o)):=fun o=>((((Below.refl _ _).alloc (Nat.le_refl _) _).alloc (by simp) _).alloc (by simp;omega) _).alloc (by simp;omega) _
 have e41:(op == 41)=false:=by simpa using h41
 have e31:(op == 31)=false:=by simpa using h31
 have _u:=hL
 have _u2:=hm
 have _u3:=ht
 have _u4:=hm2
 clear h41 h31 _u _u2 _u3 _u4 hm ht hm2 hL B4
 have c1:=C1.cell
 have c3:=C3.cell
 have c4:=C4.cell
 have f4:=C4.frozen
 go_enter Tryz.func358,Tryz.ntmps358
 go_wp2_with fail
 refine bodyPost_ret (v:=.agg #[.bool bb,.slice bo ts.length bc,.slice bgo gs.length bgc]) ?_ rfl ⟨⟨bb,bo,bc,bgo,bgc,rfl,R3.later (Keeps.of_below (HB4.out _)),R4.later (Keeps.of_below (HB4.out _))⟩,HB4.out _⟩
 simp [results,Tryz.results358,go_sem]
set_option maxRecDepth 100000 in
set_option maxHeartbeats 8000000 in
theorem stateThere_41 (na nb nd:Int) (cN gb gof:Nat) (ab bb:Bool) (ago bo bgo:Option Addr) (ac agc bc bgc L m:Nat) (s:St) (ts:List Int) (gs:List Gd) (w:World) (hL:L≤w.heap.size) (hm:s.types.length=m) (ht:ts.length=m) (hm2:m≤250) (R1:RowI L w (some ⟨gb,gof,none⟩) ac s.types) (_R2:RowG L w ago agc s.guards) (R3:RowI L w bo bc ts) (R4:RowG L w bgo bgc gs) (hcm:cN<m) :
  Calls Tryz.prog 358 #[.agg #[.int .i64 41,.int .i64 na,.int .i64 nb,.int .i64 ((cN:Nat):Int),.int .i64 nd],.agg #[.bool ab,.slice (some ⟨gb,gof,none⟩) s.types.length ac,.slice ago s.guards.length agc],.agg #[.bool bb,.slice bo ts.length bc,.slice bgo gs.length bgc]] w (StPost L w ⟨ts.set cN (tyAt s.types cN),gs⟩):=by
 have C1:=(((Blk.new w #[.int .i64 41,.int .i64 na,.int .i64 nb,.int .i64 ((cN:Nat):Int),.int .i64 nd] 48).alloc (.cells #[.bool ab,.slice (some ⟨gb,gof,none⟩) s.types.length ac,.slice ago s.guards.length agc] 318)).alloc (.cells #[.bool bb,.slice bo ts.length bc,.slice bgo gs.length bgc] 318)).alloc (.cells #[.bool false,.slice none 0 0,.slice none 0 0] 318)
 have C2:=((Blk.new (w.alloc (.cells #[.int .i64 41,.int .i64 na,.int .i64 nb,.int .i64 ((cN:Nat):Int),.int .i64 nd] 48)) #[.bool ab,.slice (some ⟨gb,gof,none⟩) s.types.length ac,.slice ago s.guards.length agc] 318).alloc (.cells #[.bool bb,.slice bo ts.length bc,.slice bgo gs.length bgc] 318)).alloc (.cells #[.bool false,.slice none 0 0,.slice none 0 0] 318)
 have C3:=(Blk.new ((w.alloc (.cells #[.int .i64 41,.int .i64 na,.int .i64 nb,.int .i64 ((cN:Nat):Int),.int .i64 nd] 48)).alloc (.cells #[.bool ab,.slice (some ⟨gb,gof,none⟩) s.types.length ac,.slice ago s.guards.length agc] 318)) #[.bool bb,.slice bo ts.length bc,.slice bgo gs.length bgc] 318).alloc (.cells #[.bool false,.slice none 0 0,.slice none 0 0] 318)
 have C4:=Blk.new (((w.alloc (.cells #[.int .i64 41,.int .i64 na,.int .i64 nb,.int .i64 ((cN:Nat):Int),.int .i64 nd] 48)).alloc (.cells #[.bool ab,.slice (some ⟨gb,gof,none⟩) s.types.length ac,.slice ago s.guards.length agc] 318)).alloc (.cells #[.bool bb,.slice bo ts.length bc,.slice bgo gs.length bgc] 318)) #[.bool false,.slice none 0 0,.slice none 0 0] 318
 simp only [nblk_alloc] at C2 C3 C4
 have B4:Below w.heap.size w ((((w.alloc (.cells #[.int .i64 41,.int .i64 na,.int .i64 nb,.int .i64 ((cN:Nat):Int),.int .i64 nd] 48)).alloc (.cells #[.bool ab,.slice (some ⟨gb,gof,none⟩) s.types.length ac,.slice ago s.guards.length agc] 318)).alloc (.cells #[.bool bb,.slice bo ts.length bc,.slice bgo gs.length bgc] 318)).alloc (.cells #[.bool false,.slice none 0 0,.slice none 0 0] 318)):=((((Below.refl _ _).alloc (Nat.le_refl _) _).alloc (by simp) _).alloc (by simp;omega) _).alloc (by simp;omega) _
 obtain⟨xb,hxb⟩:=some_of_lt (show cN<s.types.length by omega)
 have HXB:Hid (tyAt s.types cN=xb):=by show _=_;unfold tyAt;simp [hxb]
 obtain⟨gb',gof',heq,_,hgb,d0⟩:=R1.at_ cN xb hxb
 obtain⟨rfl,rfl⟩:gb=gb'∧gof=gof':=by simpa using heq
 unfold IntAt at d0
 rw [Nat.mul_one] at d0
 have HCL:Hid (∀_:Unit,_):=fun _=>cloneInt_any bo bc ts.length ts ((((w.alloc (.cells #[.int .i64 41,.int .i64 na,.int .i64 nb,.int .i64 ((cN:Nat):Int),.int .i64 nd] 48)).alloc (.cells #[.bool ab,.slice (some ⟨gb,gof,none⟩) s.types.length ac,.slice ago s.guards.length agc] 318)).alloc (.cells #[.bool bb,.slice bo ts.length bc,.slice bgo gs.length bgc] 318)).alloc (.cells #[.bool false,.slice none 0 0,.slice none 0 0] 318)) rfl (by omega) R3.nil (AllAt.lower (R3.later (Keeps.of_below B4)).at_ (Nat.zero_le _)) R3.form
 have HR4:Hid (∀W,Below w.heap.size w W→RowG L W bgo bgc gs):=fun W hb=>R4.later (Keeps.of_below hb)
 have d4:=(B4.cell (p:=⟨gb,gof+cN,none⟩) hgb).trans d0
 have c1:=C1.cell
 have c3:=C3.cell
 have _u1:=hL
 have hcs:cN<s.types.length:=by omega
 have hct:cN<ts.length:=by omega
 have htl:ts.length≤250:=by omega
 clear R1 R3 R4 hxb d0 heq hm ht
 go_enter Tryz.func358,Tryz.ntmps358
 go_wp2_with fail
 generalize ((((w.alloc (.cells #[.int .i64 41,.int .i64 na,.int .i64 nb,.int .i64 ((cN:Nat):Int),.int .i64 nd] 48)).alloc (.cells #[.bool ab,.slice (some ⟨gb,gof,none⟩) s.types.length ac,.slice ago s.guards.length agc] 318)).alloc (.cells #[.bool bb,.slice bo ts.length bc,.slice bgo gs.length bgc] 318)).alloc (.cells #[.bool false,.slice none 0 0,.slice none 0 0] 318))=w4 at *
 clear c1 c3
 refine (HCL.out ()).mono ?_
 rintro e w5 ⟨v5,rfl,T5,hw5⟩
 have hs4:=C4.lt
 have D1:=C1.later hw5
 have D2:=C2.later hw5
 have D3:=C3.later hw5
 have D4:=C4.later hw5
 have B5:=B4.trans (hw5.mono B4.size)
 have d5:=(hw5.cell (p:=⟨gb,gof+cN,none⟩) (Nat.lt_of_lt_of_le hgb B4.size)).trans d4
 rcases owns_form T5 with ⟨_,h0⟩ | ⟨g,cap5,rfl,hg1,hg2⟩
 ·omega
 clear C1 C2 C3 C4 B4 hw5 HCL d4
 have hne1:¬g=w.heap.size:=by omega
 have hne2:¬g=w.heap.size+1:=by omega
 have hne3:¬g=gb:=by omega
 have hne4:¬g=w.heap.size+1+1:=by omega
 have hne5:¬g=w.heap.size+1+1+1:=by omega
 have e1:=D1.cell 3
 have e2:=D2.cell 1
 have t5:=(T5.cellAt cN (by omega)).trans (ints_get (by omega))
 have z5:=T5.frozenAt cN
 have k1:(cN:Int)<s.types.length:=by omega
 have k2:(cN:Int)<ts.length:=by omega
 have T6:=(T5.stored cN (.int .i64 xb)).1
 rw [ints_set] at T6
 have HKP:Hid ((w5.setCell ⟨g,cN,none⟩ (.int .i64 xb)).drew.cell? ⟨w.heap.size,3,none⟩=some (.int .i64 cN)∧(w5.setCell ⟨g,cN,none⟩ (.int .i64 xb)).drew.cell? ⟨w.heap.size+1,1,none⟩=some (.slice (some ⟨gb,gof,none⟩) s.types.length ac)∧(w5.setCell ⟨g,cN,none⟩ (.int .i64 xb)).drew.cell? ⟨gb,gof+cN,none⟩=some (.int .i64 xb)):=
  ⟨(World.cell?_setCell_far _ _ _ _ hne1).trans e1,(World.cell?_setCell_far _ _ _ _ hne2).trans e2,(World.cell?_setCell_far _ _ _ _ hne3).trans d5⟩
 have HT6:Hid ((w5.setCell ⟨g,cN,none⟩ (.int .i64 xb)).drew.ownsRow w4.heap.size 3 1 (.slice (some ⟨g,0,none⟩) ts.length cap5) ts.length (ints (ts.set cN xb))):=owns_other T6 (fun k hk=>rfl)
 have HD3:Hid (Blk (w5.setCell ⟨g,cN,none⟩ (.int .i64 xb)).drew (w.heap.size+1+1) #[.bool bb,.slice bo ts.length bc,.slice bgo gs.length bgc] 318):=D3.setOther (p:=⟨g,cN,none⟩) (fun e=>hne4 e.symm) _
 have HD4:Hid (Blk (w5.setCell ⟨g,cN,none⟩ (.int .i64 xb)).drew (w.heap.size+1+1+1) #[.bool false,.slice none 0 0,.slice none 0 0] 318):=D4.setOther (p:=⟨g,cN,none⟩) (fun e=>hne5 e.symm) _
 have HB6:Hid (Below w.heap.size w (w5.setCell ⟨g,cN,none⟩ (.int .i64 xb)).drew):=(B5.setCell (by dsimp only;omega) _).drew
 have hLg:L≤w4.heap.size:=by omega
 clear T5 T6 D1 D2 D3 D4 B5 hne1 hne2 hne3
 go_wp2_with fail
 go_region_held3 (fun w'=>w'.cell? ⟨w.heap.size,3,none⟩=some (.int .i64 cN)∧w'.cell? ⟨w.heap.size+1,1,none⟩=some (.slice (some ⟨gb,gof,none⟩) s.types.length ac)∧w'.cell? ⟨gb,gof+cN,none⟩=some (.int .i64 xb)) (first | exact ⟨e1,e2,d5⟩ | exact HKP.out | (go_keep;done)) (fail)
 clear HKP e1 e2 t5 z5 d5
 generalize (w5.setCell ⟨g,cN,none⟩ (.int .i64 xb)).drew=w6 at *
 have c6:=HD3.out.cell
 have r6:=HD4.out.cell
 have f6:=HD4.out.frozen
 go_wp2_with fail
 have HD7:=HD4.out.three (x':=.bool false) (y':=.slice (some ⟨g,0,none⟩) ts.length cap5) (z':=.slice bgo gs.length bgc)
 have HB7:Below w.heap.size w (((w6.setCell ⟨w.heap.size+1+1+1,0,none⟩ (.bool false)).setCell ⟨w.heap.size+1+1+1,1,none⟩ (.slice (some ⟨g,0,none⟩) ts.length cap5)).setCell ⟨w.heap.size+1+1+1,2,none⟩ (.slice bgo gs.length bgc)):=((HB6.out.setCell (by dsimp only;omega) _).setCell (by dsimp only;omega) _).setCell (by dsimp only;omega) _
 have HT7:=owns_other HT6.out (w':=((w6.setCell ⟨w.heap.size+1+1+1,0,none⟩ (.bool false)).setCell ⟨w.heap.size+1+1+1,1,none⟩ (.slice (some ⟨g,0,none⟩) ts.length cap5)).setCell ⟨w.heap.size+1+1+1,2,none⟩ (.slice bgo gs.length bgc)) (fun k hk=>by
  have hkg:k=g:=by simpa [Value.ownBlock] using hk.symm
  have hk3:k≠w.heap.size+1+1+1:=by rw [hkg];exact hne5
  rw [Below.heap_setCell _ _ _ _ hk3,Below.heap_setCell _ _ _ _ hk3,Below.heap_setCell _ _ _ _ hk3])
 have c7:=HD7.cell
 refine bodyPost_ret (v:=.agg #[.bool false,.slice (some ⟨g,0,none⟩) ts.length cap5,.slice bgo gs.length bgc]) ?_ rfl ⟨⟨false,some ⟨g,0,none⟩,cap5,bgo,bgc,?_,?_,HR4.out _ HB7⟩,HB7⟩
 ·simp [results,Tryz.results358,go_sem,c7]
 ·simp
 ·rw [HXB.out]
  exact (RowI.of_owns HT7).lower hLg
set_option maxRecDepth 100000 in
set_option maxHeartbeats 8000000 in
theorem stateThere_31 (na nc nd:Int) (bN:Nat) (ab bb:Bool) (ao ago bo bgo:Option Addr) (ac agc bc bgc L m:Nat) (s:St) (ts:List Int) (gs:List Gd) (w:World) (hL:L≤w.heap.size) (hm:s.types.length=m) (ht:ts.length=m) (hm2:m≤250) (R1:RowI L w ao ac s.types) (R2:RowG L w ago agc s.guards) (_R3:RowI L w bo bc ts) (_R4:RowG L w bgo bgc gs) (hbm:bN+2≤m) :
  Calls Tryz.prog 358 #[.agg #[.int .i64 31,.int .i64 na,.int .i64 ((bN:Nat):Int),.int .i64 nc,.int .i64 nd],.agg #[.bool ab,.slice ao s.types.length ac,.slice ago s.guards.length agc],.agg #[.bool bb,.slice bo ts.length bc,.slice bgo gs.length bgc]] w (StPost L w ⟨tryT bN s.types,s.guards⟩):=by
 have C1:=(((Blk.new w #[.int .i64 31,.int .i64 na,.int .i64 ((bN:Nat):Int),.int .i64 nc,.int .i64 nd] 48).alloc (.cells #[.bool ab,.slice ao s.types.length ac,.slice ago s.guards.length agc] 318)).alloc (.cells #[.bool bb,.slice bo ts.length bc,.slice bgo gs.length bgc] 318)).alloc (.cells #[.bool false,.slice none 0 0,.slice none 0 0] 318)
 have C2:=((Blk.new (w.alloc (.cells #[.int .i64 31,.int .i64 na,.int .i64 ((bN:Nat):Int),.int .i64 nc,.int .i64 nd] 48)) #[.bool ab,.slice ao s.types.length ac,.slice ago s.guards.length agc] 318).alloc (.cells #[.bool bb,.slice bo ts.length bc,.slice bgo gs.length bgc] 318)).alloc (.cells #[.bool false,.slice none 0 0,.slice none 0 0] 318)
 have C3:=(Blk.new ((w.alloc (.cells #[.int .i64 31,.int .i64 na,.int .i64 ((bN:Nat):Int),.int .i64 nc,.int .i64 nd] 48)).alloc (.cells #[.bool ab,.slice ao s.types.length ac,.slice ago s.guards.length agc] 318)) #[.bool bb,.slice bo ts.length bc,.slice bgo gs.length bgc] 318).alloc (.cells #[.bool false,.slice none 0 0,.slice none 0 0] 318)
 have C4:=Blk.new (((w.alloc (.cells #[.int .i64 31,.int .i64 na,.int .i64 ((bN:Nat):Int),.int .i64 nc,.int .i64 nd] 48)).alloc (.cells #[.bool ab,.slice ao s.types.length ac,.slice ago s.guards.length agc] 318)).alloc (.cells #[.bool bb,.slice bo ts.length bc,.slice bgo gs.length bgc] 318)) #[.bool false,.slice none 0 0,.slice none 0 0] 318
 simp only [nblk_alloc] at C2 C3 C4
 have B4:Below w.heap.size w ((((w.alloc (.cells #[.int .i64 31,.int .i64 na,.int .i64 ((bN:Nat):Int),.int .i64 nc,.int .i64 nd] 48)).alloc (.cells #[.bool ab,.slice ao s.types.length ac,.slice ago s.guards.length agc] 318)).alloc (.cells #[.bool bb,.slice bo ts.length bc,.slice bgo gs.length bgc] 318)).alloc (.cells #[.bool false,.slice none 0 0,.slice none 0 0] 318)):=((((Below.refl _ _).alloc (Nat.le_refl _) _).alloc (by simp) _).alloc (by simp;omega) _).alloc (by simp;omega) _
 have HCL:Hid (∀_:Unit,_):=fun _=>cloneInt_any ao ac s.types.length s.types ((((w.alloc (.cells #[.int .i64 31,.int .i64 na,.int .i64 ((bN:Nat):Int),.int .i64 nc,.int .i64 nd] 48)).alloc (.cells #[.bool ab,.slice ao s.types.length ac,.slice ago s.guards.length agc] 318)).alloc (.cells #[.bool bb,.slice bo ts.length bc,.slice bgo gs.length bgc] 318)).alloc (.cells #[.bool false,.slice none 0 0,.slice none 0 0] 318)) rfl (by omega) R1.nil (AllAt.lower (R1.later (Keeps.of_below B4)).at_ (Nat.zero_le _)) R1.form
 have HR2:Hid (∀W,Below w.heap.size w W→RowG L W ago agc s.guards):=fun W hb=>R2.later (Keeps.of_below hb)
 have c1:=C1.cell
 have c2:=C2.cell
 have hcs:bN+2≤s.types.length:=by omega
 have hsl:s.types.length≤250:=by omega
 have HT:Hid (ts.length=m):=ht
 clear R1 R2 hm ht HT
 go_enter Tryz.func358,Tryz.ntmps358
 go_wp2_with fail
 generalize ((((w.alloc (.cells #[.int .i64 31,.int .i64 na,.int .i64 ((bN:Nat):Int),.int .i64 nc,.int .i64 nd] 48)).alloc (.cells #[.bool ab,.slice ao s.types.length ac,.slice ago s.guards.length agc] 318)).alloc (.cells #[.bool bb,.slice bo ts.length bc,.slice bgo gs.length bgc] 318)).alloc (.cells #[.bool false,.slice none 0 0,.slice none 0 0] 318))=w4 at *
 clear c1 c2
 refine (HCL.out ()).mono ?_
 rintro e w5 ⟨v5,rfl,T5,hw5⟩
 have hs4:=C4.lt
 have D1:=C1.later hw5
 have D2:=C2.later hw5
 have D4:=C4.later hw5
 have B5:=B4.trans (hw5.mono B4.size)
 have hlen5:=owns_cap T5
 rcases owns_form T5 with ⟨_,h0⟩ | ⟨g,cap5,rfl,hg1,hg2⟩
 ·omega
 have hcp5:s.types.length≤cap5:=hlen5 _ _ rfl
 clear C1 C2 C3 C4 B4 hw5 HCL hlen5
 have hne1:¬g=w.heap.size:=by omega
 have hne2:¬g=w.heap.size+1:=by omega
 have hne5:¬g=w.heap.size+1+1+1:=by omega
 have hcl:∀ty,(Builtin.clear_ #[55] ty #[.slice (some ⟨g,bN,none⟩) (s.types.length - bN) (cap5 - bN)]).run Tryz.prog w5=.ok (.tuple #[]) (w5.setCells g bN (List.replicate (s.types.length - bN) (.int .i64 0))):=
  fun ty=>Lib.run_clear_slice w5 _ _ ty _ Tryz.underlying55 Tryz.zero_int rfl rfl g bN _ _ (by omega) (fun j hj=>by rw [(T5.cellAt (bN+j) (by omega)).trans (ints_get (by omega))];rfl) (fun j hj=>T5.frozenAt (bN+j))
 have T6:=owns_sets (List.replicate (s.types.length - bN) 0) bN T5
 rw [List.map_replicate,setL_zero (by omega)] at T6
 have D16:Blk (w5.setCells g bN (List.replicate (s.types.length - bN) (.int .i64 0))) w.heap.size _ _:=(sets_other _ w5 g bN _ (fun e=>hne1 e.symm)).trans D1
 have D26:Blk (w5.setCells g bN (List.replicate (s.types.length - bN) (.int .i64 0))) (w.heap.size+1) _ _:=(sets_other _ w5 g bN _ (fun e=>hne2 e.symm)).trans D2
 have D46:Blk (w5.setCells g bN (List.replicate (s.types.length - bN) (.int .i64 0))) (w.heap.size+1+1+1) _ _:=(sets_other _ w5 g bN _ (fun e=>hne5 e.symm)).trans D4
 have B6:Below w.heap.size w (w5.setCells g bN (List.replicate (s.types.length - bN) (.int .i64 0))):=below_sets _ bN B5 (by omega)
 have d1:=D1.cell
 have k1:(bN:Int)≤s.types.length:=by omega
 have kc:bN≤cap5:=by omega
 have HT6:Hid ((w5.setCells g bN (List.replicate (s.types.length - bN) (.int .i64 0))).ownsRow w4.heap.size 3 1 (.slice (some ⟨g,0,none⟩) s.types.length cap5) s.types.length (ints (s.types.take bN ++ List.replicate (s.types.length - bN) 0))):=T6
 have HD16:Hid (Blk (w5.setCells g bN (List.replicate (s.types.length - bN) (.int .i64 0))) w.heap.size #[.int .i64 31,.int .i64 na,.int .i64 ((bN:Nat):Int),.int .i64 nc,.int .i64 nd] 48):=D16
 have HD26:Hid (Blk (w5.setCells g bN (List.replicate (s.types.length - bN) (.int .i64 0))) (w.heap.size+1) #[.bool ab,.slice ao s.types.length ac,.slice ago s.guards.length agc] 318):=D26
 have HD46:Hid (Blk (w5.setCells g bN (List.replicate (s.types.length - bN) (.int .i64 0))) (w.heap.size+1+1+1) #[.bool false,.slice none 0 0,.slice none 0 0] 318):=D46
 have HB6:Hid _:=B6
 clear T5 T6 D1 D2 D4 D16 D26 D46 B5 B6
 go_wp2_with fail
 generalize w5.setCells g bN (List.replicate (s.types.length - bN) (.int .i64 0))=w6 at *
 clear hcl d1
 have HLN:Hid ((s.types.take bN ++ List.replicate (s.types.length - bN) 0).length=s.types.length):=by show _=_;simp;omega
 have p6:=HD16.out.cell 2
 have c6:=(HT6.out.cellAt bN (by omega)).trans (ints_get (by rw [HLN.out];omega))
 have d6:=(HT6.out.cellAt (bN+1) (by omega)).trans (ints_get (by rw [HLN.out];omega))
 have z6:=HT6.out.frozenAt
 have T7:=(HT6.out.stored bN (.int .i64 1)).1
 rw [ints_set] at T7
 have T8:=(T7.stored (bN+1) (.int .i64 1)).1
 rw [ints_set] at T8
 have HTR:Hid (tryT bN s.types=((s.types.take bN ++ List.replicate (s.types.length - bN) 0).set bN 1).set (bN+1) 1):=by show _=_;unfold tryT;simp
 rw [←HTR.out] at T8
 have k2:(bN:Int)<s.types.length:=by omega
 have k3:(bN:Int)+1<s.types.length:=by omega
 have k4:(0:Int)≤(bN:Int)+1:=by omega
 have k5:IntKind.i64.wrap ((bN:Int)+1)=(bN:Int)+1:=by unfold IntKind.wrap;simp [IntKind.signed,IntKind.bits];omega
 have HT8:Hid (((w6.setCell ⟨g,bN,none⟩ (.int .i64 1)).setCell ⟨g,bN+1,none⟩ (.int .i64 1)).drew.ownsRow w4.heap.size 3 1 (.slice (some ⟨g,0,none⟩) s.types.length cap5) s.types.length (ints (tryT bN s.types))):=owns_other T8 (fun k hk=>rfl)
 have HB8:Hid (Below w.heap.size w ((w6.setCell ⟨g,bN,none⟩ (.int .i64 1)).setCell ⟨g,bN+1,none⟩ (.int .i64 1)).drew):=((HB6.out.setCell (by dsimp only;omega) _).setCell (by dsimp only;omega) _).drew
 have HD28:Hid (Blk ((w6.setCell ⟨g,bN,none⟩ (.int .i64 1)).setCell ⟨g,bN+1,none⟩ (.int .i64 1)).drew (w.heap.size+1) #[.bool ab,.slice ao s.types.length ac,.slice ago s.guards.length agc] 318):=(HD26.out.setOther (p:=⟨g,bN,none⟩) (fun e=>hne2 e.symm) _).setOther (p:=⟨g,bN+1,none⟩) (fun e=>hne2 e.symm) _
 have HD48:Hid (Blk ((w6.setCell ⟨g,bN,none⟩ (.int .i64 1)).setCell ⟨g,bN+1,none⟩ (.int .i64 1)).drew (w.heap.size+1+1+1) #[.bool false,.slice none 0 0,.slice none 0 0] 318):=(HD46.out.setOther (p:=⟨g,bN,none⟩) (fun e=>hne5 e.symm) _).setOther (p:=⟨g,bN+1,none⟩) (fun e=>hne5 e.symm) _
 clear T7 T8 HT6 HD16 HD26 HD46 HB6
 go_wp2_with fail
 go_region_held3 (fun w'=>w'.cell? ⟨w.heap.size,2,none⟩=some (.int .i64 bN)) (first | exact p6 | (exact (World.cell?_setCell_far _ _ _ _ hne1).trans p6) | (exact ((World.cell?_setCell_far _ _ _ _ hne1).trans (World.cell?_setCell_far _ _ _ _ hne1)).trans p6) | (go_keep;done)) (fail)
 clear p6 c6 d6 z6
 generalize ((w6.setCell ⟨g,bN,none⟩ (.int .i64 1)).setCell ⟨g,bN+1,none⟩ (.int .i64 1)).drew=w8 at *
 have c8:=HD28.out.cell
 have r8:=HD48.out.cell
 have f8:=HD48.out.frozen
 have hLg:L≤w4.heap.size:=by have:=hL;omega
 go_wp2_with fail
 have HD9:=HD48.out.three (x':=.bool false) (y':=.slice (some ⟨g,0,none⟩) s.types.length cap5) (z':=.slice ago s.guards.length agc)
 have HB9:Below w.heap.size w (((w8.setCell ⟨w.heap.size+1+1+1,0,none⟩ (.bool false)).setCell ⟨w.heap.size+1+1+1,1,none⟩ (.slice (some ⟨g,0,none⟩) s.types.length cap5)).setCell ⟨w.heap.size+1+1+1,2,none⟩ (.slice ago s.guards.length agc)):=((HB8.out.setCell (by dsimp only;omega) _).setCell (by dsimp only;omega) _).setCell (by dsimp only;omega) _
 have HT9:=owns_other HT8.out (w':=((w8.setCell ⟨w.heap.size+1+1+1,0,none⟩ (.bool false)).setCell ⟨w.heap.size+1+1+1,1,none⟩ (.slice (some ⟨g,0,none⟩) s.types.length cap5)).setCell ⟨w.heap.size+1+1+1,2,none⟩ (.slice ago s.guards.length agc)) (fun k hk=>by
  have hkg:k=g:=by simpa [Value.ownBlock] using hk.symm
  have hk3:k≠w.heap.size+1+1+1:=by rw [hkg];exact hne5
  rw [Below.heap_setCell _ _ _ _ hk3,Below.heap_setCell _ _ _ _ hk3,Below.heap_setCell _ _ _ _ hk3])
 have c9:=HD9.cell
 have htl:(tryT bN s.types).length=s.types.length:=by rw [HTR.out];simp;omega
 refine bodyPost_ret (v:=.agg #[.bool false,.slice (some ⟨g,0,none⟩) s.types.length cap5,.slice ago s.guards.length agc]) ?_ rfl ⟨⟨false,some ⟨g,0,none⟩,cap5,ago,agc,?_,?_,HR2.out _ HB9⟩,HB9⟩
 ·simp [results,Tryz.results358,go_sem,c9]
 ·dsimp only;rw [htl]
 ·exact (RowI.of_owns HT9).lower hLg
theorem stateThere_any (np:Nat) (p:Pd) (n:Nd) (ab bb:Bool) (ao ago bo bgo:Option Addr) (ac agc bc bgc L m:Nat) (s:St) (ts:List Int) (gs:List Gd) (w:World) (hL:L≤w.heap.size) (hm:s.types.length=m) (ht:ts.length=m) (hm2:m≤250) (R1:RowI L w ao ac s.types) (R2:RowG L w ago agc s.guards) (R3:RowI L w bo bc ts) (R4:RowG L w bgo bgc gs) (hn:InsFit np p n) (hmr:(m:Int)=p.regs) :
  Calls Tryz.prog 358 #[n.val,.agg #[.bool ab,.slice ao s.types.length ac,.slice ago s.guards.length agc],.agg #[.bool bb,.slice bo ts.length bc,.slice bgo gs.length bgc]] w (StPost L w (thereF n s ts gs)):=by
 obtain⟨f1,f2,f3,f4,f5,f6⟩:=fit_tab hn
 obtain⟨op,na,nb,nc,nd⟩:=n
 dsimp only at *
 unfold Nd.val thereF
 dsimp only
 by_cases h41:op=41
 ·subst h41
  have hc:=f5 rfl
  obtain⟨cN,rfl⟩:=Int.eq_ofNat_of_zero_le hc.1
  rw [if_pos rfl,Int.toNat_natCast]
  have hcm:cN<m:=by omega
  cases ao with
  | none=>have:=R1.nil rfl;omega
  | some a=>
   obtain⟨gb,gof,rfl⟩:=R1.form a rfl
   exact stateThere_41 na nb nd cN gb gof ab bb ago bo bgo ac agc bc bgc L m s ts gs w hL hm ht hm2 R1 R2 R3 R4 hcm
 ·rw [if_neg h41]
  by_cases h31:op=31
  ·subst h31
   have hb:=(f1 rfl).2
   obtain⟨bN,rfl⟩:=Int.eq_ofNat_of_zero_le hb.1
   rw [if_pos rfl]
   exact stateThere_31 na nc nd bN ab bb ao ago bo bgo ac agc bc bgc L m s ts gs w hL hm ht hm2 R1 R2 R3 R4 (by omega)
  ·rw [if_neg h31]
   exact stateThere_other op na nb nc nd ab bb ao ago bo bgo ac agc bc bgc L m s ts gs w hL hm ht hm2 R1 R2 R3 R4 h41 h31
end Go.Proofs.YtgopdffmnikhdaaGreatDoor
