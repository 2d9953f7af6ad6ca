import Derived.Test.YtaakadmnhpboiaaGreatDoorM39
import Derived.Test.YtaakadmnhpboiaaGreatDoorM30
namespace Go.Proofs.YtaakadmnhpboiaaGreatDoor
open Go.RowKit Go.Deep
theorem minI_nn:∀(xs:List Nat) (x:Int),0≤x→0≤minI x (zs xs)∧(minI x (zs xs)=x∨∃y ∈ xs,minI x (zs xs)=(y:Int))∧minI x (zs xs)≤x∧∀y ∈ xs,minI x (zs xs)≤(y:Int)
 | [],x,h=>by simp [minI,zs];exact h
 | y::r,x,h=>by
  have ih:=minI_nn r (min x (y:Int)) (by omega)
  have e:minI x (zs (y::r))=minI (min x (y:Int)) (zs r):=rfl
  rw [e]
  obtain⟨h1,h2,h3,h4⟩:=ih
  refine⟨h1,?_,by omega,?_⟩
  ·rcases h2 with h2 | ⟨z,hz,h2⟩
   ·by_cases hxy:x≤(y:Int)
    ·left;rw [h2];omega
    ·right;exact ⟨y,by simp,by rw [h2];omega⟩
   ·right;exact ⟨z,by simp [hz],h2⟩
  ·intro z hz
   rcases List.mem_cons.1 hz with rfl | hz
   ·omega
   ·exact h4 z hz
set_option maxRecDepth 1000000 in
set_option maxHeartbeats 8000000 in
theorem close_any (s cb gb ob qb N:Nat) (f:Nat→List Int) (lo cnt least a:Nat) (ord pre ext:List Nat) (vp:Value) (wq w:World) (I:CcIn s cb ob qb) (hN:N≤6000) (C:CcAt s cb gb ob qb N w ⟨cnt,ord,pre ++ a::ext,least⟩ vp) (hwq:wq.heap.size=s) (S:SsAt lo wq gb N f) (hbq:Below s wq w) (hin:∀y ∈ a::ext,y<N) (hnd:∀y ∈ a::ext,y ∉ pre) (hpl:(pre ++ a::ext).length≤6000) (hfl:∀j,j<N→(f j).length≤1048576) :
  Calls Tryz.prog 150 #[.pointer (some ⟨cb,0,none⟩),.int .i64 pre.length] w fun e w'=>e=.returned (.tuple #[])∧(∃least':Nat,(least':Int)=clsLeast f a ext least∧∃vp',CcAt s cb gb ob qb N w' ⟨cnt,ord,pre,least'⟩ vp')∧Below s w w':=by
 have hlen:(pre ++ a::ext).length=pre.length+(ext.length+1):=by simp
 have hP:=C.path
 dsimp only at hP
 rw [hlen] at hP
 obtain⟨po,pc,hpo⟩:=owns_slice hP
 subst hpo
 obtain⟨g,hg,hg1,hg2⟩:=owns_some hP (by omega)
 subst hg
 have hcap:=owns_cap hP _ _ rfl
 have B0:=C.blk
 have O0:=C.order
 have Q0:=C.opn
 dsimp only at B0 O0 Q0
 have hcb:=C.blk.lt
 have HP:Hid (w.ownsRow (s+3) 3 1 (.slice (some ⟨g,0,none⟩) (pre.length+(ext.length+1)) pc) (pre.length+(ext.length+1)) (ints (zs (pre ++ a::ext)))):=hP
 have HG:Hid (∀j y:Nat,(a::ext)[j]?=some y→w.cell? ⟨g,pre.length+j,none⟩=some (.int .i64 y)):=by
  intro j y hj
  have hl:=(List.getElem?_eq_some_iff.1 hj).1
  simp at hl
  refine (HP.out.cellAt (pre.length+j) (by omega)).trans ?_
  have:(pre ++ a::ext)[pre.length+j]?=some y:=by rw [List.getElem?_append_right (by omega)];simpa using hj
  unfold ints
  rw [List.getElem?_map,zs_get this]
  rfl
 have HT:Hid (w.ownsRow (s+3) 3 1 (.slice (some ⟨g,0,none⟩) pre.length pc) pre.length (ints (zs pre))):=by
  have:=owns_take (k:=pre.length) HP.out (by omega) (by simp)
  have e:(ints (zs (pre ++ a::ext))).take pre.length=ints (zs pre):=by unfold ints zs;simp [List.map_append]
  rw [e] at this
  exact this
 have hgc:¬g=cb:=by have:=I.c2;omega
 have k1:(pre.length:Int)≤(pre.length:Int)+((ext.length:Int)+1):=by omega
 have k2:pre.length≤pc:=by omega
 have HIN:Hid _:=hin
 have HND:Hid _:=hnd
 obtain⟨mn,hmn⟩:∃mn:Nat,minI (a:Int) (zs ext)=mn:=Int.eq_ofNat_of_zero_le (minI_nn ext a (by omega)).1
 have haN:=hin a (by simp)
 have B1:Blk (w.setCell ⟨cb,3,none⟩ (.slice (some ⟨g,0,none⟩) pre.length pc)) cb #[.slice (some ⟨gb,0,none⟩) N N,.int .i64 cnt,.slice (some ⟨ob,0,none⟩) N N,.slice (some ⟨g,0,none⟩) pre.length pc,.slice (some ⟨qb,0,none⟩) N N,.int .i64 least] 193:=B0.set 3 (.slice (some ⟨g,0,none⟩) pre.length pc)
 have hb1:Below s w (w.setCell ⟨cb,3,none⟩ (.slice (some ⟨g,0,none⟩) pre.length pc)):=(Below.refl s w).setCell (by dsimp only;exact I.c1) _
 have ho1:∀b,b≠cb→(w.setCell ⟨cb,3,none⟩ (.slice (some ⟨g,0,none⟩) pre.length pc)).heap[b]?=w.heap[b]?:=fun b hb=>Below.heap_setCell _ _ _ _ hb
 have hs1:(w.setCell ⟨cb,3,none⟩ (.slice (some ⟨g,0,none⟩) pre.length pc)).heap.size=w.heap.size:=size_set _ _ _
 clear C hP hlen hin hnd
 have b0:=B0.cell
 have f0:=B0.frozen
 go_enter Tryz.func150,Tryz.ntmps150
 refine wp_seq_k ?_
 intro K0 hK0
 have HK0:Hid _:=hK0
 clear hK0
 go_wp2_with fail
 refine HK0.out _ _ ?_
 clear HK0
 refine wp_seq_k ?_
 intro K1 hK1
 have HK1:Hid _:=hK1
 clear hK1
 go_wp2_with fail
 refine HK1.out _ _ ?_
 clear HK1 b0 f0
 generalize w.setCell ⟨cb,3,none⟩ (.slice (some ⟨g,0,none⟩) pre.length pc)=w1 at *
 have hblk:∀X:World,(∀b,b≠cb→b<w1.heap.size→X.heap[b]?=w1.heap[b]?)→Blk X ob (natArr ord) 3∧Blk X qb (boolArr (opnL N fun v=>decide (v ∈ pre ++ a::ext))) 4∧X.ownsRow (s+3) 3 1 (.slice (some ⟨g,0,none⟩) pre.length pc) pre.length (ints (zs pre))∧∀j y:Nat,(a::ext)[j]?=some y→X.cell? ⟨g,pre.length+j,none⟩=some (.int .i64 y):=by
  intro X hX
  have h1:∀b,b≠cb→b<w.heap.size→X.heap[b]?=w.heap[b]?:=fun b hb hl=>(hX b hb (by rw [hs1];exact hl)).trans (ho1 b hb)
  refine⟨(h1 ob I.co.symm O0.lt).trans O0,(h1 qb I.cq.symm Q0.lt).trans Q0,owns_other HT.out (fun b hb=>?_),fun j y hj=>(World.cell?_of_block (w:=w) (a:=⟨g,pre.length+j,none⟩) (h1 g hgc hg2)).trans (HG.out j y hj)⟩
  have e:b=g:=by simpa [Value.ownBlock] using hb.symm
  subst e
  exact h1 b hgc hg2
 have HMI:Hid (∀X:World,(∀b,b≠cb→b<w1.heap.size→X.heap[b]?=w1.heap[b]?)→w1.heap.size≤X.heap.size→Calls Tryz.prog 168 #[.slice (some ⟨g,pre.length,none⟩) (ext.length+1) (pc - pre.length)] X fun e w'=>e=.returned (.int .i64 mn)∧Below X.heap.size X w'):=by
  intro X hX hsz
  have hc:=minInt_any (some ⟨g,pre.length,none⟩) (pc - pre.length) a (zs ext) X (by rw [zs_len];simp at hpl;omega) (fun j x hj=>by
   have hj2:(zs (a::ext))[j]?=some x:=hj
   unfold zs at hj2
   rw [List.getElem?_map] at hj2
   obtain⟨y,hy,rfl⟩:=Option.map_eq_some_iff.1 hj2
   have:=(hblk X hX).2.2.2 j y hy
   exact⟨g,pre.length,rfl,Nat.zero_le _,by omega,by unfold IntAt;rw [Nat.mul_one];exact this⟩)
  rw [zs_len,hmn] at hc
  exact hc
 refine wp_seq_k ?_
 intro K2 hK2
 have HK2:Hid _:=hK2
 clear hK2
 have hSs:∀X:World,Below s w1 X→SsAt lo X gb N f:=fun X hX=>S.later (by rw [hwq];exact (hbq.trans hb1).trans hX)
 have hself:∀n,∀b,b≠cb→b<w1.heap.size→(w1.drewN n).heap[b]?=w1.heap[b]?:=fun n b _ hl=>(below_drewN (Below.refl _ _) n).block b hl
 by_cases he:ext=[]
 ·subst he
  obtain⟨ao,acp,sa,IA⟩:=(hSs w1 (Below.refl _ _)).at_ a haN
  have ga:=(hblk w1 (fun b _ _=>rfl)).2.2.2 0 a rfl
  rw [Nat.add_zero] at ga
  have hgs:g<w1.heap.size:=by rw [hs1];exact hg2
  have hgbs:gb<w1.heap.size:=(hSs w1 (Below.refl _ _)).own.lt
  have b1:=B1.cell 0
  have hc1:=B1.lt
  have hE:Below w1.heap.size w1 w1.drew:=(Below.refl _ _).drew
  have HCN:Hid (∀_:Unit,_):=fun _=>containsInt_any ao acp (f a) a w1.drew (hfl a haN) (AllAt.lower (IA.later (Keeps.of_below hE)) (Nat.zero_le _))
  have HB1:Hid (Blk w1 cb #[.slice (some ⟨gb,0,none⟩) N N,.int .i64 cnt,.slice (some ⟨ob,0,none⟩) N N,.slice (some ⟨g,0,none⟩) pre.length pc,.slice (some ⟨qb,0,none⟩) N N,.int .i64 least] 193):=B1
  have k3:(a:Int)<N:=by omega
  clear IA B1
  go_wp2_with fail
  go_region_held3 (fun w'=>w'.cell? ⟨cb,0,none⟩=some (.slice (some ⟨gb,0,none⟩) N N)∧w'.cell? ⟨g,pre.length,none⟩=some (.int .i64 a)∧w'.cell? ⟨gb,a,none⟩=some (.slice ao (f a).length acp)) (first | exact ⟨b1,ga,sa⟩ | exact ⟨d0,d1,d2⟩ | (go_keep;done))
   (first | (go_at_call 167;refine (HCN.out ()).mono ?_;rintro e w2 ⟨rfl,hw2⟩;have d0:=(hw2.cell (p:=⟨cb,0,none⟩) hc1).trans b1;have d1:=(hw2.cell (p:=⟨g,pre.length,none⟩) hgs).trans ga;have d2:=(hw2.cell (p:=⟨gb,a,none⟩) hgbs).trans sa;have HW2:Hid (Below w1.heap.size w1 w2):=hE.trans hw2))
  clear d0 d1 d2 b1 ga sa HCN hw2 hE
  have hs1b:s≤w1.heap.size:=by rw [←hwq];exact Nat.le_trans hbq.size hb1.size
  have BX2:=HB1.out.later HW2.out
  have hX2:∀b,b≠cb→b<w1.heap.size→w2.heap[b]?=w1.heap[b]?:=fun b _ hl=>HW2.out.block b hl
  have hbX2:Below s w1 w2:=HW2.out.mono hs1b
  by_cases hm:(a:Int) ∈ f a
  ·have HCL:Hid (clsLeast f a [] least=((min least mn:Nat):Int)):=by show _=_;unfold clsLeast;rw [if_pos (.inr hm),hmn];omega
   rw [decide_eq_true hm]
   clear hm HB1 HW2
   generalize w2=X0 at *
   go_wp2_with fail
   have HB0:Hid (Blk X0 cb #[.slice (some ⟨gb,0,none⟩) N N,.int .i64 cnt,.slice (some ⟨ob,0,none⟩) N N,.slice (some ⟨g,0,none⟩) pre.length pc,.slice (some ⟨qb,0,none⟩) N N,.int .i64 least] 193):=BX2
   have HX0:Hid (∀b,b≠cb→b<w1.heap.size→X0.heap[b]?=w1.heap[b]?):=hX2
   have HBX:Hid (Below s w1 X0):=hbX2
   have x0:=HB0.out.cell
   have xf0:=HB0.out.frozen
   have hcx:=HB0.out.lt
   have hmm:min (least:Int) (mn:Int)=((min least mn:Nat):Int):=by omega
   go_wp2_with fail
   go_region_with (first | (go_at_call 168;refine (HMI.out X0.drew (fun b hb hl=>HX0.out b hb hl) HBX.out.size).mono ?_;rintro e w3 ⟨rfl,hw3⟩;have HB3:Hid (Blk w3 cb #[.slice (some ⟨gb,0,none⟩) N N,.int .i64 cnt,.slice (some ⟨ob,0,none⟩) N N,.slice (some ⟨g,0,none⟩) pre.length pc,.slice (some ⟨qb,0,none⟩) N N,.int .i64 least] 193):=Blk.later (w:=X0.drew) HB0.out hw3;have x3:=HB3.out.cell;have xf3:=HB3.out.frozen;have HW3:Hid (Below X0.drew.heap.size X0.drew w3):=hw3))
   all_goals
    have B3:Blk (w3.setCell ⟨cb,5,none⟩ (.int .i64 ((min least mn:Nat):Int))) cb #[.slice (some ⟨gb,0,none⟩) N N,.int .i64 cnt,.slice (some ⟨ob,0,none⟩) N N,.slice (some ⟨g,0,none⟩) pre.length pc,.slice (some ⟨qb,0,none⟩) N N,.int .i64 ((min least mn:Nat):Int)] 193:=HB3.out.set 5 (.int .i64 ((min least mn:Nat):Int))
    have hX3:∀b,b≠cb→b<w1.heap.size→(w3.setCell ⟨cb,5,none⟩ (.int .i64 ((min least mn:Nat):Int))).heap[b]?=w1.heap[b]?:=fun b hb hl=>(Below.heap_setCell _ _ _ _ hb).trans ((HW3.out.block b (Nat.lt_of_lt_of_le hl HBX.out.size)).trans (HX0.out b hb hl))
    have hb3:Below s w1 (w3.setCell ⟨cb,5,none⟩ (.int .i64 ((min least mn:Nat):Int))):=((HBX.out.trans (((Below.refl s X0).drew).trans (HW3.out.mono (Nat.le_trans (by rw [←hwq];exact Nat.le_trans hbq.size hb1.size) HBX.out.size)))).setCell (by dsimp only;exact I.c1) _)
    go_wp2_with fail
    refine HK2.out _ _ ?_
    refine close_rest s cb gb ob qb N cnt (min least mn) a g pc ord pre [] (w3.setCell ⟨cb,5,none⟩ (.int .i64 ((min least mn:Nat):Int))) _ _ _ _ _ _ _ _ _ _ _ _ _ _ _ _ _ _ _ _ _ _ _ _ _ _ _ _ _ _ _ _ _ _ _ _ _ _ _ _ _ _ _ _ _ _ _ _ _ _ _ _ _ _ _ _ _ _ _ _ _ _ ?_ I hN (by first | (simp;done) | (simp at hpl;omega)) HIN.out HND.out hg1 B3 ((hblk (w3.setCell ⟨cb,5,none⟩ (.int .i64 ((min least mn:Nat):Int))) hX3).1) ((hblk (w3.setCell ⟨cb,5,none⟩ (.int .i64 ((min least mn:Nat):Int))) hX3).2.1) ((hblk (w3.setCell ⟨cb,5,none⟩ (.int .i64 ((min least mn:Nat):Int))) hX3).2.2.1) ((hblk (w3.setCell ⟨cb,5,none⟩ (.int .i64 ((min least mn:Nat):Int))) hX3).2.2.2)
    intro u6 u50 u51 u52 u53 u54 u55 u56 u57 u58 u59 u60 u61 u62 w' hC hbw
    go_wp2_with fail
    refine bodyPost_end (v:=.tuple #[]) ?_ rfl ⟨rfl,⟨(min least mn),HCL.out.symm,_,hC⟩,(hb1.trans hb3).trans hbw⟩
    simp [results,Tryz.results150,go_sem]
  ·have HCL:Hid (clsLeast f a [] least=(least:Int)):=by show _=_;unfold clsLeast;rw [if_neg (by rintro (h | h);exact h rfl;exact hm h)]
   rw [decide_eq_false hm]
   clear hm HB1 HW2
   go_wp2_with fail
   refine HK2.out _ _ ?_
   refine close_rest s cb gb ob qb N cnt least a g pc ord pre [] w2 _ _ _ _ _ _ _ _ _ _ _ _ _ _ _ _ _ _ _ _ _ _ _ _ _ _ _ _ _ _ _ _ _ _ _ _ _ _ _ _ _ _ _ _ _ _ _ _ _ _ _ _ _ _ _ _ _ _ _ _ _ _ ?_ I hN (by first | (simp;done) | (simp at hpl;omega)) HIN.out HND.out hg1 BX2 ((hblk w2 hX2).1) ((hblk w2 hX2).2.1) ((hblk w2 hX2).2.2.1) ((hblk w2 hX2).2.2.2)
   intro u6 u50 u51 u52 u53 u54 u55 u56 u57 u58 u59 u60 u61 u62 w' hC hbw
   go_wp2_with fail
   refine bodyPost_end (v:=.tuple #[]) ?_ rfl ⟨rfl,⟨least,HCL.out.symm,_,hC⟩,(hb1.trans hbX2).trans hbw⟩
   simp [results,Tryz.results150,go_sem]
 ·have hel:0<ext.length:=List.length_pos_iff.2 he
  have HCL:Hid (clsLeast f a ext least=((min least mn:Nat):Int)):=by show _=_;unfold clsLeast;rw [if_pos (.inl he),hmn];omega
  have k3:(1:Int)<(ext.length:Int)+1:=by omega
  clear he
  have b1:=B1.cell
  go_wp2_with fail
  go_quiet (fail)
  have hX0:=hself nq
  have hbX0:Below s w1 (w1.drewN nq):=below_drewN (Below.refl _ _) nq
  have BX0:=B1.later (below_drewN (Below.refl _ _) nq)
  clear b1
  generalize w1.drewN nq=X0 at *
  have HB0:Hid (Blk X0 cb #[.slice (some ⟨gb,0,none⟩) N N,.int .i64 cnt,.slice (some ⟨ob,0,none⟩) N N,.slice (some ⟨g,0,none⟩) pre.length pc,.slice (some ⟨qb,0,none⟩) N N,.int .i64 least] 193):=BX0
  have HX0:Hid (∀b,b≠cb→b<w1.heap.size→X0.heap[b]?=w1.heap[b]?):=hX0
  have HBX:Hid (Below s w1 X0):=hbX0
  have x0:=HB0.out.cell
  have xf0:=HB0.out.frozen
  have hcx:=HB0.out.lt
  have hmm:min (least:Int) (mn:Int)=((min least mn:Nat):Int):=by omega
  go_wp2_with fail
  go_region_with (first | (go_at_call 168;refine (HMI.out X0.drew (fun b hb hl=>HX0.out b hb hl) HBX.out.size).mono ?_;rintro e w3 ⟨rfl,hw3⟩;have HB3:Hid (Blk w3 cb #[.slice (some ⟨gb,0,none⟩) N N,.int .i64 cnt,.slice (some ⟨ob,0,none⟩) N N,.slice (some ⟨g,0,none⟩) pre.length pc,.slice (some ⟨qb,0,none⟩) N N,.int .i64 least] 193):=Blk.later (w:=X0.drew) HB0.out hw3;have x3:=HB3.out.cell;have xf3:=HB3.out.frozen;have HW3:Hid (Below X0.drew.heap.size X0.drew w3):=hw3))
  all_goals
   have B3:Blk (w3.setCell ⟨cb,5,none⟩ (.int .i64 ((min least mn:Nat):Int))) cb #[.slice (some ⟨gb,0,none⟩) N N,.int .i64 cnt,.slice (some ⟨ob,0,none⟩) N N,.slice (some ⟨g,0,none⟩) pre.length pc,.slice (some ⟨qb,0,none⟩) N N,.int .i64 ((min least mn:Nat):Int)] 193:=HB3.out.set 5 (.int .i64 ((min least mn:Nat):Int))
   have hX3:∀b,b≠cb→b<w1.heap.size→(w3.setCell ⟨cb,5,none⟩ (.int .i64 ((min least mn:Nat):Int))).heap[b]?=w1.heap[b]?:=fun b hb hl=>(Below.heap_setCell _ _ _ _ hb).trans ((HW3.out.block b (Nat.lt_of_lt_of_le hl HBX.out.size)).trans (HX0.out b hb hl))
   have hb3:Below s w1 (w3.setCell ⟨cb,5,none⟩ (.int .i64 ((min least mn:Nat):Int))):=((HBX.out.trans (((Below.refl s X0).drew).trans (HW3.out.mono (Nat.le_trans (by rw [←hwq];exact Nat.le_trans hbq.size hb1.size) HBX.out.size)))).setCell (by dsimp only;exact I.c1) _)
   go_wp2_with fail
   refine HK2.out _ _ ?_
   refine close_rest s cb gb ob qb N cnt (min least mn) a g pc ord pre ext (w3.setCell ⟨cb,5,none⟩ (.int .i64 ((min least mn:Nat):Int))) _ _ _ _ _ _ _ _ _ _ _ _ _ _ _ _ _ _ _ _ _ _ _ _ _ _ _ _ _ _ _ _ _ _ _ _ _ _ _ _ _ _ _ _ _ _ _ _ _ _ _ _ _ _ _ _ _ _ _ _ _ _ ?_ I hN (by first | (simp;done) | (simp at hpl;omega)) HIN.out HND.out hg1 B3 ((hblk (w3.setCell ⟨cb,5,none⟩ (.int .i64 ((min least mn:Nat):Int))) hX3).1) ((hblk (w3.setCell ⟨cb,5,none⟩ (.int .i64 ((min least mn:Nat):Int))) hX3).2.1) ((hblk (w3.setCell ⟨cb,5,none⟩ (.int .i64 ((min least mn:Nat):Int))) hX3).2.2.1) ((hblk (w3.setCell ⟨cb,5,none⟩ (.int .i64 ((min least mn:Nat):Int))) hX3).2.2.2)
   intro u6 u50 u51 u52 u53 u54 u55 u56 u57 u58 u59 u60 u61 u62 w' hC hbw
   go_wp2_with fail
   refine bodyPost_end (v:=.tuple #[]) ?_ rfl ⟨rfl,⟨(min least mn),HCL.out.symm,_,hC⟩,(hb1.trans hb3).trans hbw⟩
   simp [results,Tryz.results150,go_sem]
end Go.Proofs.YtaakadmnhpboiaaGreatDoor
