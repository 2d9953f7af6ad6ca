import Derived.Test.YtgopdffmnikhdaaGreatDoorT25
import Derived.Test.YtgopdffmnikhdaaGreatDoorT19
import Derived.Test.YtgopdffmnikhdaaGreatDoorT27
import Derived.Test.YtgopdffmnikhdaaGreatDoorT26
namespace Go.Proofs.YtgopdffmnikhdaaGreatDoor
open Go.RowKit Go.Deep
structure FieldAs (np:Nat) (p:Pd) (r:Nat) (x:Int) (t:TypeId) (v:Value) (rx rg ox:Int):Prop where
 val:fieldVal np p r x=.iface t v
 res:∀w,(Instr.typeAssert (.iface t v) 375 441 true).run Tryz.prog w=.ok (.tuple #[.agg #[.int .i64 rx,.int .i64 rg],.bool (decide (19≤r∧r≤22))]) w
 ope:∀w,(Instr.typeAssert (.iface t v) 375 443 true).run Tryz.prog w=.ok (.tuple #[.agg #[.int .i64 ox],.bool (decide (r=23))]) w
 isR:19≤r∧r≤22→rx=x∧rg=(r:Int) - 19
 isO:r=23→ox=x
theorem fa_no {np:Nat} {p:Pd} {r:Nat} {x:Int} {t:TypeId} {v:Value} (hv:fieldVal np p r x=.iface t v) (h1:∀w,(Instr.typeAssert (.iface t v) 375 441 true).run Tryz.prog w=.ok (.tuple #[.agg #[.int .i64 0,.int .i64 0],.bool false]) w) (h2:∀w,(Instr.typeAssert (.iface t v) 375 443 true).run Tryz.prog w=.ok (.tuple #[.agg #[.int .i64 0],.bool false]) w) (n1:¬(19≤r∧r≤22)) (n2:¬r=23):∃t v rx rg ox,FieldAs np p r x t v rx rg ox:=
 ⟨t,v,0,0,0,hv,by rw [decide_eq_false n1];exact h1,by rw [decide_eq_false n2];exact h2,fun h=>absurd h n1,fun h=>absurd h n2⟩
theorem field_as (np:Nat) (p:Pd) (r:Nat) (x:Int) (hr:r≤23):∃t v rx rg ox,FieldAs np p r x t v rx rg ox:=by
 by_cases h:1≤r∧r≤10
 ·exact fa_no (fieldVal_num np p r x h.1 h.2) (as_number_result _) (as_number_opening _) (by omega) (by omega)
 rcases (by omega:r=0∨r=11∨r=12∨r=13∨r=14∨r=15∨r=16∨r=17∨r=18∨r=19∨r=20∨r=21∨r=22∨r=23) with rfl | rfl | rfl | rfl | rfl | rfl | rfl | rfl | rfl | rfl | rfl | rfl | rfl | rfl
 exact fa_no rfl (as_unused_result _) (as_unused_opening _) (by omega) (by omega)
 exact fa_no rfl (as_target_result _) (as_target_opening _) (by omega) (by omega)
 iterate 2 exact fa_no rfl (as_operand_result _) (as_operand_opening _) (by omega) (by omega)
 iterate 5 exact fa_no rfl (as_places_result _) (as_places_opening _) (by omega) (by omega)
 iterate 4 exact ⟨_,_,x,_,0,rfl,as_result_result _,as_result_opening _,fun _=>⟨rfl,rfl⟩,fun h=>by omega⟩
 exact⟨_,_,0,0,x,rfl,as_opening_result _,as_opening_opening _,fun h=>by omega,fun _=>rfl⟩
theorem wrs_drop {rs:List Nat} {xs:List Int} {k r:Nat} {x:Int} (h1:rs[k]?=some r) (h2:xs[k]?=some x) (s:List Int):wrsI (rs.drop k) (xs.drop k) s=wrsI (rs.drop (k+1)) (xs.drop (k+1)) (wrI r x s):=by
 rw [drop_some h1,drop_some h2];rfl
theorem wrI_res {r:Nat} {x:Int} {s:List Int} (h:19≤r∧r≤22):wrI r x s=s.set x.toNat ((r:Int) - 19):=by
 rcases (by omega:r=19∨r=20∨r=21∨r=22) with rfl | rfl | rfl | rfl <;> rfl
theorem wrI_other {r:Nat} {x:Int} {s:List Int} (h:¬(19≤r∧r≤22)) (h2:¬r=23):wrI r x s=s:=by
 unfold wrI
 split <;> first | rfl | (exfalso;omega)
theorem wrI_len (r:Nat) (x:Int) (s:List Int):(wrI r x s).length=s.length:=by
 unfold wrI
 split <;> simp
theorem fits_res {np:Nat} {p:Pd} {r:Nat} {x:Int} (h:19≤r∧r≤22) (hf:fitsR np p (convR r) x=true):0≤x∧x<p.regs:=by
 rcases (by omega:r=19∨r=20∨r=21∨r=22) with rfl | rfl | rfl | rfl <;> (have hi:inR x 0 (p.regs - 1)=true:=hf;simp [inR] at hi;omega)
theorem fits_ope {np:Nat} {p:Pd} {x:Int} (hf:fitsR np p (convR 23) x=true):0≤x∧x+1<p.regs:=by
 have hi:inR x 0 (p.regs - 2)=true:=hf
 simp [inR] at hi
 omega
theorem owns_some {w:World} {base e size n:Nat} {ao:Option Addr} {cap:Nat} {xs:List Value} (h:w.ownsRow base e size (.slice ao n cap) n xs) (hn:0<n):∃g,ao=some ⟨g,0,none⟩∧base≤g∧g<w.heap.size:=by
 rcases owns_form h with ⟨_,h0⟩ | ⟨g,c,h1,h2,h3⟩
 ·omega
 ·simp at h1;exact ⟨g,h1.1,h2,h3⟩
set_option maxRecDepth 100000 in
set_option maxHeartbeats 8000000 in
theorem put_any (np:Nat) (p:Pd) (B rb m r0 r1 r2 r3:Nat) (x0 x1 x2 x3:Int) (t0 t1 t2 t3:TypeId) (v0 v1 v2 v3:Value) (rd:Rd) (to:Option Addr) (tc:Nat) (vr vk:Value) (w:World) (h:RgAt B rb m w rd (.slice to m tc) vr vk) (hm:rd.types.length=m) (hm2:m≤250) (hmr:(m:Int)=p.regs) (g0:r0≤23) (g1:r1≤23) (g2:r2≤23) (g3:r3≤23)
  (f0:fitsR np p (convR r0) x0=true) (f1:fitsR np p (convR r1) x1=true) (f2:fitsR np p (convR r2) x2=true) (f3:fitsR np p (convR r3) x3=true) (e0:fieldVal np p r0 x0=.iface t0 v0) (e1:fieldVal np p r1 x1=.iface t1 v1) (e2:fieldVal np p r2 x2=.iface t2 v2) (e3:fieldVal np p r3 x3=.iface t3 v3) :
  Calls Tryz.prog 308 #[.pointer (some ⟨rb,0,none⟩),.agg #[.iface t0 v0,.iface t1 v1,.iface t2 v2,.iface t3 v3]] w fun e w'=>e=.returned (.tuple #[])∧RgAt B rb m w' ⟨wrsI [r0,r1,r2,r3] [x0,x1,x2,x3] rd.types,rd.stay,rd.taken⟩ (.slice to m tc) vr vk∧Below B w w':=by
 have HR:Hid (∀k,k<4→_):=fun k hk=>row4 (P:=fun r x t v=>r≤23∧fitsR np p (convR r) x=true∧fieldVal np p r x=.iface t v) ⟨g0,f0,e0⟩ ⟨g1,f1,e1⟩ ⟨g2,f2,e2⟩ ⟨g3,f3,e3⟩ (k:=k) hk
 have A:=(Below.refl w.heap.size w).alloc (Nat.le_refl _) (.cells #[.iface t0 v0,.iface t1 v1,.iface t2 v2,.iface t3 v3] 376)
 have R0:=h.later A
 have B0:Below B w (w.alloc (.cells #[.iface t0 v0,.iface t1 v1,.iface t2 v2,.iface t3 v3] 376)):=A.mono (Nat.le_trans h.low (Nat.le_of_lt h.blk.lt))
 have HMR:Hid _:=hmr
 clear A h f0 f1 f2 f3 g0 g1 g2 g3 hmr e0 e1 e2 e3
 go_enter Tryz.func308,Tryz.ntmps308
 go_wp2_with fail
 go_loopg [9] 5 (fun g y wr=>∃(k:Nat) (ts1:List Int),k≤4∧y=.int .i64 k∧Hid (wrsI ([r0,r1,r2,r3].drop k) ([x0,x1,x2,x3].drop k) ts1=wrsI [r0,r1,r2,r3] [x0,x1,x2,x3] rd.types)∧Hid (ts1.length=m)∧Hid (5 - k≤g)∧RgAt B rb m wr ⟨ts1,rd.stay,rd.taken⟩ (.slice to m tc) vr vk∧Below B w wr)
 case atStart=>exact ⟨0,rd.types,by omega,rfl,rfl,hm,by show _≤_;omega,R0,B0⟩
 case round=>
  obtain⟨k,ts1,hk,rfl,HQ,HL,HG,R1,B1⟩:=hrel
  clear R0 B0
  by_cases hk4:k<4
  ·obtain⟨r,x,t,v,hr,hx,iK,hg,hf,hv⟩:=HR.out k hk4
   obtain⟨t',v',rx,rg,ox,FA⟩:=field_as np p r x hg
   obtain⟨rfl,rfl⟩:t'=t∧v'=v:=by simpa using FA.val.symm.trans hv
   have HD:Hid (wrsI ([r0,r1,r2,r3].drop (k+1)) ([x0,x1,x2,x3].drop (k+1)) (wrI r x ts1)=wrsI [r0,r1,r2,r3] [x0,x1,x2,x3] rd.types):=(wrs_drop hr hx ts1).symm.trans HQ.out
   have HG2:Hid (5 - (k+1)≤gk - 1∧gk - 1<gk):=by have:=HG.out;show _∧_;omega
   have aR:=FA.res
   have aO:=FA.ope
   have HL2:Hid ((wrI r x ts1).length=m):=(wrI_len _ _ _).trans HL.out
   have hk5:(k:Int)<4:=by omega
   clear HQ HG hr hx hg hv
   by_cases hr:19≤r∧r≤22
   ·rw [decide_eq_true hr] at aR
    obtain⟨ex,eg⟩:=FA.isR hr
    have hfx:=fits_res hr hf
    obtain⟨q,hq⟩:=Int.eq_ofNat_of_zero_le hfx.1
    have hqm:q<m:=by have:=HMR.out;omega
    have HW:Hid (wrI r x ts1=ts1.set q rg):=by show _=_;rw [wrI_res hr,hq,Int.toNat_natCast,eg]
    rw [show rx=(q:Int) from ex.trans hq] at aR
    obtain⟨g,hg,hg1,hg2⟩:=owns_some R1.types (by omega)
    subst hg
    have A2:=(Below.refl wr.heap.size wr).alloc (Nat.le_refl _) (.cells #[.int .i64 q,.int .i64 rg] 441)
    have P3:=Blk.new wr #[.int .i64 q,.int .i64 rg] 441
    have R3:=R1.later A2
    have B3:=B1.trans (A2.mono (Nat.le_trans R1.low (Nat.le_of_lt R1.blk.lt)))
    have k1:(q:Int)<m:=by omega
    have hne:¬g=wr.heap.size:=by omega
    have hnb:¬g=rb:=fun e=>R1.nt (by rw [←e];rfl)
    have hrw:rb<wr.heap.size:=R1.blk.lt
    clear ex eg hq hfx hf hr aO A2 R1 B1 FA
    go_wp2_with fail
    generalize wr.alloc (.cells #[.int .i64 q,.int .i64 rg] 441)=w3 at *
    have p3:=P3.cell 0
    have p4:=P3.cell 1
    have s3:=R3.blk.cell 0
    have c3:=(R3.types.cellAt q (by omega)).trans (ints_get (by rw [HL.out];omega))
    have z3:=R3.types.frozenAt q
    obtain⟨R4,B4⟩:=R3.setType q rg
    have HR4:Hid (RgAt B rb m (w3.setCell ⟨g,q,none⟩ (.int .i64 rg)).drew ⟨wrI r x ts1,rd.stay,rd.taken⟩ (.slice (some ⟨g,0,none⟩) m tc) vr vk):=by have:=R4.later ((Below.refl _ _).drew);rw [HW.out];exact this
    have HB4:Hid (Below B w (w3.setCell ⟨g,q,none⟩ (.int .i64 rg)).drew):=(B3.trans B4).drew
    clear R3 R4 B3 B4 HW P3
    go_wp2_with fail
    go_region_held3 (fun w'=>w'.cell? ⟨rb,0,none⟩=some (.slice (some ⟨g,0,none⟩) m tc)∧w'.cell? ⟨wr.heap.size,0,none⟩=some (.int .i64 q)∧w'.cell? ⟨wr.heap.size,1,none⟩=some (.int .i64 rg)) (first | exact ⟨s3,p3,p4⟩ | (exact ⟨(World.cell?_setCell_far _ _ _ _ hnb).trans s3,(World.cell?_setCell_far _ _ _ _ hne).trans p3,(World.cell?_setCell_far _ _ _ _ hne).trans p4⟩) | (go_keep;done)) (fail)
    generalize (w3.setCell ⟨g,q,none⟩ (.int .i64 rg)).drew=w5 at *
    clear p3 p4 s3 c3 z3
    go_wp2_with fail
    go_roundg (gk - 1)
    case measure=>exact HG2.out.2
    case rel=>exact ⟨k+1,_,by omega,by go_num,HD.out,HL2.out,HG2.out.1,HR4.out,HB4.out⟩
   ·rw [decide_eq_false hr] at aR
    by_cases ho:r=23
    ·rw [decide_eq_true ho] at aO
     have ex:=FA.isO ho
     have hfx:=fits_ope (np:=np) (p:=p) (x:=x) (by rw [ho] at hf;exact hf)
     obtain⟨q,hq⟩:=Int.eq_ofNat_of_zero_le hfx.1
     have hqm:q+1<m:=by have:=HMR.out;omega
     have HW:Hid (wrI r x ts1=(ts1.set q 1).set (q+1) 1):=by show _=_;rw [ho,hq];rfl
     rw [show ox=(q:Int) from ex.trans hq] at aO
     obtain⟨g,hg,hg1,hg2⟩:=owns_some R1.types (by omega)
     subst hg
     have A2:=(Below.refl wr.heap.size wr).alloc (Nat.le_refl _) (.cells #[.int .i64 q] 443)
     have P3:=Blk.new wr #[.int .i64 q] 443
     have R3:=R1.later A2
     have B3:=B1.trans (A2.mono (Nat.le_trans R1.low (Nat.le_of_lt R1.blk.lt)))
     have k1:(q:Int)<m:=by omega
     have k2:(q:Int)+1<m:=by omega
     have k3:(0:Int)≤(q:Int)+1:=by omega
     have k4:IntKind.i64.wrap ((q:Int)+1)=(q:Int)+1:=by unfold IntKind.wrap;simp [IntKind.signed,IntKind.bits];omega
     have hne:¬g=wr.heap.size:=by omega
     have hnb:¬g=rb:=fun e=>R1.nt (by rw [←e];rfl)
     clear ex hq hfx hf hr ho A2 R1 B1 FA
     go_wp2_with fail
     generalize wr.alloc (.cells #[.int .i64 q] 443)=w3 at *
     have p3:=P3.cell 0
     have s3:=R3.blk.cell 0
     have c3:=(R3.types.cellAt q (by omega)).trans (ints_get (by rw [HL.out];omega))
     have d3:=(R3.types.cellAt (q+1) (by omega)).trans (ints_get (by rw [HL.out];omega))
     have z3:=R3.types.frozenAt
     obtain⟨R4,B4⟩:=R3.setType q 1
     obtain⟨R5,B5⟩:=R4.setType (q+1) 1
     have HR5:Hid (RgAt B rb m ((w3.setCell ⟨g,q,none⟩ (.int .i64 1)).setCell ⟨g,q+1,none⟩ (.int .i64 1)).drew ⟨wrI r x ts1,rd.stay,rd.taken⟩ (.slice (some ⟨g,0,none⟩) m tc) vr vk):=by have:=R5.later ((Below.refl _ _).drew);rw [HW.out];exact this
     have HB5:Hid (Below B w ((w3.setCell ⟨g,q,none⟩ (.int .i64 1)).setCell ⟨g,q+1,none⟩ (.int .i64 1)).drew):=((B3.trans B4).trans B5).drew
     clear R3 R4 R5 B3 B4 B5 HW P3
     go_wp2_with fail
     go_region_held3 (fun w'=>w'.cell? ⟨rb,0,none⟩=some (.slice (some ⟨g,0,none⟩) m tc)∧w'.cell? ⟨wr.heap.size,0,none⟩=some (.int .i64 q)) (first | exact ⟨s3,p3⟩ | (exact ⟨(World.cell?_setCell_far _ _ _ _ hnb).trans s3,(World.cell?_setCell_far _ _ _ _ hne).trans p3⟩) | (exact ⟨((World.cell?_setCell_far _ _ _ _ hnb).trans (World.cell?_setCell_far _ _ _ _ hnb)).trans s3,((World.cell?_setCell_far _ _ _ _ hne).trans (World.cell?_setCell_far _ _ _ _ hne)).trans p3⟩) | (go_keep;done)) (fail)
     generalize ((w3.setCell ⟨g,q,none⟩ (.int .i64 1)).setCell ⟨g,q+1,none⟩ (.int .i64 1)).drew=w5 at *
     clear p3 s3 c3 d3 z3
     go_wp2_with fail
     go_roundg (gk - 1)
     case measure=>exact HG2.out.2
     case rel=>exact ⟨k+1,_,by omega,by go_num,HD.out,HL2.out,HG2.out.1,HR5.out,HB5.out⟩
    ·rw [decide_eq_false ho] at aO
     have HW:Hid (wrI r x ts1=ts1):=wrI_other hr ho
     have HR1:Hid (RgAt B rb m wr ⟨wrI r x ts1,rd.stay,rd.taken⟩ (.slice to m tc) vr vk):=by rw [HW.out];exact R1
     clear hr ho R1 FA hf HW
     go_wp2_with fail
     go_roundg (gk - 1)
     case measure=>exact HG2.out.2
     case rel=>exact ⟨k+1,_,by omega,by go_num,HD.out,HL2.out,HG2.out.1,HR1.out,B1⟩
  ·have hk0:k=4:=by omega
   subst hk0
   have HN:Hid (RgAt B rb m wr ⟨wrsI [r0,r1,r2,r3] [x0,x1,x2,x3] rd.types,rd.stay,rd.taken⟩ (.slice to m tc) vr vk):=by rw [←HQ.out];exact R1
   clear HQ HG R1 hk4
   go_wp2_with fail
   go_end0
   exact⟨rfl,HN.out,B1⟩
theorem minI_nn:∀(xs:List Nat) (x:Int),0≤x→0≤minI x (zs xs)∧(minI x (zs xs)=x∨∃y ∈ xs,minI x (zs xs)=(y:Int))∧minI x (zs xs)≤x∧∀y ∈ xs,minI x (zs xs)≤(y:Int)
 | [],x,h=>by simp [minI,zs];exact h
 | y::r,x,h=>by
  have ih:=minI_nn r (min x (y:Int)) (by omega)
  have e:minI x (zs (y::r))=minI (min x (y:Int)) (zs r):=rfl
  rw [e]
  obtain⟨h1,h2,h3,h4⟩:=ih
  refine⟨h1,?_,by omega,?_⟩
  ·rcases h2 with h2 | ⟨z,hz,h2⟩
   ·by_cases hxy:x≤(y:Int)
    ·left;rw [h2];omega
    ·right;exact ⟨y,by simp,by rw [h2];omega⟩
   ·right;exact ⟨z,by simp [hz],h2⟩
  ·intro z hz
   rcases List.mem_cons.1 hz with rfl | hz
   ·omega
   ·exact h4 z hz
set_option maxRecDepth 1000000 in
set_option maxHeartbeats 8000000 in
theorem close_any (s cb gb ob qb N:Nat) (f:Nat→List Int) (lo cnt least a:Nat) (ord pre ext:List Nat) (vp:Value) (wq w:World) (I:CcIn s cb ob qb) (hN:N≤6000) (C:CcAt s cb gb ob qb N w ⟨cnt,ord,pre ++ a::ext,least⟩ vp) (hwq:wq.heap.size=s) (S:SsAt lo wq gb N f) (hbq:Below s wq w) (hin:∀y ∈ a::ext,y<N) (hnd:∀y ∈ a::ext,y ∉ pre) (hpl:(pre ++ a::ext).length≤6000) (hfl:∀j,j<N→(f j).length≤1048576) :
  Calls Tryz.prog 359 #[.pointer (some ⟨cb,0,none⟩),.int .i64 pre.length] w fun e w'=>e=.returned (.tuple #[])∧(∃least':Nat,(least':Int)=clsLeast f a ext least∧∃vp',CcAt s cb gb ob qb N w' ⟨cnt,ord,pre,least'⟩ vp')∧Below s w w':=by
 have hlen:(pre ++ a::ext).length=pre.length+(ext.length+1):=by simp
 have hP:=C.path
 dsimp only at hP
 rw [hlen] at hP
 obtain⟨po,pc,hpo⟩:=owns_slice hP
 subst hpo
 obtain⟨g,hg,hg1,hg2⟩:=owns_some hP (by omega)
 subst hg
 have hcap:=owns_cap hP _ _ rfl
 have B0:=C.blk
 have O0:=C.order
 have Q0:=C.opn
 dsimp only at B0 O0 Q0
 have hcb:=C.blk.lt
 have HP:Hid (w.ownsRow (s+3) 3 1 (.slice (some ⟨g,0,none⟩) (pre.length+(ext.length+1)) pc) (pre.length+(ext.length+1)) (ints (zs (pre ++ a::ext)))):=hP
 have HG:Hid (∀j y:Nat,(a::ext)[j]?=some y→w.cell? ⟨g,pre.length+j,none⟩=some (.int .i64 y)):=by
  intro j y hj
  have hl:=(List.getElem?_eq_some_iff.1 hj).1
  simp at hl
  refine (HP.out.cellAt (pre.length+j) (by omega)).trans ?_
  have:(pre ++ a::ext)[pre.length+j]?=some y:=by rw [List.getElem?_append_right (by omega)];simpa using hj
  unfold ints
  rw [List.getElem?_map,zs_get this]
  rfl
 have HT:Hid (w.ownsRow (s+3) 3 1 (.slice (some ⟨g,0,none⟩) pre.length pc) pre.length (ints (zs pre))):=by
  have:=owns_take (k:=pre.length) HP.out (by omega) (by simp)
  have e:(ints (zs (pre ++ a::ext))).take pre.length=ints (zs pre):=by unfold ints zs;simp [List.map_append]
  rw [e] at this
  exact this
 have hgc:¬g=cb:=by have:=I.c2;omega
 have k1:(pre.length:Int)≤(pre.length:Int)+((ext.length:Int)+1):=by omega
 have k2:pre.length≤pc:=by omega
 have HIN:Hid _:=hin
 have HND:Hid _:=hnd
 obtain⟨mn,hmn⟩:∃mn:Nat,minI (a:Int) (zs ext)=mn:=Int.eq_ofNat_of_zero_le (minI_nn ext a (by omega)).1
 have haN:=hin a (by simp)
 have B1:Blk (w.setCell ⟨cb,3,none⟩ (.slice (some ⟨g,0,none⟩) pre.length pc)) cb #[.slice (some ⟨gb,0,none⟩) N N,.int .i64 cnt,.slice (some ⟨ob,0,none⟩) N N,.slice (some ⟨g,0,none⟩) pre.length pc,.slice (some ⟨qb,0,none⟩) N N,.int .i64 least] 391:=B0.set 3 (.slice (some ⟨g,0,none⟩) pre.length pc)
 have hb1:Below s w (w.setCell ⟨cb,3,none⟩ (.slice (some ⟨g,0,none⟩) pre.length pc)):=(Below.refl s w).setCell (by dsimp only;exact I.c1) _
 have ho1:∀b,b≠cb→(w.setCell ⟨cb,3,none⟩ (.slice (some ⟨g,0,none⟩) pre.length pc)).heap[b]?=w.heap[b]?:=fun b hb=>Below.heap_setCell _ _ _ _ hb
 have hs1:(w.setCell ⟨cb,3,none⟩ (.slice (some ⟨g,0,none⟩) pre.length pc)).heap.size=w.heap.size:=size_set _ _ _
 clear C hP hlen hin hnd
 have b0:=B0.cell
 have f0:=B0.frozen
 go_enter Tryz.func359,Tryz.ntmps359
 refine wp_seq_k ?_
 intro K0 hK0
 have HK0:Hid _:=hK0
 clear hK0
 go_wp2_with fail
 refine HK0.out _ _ ?_
 clear HK0
 refine wp_seq_k ?_
 intro K1 hK1
 have HK1:Hid _:=hK1
 clear hK1
 go_wp2_with fail
 refine HK1.out _ _ ?_
 clear HK1 b0 f0
 generalize w.setCell ⟨cb,3,none⟩ (.slice (some ⟨g,0,none⟩) pre.length pc)=w1 at *
 have hblk:∀X:World,(∀b,b≠cb→b<w1.heap.size→X.heap[b]?=w1.heap[b]?)→Blk X ob (natArr ord) 3∧Blk X qb (boolArr (opnL N fun v=>decide (v ∈ pre ++ a::ext))) 4∧X.ownsRow (s+3) 3 1 (.slice (some ⟨g,0,none⟩) pre.length pc) pre.length (ints (zs pre))∧∀j y:Nat,(a::ext)[j]?=some y→X.cell? ⟨g,pre.length+j,none⟩=some (.int .i64 y):=by
  intro X hX
  have h1:∀b,b≠cb→b<w.heap.size→X.heap[b]?=w.heap[b]?:=fun b hb hl=>(hX b hb (by rw [hs1];exact hl)).trans (ho1 b hb)
  refine⟨(h1 ob I.co.symm O0.lt).trans O0,(h1 qb I.cq.symm Q0.lt).trans Q0,owns_other HT.out (fun b hb=>?_),fun j y hj=>(World.cell?_of_block (w:=w) (a:=⟨g,pre.length+j,none⟩) (h1 g hgc hg2)).trans (HG.out j y hj)⟩
  have e:b=g:=by simpa [Value.ownBlock] using hb.symm
  subst e
  exact h1 b hgc hg2
 have HMI:Hid (∀X:World,(∀b,b≠cb→b<w1.heap.size→X.heap[b]?=w1.heap[b]?)→w1.heap.size≤X.heap.size→Calls Tryz.prog 380 #[.slice (some ⟨g,pre.length,none⟩) (ext.length+1) (pc - pre.length)] X fun e w'=>e=.returned (.int .i64 mn)∧Below X.heap.size X w'):=by
  intro X hX hsz
  have hc:=minInt_any (some ⟨g,pre.length,none⟩) (pc - pre.length) a (zs ext) X (by rw [zs_len];simp at hpl;omega) (fun j x hj=>by
   have hj2:(zs (a::ext))[j]?=some x:=hj
   unfold zs at hj2
   rw [List.getElem?_map] at hj2
   obtain⟨y,hy,rfl⟩:=Option.map_eq_some_iff.1 hj2
   have:=(hblk X hX).2.2.2 j y hy
   exact⟨g,pre.length,rfl,Nat.zero_le _,by omega,by unfold IntAt;rw [Nat.mul_one];exact this⟩)
  rw [zs_len,hmn] at hc
  exact hc
 refine wp_seq_k ?_
 intro K2 hK2
 have HK2:Hid _:=hK2
 clear hK2
 have hSs:∀X:World,Below s w1 X→SsAt lo X gb N f:=fun X hX=>S.later (by rw [hwq];exact (hbq.trans hb1).trans hX)
 have hself:∀n,∀b,b≠cb→b<w1.heap.size→(w1.drewN n).heap[b]?=w1.heap[b]?:=fun n b _ hl=>(below_drewN (Below.refl _ _) n).block b hl
 by_cases he:ext=[]
 ·subst he
  obtain⟨ao,acp,sa,IA⟩:=(hSs w1 (Below.refl _ _)).at_ a haN
  have ga:=(hblk w1 (fun b _ _=>rfl)).2.2.2 0 a rfl
  rw [Nat.add_zero] at ga
  have hgs:g<w1.heap.size:=by rw [hs1];exact hg2
  have hgbs:gb<w1.heap.size:=(hSs w1 (Below.refl _ _)).own.lt
  have b1:=B1.cell 0
  have hc1:=B1.lt
  have hE:Below w1.heap.size w1 w1.drew:=(Below.refl _ _).drew
  have HCN:Hid (∀_:Unit,_):=fun _=>containsInt_any ao acp (f a) a w1.drew (hfl a haN) (AllAt.lower (IA.later (Keeps.of_below hE)) (Nat.zero_le _))
  have HB1:Hid (Blk w1 cb #[.slice (some ⟨gb,0,none⟩) N N,.int .i64 cnt,.slice (some ⟨ob,0,none⟩) N N,.slice (some ⟨g,0,none⟩) pre.length pc,.slice (some ⟨qb,0,none⟩) N N,.int .i64 least] 391):=B1
  have k3:(a:Int)<N:=by omega
  clear IA B1
  go_wp2_with fail
  go_region_held3 (fun w'=>w'.cell? ⟨cb,0,none⟩=some (.slice (some ⟨gb,0,none⟩) N N)∧w'.cell? ⟨g,pre.length,none⟩=some (.int .i64 a)∧w'.cell? ⟨gb,a,none⟩=some (.slice ao (f a).length acp)) (first | exact ⟨b1,ga,sa⟩ | exact ⟨d0,d1,d2⟩ | (go_keep;done))
   (first | (go_at_call 379;refine (HCN.out ()).mono ?_;rintro e w2 ⟨rfl,hw2⟩;have d0:=(hw2.cell (p:=⟨cb,0,none⟩) hc1).trans b1;have d1:=(hw2.cell (p:=⟨g,pre.length,none⟩) hgs).trans ga;have d2:=(hw2.cell (p:=⟨gb,a,none⟩) hgbs).trans sa;have HW2:Hid (Below w1.heap.size w1 w2):=hE.trans hw2))
  clear d0 d1 d2 b1 ga sa HCN hw2 hE
  have hs1b:s≤w1.heap.size:=by rw [←hwq];exact Nat.le_trans hbq.size hb1.size
  have BX2:=HB1.out.later HW2.out
  have hX2:∀b,b≠cb→b<w1.heap.size→w2.heap[b]?=w1.heap[b]?:=fun b _ hl=>HW2.out.block b hl
  have hbX2:Below s w1 w2:=HW2.out.mono hs1b
  by_cases hm:(a:Int) ∈ f a
  ·have HCL:Hid (clsLeast f a [] least=((min least mn:Nat):Int)):=by show _=_;unfold clsLeast;rw [if_pos (.inr hm),hmn];omega
   rw [decide_eq_true hm]
   clear hm HB1 HW2
   generalize w2=X0 at *
   go_wp2_with fail
   have HB0:Hid (Blk X0 cb #[.slice (some ⟨gb,0,none⟩) N N,.int .i64 cnt,.slice (some ⟨ob,0,none⟩) N N,.slice (some ⟨g,0,none⟩) pre.length pc,.slice (some ⟨qb,0,none⟩) N N,.int .i64 least] 391):=BX2
   have HX0:Hid (∀b,b≠cb→b<w1.heap.size→X0.heap[b]?=w1.heap[b]?):=hX2
   have HBX:Hid (Below s w1 X0):=hbX2
   have x0:=HB0.out.cell
   have xf0:=HB0.out.frozen
   have hcx:=HB0.out.lt
   have hmm:min (least:Int) (mn:Int)=((min least mn:Nat):Int):=by omega
   go_wp2_with fail
   go_region_with (first | (go_at_call 380;refine (HMI.out X0.drew (fun b hb hl=>HX0.out b hb hl) HBX.out.size).mono ?_;rintro e w3 ⟨rfl,hw3⟩;have HB3:Hid (Blk w3 cb #[.slice (some ⟨gb,0,none⟩) N N,.int .i64 cnt,.slice (some ⟨ob,0,none⟩) N N,.slice (some ⟨g,0,none⟩) pre.length pc,.slice (some ⟨qb,0,none⟩) N N,.int .i64 least] 391):=Blk.later (w:=X0.drew) HB0.out hw3;have x3:=HB3.out.cell;have xf3:=HB3.out.frozen;have HW3:Hid (Below X0.drew.heap.size X0.drew w3):=hw3))
   all_goals
    have B3:Blk (w3.setCell ⟨cb,5,none⟩ (.int .i64 ((min least mn:Nat):Int))) cb #[.slice (some ⟨gb,0,none⟩) N N,.int .i64 cnt,.slice (some ⟨ob,0,none⟩) N N,.slice (some ⟨g,0,none⟩) pre.length pc,.slice (some ⟨qb,0,none⟩) N N,.int .i64 ((min least mn:Nat):Int)] 391:=HB3.out.set 5 (.int .i64 ((min least mn:Nat):Int))
    have hX3:∀b,b≠cb→b<w1.heap.size→(w3.setCell ⟨cb,5,none⟩ (.int .i64 ((min least mn:Nat):Int))).heap[b]?=w1.heap[b]?:=fun b hb hl=>(Below.heap_setCell _ _ _ _ hb).trans ((HW3.out.block b (Nat.lt_of_lt_of_le hl HBX.out.size)).trans (HX0.out b hb hl))
    have hb3:Below s w1 (w3.setCell ⟨cb,5,none⟩ (.int .i64 ((min least mn:Nat):Int))):=((HBX.out.trans (((Below.refl s X0).drew).trans (HW3.out.mono (Nat.le_trans (by rw [←hwq];exact Nat.le_trans hbq.size hb1.size) HBX.out.size)))).setCell (by dsimp only;exact I.c1) _)
    go_wp2_with fail
    refine HK2.out _ _ ?_
    refine close_rest s cb gb ob qb N cnt (min least mn) a g pc ord pre [] (w3.setCell ⟨cb,5,none⟩ (.int .i64 ((min least mn:Nat):Int))) _ _ _ _ _ _ _ _ _ _ _ _ _ _ _ _ _ _ _ _ _ _ _ _ _ _ _ _ _ _ _ _ _ _ _ _ _ _ _ _ _ _ _ _ _ _ _ _ _ _ _ _ _ _ _ _ _ _ _ _ _ _ ?_ I hN (by first | (simp;done) | (simp at hpl;omega)) HIN.out HND.out hg1 B3 ((hblk (w3.setCell ⟨cb,5,none⟩ (.int .i64 ((min least mn:Nat):Int))) hX3).1) ((hblk (w3.setCell ⟨cb,5,none⟩ (.int .i64 ((min least mn:Nat):Int))) hX3).2.1) ((hblk (w3.setCell ⟨cb,5,none⟩ (.int .i64 ((min least mn:Nat):Int))) hX3).2.2.1) ((hblk (w3.setCell ⟨cb,5,none⟩ (.int .i64 ((min least mn:Nat):Int))) hX3).2.2.2)
    intro u6 u50 u51 u52 u53 u54 u55 u56 u57 u58 u59 u60 u61 u62 w' hC hbw
    go_wp2_with fail
    refine bodyPost_end (v:=.tuple #[]) ?_ rfl ⟨rfl,⟨(min least mn),HCL.out.symm,_,hC⟩,(hb1.trans hb3).trans hbw⟩
    simp [results,Tryz.results359,go_sem]
  ·have HCL:Hid (clsLeast f a [] least=(least:Int)):=by show _=_;unfold clsLeast;rw [if_neg (by rintro (h | h);exact h rfl;exact hm h)]
   rw [decide_eq_false hm]
   clear hm HB1 HW2
   go_wp2_with fail
   refine HK2.out _ _ ?_
   refine close_rest s cb gb ob qb N cnt least a g pc ord pre [] w2 _ _ _ _ _ _ _ _ _ _ _ _ _ _ _ _ _ _ _ _ _ _ _ _ _ _ _ _ _ _ _ _ _ _ _ _ _ _ _ _ _ _ _ _ _ _ _ _ _ _ _ _ _ _ _ _ _ _ _ _ _ _ ?_ I hN (by first | (simp;done) | (simp at hpl;omega)) HIN.out HND.out hg1 BX2 ((hblk w2 hX2).1) ((hblk w2 hX2).2.1) ((hblk w2 hX2).2.2.1) ((hblk w2 hX2).2.2.2)
   intro u6 u50 u51 u52 u53 u54 u55 u56 u57 u58 u59 u60 u61 u62 w' hC hbw
   go_wp2_with fail
   refine bodyPost_end (v:=.tuple #[]) ?_ rfl ⟨rfl,⟨least,HCL.out.symm,_,hC⟩,(hb1.trans hbX2).trans hbw⟩
   simp [results,Tryz.results359,go_sem]
 ·have hel:0<ext.length:=List.length_pos_iff.2 he
  have HCL:Hid (clsLeast f a ext least=((min least mn:Nat):Int)):=by show _=_;unfold clsLeast;rw [if_pos (.inl he),hmn];omega
  have k3:(1:Int)<(ext.length:Int)+1:=by omega
  clear he
  have b1:=B1.cell
  go_wp2_with fail
  go_quiet (fail)
  have hX0:=hself nq
  have hbX0:Below s w1 (w1.drewN nq):=below_drewN (Below.refl _ _) nq
  have BX0:=B1.later (below_drewN (Below.refl _ _) nq)
  clear b1
  generalize w1.drewN nq=X0 at *
  have HB0:Hid (Blk X0 cb #[.slice (some ⟨gb,0,none⟩) N N,.int .i64 cnt,.slice (some ⟨ob,0,none⟩) N N,.slice (some ⟨g,0,none⟩) pre.length pc,.slice (some ⟨qb,0,none⟩) N N,.int .i64 least] 391):=BX0
  have HX0:Hid (∀b,b≠cb→b<w1.heap.size→X0.heap[b]?=w1.heap[b]?):=hX0
  have HBX:Hid (Below s w1 X0):=hbX0
  have x0:=HB0.out.cell
  have xf0:=HB0.out.frozen
  have hcx:=HB0.out.lt
  have hmm:min (least:Int) (mn:Int)=((min least mn:Nat):Int):=by omega
  go_wp2_with fail
  go_region_with (first | (go_at_call 380;refine (HMI.out X0.drew (fun b hb hl=>HX0.out b hb hl) HBX.out.size).mono ?_;rintro e w3 ⟨rfl,hw3⟩;have HB3:Hid (Blk w3 cb #[.slice (some ⟨gb,0,none⟩) N N,.int .i64 cnt,.slice (some ⟨ob,0,none⟩) N N,.slice (some ⟨g,0,none⟩) pre.length pc,.slice (some ⟨qb,0,none⟩) N N,.int .i64 least] 391):=Blk.later (w:=X0.drew) HB0.out hw3;have x3:=HB3.out.cell;have xf3:=HB3.out.frozen;have HW3:Hid (Below X0.drew.heap.size X0.drew w3):=hw3))
  all_goals
   have B3:Blk (w3.setCell ⟨cb,5,none⟩ (.int .i64 ((min least mn:Nat):Int))) cb #[.slice (some ⟨gb,0,none⟩) N N,.int .i64 cnt,.slice (some ⟨ob,0,none⟩) N N,.slice (some ⟨g,0,none⟩) pre.length pc,.slice (some ⟨qb,0,none⟩) N N,.int .i64 ((min least mn:Nat):Int)] 391:=HB3.out.set 5 (.int .i64 ((min least mn:Nat):Int))
   have hX3:∀b,b≠cb→b<w1.heap.size→(w3.setCell ⟨cb,5,none⟩ (.int .i64 ((min least mn:Nat):Int))).heap[b]?=w1.heap[b]?:=fun b hb hl=>(Below.heap_setCell _ _ _ _ hb).trans ((HW3.out.block b (Nat.lt_of_lt_of_le hl HBX.out.size)).trans (HX0.out b hb hl))
   have hb3:Below s w1 (w3.setCell ⟨cb,5,none⟩ (.int .i64 ((min least mn:Nat):Int))):=((HBX.out.trans (((Below.refl s X0).drew).trans (HW3.out.mono (Nat.le_trans (by rw [←hwq];exact Nat.le_trans hbq.size hb1.size) HBX.out.size)))).setCell (by dsimp only;exact I.c1) _)
   go_wp2_with fail
   refine HK2.out _ _ ?_
   refine close_rest s cb gb ob qb N cnt (min least mn) a g pc ord pre ext (w3.setCell ⟨cb,5,none⟩ (.int .i64 ((min least mn:Nat):Int))) _ _ _ _ _ _ _ _ _ _ _ _ _ _ _ _ _ _ _ _ _ _ _ _ _ _ _ _ _ _ _ _ _ _ _ _ _ _ _ _ _ _ _ _ _ _ _ _ _ _ _ _ _ _ _ _ _ _ _ _ _ _ ?_ I hN (by first | (simp;done) | (simp at hpl;omega)) HIN.out HND.out hg1 B3 ((hblk (w3.setCell ⟨cb,5,none⟩ (.int .i64 ((min least mn:Nat):Int))) hX3).1) ((hblk (w3.setCell ⟨cb,5,none⟩ (.int .i64 ((min least mn:Nat):Int))) hX3).2.1) ((hblk (w3.setCell ⟨cb,5,none⟩ (.int .i64 ((min least mn:Nat):Int))) hX3).2.2.1) ((hblk (w3.setCell ⟨cb,5,none⟩ (.int .i64 ((min least mn:Nat):Int))) hX3).2.2.2)
   intro u6 u50 u51 u52 u53 u54 u55 u56 u57 u58 u59 u60 u61 u62 w' hC hbw
   go_wp2_with fail
   refine bodyPost_end (v:=.tuple #[]) ?_ rfl ⟨rfl,⟨(min least mn),HCL.out.symm,_,hC⟩,(hb1.trans hb3).trans hbw⟩
   simp [results,Tryz.results359,go_sem]
end Go.Proofs.YtgopdffmnikhdaaGreatDoor
