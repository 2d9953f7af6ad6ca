import Derived.Test.YtgjbfiddhpbldaaGreatDoorM23
import Derived.Test.YtgjbfiddhpbldaaGreatDoorM22
namespace Go.Proofs.YtgjbfiddhpbldaaGreatDoor
open Go.RowKit Go.Deep
theorem wrs_drop {rs:List Nat} {xs:List Int} {k r:Nat} {x:Int} (h1:rs[k]?=some r) (h2:xs[k]?=some x) (s:List Int):wrsI (rs.drop k) (xs.drop k) s=wrsI (rs.drop (k+1)) (xs.drop (k+1)) (wrI r x s):=by
 rw [drop_some h1,drop_some h2];rfl
theorem wrI_res {r:Nat} {x:Int} {s:List Int} (h:19≤r∧r≤22):wrI r x s=s.set x.toNat ((r:Int) - 19):=by
 rcases (by omega:r=19∨r=20∨r=21∨r=22) with rfl | rfl | rfl | rfl <;> rfl
theorem wrI_other {r:Nat} {x:Int} {s:List Int} (h:¬(19≤r∧r≤22)) (h2:¬r=23):wrI r x s=s:=by
 unfold wrI
 split <;> first | rfl | (exfalso;omega)
theorem wrI_len (r:Nat) (x:Int) (s:List Int):(wrI r x s).length=s.length:=by
 unfold wrI
 split <;> simp
theorem fits_res {np:Nat} {p:Pd} {r:Nat} {x:Int} (h:19≤r∧r≤22) (hf:fitsR np p (convR r) x=true):0≤x∧x<p.regs:=by
 rcases (by omega:r=19∨r=20∨r=21∨r=22) with rfl | rfl | rfl | rfl <;> (have hi:inR x 0 (p.regs - 1)=true:=hf;simp [inR] at hi;omega)
theorem fits_ope {np:Nat} {p:Pd} {x:Int} (hf:fitsR np p (convR 23) x=true):0≤x∧x+1<p.regs:=by
 have hi:inR x 0 (p.regs - 2)=true:=hf
 simp [inR] at hi
 omega
theorem owns_some {w:World} {base e size n:Nat} {ao:Option Addr} {cap:Nat} {xs:List Value} (h:w.ownsRow base e size (.slice ao n cap) n xs) (hn:0<n):∃g,ao=some ⟨g,0,none⟩∧base≤g∧g<w.heap.size:=by
 rcases owns_form h with ⟨_,h0⟩ | ⟨g,c,h1,h2,h3⟩
 ·omega
 ·simp at h1;exact ⟨g,h1.1,h2,h3⟩
set_option maxRecDepth 100000 in
set_option maxHeartbeats 8000000 in
theorem typesBehind_any (np:Nat) (p:Pd) (m r0 r1 r2 r3:Nat) (x0 x1 x2 x3:Int) (ts:List Int) (ao:Option Addr) (tc:Nat) (w:World) (hm:ts.length=m) (hm2:m≤250) (hmr:(m:Int)=p.regs) (g0:r0≤23) (g1:r1≤23) (g2:r2≤23) (g3:r3≤23)
  (f0:fitsR np p (convR r0) x0=true) (f1:fitsR np p (convR r1) x1=true) (f2:fitsR np p (convR r2) x2=true) (f3:fitsR np p (convR r3) x3=true) (hrow:RowI 0 w ao tc ts) :
  Calls Tryz.prog 212 #[.slice ao m tc,.agg #[fieldVal np p r0 x0,fieldVal np p r1 x1,fieldVal np p r2 x2,fieldVal np p r3 x3]] w fun e w'=>(∃bo bc,e=.returned (.slice bo m bc)∧RowI w.heap.size w' bo bc (wrsI [r0,r1,r2,r3] [x0,x1,x2,x3] ts))∧Below w.heap.size w w':=by
 obtain⟨t0,v0,rx0,rg0,ox0,tx0,tn0,A0⟩:=field_as np p r0 x0 g0
 have e0:=A0.val
 have HA0:Hid _:=A0
 have HF0:Hid _:=f0
 clear A0 f0
 obtain⟨t1,v1,rx1,rg1,ox1,tx1,tn1,A1⟩:=field_as np p r1 x1 g1
 have e1:=A1.val
 have HA1:Hid _:=A1
 have HF1:Hid _:=f1
 clear A1 f1
 obtain⟨t2,v2,rx2,rg2,ox2,tx2,tn2,A2⟩:=field_as np p r2 x2 g2
 have e2:=A2.val
 have HA2:Hid _:=A2
 have HF2:Hid _:=f2
 clear A2 f2
 obtain⟨t3,v3,rx3,rg3,ox3,tx3,tn3,A3⟩:=field_as np p r3 x3 g3
 have e3:=A3.val
 have HA3:Hid _:=A3
 have HF3:Hid _:=f3
 clear A3 f3
 rw [e0,e1,e2,e3]
 have i0:∀w:World,(Instr.index 315 (.agg #[.iface t0 v0,.iface t1 v1,.iface t2 v2,.iface t3 v3]) (.int .i64 0)).run Tryz.prog w=.ok (.iface t0 v0) w:=fun _=>by kernel_rfl
 have i1:∀w:World,(Instr.index 315 (.agg #[.iface t0 v0,.iface t1 v1,.iface t2 v2,.iface t3 v3]) (.int .i64 1)).run Tryz.prog w=.ok (.iface t1 v1) w:=fun _=>by kernel_rfl
 have i2:∀w:World,(Instr.index 315 (.agg #[.iface t0 v0,.iface t1 v1,.iface t2 v2,.iface t3 v3]) (.int .i64 2)).run Tryz.prog w=.ok (.iface t2 v2) w:=fun _=>by kernel_rfl
 have i3:∀w:World,(Instr.index 315 (.agg #[.iface t0 v0,.iface t1 v1,.iface t2 v2,.iface t3 v3]) (.int .i64 3)).run Tryz.prog w=.ok (.iface t3 v3) w:=fun _=>by kernel_rfl
 have A:=(Below.refl w.heap.size w).alloc (Nat.le_refl _) (.cells #[.iface t0 v0,.iface t1 v1,.iface t2 v2,.iface t3 v3] 315)
 have X0:=Blk.new w #[.iface t0 v0,.iface t1 v1,.iface t2 v2,.iface t3 v3] 315
 have hrow2:=hrow.later (Keeps.of_below A)
 have HCL:Hid (∀_:Unit,_):=fun _=>cloneInt_any ao tc m ts (w.alloc (.cells #[.iface t0 v0,.iface t1 v1,.iface t2 v2,.iface t3 v3] 315)) hm (by omega) (fun e=>by have:=hrow.nil e;omega) hrow2.at_ hrow.form
 have HMR:Hid _:=hmr
 have HM:Hid (ts.length=m):=hm
 clear e0 e1 e2 e3 g0 g1 g2 g3 hmr hrow hrow2 hm
 go_enter Tryz.func212,Tryz.ntmps212
 go_wp2_with fail
 refine (HCL.out ()).mono ?_
 rintro e w1 ⟨v1,rfl,T1,hw1⟩
 have X1:=X0.later hw1
 have x1c:=X1.cell
 have B1:=A.trans (hw1.mono A.size)
 obtain⟨bo,bc,rfl⟩:=owns_slice T1
 clear HCL hw1 X0 A
 have hb0:(w.alloc (.cells #[.iface t0 v0,.iface t1 v1,.iface t2 v2,.iface t3 v3] 315)).heap.size=w.heap.size+1:=by simp
 rw [hb0] at T1
 clear hb0
 go_wp2_with fail
 clear x1c
 go_loopg [12] 5 (fun g y wr=>∃(k:Nat) (ts1:List Int),k≤4∧y=.int .i64 k∧Hid (wrsI ([r0,r1,r2,r3].drop k) ([x0,x1,x2,x3].drop k) ts1=wrsI [r0,r1,r2,r3] [x0,x1,x2,x3] ts)∧Hid (ts1.length=m)∧Hid (5 - k≤g)∧wr.ownsRow (w.heap.size+1) 3 1 (.slice bo m bc) m (ints ts1)∧Below w.heap.size w wr)
 case atStart=>exact ⟨0,ts,by omega,rfl,rfl,HM.out,by show _≤_;omega,T1,B1⟩
 case round=>
  obtain⟨k,ts1,hk,rfl,HQ,HL,HG,T2,B2⟩:=hrel
  clear T1 B1 X1
  rcases (by omega:k=0∨k=1∨k=2∨k=3∨k=4) with rfl | rfl | rfl | rfl | rfl
  ·have HD:Hid (wrsI ([r0,r1,r2,r3].drop (0+1)) ([x0,x1,x2,x3].drop (0+1)) (wrI r0 x0 ts1)=wrsI [r0,r1,r2,r3] [x0,x1,x2,x3] ts):=(wrs_drop rfl rfl ts1).symm.trans HQ.out
   have HG2:Hid (5 - (0+1)≤gk - 1∧gk - 1<gk):=by have:=HG.out;show _∧_;omega
   have aR:=HA0.out.res
   have aO:=HA0.out.ope
   have HL2:Hid ((wrI r0 x0 ts1).length=m):=(wrI_len _ _ _).trans HL.out
   clear HQ HG
   by_cases hr:19≤r0∧r0≤22
   ·rw [decide_eq_true hr] at aR
    obtain⟨ex,eg⟩:=HA0.out.isR hr
    have hfx:=fits_res hr HF0.out
    obtain⟨q,hq⟩:=Int.eq_ofNat_of_zero_le hfx.1
    have hqm:q<m:=by have:=HMR.out;omega
    have HW:Hid (wrI r0 x0 ts1=ts1.set q rg0):=by show _=_;rw [wrI_res hr,hq,Int.toNat_natCast,eg]
    rw [show rx0=(q:Int) from ex.trans hq] at aR
    obtain⟨g,hg,hg1,hg2⟩:=owns_some T2 (by omega)
    subst hg
    have A2:=(Below.refl wr.heap.size wr).alloc (Nat.le_refl _) (.cells #[.int .i64 q,.int .i64 rg0] 421)
    have T3:=T2.alloc (.cells #[.int .i64 q,.int .i64 rg0] 421)
    have c3:=(T3.cellAt q (by omega)).trans (ints_get (by rw [HL.out];exact hqm))
    have z3:=T3.frozenAt q
    have T4:=(T2.stored q (.int .i64 rg0)).1
    rw [ints_set,←HW.out] at T4
    have T5:=T4.alloc (.cells #[.int .i64 q,.int .i64 rg0] 421)
    have B4:Below w.heap.size w ((wr.setCell ⟨g,q,none⟩ (.int .i64 rg0)).alloc (.cells #[.int .i64 q,.int .i64 rg0] 421)):=(B2.setCell (by dsimp only;omega) _).alloc (by rw [size_set];exact B2.size) _
    have k1:(q:Int)<m:=by omega
    have hne:¬g=wr.heap.size:=by omega
    have HT4:Hid (((wr.setCell ⟨g,q,none⟩ (.int .i64 rg0)).alloc (.cells #[.int .i64 q,.int .i64 rg0] 421)).ownsRow (w.heap.size+1) 3 1 (.slice (some ⟨g,0,none⟩) m bc) m (ints (wrI r0 x0 ts1))):=T5
    have HB4:Hid _:=B4
    clear ex eg hq hfx HW T4 T5 B4 A2 hr aO T2 T3
    go_wp2_with fail
    go_roundg (gk - 1)
    case measure=>exact HG2.out.2
    case rel=>exact ⟨0+1,_,by omega,by go_num,HD.out,HL2.out,HG2.out.1,HT4.out,HB4.out⟩
   ·rw [decide_eq_false hr] at aR
    by_cases ho:r0=23
    ·rw [decide_eq_true ho] at aO
     have ex:=HA0.out.isO ho
     have hfx:=fits_ope (np:=np) (p:=p) (x:=x0) (by have:=HF0.out;rw [ho] at this;exact this)
     obtain⟨q,hq⟩:=Int.eq_ofNat_of_zero_le hfx.1
     have hqm:q+1<m:=by have:=HMR.out;omega
     have HW:Hid (wrI r0 x0 ts1=(ts1.set q 1).set (q+1) 1):=by show _=_;rw [ho,hq];rfl
     rw [show ox0=(q:Int) from ex.trans hq] at aO
     obtain⟨g,hg,hg1,hg2⟩:=owns_some T2 (by omega)
     subst hg
     have A2:=(Below.refl wr.heap.size wr).alloc (Nat.le_refl _) (.cells #[.int .i64 q] 423)
     have P3:=Blk.new wr #[.int .i64 q] 423
     have T3:=T2.alloc (.cells #[.int .i64 q] 423)
     have B3:=B2.trans (A2.mono B2.size)
     have k1:(q:Int)<m:=by omega
     have k2:(q:Int)+1<m:=by omega
     have k3:(0:Int)≤(q:Int)+1:=by omega
     have k4:IntKind.i64.wrap ((q:Int)+1)=(q:Int)+1:=by unfold IntKind.wrap;simp [IntKind.signed,IntKind.bits];omega
     have hne:¬g=wr.heap.size:=by omega
     clear ex hq hfx hr ho A2 T2 B2
     go_wp2_with fail
     generalize wr.alloc (.cells #[.int .i64 q] 423)=w3 at *
     have p3:=P3.cell 0
     have c3:=(T3.cellAt q (by omega)).trans (ints_get (by rw [HL.out];omega))
     have d3:=(T3.cellAt (q+1) (by omega)).trans (ints_get (by rw [HL.out];omega))
     have z3:=T3.frozenAt
     have T4:=(T3.stored q (.int .i64 1)).1
     rw [ints_set] at T4
     have T5:=(T4.stored (q+1) (.int .i64 1)).1
     rw [ints_set,←HW.out] at T5
     have B5:Below w.heap.size w ((w3.setCell ⟨g,q,none⟩ (.int .i64 1)).setCell ⟨g,q+1,none⟩ (.int .i64 1)).drew:=((B3.setCell (by dsimp only;omega) _).setCell (by dsimp only;omega) _).drew
     have HT5:Hid (((w3.setCell ⟨g,q,none⟩ (.int .i64 1)).setCell ⟨g,q+1,none⟩ (.int .i64 1)).drew.ownsRow (w.heap.size+1) 3 1 (.slice (some ⟨g,0,none⟩) m bc) m (ints (wrI r0 x0 ts1))):=owns_other T5 (fun k hk=>rfl)
     have HB5:Hid _:=B5
     clear T3 T4 T5 B3 B5 HW P3
     go_wp2_with fail
     go_region_held3 (fun w'=>w'.cell? ⟨wr.heap.size,0,none⟩=some (.int .i64 q)) (first | exact p3 | (exact (World.cell?_setCell_far _ _ _ _ hne).trans p3) | (exact ((World.cell?_setCell_far _ _ _ _ hne).trans (World.cell?_setCell_far _ _ _ _ hne)).trans p3) | (go_keep;done)) (fail)
     generalize ((w3.setCell ⟨g,q,none⟩ (.int .i64 1)).setCell ⟨g,q+1,none⟩ (.int .i64 1)).drew=w5 at *
     clear p3 c3 d3 z3
     go_wp2_with fail
     go_roundg (gk - 1)
     case measure=>exact HG2.out.2
     case rel=>exact ⟨0+1,_,by omega,by go_num,HD.out,HL2.out,HG2.out.1,HT5.out,HB5.out⟩
    ·rw [decide_eq_false ho] at aO
     have HW:Hid (wrI r0 x0 ts1=ts1):=wrI_other hr ho
     have HT2:Hid _:=T2
     have HD2:Hid (wrsI ([r0,r1,r2,r3].drop (0+1)) ([x0,x1,x2,x3].drop (0+1)) ts1=wrsI [r0,r1,r2,r3] [x0,x1,x2,x3] ts):=by have:=HD.out;rw [HW.out] at this;exact this
     clear hr ho T2 HD
     go_wp2_with fail
     go_roundg (gk - 1)
     case measure=>exact HG2.out.2
     case rel=>exact ⟨0+1,ts1,by omega,by go_num,HD2.out,HL.out,HG2.out.1,HT2.out,B2⟩
  ·have HD:Hid (wrsI ([r0,r1,r2,r3].drop (1+1)) ([x0,x1,x2,x3].drop (1+1)) (wrI r1 x1 ts1)=wrsI [r0,r1,r2,r3] [x0,x1,x2,x3] ts):=(wrs_drop rfl rfl ts1).symm.trans HQ.out
   have HG2:Hid (5 - (1+1)≤gk - 1∧gk - 1<gk):=by have:=HG.out;show _∧_;omega
   have aR:=HA1.out.res
   have aO:=HA1.out.ope
   have HL2:Hid ((wrI r1 x1 ts1).length=m):=(wrI_len _ _ _).trans HL.out
   clear HQ HG
   by_cases hr:19≤r1∧r1≤22
   ·rw [decide_eq_true hr] at aR
    obtain⟨ex,eg⟩:=HA1.out.isR hr
    have hfx:=fits_res hr HF1.out
    obtain⟨q,hq⟩:=Int.eq_ofNat_of_zero_le hfx.1
    have hqm:q<m:=by have:=HMR.out;omega
    have HW:Hid (wrI r1 x1 ts1=ts1.set q rg1):=by show _=_;rw [wrI_res hr,hq,Int.toNat_natCast,eg]
    rw [show rx1=(q:Int) from ex.trans hq] at aR
    obtain⟨g,hg,hg1,hg2⟩:=owns_some T2 (by omega)
    subst hg
    have A2:=(Below.refl wr.heap.size wr).alloc (Nat.le_refl _) (.cells #[.int .i64 q,.int .i64 rg1] 421)
    have T3:=T2.alloc (.cells #[.int .i64 q,.int .i64 rg1] 421)
    have c3:=(T3.cellAt q (by omega)).trans (ints_get (by rw [HL.out];exact hqm))
    have z3:=T3.frozenAt q
    have T4:=(T2.stored q (.int .i64 rg1)).1
    rw [ints_set,←HW.out] at T4
    have T5:=T4.alloc (.cells #[.int .i64 q,.int .i64 rg1] 421)
    have B4:Below w.heap.size w ((wr.setCell ⟨g,q,none⟩ (.int .i64 rg1)).alloc (.cells #[.int .i64 q,.int .i64 rg1] 421)):=(B2.setCell (by dsimp only;omega) _).alloc (by rw [size_set];exact B2.size) _
    have k1:(q:Int)<m:=by omega
    have hne:¬g=wr.heap.size:=by omega
    have HT4:Hid (((wr.setCell ⟨g,q,none⟩ (.int .i64 rg1)).alloc (.cells #[.int .i64 q,.int .i64 rg1] 421)).ownsRow (w.heap.size+1) 3 1 (.slice (some ⟨g,0,none⟩) m bc) m (ints (wrI r1 x1 ts1))):=T5
    have HB4:Hid _:=B4
    clear ex eg hq hfx HW T4 T5 B4 A2 hr aO T2 T3
    go_wp2_with fail
    go_roundg (gk - 1)
    case measure=>exact HG2.out.2
    case rel=>exact ⟨1+1,_,by omega,by go_num,HD.out,HL2.out,HG2.out.1,HT4.out,HB4.out⟩
   ·rw [decide_eq_false hr] at aR
    by_cases ho:r1=23
    ·rw [decide_eq_true ho] at aO
     have ex:=HA1.out.isO ho
     have hfx:=fits_ope (np:=np) (p:=p) (x:=x1) (by have:=HF1.out;rw [ho] at this;exact this)
     obtain⟨q,hq⟩:=Int.eq_ofNat_of_zero_le hfx.1
     have hqm:q+1<m:=by have:=HMR.out;omega
     have HW:Hid (wrI r1 x1 ts1=(ts1.set q 1).set (q+1) 1):=by show _=_;rw [ho,hq];rfl
     rw [show ox1=(q:Int) from ex.trans hq] at aO
     obtain⟨g,hg,hg1,hg2⟩:=owns_some T2 (by omega)
     subst hg
     have A2:=(Below.refl wr.heap.size wr).alloc (Nat.le_refl _) (.cells #[.int .i64 q] 423)
     have P3:=Blk.new wr #[.int .i64 q] 423
     have T3:=T2.alloc (.cells #[.int .i64 q] 423)
     have B3:=B2.trans (A2.mono B2.size)
     have k1:(q:Int)<m:=by omega
     have k2:(q:Int)+1<m:=by omega
     have k3:(0:Int)≤(q:Int)+1:=by omega
     have k4:IntKind.i64.wrap ((q:Int)+1)=(q:Int)+1:=by unfold IntKind.wrap;simp [IntKind.signed,IntKind.bits];omega
     have hne:¬g=wr.heap.size:=by omega
     clear ex hq hfx hr ho A2 T2 B2
     go_wp2_with fail
     generalize wr.alloc (.cells #[.int .i64 q] 423)=w3 at *
     have p3:=P3.cell 0
     have c3:=(T3.cellAt q (by omega)).trans (ints_get (by rw [HL.out];omega))
     have d3:=(T3.cellAt (q+1) (by omega)).trans (ints_get (by rw [HL.out];omega))
     have z3:=T3.frozenAt
     have T4:=(T3.stored q (.int .i64 1)).1
     rw [ints_set] at T4
     have T5:=(T4.stored (q+1) (.int .i64 1)).1
     rw [ints_set,←HW.out] at T5
     have B5:Below w.heap.size w ((w3.setCell ⟨g,q,none⟩ (.int .i64 1)).setCell ⟨g,q+1,none⟩ (.int .i64 1)).drew:=((B3.setCell (by dsimp only;omega) _).setCell (by dsimp only;omega) _).drew
     have HT5:Hid (((w3.setCell ⟨g,q,none⟩ (.int .i64 1)).setCell ⟨g,q+1,none⟩ (.int .i64 1)).drew.ownsRow (w.heap.size+1) 3 1 (.slice (some ⟨g,0,none⟩) m bc) m (ints (wrI r1 x1 ts1))):=owns_other T5 (fun k hk=>rfl)
     have HB5:Hid _:=B5
     clear T3 T4 T5 B3 B5 HW P3
     go_wp2_with fail
     go_region_held3 (fun w'=>w'.cell? ⟨wr.heap.size,0,none⟩=some (.int .i64 q)) (first | exact p3 | (exact (World.cell?_setCell_far _ _ _ _ hne).trans p3) | (exact ((World.cell?_setCell_far _ _ _ _ hne).trans (World.cell?_setCell_far _ _ _ _ hne)).trans p3) | (go_keep;done)) (fail)
     generalize ((w3.setCell ⟨g,q,none⟩ (.int .i64 1)).setCell ⟨g,q+1,none⟩ (.int .i64 1)).drew=w5 at *
     clear p3 c3 d3 z3
     go_wp2_with fail
     go_roundg (gk - 1)
     case measure=>exact HG2.out.2
     case rel=>exact ⟨1+1,_,by omega,by go_num,HD.out,HL2.out,HG2.out.1,HT5.out,HB5.out⟩
    ·rw [decide_eq_false ho] at aO
     have HW:Hid (wrI r1 x1 ts1=ts1):=wrI_other hr ho
     have HT2:Hid _:=T2
     have HD2:Hid (wrsI ([r0,r1,r2,r3].drop (1+1)) ([x0,x1,x2,x3].drop (1+1)) ts1=wrsI [r0,r1,r2,r3] [x0,x1,x2,x3] ts):=by have:=HD.out;rw [HW.out] at this;exact this
     clear hr ho T2 HD
     go_wp2_with fail
     go_roundg (gk - 1)
     case measure=>exact HG2.out.2
     case rel=>exact ⟨1+1,ts1,by omega,by go_num,HD2.out,HL.out,HG2.out.1,HT2.out,B2⟩
  ·have HD:Hid (wrsI ([r0,r1,r2,r3].drop (2+1)) ([x0,x1,x2,x3].drop (2+1)) (wrI r2 x2 ts1)=wrsI [r0,r1,r2,r3] [x0,x1,x2,x3] ts):=(wrs_drop rfl rfl ts1).symm.trans HQ.out
   have HG2:Hid (5 - (2+1)≤gk - 1∧gk - 1<gk):=by have:=HG.out;show _∧_;omega
   have aR:=HA2.out.res
   have aO:=HA2.out.ope
   have HL2:Hid ((wrI r2 x2 ts1).length=m):=(wrI_len _ _ _).trans HL.out
   clear HQ HG
   by_cases hr:19≤r2∧r2≤22
   ·rw [decide_eq_true hr] at aR
    obtain⟨ex,eg⟩:=HA2.out.isR hr
    have hfx:=fits_res hr HF2.out
    obtain⟨q,hq⟩:=Int.eq_ofNat_of_zero_le hfx.1
    have hqm:q<m:=by have:=HMR.out;omega
    have HW:Hid (wrI r2 x2 ts1=ts1.set q rg2):=by show _=_;rw [wrI_res hr,hq,Int.toNat_natCast,eg]
    rw [show rx2=(q:Int) from ex.trans hq] at aR
    obtain⟨g,hg,hg1,hg2⟩:=owns_some T2 (by omega)
    subst hg
    have A2:=(Below.refl wr.heap.size wr).alloc (Nat.le_refl _) (.cells #[.int .i64 q,.int .i64 rg2] 421)
    have T3:=T2.alloc (.cells #[.int .i64 q,.int .i64 rg2] 421)
    have c3:=(T3.cellAt q (by omega)).trans (ints_get (by rw [HL.out];exact hqm))
    have z3:=T3.frozenAt q
    have T4:=(T2.stored q (.int .i64 rg2)).1
    rw [ints_set,←HW.out] at T4
    have T5:=T4.alloc (.cells #[.int .i64 q,.int .i64 rg2] 421)
    have B4:Below w.heap.size w ((wr.setCell ⟨g,q,none⟩ (.int .i64 rg2)).alloc (.cells #[.int .i64 q,.int .i64 rg2] 421)):=(B2.setCell (by dsimp only;omega) _).alloc (by rw [size_set];exact B2.size) _
    have k1:(q:Int)<m:=by omega
    have hne:¬g=wr.heap.size:=by omega
    have HT4:Hid (((wr.setCell ⟨g,q,none⟩ (.int .i64 rg2)).alloc (.cells #[.int .i64 q,.int .i64 rg2] 421)).ownsRow (w.heap.size+1) 3 1 (.slice (some ⟨g,0,none⟩) m bc) m (ints (wrI r2 x2 ts1))):=T5
    have HB4:Hid _:=B4
    clear ex eg hq hfx HW T4 T5 B4 A2 hr aO T2 T3
    go_wp2_with fail
    go_roundg (gk - 1)
    case measure=>exact HG2.out.2
    case rel=>exact ⟨2+1,_,by omega,by go_num,HD.out,HL2.out,HG2.out.1,HT4.out,HB4.out⟩
   ·rw [decide_eq_false hr] at aR
    by_cases ho:r2=23
    ·rw [decide_eq_true ho] at aO
     have ex:=HA2.out.isO ho
     have hfx:=fits_ope (np:=np) (p:=p) (x:=x2) (by have:=HF2.out;rw [ho] at this;exact this)
     obtain⟨q,hq⟩:=Int.eq_ofNat_of_zero_le hfx.1
     have hqm:q+1<m:=by have:=HMR.out;omega
     have HW:Hid (wrI r2 x2 ts1=(ts1.set q 1).set (q+1) 1):=by show _=_;rw [ho,hq];rfl
     rw [show ox2=(q:Int) from ex.trans hq] at aO
     obtain⟨g,hg,hg1,hg2⟩:=owns_some T2 (by omega)
     subst hg
     have A2:=(Below.refl wr.heap.size wr).alloc (Nat.le_refl _) (.cells #[.int .i64 q] 423)
     have P3:=Blk.new wr #[.int .i64 q] 423
     have T3:=T2.alloc (.cells #[.int .i64 q] 423)
     have B3:=B2.trans (A2.mono B2.size)
     have k1:(q:Int)<m:=by omega
     have k2:(q:Int)+1<m:=by omega
     have k3:(0:Int)≤(q:Int)+1:=by omega
     have k4:IntKind.i64.wrap ((q:Int)+1)=(q:Int)+1:=by unfold IntKind.wrap;simp [IntKind.signed,IntKind.bits];omega
     have hne:¬g=wr.heap.size:=by omega
     clear ex hq hfx hr ho A2 T2 B2
     go_wp2_with fail
     generalize wr.alloc (.cells #[.int .i64 q] 423)=w3 at *
     have p3:=P3.cell 0
     have c3:=(T3.cellAt q (by omega)).trans (ints_get (by rw [HL.out];omega))
     have d3:=(T3.cellAt (q+1) (by omega)).trans (ints_get (by rw [HL.out];omega))
     have z3:=T3.frozenAt
     have T4:=(T3.stored q (.int .i64 1)).1
     rw [ints_set] at T4
     have T5:=(T4.stored (q+1) (.int .i64 1)).1
     rw [ints_set,←HW.out] at T5
     have B5:Below w.heap.size w ((w3.setCell ⟨g,q,none⟩ (.int .i64 1)).setCell ⟨g,q+1,none⟩ (.int .i64 1)).drew:=((B3.setCell (by dsimp only;omega) _).setCell (by dsimp only;omega) _).drew
     have HT5:Hid (((w3.setCell ⟨g,q,none⟩ (.int .i64 1)).setCell ⟨g,q+1,none⟩ (.int .i64 1)).drew.ownsRow (w.heap.size+1) 3 1 (.slice (some ⟨g,0,none⟩) m bc) m (ints (wrI r2 x2 ts1))):=owns_other T5 (fun k hk=>rfl)
     have HB5:Hid _:=B5
     clear T3 T4 T5 B3 B5 HW P3
     go_wp2_with fail
     go_region_held3 (fun w'=>w'.cell? ⟨wr.heap.size,0,none⟩=some (.int .i64 q)) (first | exact p3 | (exact (World.cell?_setCell_far _ _ _ _ hne).trans p3) | (exact ((World.cell?_setCell_far _ _ _ _ hne).trans (World.cell?_setCell_far _ _ _ _ hne)).trans p3) | (go_keep;done)) (fail)
     generalize ((w3.setCell ⟨g,q,none⟩ (.int .i64 1)).setCell ⟨g,q+1,none⟩ (.int .i64 1)).drew=w5 at *
     clear p3 c3 d3 z3
     go_wp2_with fail
     go_roundg (gk - 1)
     case measure=>exact HG2.out.2
     case rel=>exact ⟨2+1,_,by omega,by go_num,HD.out,HL2.out,HG2.out.1,HT5.out,HB5.out⟩
    ·rw [decide_eq_false ho] at aO
     have HW:Hid (wrI r2 x2 ts1=ts1):=wrI_other hr ho
     have HT2:Hid _:=T2
     have HD2:Hid (wrsI ([r0,r1,r2,r3].drop (2+1)) ([x0,x1,x2,x3].drop (2+1)) ts1=wrsI [r0,r1,r2,r3] [x0,x1,x2,x3] ts):=by have:=HD.out;rw [HW.out] at this;exact this
     clear hr ho T2 HD
     go_wp2_with fail
     go_roundg (gk - 1)
     case measure=>exact HG2.out.2
     case rel=>exact ⟨2+1,ts1,by omega,by go_num,HD2.out,HL.out,HG2.out.1,HT2.out,B2⟩
  ·have HD:Hid (wrsI ([r0,r1,r2,r3].drop (3+1)) ([x0,x1,x2,x3].drop (3+1)) (wrI r3 x3 ts1)=wrsI [r0,r1,r2,r3] [x0,x1,x2,x3] ts):=(wrs_drop rfl rfl ts1).symm.trans HQ.out
   have HG2:Hid (5 - (3+1)≤gk - 1∧gk - 1<gk):=by have:=HG.out;show _∧_;omega
   have aR:=HA3.out.res
   have aO:=HA3.out.ope
   have HL2:Hid ((wrI r3 x3 ts1).length=m):=(wrI_len _ _ _).trans HL.out
   clear HQ HG
   by_cases hr:19≤r3∧r3≤22
   ·rw [decide_eq_true hr] at aR
    obtain⟨ex,eg⟩:=HA3.out.isR hr
    have hfx:=fits_res hr HF3.out
    obtain⟨q,hq⟩:=Int.eq_ofNat_of_zero_le hfx.1
    have hqm:q<m:=by have:=HMR.out;omega
    have HW:Hid (wrI r3 x3 ts1=ts1.set q rg3):=by show _=_;rw [wrI_res hr,hq,Int.toNat_natCast,eg]
    rw [show rx3=(q:Int) from ex.trans hq] at aR
    obtain⟨g,hg,hg1,hg2⟩:=owns_some T2 (by omega)
    subst hg
    have A2:=(Below.refl wr.heap.size wr).alloc (Nat.le_refl _) (.cells #[.int .i64 q,.int .i64 rg3] 421)
    have T3:=T2.alloc (.cells #[.int .i64 q,.int .i64 rg3] 421)
    have c3:=(T3.cellAt q (by omega)).trans (ints_get (by rw [HL.out];exact hqm))
    have z3:=T3.frozenAt q
    have T4:=(T2.stored q (.int .i64 rg3)).1
    rw [ints_set,←HW.out] at T4
    have T5:=T4.alloc (.cells #[.int .i64 q,.int .i64 rg3] 421)
    have B4:Below w.heap.size w ((wr.setCell ⟨g,q,none⟩ (.int .i64 rg3)).alloc (.cells #[.int .i64 q,.int .i64 rg3] 421)):=(B2.setCell (by dsimp only;omega) _).alloc (by rw [size_set];exact B2.size) _
    have k1:(q:Int)<m:=by omega
    have hne:¬g=wr.heap.size:=by omega
    have HT4:Hid (((wr.setCell ⟨g,q,none⟩ (.int .i64 rg3)).alloc (.cells #[.int .i64 q,.int .i64 rg3] 421)).ownsRow (w.heap.size+1) 3 1 (.slice (some ⟨g,0,none⟩) m bc) m (ints (wrI r3 x3 ts1))):=T5
    have HB4:Hid _:=B4
    clear ex eg hq hfx HW T4 T5 B4 A2 hr aO T2 T3
    go_wp2_with fail
    go_roundg (gk - 1)
    case measure=>exact HG2.out.2
    case rel=>exact ⟨3+1,_,by omega,by go_num,HD.out,HL2.out,HG2.out.1,HT4.out,HB4.out⟩
   ·rw [decide_eq_false hr] at aR
    by_cases ho:r3=23
    ·rw [decide_eq_true ho] at aO
     have ex:=HA3.out.isO ho
     have hfx:=fits_ope (np:=np) (p:=p) (x:=x3) (by have:=HF3.out;rw [ho] at this;exact this)
     obtain⟨q,hq⟩:=Int.eq_ofNat_of_zero_le hfx.1
     have hqm:q+1<m:=by have:=HMR.out;omega
     have HW:Hid (wrI r3 x3 ts1=(ts1.set q 1).set (q+1) 1):=by show _=_;rw [ho,hq];rfl
     rw [show ox3=(q:Int) from ex.trans hq] at aO
     obtain⟨g,hg,hg1,hg2⟩:=owns_some T2 (by omega)
     subst hg
     have A2:=(Below.refl wr.heap.size wr).alloc (Nat.le_refl _) (.cells #[.int .i64 q] 423)
     have P3:=Blk.new wr #[.int .i64 q] 423
     have T3:=T2.alloc (.cells #[.int .i64 q] 423)
     have B3:=B2.trans (A2.mono B2.size)
     have k1:(q:Int)<m:=by omega
     have k2:(q:Int)+1<m:=by omega
     have k3:(0:Int)≤(q:Int)+1:=by omega
     have k4:IntKind.i64.wrap ((q:Int)+1)=(q:Int)+1:=by unfold IntKind.wrap;simp [IntKind.signed,IntKind.bits];omega
     have hne:¬g=wr.heap.size:=by omega
     clear ex hq hfx hr ho A2 T2 B2
     go_wp2_with fail
     generalize wr.alloc (.cells #[.int .i64 q] 423)=w3 at *
     have p3:=P3.cell 0
     have c3:=(T3.cellAt q (by omega)).trans (ints_get (by rw [HL.out];omega))
     have d3:=(T3.cellAt (q+1) (by omega)).trans (ints_get (by rw [HL.out];omega))
     have z3:=T3.frozenAt
     have T4:=(T3.stored q (.int .i64 1)).1
     rw [ints_set] at T4
     have T5:=(T4.stored (q+1) (.int .i64 1)).1
     rw [ints_set,←HW.out] at T5
     have B5:Below w.heap.size w ((w3.setCell ⟨g,q,none⟩ (.int .i64 1)).setCell ⟨g,q+1,none⟩ (.int .i64 1)).drew:=((B3.setCell (by dsimp only;omega) _).setCell (by dsimp only;omega) _).drew
     have HT5:Hid (((w3.setCell ⟨g,q,none⟩ (.int .i64 1)).setCell ⟨g,q+1,none⟩ (.int .i64 1)).drew.ownsRow (w.heap.size+1) 3 1 (.slice (some ⟨g,0,none⟩) m bc) m (ints (wrI r3 x3 ts1))):=owns_other T5 (fun k hk=>rfl)
     have HB5:Hid _:=B5
     clear T3 T4 T5 B3 B5 HW P3
     go_wp2_with fail
     go_region_held3 (fun w'=>w'.cell? ⟨wr.heap.size,0,none⟩=some (.int .i64 q)) (first | exact p3 | (exact (World.cell?_setCell_far _ _ _ _ hne).trans p3) | (exact ((World.cell?_setCell_far _ _ _ _ hne).trans (World.cell?_setCell_far _ _ _ _ hne)).trans p3) | (go_keep;done)) (fail)
     generalize ((w3.setCell ⟨g,q,none⟩ (.int .i64 1)).setCell ⟨g,q+1,none⟩ (.int .i64 1)).drew=w5 at *
     clear p3 c3 d3 z3
     go_wp2_with fail
     go_roundg (gk - 1)
     case measure=>exact HG2.out.2
     case rel=>exact ⟨3+1,_,by omega,by go_num,HD.out,HL2.out,HG2.out.1,HT5.out,HB5.out⟩
    ·rw [decide_eq_false ho] at aO
     have HW:Hid (wrI r3 x3 ts1=ts1):=wrI_other hr ho
     have HT2:Hid _:=T2
     have HD2:Hid (wrsI ([r0,r1,r2,r3].drop (3+1)) ([x0,x1,x2,x3].drop (3+1)) ts1=wrsI [r0,r1,r2,r3] [x0,x1,x2,x3] ts):=by have:=HD.out;rw [HW.out] at this;exact this
     clear hr ho T2 HD
     go_wp2_with fail
     go_roundg (gk - 1)
     case measure=>exact HG2.out.2
     case rel=>exact ⟨3+1,ts1,by omega,by go_num,HD2.out,HL.out,HG2.out.1,HT2.out,B2⟩
  ·have HN:Hid (ts1=wrsI [r0,r1,r2,r3] [x0,x1,x2,x3] ts):=HQ.out
   have HT2:Hid (wr.ownsRow (w.heap.size+1) 3 1 (.slice bo m bc) m (ints ts1)):=T2
   clear HQ HG T2
   go_wp2_with fail
   go_ret
   refine⟨⟨_,_,rfl,?_⟩,B2⟩
   rw [←HN.out]
   exact (RowI.of_owns HT2.out).lower (by omega)
end Go.Proofs.YtgjbfiddhpbldaaGreatDoor
