import Derived.Test.YtaakadmnhpboiaaGreatDoorM23
import Derived.Test.YtaakadmnhpboiaaGreatDoorM28
import Derived.Test.YtaakadmnhpboiaaGreatDoorM22
namespace Go.Proofs.YtaakadmnhpboiaaGreatDoor
open Go.RowKit Go.Deep
theorem wrs_drop {rs:List Nat} {xs:List Int} {k r:Nat} {x:Int} (h1:rs[k]?=some r) (h2:xs[k]?=some x) (s:List Int):wrsI (rs.drop k) (xs.drop k) s=wrsI (rs.drop (k+1)) (xs.drop (k+1)) (wrI r x s):=by
 rw [drop_some h1,drop_some h2];rfl
theorem wrI_res {r:Nat} {x:Int} {s:List Int} (h:19≤r∧r≤22):wrI r x s=s.set x.toNat ((r:Int) - 19):=by
 rcases (by omega:r=19∨r=20∨r=21∨r=22) with rfl | rfl | rfl | rfl <;> rfl
theorem wrI_other {r:Nat} {x:Int} {s:List Int} (h:¬(19≤r∧r≤22)) (h2:¬r=23):wrI r x s=s:=by
 unfold wrI
 split <;> first | rfl | (exfalso;omega)
theorem wrI_len (r:Nat) (x:Int) (s:List Int):(wrI r x s).length=s.length:=by
 unfold wrI
 split <;> simp
theorem fits_res {np:Nat} {p:Pd} {r:Nat} {x:Int} (h:19≤r∧r≤22) (hf:fitsR np p (convR r) x=true):0≤x∧x<p.regs:=by
 rcases (by omega:r=19∨r=20∨r=21∨r=22) with rfl | rfl | rfl | rfl <;> (have hi:inR x 0 (p.regs - 1)=true:=hf;simp [inR] at hi;omega)
theorem fits_ope {np:Nat} {p:Pd} {x:Int} (hf:fitsR np p (convR 23) x=true):0≤x∧x+1<p.regs:=by
 have hi:inR x 0 (p.regs - 2)=true:=hf
 simp [inR] at hi
 omega
theorem owns_some {w:World} {base e size n:Nat} {ao:Option Addr} {cap:Nat} {xs:List Value} (h:w.ownsRow base e size (.slice ao n cap) n xs) (hn:0<n):∃g,ao=some ⟨g,0,none⟩∧base≤g∧g<w.heap.size:=by
 rcases owns_form h with ⟨_,h0⟩ | ⟨g,c,h1,h2,h3⟩
 ·omega
 ·simp at h1;exact ⟨g,h1.1,h2,h3⟩
set_option maxRecDepth 100000 in
set_option maxHeartbeats 8000000 in
theorem put_any (np:Nat) (p:Pd) (B rb m r0 r1 r2 r3:Nat) (x0 x1 x2 x3:Int) (t0 t1 t2 t3:TypeId) (v0 v1 v2 v3:Value) (rd:Rd) (to:Option Addr) (tc:Nat) (vr vk:Value) (w:World) (h:RgAt B rb m w rd (.slice to m tc) vr vk) (hm:rd.types.length=m) (hm2:m≤250) (hmr:(m:Int)=p.regs) (g0:r0≤23) (g1:r1≤23) (g2:r2≤23) (g3:r3≤23)
  (f0:fitsR np p (convR r0) x0=true) (f1:fitsR np p (convR r1) x1=true) (f2:fitsR np p (convR r2) x2=true) (f3:fitsR np p (convR r3) x3=true) (e0:fieldVal np p r0 x0=.iface t0 v0) (e1:fieldVal np p r1 x1=.iface t1 v1) (e2:fieldVal np p r2 x2=.iface t2 v2) (e3:fieldVal np p r3 x3=.iface t3 v3) :
  Calls Tryz.prog 117 #[.pointer (some ⟨rb,0,none⟩),.agg #[.iface t0 v0,.iface t1 v1,.iface t2 v2,.iface t3 v3]] w fun e w'=>e=.returned (.tuple #[])∧RgAt B rb m w' ⟨wrsI [r0,r1,r2,r3] [x0,x1,x2,x3] rd.types,rd.stay,rd.taken⟩ (.slice to m tc) vr vk∧Below B w w':=by
 have HR:Hid (∀k,k<4→_):=fun k hk=>row4 (P:=fun r x t v=>r≤23∧fitsR np p (convR r) x=true∧fieldVal np p r x=.iface t v) ⟨g0,f0,e0⟩ ⟨g1,f1,e1⟩ ⟨g2,f2,e2⟩ ⟨g3,f3,e3⟩ (k:=k) hk
 have A:=(Below.refl w.heap.size w).alloc (Nat.le_refl _) (.cells #[.iface t0 v0,.iface t1 v1,.iface t2 v2,.iface t3 v3] 179)
 have R0:=h.later A
 have B0:Below B w (w.alloc (.cells #[.iface t0 v0,.iface t1 v1,.iface t2 v2,.iface t3 v3] 179)):=A.mono (Nat.le_trans h.low (Nat.le_of_lt h.blk.lt))
 have HMR:Hid _:=hmr
 clear A h f0 f1 f2 f3 g0 g1 g2 g3 hmr e0 e1 e2 e3
 go_enter Tryz.func117,Tryz.ntmps117
 go_wp2_with fail
 go_loopg [9] 5 (fun g y wr=>∃(k:Nat) (ts1:List Int),k≤4∧y=.int .i64 k∧Hid (wrsI ([r0,r1,r2,r3].drop k) ([x0,x1,x2,x3].drop k) ts1=wrsI [r0,r1,r2,r3] [x0,x1,x2,x3] rd.types)∧Hid (ts1.length=m)∧Hid (5 - k≤g)∧RgAt B rb m wr ⟨ts1,rd.stay,rd.taken⟩ (.slice to m tc) vr vk∧Below B w wr)
 case atStart=>exact ⟨0,rd.types,by omega,rfl,rfl,hm,by show _≤_;omega,R0,B0⟩
 case round=>
  obtain⟨k,ts1,hk,rfl,HQ,HL,HG,R1,B1⟩:=hrel
  clear R0 B0
  by_cases hk4:k<4
  ·obtain⟨r,x,t,v,hr,hx,iK,hg,hf,hv⟩:=HR.out k hk4
   obtain⟨t',v',rx,rg,ox,FA⟩:=field_as np p r x hg
   obtain⟨rfl,rfl⟩:t'=t∧v'=v:=by simpa using FA.val.symm.trans hv
   have HD:Hid (wrsI ([r0,r1,r2,r3].drop (k+1)) ([x0,x1,x2,x3].drop (k+1)) (wrI r x ts1)=wrsI [r0,r1,r2,r3] [x0,x1,x2,x3] rd.types):=(wrs_drop hr hx ts1).symm.trans HQ.out
   have HG2:Hid (5 - (k+1)≤gk - 1∧gk - 1<gk):=by have:=HG.out;show _∧_;omega
   have aR:=FA.res
   have aO:=FA.ope
   have HL2:Hid ((wrI r x ts1).length=m):=(wrI_len _ _ _).trans HL.out
   have hk5:(k:Int)<4:=by omega
   clear HQ HG hr hx hg hv
   by_cases hr:19≤r∧r≤22
   ·rw [decide_eq_true hr] at aR
    obtain⟨ex,eg⟩:=FA.isR hr
    have hfx:=fits_res hr hf
    obtain⟨q,hq⟩:=Int.eq_ofNat_of_zero_le hfx.1
    have hqm:q<m:=by have:=HMR.out;omega
    have HW:Hid (wrI r x ts1=ts1.set q rg):=by show _=_;rw [wrI_res hr,hq,Int.toNat_natCast,eg]
    rw [show rx=(q:Int) from ex.trans hq] at aR
    obtain⟨g,hg,hg1,hg2⟩:=owns_some R1.types (by omega)
    subst hg
    have A2:=(Below.refl wr.heap.size wr).alloc (Nat.le_refl _) (.cells #[.int .i64 q,.int .i64 rg] 226)
    have P3:=Blk.new wr #[.int .i64 q,.int .i64 rg] 226
    have R3:=R1.later A2
    have B3:=B1.trans (A2.mono (Nat.le_trans R1.low (Nat.le_of_lt R1.blk.lt)))
    have k1:(q:Int)<m:=by omega
    have hne:¬g=wr.heap.size:=by omega
    have hnb:¬g=rb:=fun e=>R1.nt (by rw [←e];rfl)
    have hrw:rb<wr.heap.size:=R1.blk.lt
    clear ex eg hq hfx hf hr aO A2 R1 B1 FA
    go_wp2_with fail
    generalize wr.alloc (.cells #[.int .i64 q,.int .i64 rg] 226)=w3 at *
    have p3:=P3.cell 0
    have p4:=P3.cell 1
    have s3:=R3.blk.cell 0
    have c3:=(R3.types.cellAt q (by omega)).trans (ints_get (by rw [HL.out];omega))
    have z3:=R3.types.frozenAt q
    obtain⟨R4,B4⟩:=R3.setType q rg
    have HR4:Hid (RgAt B rb m (w3.setCell ⟨g,q,none⟩ (.int .i64 rg)).drew ⟨wrI r x ts1,rd.stay,rd.taken⟩ (.slice (some ⟨g,0,none⟩) m tc) vr vk):=by have:=R4.later ((Below.refl _ _).drew);rw [HW.out];exact this
    have HB4:Hid (Below B w (w3.setCell ⟨g,q,none⟩ (.int .i64 rg)).drew):=(B3.trans B4).drew
    clear R3 R4 B3 B4 HW P3
    go_wp2_with fail
    go_region_held3 (fun w'=>w'.cell? ⟨rb,0,none⟩=some (.slice (some ⟨g,0,none⟩) m tc)∧w'.cell? ⟨wr.heap.size,0,none⟩=some (.int .i64 q)∧w'.cell? ⟨wr.heap.size,1,none⟩=some (.int .i64 rg)) (first | exact ⟨s3,p3,p4⟩ | (exact ⟨(World.cell?_setCell_far _ _ _ _ hnb).trans s3,(World.cell?_setCell_far _ _ _ _ hne).trans p3,(World.cell?_setCell_far _ _ _ _ hne).trans p4⟩) | (go_keep;done)) (fail)
    generalize (w3.setCell ⟨g,q,none⟩ (.int .i64 rg)).drew=w5 at *
    clear p3 p4 s3 c3 z3
    go_wp2_with fail
    go_roundg (gk - 1)
    case measure=>exact HG2.out.2
    case rel=>exact ⟨k+1,_,by omega,by go_num,HD.out,HL2.out,HG2.out.1,HR4.out,HB4.out⟩
   ·rw [decide_eq_false hr] at aR
    by_cases ho:r=23
    ·rw [decide_eq_true ho] at aO
     have ex:=FA.isO ho
     have hfx:=fits_ope (np:=np) (p:=p) (x:=x) (by rw [ho] at hf;exact hf)
     obtain⟨q,hq⟩:=Int.eq_ofNat_of_zero_le hfx.1
     have hqm:q+1<m:=by have:=HMR.out;omega
     have HW:Hid (wrI r x ts1=(ts1.set q 1).set (q+1) 1):=by show _=_;rw [ho,hq];rfl
     rw [show ox=(q:Int) from ex.trans hq] at aO
     obtain⟨g,hg,hg1,hg2⟩:=owns_some R1.types (by omega)
     subst hg
     have A2:=(Below.refl wr.heap.size wr).alloc (Nat.le_refl _) (.cells #[.int .i64 q] 228)
     have P3:=Blk.new wr #[.int .i64 q] 228
     have R3:=R1.later A2
     have B3:=B1.trans (A2.mono (Nat.le_trans R1.low (Nat.le_of_lt R1.blk.lt)))
     have k1:(q:Int)<m:=by omega
     have k2:(q:Int)+1<m:=by omega
     have k3:(0:Int)≤(q:Int)+1:=by omega
     have k4:IntKind.i64.wrap ((q:Int)+1)=(q:Int)+1:=by unfold IntKind.wrap;simp [IntKind.signed,IntKind.bits];omega
     have hne:¬g=wr.heap.size:=by omega
     have hnb:¬g=rb:=fun e=>R1.nt (by rw [←e];rfl)
     clear ex hq hfx hf hr ho A2 R1 B1 FA
     go_wp2_with fail
     generalize wr.alloc (.cells #[.int .i64 q] 228)=w3 at *
     have p3:=P3.cell 0
     have s3:=R3.blk.cell 0
     have c3:=(R3.types.cellAt q (by omega)).trans (ints_get (by rw [HL.out];omega))
     have d3:=(R3.types.cellAt (q+1) (by omega)).trans (ints_get (by rw [HL.out];omega))
     have z3:=R3.types.frozenAt
     obtain⟨R4,B4⟩:=R3.setType q 1
     obtain⟨R5,B5⟩:=R4.setType (q+1) 1
     have HR5:Hid (RgAt B rb m ((w3.setCell ⟨g,q,none⟩ (.int .i64 1)).setCell ⟨g,q+1,none⟩ (.int .i64 1)).drew ⟨wrI r x ts1,rd.stay,rd.taken⟩ (.slice (some ⟨g,0,none⟩) m tc) vr vk):=by have:=R5.later ((Below.refl _ _).drew);rw [HW.out];exact this
     have HB5:Hid (Below B w ((w3.setCell ⟨g,q,none⟩ (.int .i64 1)).setCell ⟨g,q+1,none⟩ (.int .i64 1)).drew):=((B3.trans B4).trans B5).drew
     clear R3 R4 R5 B3 B4 B5 HW P3
     go_wp2_with fail
     go_region_held3 (fun w'=>w'.cell? ⟨rb,0,none⟩=some (.slice (some ⟨g,0,none⟩) m tc)∧w'.cell? ⟨wr.heap.size,0,none⟩=some (.int .i64 q)) (first | exact ⟨s3,p3⟩ | (exact ⟨(World.cell?_setCell_far _ _ _ _ hnb).trans s3,(World.cell?_setCell_far _ _ _ _ hne).trans p3⟩) | (exact ⟨((World.cell?_setCell_far _ _ _ _ hnb).trans (World.cell?_setCell_far _ _ _ _ hnb)).trans s3,((World.cell?_setCell_far _ _ _ _ hne).trans (World.cell?_setCell_far _ _ _ _ hne)).trans p3⟩) | (go_keep;done)) (fail)
     generalize ((w3.setCell ⟨g,q,none⟩ (.int .i64 1)).setCell ⟨g,q+1,none⟩ (.int .i64 1)).drew=w5 at *
     clear p3 s3 c3 d3 z3
     go_wp2_with fail
     go_roundg (gk - 1)
     case measure=>exact HG2.out.2
     case rel=>exact ⟨k+1,_,by omega,by go_num,HD.out,HL2.out,HG2.out.1,HR5.out,HB5.out⟩
    ·rw [decide_eq_false ho] at aO
     have HW:Hid (wrI r x ts1=ts1):=wrI_other hr ho
     have HR1:Hid (RgAt B rb m wr ⟨wrI r x ts1,rd.stay,rd.taken⟩ (.slice to m tc) vr vk):=by rw [HW.out];exact R1
     clear hr ho R1 FA hf HW
     go_wp2_with fail
     go_roundg (gk - 1)
     case measure=>exact HG2.out.2
     case rel=>exact ⟨k+1,_,by omega,by go_num,HD.out,HL2.out,HG2.out.1,HR1.out,B1⟩
  ·have hk0:k=4:=by omega
   subst hk0
   have HN:Hid (RgAt B rb m wr ⟨wrsI [r0,r1,r2,r3] [x0,x1,x2,x3] rd.types,rd.stay,rd.taken⟩ (.slice to m tc) vr vk):=by rw [←HQ.out];exact R1
   clear HQ HG R1 hk4
   go_wp2_with fail
   go_end0
   exact⟨rfl,HN.out,B1⟩
end Go.Proofs.YtaakadmnhpboiaaGreatDoor
