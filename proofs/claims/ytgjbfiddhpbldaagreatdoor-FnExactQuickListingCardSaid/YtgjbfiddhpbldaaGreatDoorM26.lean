import Derived.Test.YtgjbfiddhpbldaaGreatDoorM23
import Derived.Test.YtgjbfiddhpbldaaGreatDoorM22
namespace Go.Proofs.YtgjbfiddhpbldaaGreatDoor
open Go.RowKit Go.Deep
def tgL:List Nat→List Int→Int
 | r::rs,x::xs=>if r=11 then x else tgL rs xs
 | _,_=>-1
def tgV (n:Nd):Int:=match tgtF n with | some t=>(t:Int) | none=>-1
theorem tgL_eq {np:Nat} {p:Pd} {n:Nd} {op:Nat} (hn:InsFit np p n) (ho:n.op=op):tgL (formOf op) n.fs=tgV n:=by
 obtain⟨f1,f2,f3,f4,f5,f6⟩:=fit_tab hn
 have h1:=hn.lo
 have h2:=hn.hi
 obtain⟨o,a,b,c,d⟩:=n
 dsimp only at *
 subst ho
 rcases ops_all op (by omega) (by omega) with rfl | rfl | rfl | rfl | rfl | rfl | rfl | rfl | rfl | rfl | rfl | rfl | rfl | rfl | rfl | rfl | rfl | rfl | rfl | rfl | rfl | rfl | rfl | rfl | rfl | rfl | rfl | rfl | rfl | rfl | rfl | rfl | rfl | rfl | rfl | rfl | rfl | rfl | rfl | rfl | rfl | rfl
 all_goals first
  | rfl
  | (have:=(f1 rfl).1;simp [tgL,formOf,formTab,Nd.fs,tgV,tgtF];omega)
  | (have:=f3 rfl;simp [tgL,formOf,formTab,Nd.fs,tgV,tgtF];omega)
  | (have:=f4 (by simp);simp [tgL,formOf,formTab,Nd.fs,tgV,tgtF];omega)
theorem tgL_drop {rs:List Nat} {xs:List Int} {k r:Nat} {x:Int} (h1:rs[k]?=some r) (h2:xs[k]?=some x):tgL (rs.drop k) (xs.drop k)=if r=11 then x else tgL (rs.drop (k+1)) (xs.drop (k+1)):=by
 rw [drop_some h1,drop_some h2];rfl
theorem vf_cells {L vb sb db:Nat} {cao:Option Addr} {ccap:Nat} {ps:List Pd} {p:Pd} {h:Ph} {w:World} {c:Cf} {l nb':Nat} {op na nb nc nd:Int} (H:VfAt L vb sb db cao ccap ps p h w c l) (N:Blk w nb' #[.int .i64 op,.int .i64 na,.int .i64 nb,.int .i64 nc,.int .i64 nd] 47):w.cell? ⟨vb,0,none⟩=some (.slice cao ps.length ccap)∧w.cell? ⟨vb,1,none⟩=some (.string p.name)∧w.cell? ⟨vb,2,none⟩=some (.int .i64 p.line)∧w.cell? ⟨vb,3,none⟩=some (.int .i64 p.params)∧w.cell? ⟨vb,4,none⟩=some (.bool p.rest)∧w.cell? ⟨vb,5,none⟩=some (.int .i64 p.regs)∧w.cell? ⟨vb,6,none⟩=some (.slice h.uo p.ups.length h.uc)∧w.cell? ⟨vb,7,none⟩=some (.slice h.co p.consts.length h.cc)∧w.cell? ⟨vb,8,none⟩=some (.slice h.io p.ins.length h.ic)∧w.cell? ⟨vb,9,none⟩=some (.slice h.no p.named.length h.nc)∧w.cell? ⟨nb',0,none⟩=some (.int .i64 op)∧w.cell? ⟨nb',1,none⟩=some (.int .i64 na)∧w.cell? ⟨nb',2,none⟩=some (.int .i64 nb)∧w.cell? ⟨nb',3,none⟩=some (.int .i64 nc)∧w.cell? ⟨nb',4,none⟩=some (.int .i64 nd):=
 ⟨H.blk.cell 0,H.blk.cell 1,H.blk.cell 2,H.blk.cell 3,H.blk.cell 4,H.blk.cell 5,H.blk.cell 6,H.blk.cell 7,H.blk.cell 8,H.blk.cell 9,N.cell 0,N.cell 1,N.cell 2,N.cell 3,N.cell 4⟩
set_option maxRecDepth 100000 in
set_option maxHeartbeats 8000000 in
theorem goesOnAt_any (_B L vb sb db:Nat) (cao:Option Addr) (ccap:Nat) (ps:List Pd) (p:Pd) (h:Ph) (c:Cf) (l:Nat) (w:World) (n:Nd) (H0:VfAt L vb sb db cao ccap ps p h w c l) (hn:InsFit ps.length p n) (hF:Forms w) (hpf:PFew p) (hpl:ps.length≤1048576) (hr:0≤p.regs∧p.regs≤250) :
  Calls Tryz.prog 219 #[.pointer (some ⟨vb,0,none⟩),n.val] w fun e w'=>e=.returned (.int .i64 (tgV n))∧Below w.heap.size w w':=by
 have h1:=hn.lo
 have h2:=hn.hi
 obtain⟨op,hop⟩:=Int.eq_ofNat_of_zero_le (by omega:0≤n.op)
 obtain⟨r0,r1,r2,r3,hfo,g0,g1,g2,g3⟩:=form_four (show op≤42 by omega)
 have HT:Hid (tgL [r0,r1,r2,r3] [n.a,n.b,n.c,n.d]=tgV n):=by
  have:=tgL_eq hn hop
  rw [hfo] at this
  exact this
 have hfl:=fun W hF=>fieldsOf_any cao ccap ps.length p h n op r0 r1 r2 r3 W hop (by omega) hfo g0 g1 g2 g3 hpf hpl hr hF
 obtain⟨t0,v0,rx0,rg0,ox0,tx0,tn0,A0⟩:=field_as ps.length p r0 n.a g0
 have e0:=A0.val
 have aT0:=A0.tgt
 have HX0:Hid _:=A0.isT
 clear A0
 obtain⟨t1,v1,rx1,rg1,ox1,tx1,tn1,A1⟩:=field_as ps.length p r1 n.b g1
 have e1:=A1.val
 have aT1:=A1.tgt
 have HX1:Hid _:=A1.isT
 clear A1
 obtain⟨t2,v2,rx2,rg2,ox2,tx2,tn2,A2⟩:=field_as ps.length p r2 n.c g2
 have e2:=A2.val
 have aT2:=A2.tgt
 have HX2:Hid _:=A2.isT
 clear A2
 obtain⟨t3,v3,rx3,rg3,ox3,tx3,tn3,A3⟩:=field_as ps.length p r3 n.d g3
 have e3:=A3.val
 have aT3:=A3.tgt
 have HX3:Hid _:=A3.isT
 clear A3
 rw [e0,e1,e2,e3] at hfl
 obtain⟨op',na,nb,nc,nd⟩:=n
 dsimp only at *
 subst hop
 unfold Nd.val Pd.cells at *
 have HFL:Hid _:=hfl
 have HFm:Hid (Forms w):=hF
 have i0:∀w:World,(Instr.index 315 (.agg #[.iface t0 v0,.iface t1 v1,.iface t2 v2,.iface t3 v3]) (.int .i64 0)).run Tryz.prog w=.ok (.iface t0 v0) w:=fun _=>by kernel_rfl
 have i1:∀w:World,(Instr.index 315 (.agg #[.iface t0 v0,.iface t1 v1,.iface t2 v2,.iface t3 v3]) (.int .i64 1)).run Tryz.prog w=.ok (.iface t1 v1) w:=fun _=>by kernel_rfl
 have i2:∀w:World,(Instr.index 315 (.agg #[.iface t0 v0,.iface t1 v1,.iface t2 v2,.iface t3 v3]) (.int .i64 2)).run Tryz.prog w=.ok (.iface t2 v2) w:=fun _=>by kernel_rfl
 have i3:∀w:World,(Instr.index 315 (.agg #[.iface t0 v0,.iface t1 v1,.iface t2 v2,.iface t3 v3]) (.int .i64 3)).run Tryz.prog w=.ok (.iface t3 v3) w:=fun _=>by kernel_rfl
 clear hfl hF hn hpf hr h1 h2 e0 e1 e2 e3 hfo g0 g1 g2 g3
 have A:=(Below.refl w.heap.size w).alloc (Nat.le_refl _) (.cells #[.int .i64 ((op:Nat):Int),.int .i64 na,.int .i64 nb,.int .i64 nc,.int .i64 nd] 47)
 have N1:=Blk.new w #[.int .i64 ((op:Nat):Int),.int .i64 na,.int .i64 nb,.int .i64 nc,.int .i64 nd] 47
 have H1:=H0.below A
 clear H0
 go_enter Tryz.func219,Tryz.ntmps219
 go_wp2_with fail
 generalize w.alloc (.cells #[.int .i64 ((op:Nat):Int),.int .i64 na,.int .i64 nb,.int .i64 nc,.int .i64 nd] 47)=w1 at *
 have hD:Below w1.heap.size w1 w1.drew:=(Below.refl _ _).drew
 have HN2:Hid (Blk w1.drew w.heap.size #[.int .i64 ((op:Nat):Int),.int .i64 na,.int .i64 nb,.int .i64 nc,.int .i64 nd] 47):=N1.later hD
 have HH2:Hid (VfAt L vb sb db cao ccap ps p h w1.drew c l):=H1.below hD
 have HB2:Hid (Below w.heap.size w w1.drew):=A.trans (hD.mono A.size)
 obtain⟨c0,c1,c2,c3,c4,c5,c6,c7,c8,c9,c10,c11,c12,c13,c14⟩:=vf_cells H1 N1
 clear A N1 H1 hD
 go_wp2_with fail
 go_region_held3 (fun w'=>w'.cell? ⟨vb,0,none⟩=some (.slice cao ps.length ccap)∧w'.cell? ⟨vb,1,none⟩=some (.string p.name)∧w'.cell? ⟨vb,2,none⟩=some (.int .i64 p.line)∧w'.cell? ⟨vb,3,none⟩=some (.int .i64 p.params)∧w'.cell? ⟨vb,4,none⟩=some (.bool p.rest)∧w'.cell? ⟨vb,5,none⟩=some (.int .i64 p.regs)∧w'.cell? ⟨vb,6,none⟩=some (.slice h.uo p.ups.length h.uc)∧w'.cell? ⟨vb,7,none⟩=some (.slice h.co p.consts.length h.cc)∧w'.cell? ⟨vb,8,none⟩=some (.slice h.io p.ins.length h.ic)∧w'.cell? ⟨vb,9,none⟩=some (.slice h.no p.named.length h.nc)∧w'.cell? ⟨w.heap.size,0,none⟩=some (.int .i64 ((op:Nat):Int))∧w'.cell? ⟨w.heap.size,1,none⟩=some (.int .i64 na)∧w'.cell? ⟨w.heap.size,2,none⟩=some (.int .i64 nb)∧w'.cell? ⟨w.heap.size,3,none⟩=some (.int .i64 nc)∧w'.cell? ⟨w.heap.size,4,none⟩=some (.int .i64 nd)) (first | exact ⟨c0,c1,c2,c3,c4,c5,c6,c7,c8,c9,c10,c11,c12,c13,c14⟩ | exact ⟨d0,d1,d2,d3,d4,d5,d6,d7,d8,d9,d10,d11,d12,d13,d14⟩ | (go_keep;done))
  (first | (go_at_call 207;refine (HFL.out _ (HFm.out.later HB2.out)).mono ?_;rintro e w2 ⟨rfl,hw2⟩;obtain ⟨d0,d1,d2,d3,d4,d5,d6,d7,d8,d9,d10,d11,d12,d13,d14⟩:=vf_cells (HH2.out.below hw2) (HN2.out.later hw2);have B2:=HB2.out.trans (hw2.mono HB2.out.size)))
 clear c0 d0 c1 d1 c2 d2 c3 d3 c4 d4 c5 d5 c6 d6 c7 d7 c8 d8 c9 d9 c10 d10 c11 d11 c12 d12 c13 d13 c14 d14 HH2 HN2 hw2
 go_wp2_with fail
 go_loopg [19] 5 (fun g y wr=>∃k:Nat,k≤4∧y=.int .i64 k∧Hid (tgL ([r0,r1,r2,r3].drop k) ([na,nb,nc,nd].drop k)=tgV ⟨op,na,nb,nc,nd⟩)∧Hid (5 - k≤g)∧Below w.heap.size w wr)
 case atStart=>exact ⟨0,by omega,rfl,HT.out,by show _≤_;omega,B2⟩
 case round=>
  obtain⟨k,hk,rfl,HQ,HG,B3⟩:=hrel
  clear B2 HT
  rcases (by omega:k=0∨k=1∨k=2∨k=3∨k=4) with rfl | rfl | rfl | rfl | rfl
  ·have HD:Hid (tgV ⟨op,na,nb,nc,nd⟩=if r0=11 then na else tgL ([r0,r1,r2,r3].drop (0+1)) ([na,nb,nc,nd].drop (0+1))):=HQ.out.symm.trans (tgL_drop rfl rfl)
   have HG2:Hid (5 - (0+1)≤gk - 1∧gk - 1<gk):=by have:=HG.out;show _∧_;omega
   clear HQ HG
   have B4:=B3.trans (((Below.refl wr.heap.size wr).alloc (Nat.le_refl _) (.cells #[.int .i64 tx0,.int .i64 tn0] 426)).mono B3.size)
   by_cases hr:r0=11
   ·rw [decide_eq_true hr] at aT0
    have HN:Hid (tgV ⟨op,na,nb,nc,nd⟩=tx0):=by show _=_;rw [HD.out,if_pos hr];exact (HX0.out hr).symm
    clear hr HD
    go_wp2_with fail
    go_ret
    exact⟨ret_int HN.out.symm,B4⟩
   ·rw [decide_eq_false hr] at aT0
    have HN:Hid (tgL ([r0,r1,r2,r3].drop (0+1)) ([na,nb,nc,nd].drop (0+1))=tgV ⟨op,na,nb,nc,nd⟩):=by have:=HD.out;rw [if_neg hr] at this;exact this.symm
    clear hr HD
    go_wp2_with fail
    go_roundg (gk - 1)
    case measure=>exact HG2.out.2
    case rel=>exact ⟨0+1,by omega,by go_num,HN.out,HG2.out.1,B4⟩
  ·have HD:Hid (tgV ⟨op,na,nb,nc,nd⟩=if r1=11 then nb else tgL ([r0,r1,r2,r3].drop (1+1)) ([na,nb,nc,nd].drop (1+1))):=HQ.out.symm.trans (tgL_drop rfl rfl)
   have HG2:Hid (5 - (1+1)≤gk - 1∧gk - 1<gk):=by have:=HG.out;show _∧_;omega
   clear HQ HG
   have B4:=B3.trans (((Below.refl wr.heap.size wr).alloc (Nat.le_refl _) (.cells #[.int .i64 tx1,.int .i64 tn1] 426)).mono B3.size)
   by_cases hr:r1=11
   ·rw [decide_eq_true hr] at aT1
    have HN:Hid (tgV ⟨op,na,nb,nc,nd⟩=tx1):=by show _=_;rw [HD.out,if_pos hr];exact (HX1.out hr).symm
    clear hr HD
    go_wp2_with fail
    go_ret
    exact⟨ret_int HN.out.symm,B4⟩
   ·rw [decide_eq_false hr] at aT1
    have HN:Hid (tgL ([r0,r1,r2,r3].drop (1+1)) ([na,nb,nc,nd].drop (1+1))=tgV ⟨op,na,nb,nc,nd⟩):=by have:=HD.out;rw [if_neg hr] at this;exact this.symm
    clear hr HD
    go_wp2_with fail
    go_roundg (gk - 1)
    case measure=>exact HG2.out.2
    case rel=>exact ⟨1+1,by omega,by go_num,HN.out,HG2.out.1,B4⟩
  ·have HD:Hid (tgV ⟨op,na,nb,nc,nd⟩=if r2=11 then nc else tgL ([r0,r1,r2,r3].drop (2+1)) ([na,nb,nc,nd].drop (2+1))):=HQ.out.symm.trans (tgL_drop rfl rfl)
   have HG2:Hid (5 - (2+1)≤gk - 1∧gk - 1<gk):=by have:=HG.out;show _∧_;omega
   clear HQ HG
   have B4:=B3.trans (((Below.refl wr.heap.size wr).alloc (Nat.le_refl _) (.cells #[.int .i64 tx2,.int .i64 tn2] 426)).mono B3.size)
   by_cases hr:r2=11
   ·rw [decide_eq_true hr] at aT2
    have HN:Hid (tgV ⟨op,na,nb,nc,nd⟩=tx2):=by show _=_;rw [HD.out,if_pos hr];exact (HX2.out hr).symm
    clear hr HD
    go_wp2_with fail
    go_ret
    exact⟨ret_int HN.out.symm,B4⟩
   ·rw [decide_eq_false hr] at aT2
    have HN:Hid (tgL ([r0,r1,r2,r3].drop (2+1)) ([na,nb,nc,nd].drop (2+1))=tgV ⟨op,na,nb,nc,nd⟩):=by have:=HD.out;rw [if_neg hr] at this;exact this.symm
    clear hr HD
    go_wp2_with fail
    go_roundg (gk - 1)
    case measure=>exact HG2.out.2
    case rel=>exact ⟨2+1,by omega,by go_num,HN.out,HG2.out.1,B4⟩
  ·have HD:Hid (tgV ⟨op,na,nb,nc,nd⟩=if r3=11 then nd else tgL ([r0,r1,r2,r3].drop (3+1)) ([na,nb,nc,nd].drop (3+1))):=HQ.out.symm.trans (tgL_drop rfl rfl)
   have HG2:Hid (5 - (3+1)≤gk - 1∧gk - 1<gk):=by have:=HG.out;show _∧_;omega
   clear HQ HG
   have B4:=B3.trans (((Below.refl wr.heap.size wr).alloc (Nat.le_refl _) (.cells #[.int .i64 tx3,.int .i64 tn3] 426)).mono B3.size)
   by_cases hr:r3=11
   ·rw [decide_eq_true hr] at aT3
    have HN:Hid (tgV ⟨op,na,nb,nc,nd⟩=tx3):=by show _=_;rw [HD.out,if_pos hr];exact (HX3.out hr).symm
    clear hr HD
    go_wp2_with fail
    go_ret
    exact⟨ret_int HN.out.symm,B4⟩
   ·rw [decide_eq_false hr] at aT3
    have HN:Hid (tgL ([r0,r1,r2,r3].drop (3+1)) ([na,nb,nc,nd].drop (3+1))=tgV ⟨op,na,nb,nc,nd⟩):=by have:=HD.out;rw [if_neg hr] at this;exact this.symm
    clear hr HD
    go_wp2_with fail
    go_roundg (gk - 1)
    case measure=>exact HG2.out.2
    case rel=>exact ⟨3+1,by omega,by go_num,HN.out,HG2.out.1,B4⟩
  ·have HN:Hid (tgV ⟨op,na,nb,nc,nd⟩ = -1):=HQ.out.symm
   clear HQ HG
   go_wp2_with fail
   go_ret
   exact⟨ret_int HN.out.symm,B3⟩
end Go.Proofs.YtgjbfiddhpbldaaGreatDoor
