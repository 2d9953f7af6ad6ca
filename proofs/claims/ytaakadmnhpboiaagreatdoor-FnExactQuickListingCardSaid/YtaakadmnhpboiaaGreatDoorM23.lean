import Derived.Test.YtaakadmnhpboiaaGreatDoorM22
import Derived.Test.YtaakadmnhpboiaaGreatDoorM20
import Derived.Test.YtaakadmnhpboiaaGreatDoorM12
import Derived.Test.YtaakadmnhpboiaaGreatDoorM07
import Derived.Test.YtaakadmnhpboiaaGreatDoorM19
import Derived.ArgAppend
namespace Go.Proofs.YtaakadmnhpboiaaGreatDoor
open Go.RowKit Go.Deep
set_option maxRecDepth 100000 in
set_option maxHeartbeats 8000000 in
theorem next_any (B L vb sb db:Nat) (cao:Option Addr) (ccap:Nat) (ps:List Pd) (p:Pd) (h:Ph) (c:Cf) (l0:Nat) (w:World) (V:VfIn B L vb sb db) (hz:p.ins.length≤6000) (H0:VfAt L vb sb db cao ccap ps p h w c l0) (hl0:l0≤p.ins.length) :
  Calls Tryz.prog 63 #[.pointer (some ⟨vb,0,none⟩)] w fun e w'=>(∃l:Nat,l≤p.ins.length∧((leastDue c.due=none∧e=.returned (.int .i64 (-1))∧VfAt L vb sb db cao ccap ps p h w' c l)∨(leastDue c.due=some l∧e=.returned (.int .i64 l)∧VfAt L vb sb db cao ccap ps p h w' ⟨c.sts,c.due.set l false⟩ l)))∧Off B L w w':=by
 have HVI:Hid _:=V
 have hneV:¬vb=db:=V.vd
 have hneD:¬db=vb:=V.vd.symm
 clear V
 go_enter Tryz.func63,Tryz.ntmps63
 go_wp2_with fail
 go_loopg [] (p.ins.length+1) (fun g wr=>∃l:Nat,l≤p.ins.length∧Hid (p.ins.length+1 - l≤g)∧VfAt L vb sb db cao ccap ps p h wr c l∧Off B L w wr)
 case atStart=>exact ⟨l0,hl0,(by show _≤_;omega),H0,Off.refl _ _ _⟩
 case round=>
  obtain⟨l,hl,HG,H1,O1⟩:=hrel
  clear H0
  have v1:=H1.blk.cell
  have HB1:Hid (B≤wr.heap.size):=Nat.le_trans HVI.out.v1 (Nat.le_of_lt H1.blk.lt)
  have HD1:Hid (∀n,Below wr.heap.size wr (wr.drewN n)):=fun n=>below_drewN (Below.refl _ _) n
  by_cases hll:l<p.ins.length
  ·have k1:(l:Int)<p.ins.length:=by omega
   have HH1:Hid _:=H1
   have HO1:Hid _:=O1
   clear H1 O1
   go_wp2_with fail
   go_quiet (fail)
   have H2:=HH1.out.below (HD1.out nq)
   have O2:=HO1.out.trans (Off.of_below (L:=L) (HD1.out nq) HB1.out)
   have HB2:Hid (B≤(wr.drewN nq).heap.size):=Nat.le_trans HB1.out (HD1.out nq).size
   generalize wr.drewN nq=w2 at *
   clear v1 HH1 HO1 HB1 HD1
   have v2:=H2.blk.cell
   have d2:=(H2.due.cell l).trans (boolArr_get (by rw [H2.lenD];exact hll))
   obtain⟨b,hb⟩:∃b,b=c.due.getD l false:=⟨_,rfl⟩
   rw [←hb] at d2
   have HB:Hid (c.due.getD l false=b):=hb.symm
   have HH2:Hid _:=H2
   have HO2:Hid _:=O2
   have HD2:Hid (∀n,Below w2.heap.size w2 (w2.drewN n)):=fun n=>below_drewN (Below.refl _ _) n
   clear hb H2 O2
   go_wp2_with fail
   go_quiet (fail)
   have H3:=HH2.out.below (HD2.out nq)
   have O3:=HO2.out.trans (Off.of_below (L:=L) (HD2.out nq) HB2.out)
   have HB3:Hid (B≤(w2.drewN nq).heap.size):=Nat.le_trans HB2.out (HD2.out nq).size
   generalize w2.drewN nq=w3 at *
   clear v2 d2 HH2 HO2 HB2 HD2
   cases b
   ·have HG2:Hid (p.ins.length+1 - (l+1)≤gk - 1∧gk - 1<gk):=by have:=HG.out;show _∧_;omega
    have HLW:Hid (∀j,j<l+1→c.due.getD j false=false):=by
     intro j hj
     by_cases hjl:j=l
     ·rw [hjl];exact HB.out
     ·exact H3.low j (by omega)
    have v3:=H3.blk.cell
    have f3:=H3.blk.frozen 12
    clear HG HB
    go_wp2_with fail
    go_roundg (gk - 1)
    case measure=>exact HG2.out.2
    case rel=>exact ⟨l+1,by omega,HG2.out.1,H3.move HVI.out (l+1) HLW.out,O3.set _ HVI.out.v1 HVI.out.v2⟩
   ·have HLD:Hid (leastDue c.due=some l):=leastDue_at H3.low HB.out
    have v311:=H3.blk.cell 11
    have v312:=H3.blk.cell 12
    have d3:=(H3.due.cell l).trans (boolArr_get (by rw [H3.lenD];exact hll))
    have f3:=H3.due.frozen l
    have HKP:Hid ((w3.setCell ⟨db,l,none⟩ (.bool false)).drew.cell? ⟨vb,11,none⟩=some (.slice (some ⟨db,0,none⟩) p.ins.length p.ins.length)∧(w3.setCell ⟨db,l,none⟩ (.bool false)).drew.cell? ⟨vb,12,none⟩=some (.int .i64 l)):=
     ⟨(World.cell?_setCell_far _ _ _ _ hneD).trans v311,(World.cell?_setCell_far _ _ _ _ hneD).trans v312⟩
    clear HG HB
    go_wp2_with fail
    go_region_held3 (fun w'=>w'.cell? ⟨vb,11,none⟩=some (.slice (some ⟨db,0,none⟩) p.ins.length p.ins.length)∧w'.cell? ⟨vb,12,none⟩=some (.int .i64 l)) (first | exact HKP.out | (go_keep;done)) (fail)
    have H4:=(H3.take HVI.out l).below (w':=(w3.setCell ⟨db,l,none⟩ (.bool false)).drew) (Below.refl _ _).drew
    have O4:=(O3.set (.bool false) (p:=⟨db,l,none⟩) HVI.out.d1 HVI.out.d2).trans (Off.of_below (L:=L) (w':=(w3.setCell ⟨db,l,none⟩ (.bool false)).drew) (Below.refl _ _).drew (by rw [size_set];exact HB3.out))
    have x12:=HKP.out.2
    have H4b:Hid _:=H4
    have O4b:Hid _:=O4
    clear HKP v311 v312 d3 f3 H3 O3 H4 O4
    generalize (w3.setCell ⟨db,l,none⟩ (.bool false)).drew=w4 at *
    go_wp2_with fail
    go_ret
    exact⟨⟨l,hl,.inr ⟨HLD.out,rfl,H4b.out⟩⟩,O4b.out⟩
  ·have HLD:Hid (leastDue c.due=none):=leastDue_all (fun j hj=>H1.low j (by rw [H1.lenD] at hj;omega))
   have k1:¬(l:Int)<p.ins.length:=by omega
   have kd:decide ((l:Int)<p.ins.length)=false:=by simpa using k1
   have HH1:Hid _:=H1
   have HO1:Hid _:=O1
   clear H1 O1 HG
   go_wp2_with fail
   go_quiet (fail)
   have H2:=HH1.out.below (HD1.out nq)
   have O2:=HO1.out.trans (Off.of_below (L:=L) (HD1.out nq) HB1.out)
   have H2b:Hid _:=H2
   have O2b:Hid _:=O2
   clear v1 HH1 HO1 HB1 HD1 H2 O2
   generalize wr.drewN nq=w2 at *
   go_wp2_with fail
   go_ret
   exact⟨⟨l,hl,.inl ⟨HLD.out,rfl,H2b.out⟩⟩,O2b.out⟩
structure FieldAs (np:Nat) (p:Pd) (r:Nat) (x:Int) (t:TypeId) (v:Value) (rx rg ox:Int):Prop where
 val:fieldVal np p r x=.iface t v
 res:∀w,(Instr.typeAssert (.iface t v) 178 226 true).run Tryz.prog w=.ok (.tuple #[.agg #[.int .i64 rx,.int .i64 rg],.bool (decide (19≤r∧r≤22))]) w
 ope:∀w,(Instr.typeAssert (.iface t v) 178 228 true).run Tryz.prog w=.ok (.tuple #[.agg #[.int .i64 ox],.bool (decide (r=23))]) w
 isR:19≤r∧r≤22→rx=x∧rg=(r:Int) - 19
 isO:r=23→ox=x
theorem fa_no {np:Nat} {p:Pd} {r:Nat} {x:Int} {t:TypeId} {v:Value} (hv:fieldVal np p r x=.iface t v) (h1:∀w,(Instr.typeAssert (.iface t v) 178 226 true).run Tryz.prog w=.ok (.tuple #[.agg #[.int .i64 0,.int .i64 0],.bool false]) w) (h2:∀w,(Instr.typeAssert (.iface t v) 178 228 true).run Tryz.prog w=.ok (.tuple #[.agg #[.int .i64 0],.bool false]) w) (n1:¬(19≤r∧r≤22)) (n2:¬r=23):∃t v rx rg ox,FieldAs np p r x t v rx rg ox:=
 ⟨t,v,0,0,0,hv,by rw [decide_eq_false n1];exact h1,by rw [decide_eq_false n2];exact h2,fun h=>absurd h n1,fun h=>absurd h n2⟩
theorem field_as (np:Nat) (p:Pd) (r:Nat) (x:Int) (hr:r≤23):∃t v rx rg ox,FieldAs np p r x t v rx rg ox:=by
 by_cases h:1≤r∧r≤10
 ·exact fa_no (fieldVal_num np p r x h.1 h.2) (as_number_result _) (as_number_opening _) (by omega) (by omega)
 rcases (by omega:r=0∨r=11∨r=12∨r=13∨r=14∨r=15∨r=16∨r=17∨r=18∨r=19∨r=20∨r=21∨r=22∨r=23) with rfl | rfl | rfl | rfl | rfl | rfl | rfl | rfl | rfl | rfl | rfl | rfl | rfl | rfl
 exact fa_no rfl (as_unused_result _) (as_unused_opening _) (by omega) (by omega)
 exact fa_no rfl (as_target_result _) (as_target_opening _) (by omega) (by omega)
 iterate 2 exact fa_no rfl (as_operand_result _) (as_operand_opening _) (by omega) (by omega)
 iterate 5 exact fa_no rfl (as_places_result _) (as_places_opening _) (by omega) (by omega)
 iterate 4 exact ⟨_,_,x,_,0,rfl,as_result_result _,as_result_opening _,fun _=>⟨rfl,rfl⟩,fun h=>by omega⟩
 exact⟨_,_,0,0,x,rfl,as_opening_result _,as_opening_opening _,fun h=>by omega,fun _=>rfl⟩
def GbPost (lo:Nat) (w:World) (l:List Gd) (e:Ending) (w':World):Prop:=(∃ao cap,e=.returned (.slice ao l.length cap)∧RowG lo w' ao cap l)∧Below w.heap.size w w'
theorem RowG.of_own {w:World} {base n cap:Nat} {ao:Option Addr} {l:List Gd} (h:w.ownsRow base 163 3 (.slice ao n cap) n (gds l)):RowG base w ao cap l∧l.length=n:=by
 obtain⟨h1,h2⟩:=owns_gds h
 exact⟨RowG.of_post (by rw [←h2];exact owns_cap h _ _ rfl) h1 (owns_tag h),h2.symm⟩
theorem RowG.most {lo:Nat} {w:World} {ao:Option Addr} {cap:Nat} {l:List Gd} (h:RowG lo w ao cap l):RowG lo w ao cap l.dropLast:=by
 refine⟨Nat.le_trans (by simp) h.cap,fun e=>by have:=h.nil e;simp;omega,h.form,AllAt.dropLast h.at_,fun b o e hl=>h.tag b o e (by simp at hl;omega)⟩
theorem RowG.vals {lo:Nat} {w:World} {b o cap:Nat} {l:List Gd} (h:RowG lo w (some ⟨b,o,none⟩) cap l):∀j u,(gds l)[j]?=some u→w.cell? ⟨b,o+j,none⟩=some u:=by
 intro j u hj
 exact (gds_at (AllAt.lower h.at_ (Nat.zero_le _)) hj).1
set_option maxRecDepth 100000 in
theorem clip_any (ao:Option Addr) (m cap:Nat) (w:World) (hc:m≤cap) (hnil:ao=none→m=0) (hoff:∀x,ao=some x→∃b o,x=⟨b,o,none⟩) :
  Calls Tryz.prog 147 #[.slice ao m cap] w fun e w'=>e=.returned (.slice ao m m)∧w'=w:=by
 have k1:(m:Int)≤cap:=by omega
 cases ao with
 | none=>
  obtain rfl:=hnil rfl
  go_enter Tryz.func147,Tryz.ntmps147
  go_wp2_with fail
  go_ret
  exact⟨rfl,rfl⟩
 | some x=>
  obtain⟨b,o,rfl⟩:=hoff x rfl
  go_enter Tryz.func147,Tryz.ntmps147
  go_wp2_with fail
  go_ret
  exact⟨rfl,rfl⟩
set_option maxRecDepth 100000 in
set_option maxHeartbeats 3200000 in
theorem guardsBehind_other (op:Int) (lo:Nat) (a b c d:Int) (ao:Option Addr) (cap m:Nat) (gs:List Gd) (w:World) (hm:Hid (gs.length=m)) (hml:m≤50) (_hlo:lo≤w.heap.size) (hx:RowG lo w ao cap gs) (h31:op≠31) (h33:op≠33) (h32:op≠32) (h36:op≠36) (h34:op≠34) :
  Calls Tryz.prog 118 #[.agg #[.int .i64 op,.int .i64 a,.int .i64 b,.int .i64 c,.int .i64 d],.slice ao m cap] w (GbPost lo w (gbehF ⟨op,a,b,c,d⟩ gs)):=by
 have N0:=Blk.new w #[.int .i64 op,.int .i64 a,.int .i64 b,.int .i64 c,.int .i64 d] 93
 have B0:=(Below.refl w.heap.size w).alloc (Nat.le_refl _) (.cells #[.int .i64 op,.int .i64 a,.int .i64 b,.int .i64 c,.int .i64 d] 93)
 have HC:Hid (gbehF ⟨op,a,b,c,d⟩ gs=gs):=by
  show _=_
  unfold gbehF
  simp [h31,h33,h32,h36,h34]
 have HX1:Hid (RowG lo (w.alloc (.cells #[.int .i64 op,.int .i64 a,.int .i64 b,.int .i64 c,.int .i64 d] 93)) ao cap gs):=hx.later (Keeps.of_below B0)
 have t31:(op == 31)=false:=by simpa using h31
 have t33:(op == 33)=false:=by simpa using h33
 have t32:(op == 32)=false:=by simpa using h32
 have t36:(op == 36)=false:=by simpa using h36
 have t34:(op == 34)=false:=by simpa using h34
 clear h31 h33 h32 h36 h34 hx N0
 go_enter Tryz.func118,Tryz.ntmps118
 go_wp2_with fail
 go_ret
 rw [HC.out]
 refine⟨⟨ao,cap,?_,HX1.out⟩,B0⟩
 rw [hm.out];rfl
set_option maxRecDepth 100000 in
set_option maxHeartbeats 3200000 in
theorem guardsBehind_32 (lo:Nat) (a b c d:Int) (ao:Option Addr) (cap m:Nat) (gs:List Gd) (w:World) (hm:Hid (gs.length=m)) (hml:m≤50) (_hlo:lo≤w.heap.size) (hx:RowG lo w ao cap gs) (hne:m≠0) :
  Calls Tryz.prog 118 #[.agg #[.int .i64 32,.int .i64 a,.int .i64 b,.int .i64 c,.int .i64 d],.slice ao m cap] w (GbPost lo w (gbehF ⟨32,a,b,c,d⟩ gs)):=by
 have N0:=Blk.new w #[.int .i64 32,.int .i64 a,.int .i64 b,.int .i64 c,.int .i64 d] 93
 have B0:=(Below.refl w.heap.size w).alloc (Nat.le_refl _) (.cells #[.int .i64 32,.int .i64 a,.int .i64 b,.int .i64 c,.int .i64 d] 93)
 have HC:Hid (gbehF ⟨32,a,b,c,d⟩ gs=gs.dropLast):=by
  show _=_
  unfold gbehF
  simp
 have HX1:Hid (RowG lo (w.alloc (.cells #[.int .i64 32,.int .i64 a,.int .i64 b,.int .i64 c,.int .i64 d] 93)) ao cap gs):=hx.later (Keeps.of_below B0)
 obtain⟨k,rfl⟩:∃k,m=k+1:=⟨m - 1,by omega⟩
 have k1:((k:Int)+1 - 1)=k:=by omega
 have k2:(k:Int)≤cap:=by have:=hx.cap;have:=hm.out;omega
 have HK:Hid (gs.dropLast.length=k):=by show _=_;have:=hm.out;simp;omega
 obtain⟨y,rfl⟩:∃y,ao=some y:=by cases ao with | none=>(have h1:=hx.nil rfl;have h2:=hm.out;omega) | some y=>exact ⟨y,rfl⟩
 obtain⟨yb,yo,rfl⟩:=hx.form y rfl
 clear hx N0 hne
 go_enter Tryz.func118,Tryz.ntmps118
 go_wp2_with fail
 go_ret
 rw [HC.out]
 refine⟨⟨some ⟨yb,yo,none⟩,cap,?_,HX1.out.most⟩,B0⟩
 rw [HK.out];rfl
set_option maxRecDepth 100000 in
set_option maxHeartbeats 3200000 in
theorem guardsBehind_36 (lo:Nat) (a b c d:Int) (ao:Option Addr) (cap m:Nat) (gs:List Gd) (w:World) (hm:Hid (gs.length=m)) (hml:m≤50) (_hlo:lo≤w.heap.size) (hx:RowG lo w ao cap gs) (hne:m≠0) :
  Calls Tryz.prog 118 #[.agg #[.int .i64 36,.int .i64 a,.int .i64 b,.int .i64 c,.int .i64 d],.slice ao m cap] w (GbPost lo w (gbehF ⟨36,a,b,c,d⟩ gs)):=by
 have N0:=Blk.new w #[.int .i64 36,.int .i64 a,.int .i64 b,.int .i64 c,.int .i64 d] 93
 have B0:=(Below.refl w.heap.size w).alloc (Nat.le_refl _) (.cells #[.int .i64 36,.int .i64 a,.int .i64 b,.int .i64 c,.int .i64 d] 93)
 have HC:Hid (gbehF ⟨36,a,b,c,d⟩ gs=gs.dropLast):=by
  show _=_
  unfold gbehF
  simp
 have HX1:Hid (RowG lo (w.alloc (.cells #[.int .i64 36,.int .i64 a,.int .i64 b,.int .i64 c,.int .i64 d] 93)) ao cap gs):=hx.later (Keeps.of_below B0)
 obtain⟨k,rfl⟩:∃k,m=k+1:=⟨m - 1,by omega⟩
 have k1:((k:Int)+1 - 1)=k:=by omega
 have k2:(k:Int)≤cap:=by have:=hx.cap;have:=hm.out;omega
 have HK:Hid (gs.dropLast.length=k):=by show _=_;have:=hm.out;simp;omega
 obtain⟨y,rfl⟩:∃y,ao=some y:=by cases ao with | none=>(have h1:=hx.nil rfl;have h2:=hm.out;omega) | some y=>exact ⟨y,rfl⟩
 obtain⟨yb,yo,rfl⟩:=hx.form y rfl
 clear hx N0 hne
 go_enter Tryz.func118,Tryz.ntmps118
 go_wp2_with fail
 go_ret
 rw [HC.out]
 refine⟨⟨some ⟨yb,yo,none⟩,cap,?_,HX1.out.most⟩,B0⟩
 rw [HK.out];rfl
set_option maxRecDepth 100000 in
set_option maxHeartbeats 3200000 in
theorem guardsBehind_34 (lo:Nat) (a b c d:Int) (ao:Option Addr) (cap m:Nat) (gs:List Gd) (w:World) (hm:Hid (gs.length=m)) (hml:m≤50) (hlo:lo≤w.heap.size) (hx:RowG lo w ao cap gs) (hne:m≠0) :
  Calls Tryz.prog 118 #[.agg #[.int .i64 34,.int .i64 a,.int .i64 b,.int .i64 c,.int .i64 d],.slice ao m cap] w (GbPost lo w (gbehF ⟨34,a,b,c,d⟩ gs)):=by
 have N0:=Blk.new w #[.int .i64 34,.int .i64 a,.int .i64 b,.int .i64 c,.int .i64 d] 93
 have B0:=(Below.refl w.heap.size w).alloc (Nat.le_refl _) (.cells #[.int .i64 34,.int .i64 a,.int .i64 b,.int .i64 c,.int .i64 d] 93)
 have HC:Hid (gbehF ⟨34,a,b,c,d⟩ gs=keepLast gs a):=by
  show _=_
  unfold gbehF
  simp
 have HX1:Hid (RowG lo (w.alloc (.cells #[.int .i64 34,.int .i64 a,.int .i64 b,.int .i64 c,.int .i64 d] 93)) ao cap gs):=hx.later (Keeps.of_below B0)
 have n0:=N0.cell
 have HCL:Hid (∀_:Unit,_):=fun _=>cloneGd_any ao cap m gs (w.alloc (.cells #[.int .i64 34,.int .i64 a,.int .i64 b,.int .i64 c,.int .i64 d] 93)) hm.out (by omega) (fun e=>by have h1:=hx.nil e;have h2:=hm.out;omega) (AllAt.lower HX1.out.at_ (Nat.zero_le _)) hx.form
 go_enter Tryz.func118,Tryz.ntmps118
 go_wp2_with fail
 refine (HCL.out ()).mono ?_
 rintro e w1 ⟨v,rfl,hown,hw1⟩
 have B1:=B0.trans (hw1.mono (by simp))
 have N1:=N0.later hw1
 have n1:=N1.cell
 clear hw1 N0 B0 hx n0 HCL
 rcases m with _ | k
 ·exact absurd rfl hne
 ·obtain⟨g,cap1,q,rfl,hg1,hg2,hcap,hq,hqa,hfr,HG0,HS⟩:=owns_last hown hm.out
  have hgw:w.heap.size<g:=by simp at hg1;omega
  have HO:Hid ((w1.setCell ⟨g,k*3+1,none⟩ (.int .i64 a)).ownsRow (w.alloc (.cells #[.int .i64 34,.int .i64 a,.int .i64 b,.int .i64 c,.int .i64 d] 93)).heap.size 163 3 (.slice (some ⟨g,0,none⟩) (k+1) cap1) (k+1) (gds (keepLast gs a))):=by
   have h0:=HS a
   rw [gds_set hm.out] at h0
   exact h0
  have HB3:Hid (Below w.heap.size w (w1.setCell ⟨g,k*3+1,none⟩ (.int .i64 a))):=B1.setCell (by dsimp only;omega) _
  have HLO:Hid (lo≤w.heap.size):=hlo
  obtain⟨q0,q1,q2⟩:=hqa
  have f1:=hfr (k*3+1)
  have k1:((k:Int)+1 - 1)=k:=by omega
  clear hq HS HG0 hown hfr hg1 hgw hne hlo
  go_wp2_with fail
  go_ret
  rw [HC.out]
  obtain⟨h1,h2⟩:=RowG.of_own HO.out
  exact⟨⟨some ⟨g,0,none⟩,cap1,by rw [h2];rfl,h1.lower (by have:=HLO.out;simp;omega)⟩,HB3.out⟩
theorem stp_gdn {ops:Array Oper} {o:Oper} {a:Act} {w:World} {K:Act→World→Prop} {Q:Exit→Act→World→Prop} {E:Prop} (hgd:o.guard=none) (s x:Operand) (ho:o.op=.call {callee:=.builtin .append,args:=#[s,x],argTypes:=#[96,96]})
  (lo:Nat) (ao:Option Addr) (n cap:Nat) (xs:List Gd) (u:Gd) (B:Nat) (hs:a.eval s=.slice ao n n) (hr:RowG lo w ao cap xs) (hl:xs.length=n) (hx:a.eval x=.slice (some ⟨B,0,none⟩) 1 1) (hB:GdAt w B 0 u) (hn:n≤1048576)
  (h:∀v' w',w'.ownsRow w.heap.size 163 3 v' (n+1) (gds (xs ++ [u]))→w.grownBy w' none→K (a.put o.dst v') w') :
  if Region.wanted o (yielded ops a.tmps)=true then Oper.wp Tryz.prog o a w K Q else E:=by
 have hw:Region.wanted o (yielded ops a.tmps)=true:=by simp [Region.wanted,hgd]
 rw [if_pos hw]
 obtain⟨i0,hi,hz0,hz1,hz2⟩:=info_parts Tryz.info_Guard
 obtain⟨b0,b1,b2⟩:=hB
 have hnews:∀j q,u.vals[j]?=some q→w.cell? ((⟨B,0,none⟩:Addr).add j)=some q:=by
  intro j q hj
  match j,hj with
  | 0,hj=>simp [Gd.vals] at hj;subst hj;simpa [Addr.add] using b0
  | 1,hj=>simp [Gd.vals] at hj;subst hj;simpa [Addr.add] using b1
  | 2,hj=>simp [Gd.vals] at hj;subst hj;simpa [Addr.add] using b2
 have hone:∀q ∈ u.vals,q.oneCell'=true:=by intro q hq;simp [Gd.vals] at hq;rcases hq with rfl | rfl | rfl <;> rfl
 have hrun:∃v' w',(Builtin.append_ #[96,96] o.type #[.slice ao n n,.slice (some ⟨B,0,none⟩) 1 1]).run Tryz.prog w=.ok v' w'∧w'.ownsRow w.heap.size 163 3 v' (n+1) (gds xs ++ u.vals)∧w.grownBy w' none:=by
  cases ao with
  | none=>
   obtain rfl:n=0:=by have:=hr.nil rfl;omega
   obtain rfl:xs=[]:=List.eq_nil_of_length_eq_zero hl
   obtain⟨v',w',h1,h2,h3,_⟩:=run_append_own (P:=Tryz.prog) w w.heap.size 96 o.type 163 i0 (.agg #[.bool false,.int .i64 0,.int .i64 0]) 3 24 Tryz.underlying96 hi hz0 hz1 hz2 rfl (by decide) (.slice none 0 0) 0 [] (World.ownsRow_nil w _ _ _) ⟨B,0,none⟩ 1 1 u.vals rfl hnews hone (by unfold maxLen;omega) (by omega) (Nat.le_refl _)
   exact⟨v',w',h1,h2,h3⟩
  | some ad=>
   obtain⟨b,off,rfl⟩:=hr.form _ rfl
   exact run_append_arg_grows (P:=Tryz.prog) w 96 o.type 163 i0 (.agg #[.bool false,.int .i64 0,.int .i64 0]) 3 24 Tryz.underlying96 hi hz0 hz1 hz2 rfl (by decide) ⟨b,off,none⟩ n n (gds xs) (by rw [gds_length,hl]) (fun j q hj=>by rw [Addr.add_lit];exact hr.vals j q hj) ⟨B,0,none⟩ 1 1 u.vals rfl hnews (by omega) (by unfold maxLen;omega) (by omega)
 obtain⟨v',w',hrr,h2,h3⟩:=hrun
 unfold Oper.wp execOp
 simp only [ho,resolve,invoke,builtin,Sem.run_bind,Sem.run_pure,Result.andThen_ok,List.map_toArray,List.map_cons,List.map_nil,hs,hx,hrr]
 refine h v' w' ?_ h3
 rw [gds_append]
 simpa [gds] using h2
set_option maxRecDepth 100000 in
set_option maxHeartbeats 3200000 in
theorem guardsBehind_31 (lo:Nat) (a b c d:Int) (ao:Option Addr) (cap m:Nat) (gs:List Gd) (w:World) (hm:Hid (gs.length=m)) (hml:m≤50) (hlo:lo≤w.heap.size) (hx:RowG lo w ao cap gs) :
  Calls Tryz.prog 118 #[.agg #[.int .i64 31,.int .i64 a,.int .i64 b,.int .i64 c,.int .i64 d],.slice ao m cap] w (GbPost lo w (gbehF ⟨31,a,b,c,d⟩ gs)):=by
 have N0:=Blk.new w #[.int .i64 31,.int .i64 a,.int .i64 b,.int .i64 c,.int .i64 d] 93
 have B0:=(Below.refl w.heap.size w).alloc (Nat.le_refl _) (.cells #[.int .i64 31,.int .i64 a,.int .i64 b,.int .i64 c,.int .i64 d] 93)
 have HC:Hid (gbehF ⟨31,a,b,c,d⟩ gs=gs ++ [(⟨true,b,a⟩:Gd)]):=by
  show _=_
  unfold gbehF
  simp
 have HX1:Hid (RowG lo (w.alloc (.cells #[.int .i64 31,.int .i64 a,.int .i64 b,.int .i64 c,.int .i64 d] 93)) ao cap gs):=hx.later (Keeps.of_below B0)
 have HCL:Hid (∀w',_):=fun w'=>clip_any ao m cap w' (by have:=hx.cap;have:=hm.out;omega) (fun e=>by have h1:=hx.nil e;have h2:=hm.out;omega) hx.form
 have n0:=N0.cell 1
 have n2:=N0.cell 2
 have HLO:Hid (lo≤w.heap.size):=hlo
 have hz:(w.alloc (.cells #[.int .i64 31,.int .i64 a,.int .i64 b,.int .i64 c,.int .i64 d] 93)).heap.size=w.heap.size+1:=by simp
 clear hx hlo N0
 go_enter Tryz.func118,Tryz.ntmps118
 go_wp2_with fail
 generalize w.alloc (.cells #[.int .i64 31,.int .i64 a,.int .i64 b,.int .i64 c,.int .i64 d] 93)=w1 at *
 have P1:=Blk.new w1.drew #[.bool true,.int .i64 b,.int .i64 a] 163
 have hz1:w1.drew.heap.size=w.heap.size+1:=hz
 rw [hz1] at P1
 have D1:Below w1.heap.size w1 (w1.drew.alloc (.cells #[.bool true,.int .i64 b,.int .i64 a] 163)):=(Below.refl _ _).drew.alloc (Nat.le_refl _) _
 have HXD:Hid _:=HX1.out.later (Keeps.of_below D1)
 have hd:w1.heap.size≤(w1.drew.alloc (.cells #[.bool true,.int .i64 b,.int .i64 a] 163)).heap.size:=D1.size
 have HP1:Hid (∀o,_):=P1.cell
 have HD1:Hid _:=D1
 have HHD:Hid _:=hd
 have HHZ:Hid _:=hz
 have HB0:Hid _:=B0
 clear P1 D1 hd hz hz1 B0
 go_region_held3 (fun w'=>w'.cell? ⟨w.heap.size,1,none⟩=some (.int .i64 a)∧w'.cell? ⟨w.heap.size,2,none⟩=some (.int .i64 b)) (first | exact ⟨n0,n2⟩ | exact ⟨s0,s2⟩ | (go_keep;done))
  (first
   | (go_at_call 147;refine (HCL.out _).mono ?_;rintro e wq ⟨rfl,rfl⟩)
   | (refine stp_gdn rfl _ _ rfl lo ao m cap gs (⟨true,b,a⟩:Gd) (w.heap.size+1) rfl HXD.out hm.out (by first | rfl | (rw [←HHZ.out];rfl)) ⟨HP1.out 0,HP1.out 1,HP1.out 2⟩ (by omega) ?_;intro v' w2 H2 G2;obtain ⟨ao2,cap2,rfl⟩:=owns_slice H2;have B2:Below w1.heap.size w1 w2:=HD1.out.grown G2 HHD.out (fun k hk=>by cases hk);have HH2:Hid _:=H2;have hw1:w.heap.size<w1.heap.size:=(by have:=HHZ.out;omega);have s0:=(B2.cell (p:=⟨w.heap.size,1,none⟩) hw1).trans n0;have s2:=(B2.cell (p:=⟨w.heap.size,2,none⟩) hw1).trans n2;have HB2:Hid (Below w.heap.size w w2):=HB0.out.trans (B2.mono (Nat.le_of_lt hw1));clear H2 G2 B2))
 all_goals
  go_wp2_with fail
  go_ret
  rw [HC.out]
  obtain⟨h1,h2⟩:=RowG.of_own HH2.out
  exact⟨⟨ao2,cap2,by rw [h2];rfl,h1.lower (Nat.le_trans (Nat.le_trans HLO.out (by have:=HHZ.out;omega)) HHD.out)⟩,HB2.out⟩
set_option maxRecDepth 100000 in
set_option maxHeartbeats 3200000 in
theorem guardsBehind_33 (lo:Nat) (a b c d:Int) (ao:Option Addr) (cap m:Nat) (gs:List Gd) (w:World) (hm:Hid (gs.length=m)) (hml:m≤50) (hlo:lo≤w.heap.size) (hx:RowG lo w ao cap gs) :
  Calls Tryz.prog 118 #[.agg #[.int .i64 33,.int .i64 a,.int .i64 b,.int .i64 c,.int .i64 d],.slice ao m cap] w (GbPost lo w (gbehF ⟨33,a,b,c,d⟩ gs)):=by
 have N0:=Blk.new w #[.int .i64 33,.int .i64 a,.int .i64 b,.int .i64 c,.int .i64 d] 93
 have B0:=(Below.refl w.heap.size w).alloc (Nat.le_refl _) (.cells #[.int .i64 33,.int .i64 a,.int .i64 b,.int .i64 c,.int .i64 d] 93)
 have HC:Hid (gbehF ⟨33,a,b,c,d⟩ gs=gs ++ [(⟨false,a,0⟩:Gd)]):=by
  show _=_
  unfold gbehF
  simp
 have HX1:Hid (RowG lo (w.alloc (.cells #[.int .i64 33,.int .i64 a,.int .i64 b,.int .i64 c,.int .i64 d] 93)) ao cap gs):=hx.later (Keeps.of_below B0)
 have HCL:Hid (∀w',_):=fun w'=>clip_any ao m cap w' (by have:=hx.cap;have:=hm.out;omega) (fun e=>by have h1:=hx.nil e;have h2:=hm.out;omega) hx.form
 have n0:=N0.cell 1
 have n2:=N0.cell 2
 have HLO:Hid (lo≤w.heap.size):=hlo
 have hz:(w.alloc (.cells #[.int .i64 33,.int .i64 a,.int .i64 b,.int .i64 c,.int .i64 d] 93)).heap.size=w.heap.size+1:=by simp
 clear hx hlo N0
 go_enter Tryz.func118,Tryz.ntmps118
 go_wp2_with fail
 generalize w.alloc (.cells #[.int .i64 33,.int .i64 a,.int .i64 b,.int .i64 c,.int .i64 d] 93)=w1 at *
 have P1:=Blk.new w1.drew #[.bool false,.int .i64 a,.int .i64 0] 163
 have hz1:w1.drew.heap.size=w.heap.size+1:=hz
 rw [hz1] at P1
 have D1:Below w1.heap.size w1 (w1.drew.alloc (.cells #[.bool false,.int .i64 a,.int .i64 0] 163)):=(Below.refl _ _).drew.alloc (Nat.le_refl _) _
 have HXD:Hid _:=HX1.out.later (Keeps.of_below D1)
 have hd:w1.heap.size≤(w1.drew.alloc (.cells #[.bool false,.int .i64 a,.int .i64 0] 163)).heap.size:=D1.size
 have HP1:Hid (∀o,_):=P1.cell
 have HD1:Hid _:=D1
 have HHD:Hid _:=hd
 have HHZ:Hid _:=hz
 have HB0:Hid _:=B0
 clear P1 D1 hd hz hz1 B0
 go_region_held3 (fun w'=>w'.cell? ⟨w.heap.size,1,none⟩=some (.int .i64 a)∧w'.cell? ⟨w.heap.size,2,none⟩=some (.int .i64 b)) (first | exact ⟨n0,n2⟩ | exact ⟨s0,s2⟩ | (go_keep;done))
  (first
   | (go_at_call 147;refine (HCL.out _).mono ?_;rintro e wq ⟨rfl,rfl⟩)
   | (refine stp_gdn rfl _ _ rfl lo ao m cap gs (⟨false,a,0⟩:Gd) (w.heap.size+1) rfl HXD.out hm.out (by first | rfl | (rw [←HHZ.out];rfl)) ⟨HP1.out 0,HP1.out 1,HP1.out 2⟩ (by omega) ?_;intro v' w2 H2 G2;obtain ⟨ao2,cap2,rfl⟩:=owns_slice H2;have B2:Below w1.heap.size w1 w2:=HD1.out.grown G2 HHD.out (fun k hk=>by cases hk);have HH2:Hid _:=H2;have hw1:w.heap.size<w1.heap.size:=(by have:=HHZ.out;omega);have s0:=(B2.cell (p:=⟨w.heap.size,1,none⟩) hw1).trans n0;have s2:=(B2.cell (p:=⟨w.heap.size,2,none⟩) hw1).trans n2;have HB2:Hid (Below w.heap.size w w2):=HB0.out.trans (B2.mono (Nat.le_of_lt hw1));clear H2 G2 B2))
 all_goals
  go_wp2_with fail
  go_ret
  rw [HC.out]
  obtain⟨h1,h2⟩:=RowG.of_own HH2.out
  exact⟨⟨ao2,cap2,by rw [h2];rfl,h1.lower (Nat.le_trans (Nat.le_trans HLO.out (by have:=HHZ.out;omega)) HHD.out)⟩,HB2.out⟩
theorem guardsBehind_any (lo:Nat) (n:Nd) (ao:Option Addr) (cap m:Nat) (gs:List Gd) (w:World) (hm:Hid (gs.length=m)) (hml:m≤50) (hlo:lo≤w.heap.size) (hx:RowG lo w ao cap gs) (hne:n.op=32∨n.op=34∨n.op=36→m≠0) :
  Calls Tryz.prog 118 #[n.val,.slice ao m cap] w (GbPost lo w (gbehF n gs)):=by
 obtain⟨op,a,b,c,d⟩:=n
 dsimp only at hne
 by_cases h31:op=31
 ·subst h31;exact guardsBehind_31 lo a b c d ao cap m gs w hm hml hlo hx
 by_cases h33:op=33
 ·subst h33;exact guardsBehind_33 lo a b c d ao cap m gs w hm hml hlo hx
 by_cases h32:op=32
 ·subst h32;exact guardsBehind_32 lo a b c d ao cap m gs w hm hml hlo hx (hne (by simp))
 by_cases h36:op=36
 ·subst h36;exact guardsBehind_36 lo a b c d ao cap m gs w hm hml hlo hx (hne (by simp))
 by_cases h34:op=34
 ·subst h34;exact guardsBehind_34 lo a b c d ao cap m gs w hm hml hlo hx (hne (by simp))
 exact guardsBehind_other op lo a b c d ao cap m gs w hm hml hlo hx h31 h33 h32 h36 h34
end Go.Proofs.YtaakadmnhpboiaaGreatDoor
