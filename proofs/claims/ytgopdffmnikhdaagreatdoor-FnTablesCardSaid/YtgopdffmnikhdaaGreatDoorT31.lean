import Derived.Test.YtgopdffmnikhdaaGreatDoorT30
import Derived.Test.YtgopdffmnikhdaaGreatDoorT25
import Derived.Test.YtgopdffmnikhdaaGreatDoorT27
import Derived.Deep.RegionLaw
namespace Go.Proofs.YtgopdffmnikhdaaGreatDoor
open Go.RowKit Go.Deep
set_option maxRecDepth 1000000 in
set_option maxHeartbeats 8000000 in
theorem stp_r2 (vb x5:Nat) (cao:Option Addr) (ccap:Nat) (ps:List Pd) (p:Pd) (h:Ph) (op na nb nc nd:Int) (t0 t1 t2 t3:TypeId) (v0 v1 v2 v3:Value) (w:World) (c1 c2 c3 c4 c6 c7 c8 c9 c10 c11 c12 c13 c14 c15 c16 c17 c18 c19 c20 c21 c22 c23 c24 c25 c26 c27 c28 c29 c30 c31 c32 c33 c34 c35 c36 c37 c38 c39 c40 c41 c42 c43 c44 c45 c46 c47 c48 c49 c50 c51 c52 c53 c54 c55 c56 c57 c58 c59 c60 c61 c62 c63 c64 c65 c66 c67 c68 c69 c70 c71 c72 c73 c74 c75 c76 c77 c78 c79 c80 c81 c82 c83 c84 c85 c86 c87 c88 c89 c90 c91 c92 c93 c94 c95 c96 c97 c98 c99 c100:Value) (Q:Exit→Act→World→Prop)
  (hq:∀(u25 u26 u27 u28 u29 u30 u31 u32 u33 u34:Value) (x7:Nat) (wx:World),w.heap.size≤x7→Blk wx x7 #[.iface t0 v0,.iface t1 v1,.iface t2 v2,.iface t3 v3] 376→Below w.heap.size w wx→Q .normal ⟨List.toArray (.pointer (some ⟨vb,0,none⟩)::c1::c2::c3::c4::.pointer (some ⟨x5,0,none⟩)::c6::.pointer (some ⟨x7,0,none⟩)::c8::c9::c10::c11::c12::c13::c14::c15::c16::c17::c18::c19::c20::c21::c22::c23::c24::u25::u26::u27::u28::u29::u30::u31::u32::u33::u34::c35::c36::c37::c38::c39::c40::c41::c42::c43::c44::c45::c46::c47::c48::c49::c50::c51::c52::c53::c54::c55::c56::c57::c58::c59::c60::c61::c62::c63::c64::c65::c66::c67::c68::c69::c70::c71::c72::c73::c74::c75::c76::c77::c78::c79::c80::c81::c82::c83::c84::c85::c86::c87::c88::c89::c90::c91::c92::c93::c94::c95::c96::c97::c98::c99::c100::[]),[]⟩ wx)
  (hfl:∀W,Below w.heap.size w W→Calls Tryz.prog 303 #[.agg #[.slice cao ps.length ccap],.agg #[.string p.name,.int .i64 p.line,.int .i64 p.params,.bool p.rest,.int .i64 p.regs,.slice h.uo p.ups.length h.uc,.slice h.co p.consts.length h.cc,.slice h.io p.ins.length h.ic,.slice h.no p.named.length h.nc],.agg #[.int .i64 op,.int .i64 na,.int .i64 nb,.int .i64 nc,.int .i64 nd]] W fun e w'=>e=.returned (.agg #[.iface t0 v0,.iface t1 v1,.iface t2 v2,.iface t3 v3])∧Below w.heap.size w w'∧Below W.heap.size W w')
  (hS:∀w',Below w.heap.size w w'→w'.cell? ⟨vb,0,none⟩=some (.slice cao ps.length ccap)∧w'.cell? ⟨vb,1,none⟩=some (.string p.name)∧w'.cell? ⟨vb,2,none⟩=some (.int .i64 p.line)∧w'.cell? ⟨vb,3,none⟩=some (.int .i64 p.params)∧w'.cell? ⟨vb,4,none⟩=some (.bool p.rest)∧w'.cell? ⟨vb,5,none⟩=some (.int .i64 p.regs)∧w'.cell? ⟨vb,6,none⟩=some (.slice h.uo p.ups.length h.uc)∧w'.cell? ⟨vb,7,none⟩=some (.slice h.co p.consts.length h.cc)∧w'.cell? ⟨vb,8,none⟩=some (.slice h.io p.ins.length h.ic)∧w'.cell? ⟨vb,9,none⟩=some (.slice h.no p.named.length h.nc)∧w'.cell? ⟨x5,0,none⟩=some (.int .i64 op)∧w'.cell? ⟨x5,1,none⟩=some (.int .i64 na)∧w'.cell? ⟨x5,2,none⟩=some (.int .i64 nb)∧w'.cell? ⟨x5,3,none⟩=some (.int .i64 nc)∧w'.cell? ⟨x5,4,none⟩=some (.int .i64 nd)) :
  Code.wp Tryz.prog pcS2 Q ⟨List.toArray (.pointer (some ⟨vb,0,none⟩)::c1::c2::c3::c4::.pointer (some ⟨x5,0,none⟩)::c6::c7::c8::c9::c10::c11::c12::c13::c14::c15::c16::c17::c18::c19::c20::c21::c22::c23::c24::c25::c26::c27::c28::c29::c30::c31::c32::c33::c34::c35::c36::c37::c38::c39::c40::c41::c42::c43::c44::c45::c46::c47::c48::c49::c50::c51::c52::c53::c54::c55::c56::c57::c58::c59::c60::c61::c62::c63::c64::c65::c66::c67::c68::c69::c70::c71::c72::c73::c74::c75::c76::c77::c78::c79::c80::c81::c82::c83::c84::c85::c86::c87::c88::c89::c90::c91::c92::c93::c94::c95::c96::c97::c98::c99::c100::[]),[]⟩ w:=by
 conv=>arg 2;whnf
 have HQ:Hid _:=hq
 have HFL:Hid _:=hfl
 have HS:Hid _:=hS
 obtain⟨e0,e1,e2,e3,e4,e5,e6,e7,e8,e9,e10,e11,e12,e13,e14⟩:=hS w (Below.refl _ _)
 clear hq hfl hS
 go_region_held3 (fun w'=>w'.cell? ⟨vb,0,none⟩=some (.slice cao ps.length ccap)∧w'.cell? ⟨vb,1,none⟩=some (.string p.name)∧w'.cell? ⟨vb,2,none⟩=some (.int .i64 p.line)∧w'.cell? ⟨vb,3,none⟩=some (.int .i64 p.params)∧w'.cell? ⟨vb,4,none⟩=some (.bool p.rest)∧w'.cell? ⟨vb,5,none⟩=some (.int .i64 p.regs)∧w'.cell? ⟨vb,6,none⟩=some (.slice h.uo p.ups.length h.uc)∧w'.cell? ⟨vb,7,none⟩=some (.slice h.co p.consts.length h.cc)∧w'.cell? ⟨vb,8,none⟩=some (.slice h.io p.ins.length h.ic)∧w'.cell? ⟨vb,9,none⟩=some (.slice h.no p.named.length h.nc)∧w'.cell? ⟨x5,0,none⟩=some (.int .i64 op)∧w'.cell? ⟨x5,1,none⟩=some (.int .i64 na)∧w'.cell? ⟨x5,2,none⟩=some (.int .i64 nb)∧w'.cell? ⟨x5,3,none⟩=some (.int .i64 nc)∧w'.cell? ⟨x5,4,none⟩=some (.int .i64 nd)) (first | (refine HS.out _ ?_;(repeat (first | assumption | exact HB2.out | exact HB3.out | exact Below.refl _ _ | refine Below.drew ?_ | refine below_al ?_ _ | refine below_st ?_ (by dsimp only;omega) _))))
  (first
   | (go_at_call 303;refine (HFL.out _ (by (repeat (first | assumption | exact HB2.out | exact HB3.out | exact Below.refl _ _ | refine Below.drew ?_ | refine below_al ?_ _ | refine below_st ?_ (by dsimp only;omega) _)))).mono ?_;rintro e w2 ⟨rfl,hw2,hw2b⟩;have HB2:Hid (Below w.heap.size w w2):=hw2;have zz:Blk w2 w.heap.size #[.nilIface,.nilIface,.nilIface,.nilIface] 376:=Blk.later (w:=(w.alloc (.cells #[.nilIface,.nilIface,.nilIface,.nilIface] 376)).drew) (Blk.new w #[.nilIface,.nilIface,.nilIface,.nilIface] 376) hw2b;have z0:=zz.cell;have zf:=zz.frozen)
   | (go_at_call 303;refine (HFL.out _ (by (repeat (first | assumption | exact HB2.out | exact HB3.out | exact Below.refl _ _ | refine Below.drew ?_ | refine below_al ?_ _ | refine below_st ?_ (by dsimp only;omega) _)))).mono ?_;rintro e w2 ⟨rfl,hw2,hw2b⟩;have HB2:Hid (Below w.heap.size w w2):=hw2))
 ·exact HQ.out _ _ _ _ _ _ _ _ _ _ w2.heap.size _ HB2.out.size (Blk.new w2 #[.iface t0 v0,.iface t1 v1,.iface t2 v2,.iface t3 v3] 376) (below_al HB2.out _)
 ·exact HQ.out _ _ _ _ _ _ _ _ _ _ w.heap.size _ (Nat.le_refl _) ((((zz.set 0 (.iface t0 v0)).set 1 (.iface t1 v1)).set 2 (.iface t2 v2)).set 3 (.iface t3 v3)) (below_st (below_st (below_st (below_st HB2.out (Nat.le_refl _) _) (Nat.le_refl _) _) (Nat.le_refl _) _) (Nat.le_refl _) _)
theorem stp_int {ops:Array Oper} {o:Oper} {a:Act} {w:World} {K:Act→World→Prop} {Q:Exit→Act→World→Prop} {E:Prop} (hgd:o.guard=none) (s x:Operand) (ho:o.op=.call {callee:=.builtin .append,args:=#[s,x],argTypes:=#[55,55]})
  (base:Nat) (v:Value) (n:Nat) (xs:List Int) (u:Int) (B:Nat) (hs:a.eval s=v) (hown:w.ownsRow base 3 1 v n (ints xs)) (hx:a.eval x=.slice (some ⟨B,0,none⟩) 1 1) (hB:w.cell? ⟨B,0,none⟩=some (.int .i64 u))
  (hn:n≤1048576) (hbase:base≤w.heap.size)
  (h:∀v' w',w'.ownsRow base 3 1 v' (n+1) (ints (xs ++ [u]))→w.grownBy w' v.ownBlock→(v'.ownBlock=v.ownBlock∨v'.ownBlock=some w.heap.size)→K (a.put o.dst v') w') :
  if Region.wanted o (yielded ops a.tmps)=true then Oper.wp Tryz.prog o a w K Q else E:=by
 have hw:Region.wanted o (yielded ops a.tmps)=true:=by simp [Region.wanted,hgd]
 rw [if_pos hw]
 obtain⟨i0,hi,hz0,hz1,hz2⟩:=info_parts Tryz.info_int
 obtain⟨v',w',hr,h2,h3,h4,h5⟩:=run_append_own_at (P:=Tryz.prog) w base 55 o.type 3 i0 (.int .i64 0) 1 8 Tryz.underlying55 hi hz0 hz1 hz2 rfl (by decide) v n (ints xs) hown ⟨B,0,none⟩ 1 1 [.int .i64 u] rfl (by
  intro j q hj
  match j,hj with
  | 0,hj=>simp at hj;subst hj;simpa [Addr.add] using hB) (by simp [Value.oneCell']) (by unfold maxLen;omega) (by omega) hbase
 unfold Oper.wp execOp
 simp only [ho,resolve,invoke,builtin,Sem.run_bind,Sem.run_pure,Result.andThen_ok,List.map_toArray,List.map_cons,List.map_nil,hs,hx,hr]
 refine h v' w' ?_ h3 h5
 simpa [ints] using h2
theorem place_eq {r cnt:Nat} {want:Int} (h:(r=14∧cnt=1∧want=1)∨(r=15∧cnt=1∧want=2)∨(r=16∧cnt=1∧want=3)∨(r=17∧cnt=2∧want=1)∨(r=18∧cnt=3∧want=1)) (q:Nat) (rd:Rd):placesF want cnt q rd=rdI r (q:Int) rd:=by
 rcases h with ⟨rfl,rfl,rfl⟩ | ⟨rfl,rfl,rfl⟩ | ⟨rfl,rfl,rfl⟩ | ⟨rfl,rfl,rfl⟩ | ⟨rfl,rfl,rfl⟩
 ·simp [placesF,rdI,rdPlace]
 ·simp [placesF,rdI,rdPlace]
 ·simp [placesF,rdI,rdPlace]
 ·simp only [placesF,rdI]
  by_cases h1:tyAt rd.types (q:Int)=1
  ·by_cases h2:tyAt rd.types ((q:Int)+1)=1
   ·simp [h1,h2]
   ·simp [h1,h2]
  ·simp [h1]
 ·simp only [placesF,rdI]
  by_cases h1:tyAt rd.types (q:Int)=1
  ·by_cases h2:tyAt rd.types ((q:Int)+1)=1
   ·by_cases h3:tyAt rd.types ((q:Int)+2)=1
    ·have e:((q:Int)+1+1)=(q:Int)+2:=by omega
     simp [h1,h2,h3,e]
    ·have e:((q:Int)+1+1)=(q:Int)+2:=by omega
     simp [h1,h2,h3,e]
   ·simp [h1,h2]
  ·simp [h1]
set_option maxRecDepth 100000 in
theorem one_unused (rb:Nat) (v:Value) (w:World):Calls Tryz.prog 355 #[.pointer (some ⟨rb,0,none⟩),.iface 461 v] w fun e w'=>e=.returned (.bool true)∧w'=w:=by
 go_enter Tryz.func355,Tryz.ntmps355
 go_wp2_with fail
 go_ret
 exact⟨rfl,rfl⟩
set_option maxRecDepth 100000 in
theorem one_number (rb:Nat) (v:Value) (w:World):Calls Tryz.prog 355 #[.pointer (some ⟨rb,0,none⟩),.iface 467 v] w fun e w'=>e=.returned (.bool true)∧w'=w:=by
 go_enter Tryz.func355,Tryz.ntmps355
 go_wp2_with fail
 go_ret
 exact⟨rfl,rfl⟩
set_option maxRecDepth 100000 in
theorem one_target (rb:Nat) (v:Value) (w:World):Calls Tryz.prog 355 #[.pointer (some ⟨rb,0,none⟩),.iface 465 v] w fun e w'=>e=.returned (.bool true)∧w'=w:=by
 go_enter Tryz.func355,Tryz.ntmps355
 go_wp2_with fail
 go_ret
 exact⟨rfl,rfl⟩
set_option maxRecDepth 100000 in
theorem one_result (rb:Nat) (v:Value) (w:World):Calls Tryz.prog 355 #[.pointer (some ⟨rb,0,none⟩),.iface 441 v] w fun e w'=>e=.returned (.bool true)∧w'=w:=by
 go_enter Tryz.func355,Tryz.ntmps355
 go_wp2_with fail
 go_ret
 exact⟨rfl,rfl⟩
set_option maxRecDepth 100000 in
set_option maxHeartbeats 4000000 in
theorem one_operand (B rb m:Nat) (x want:Int) (rd:Rd) (to:Option Addr) (tc:Nat) (vr vk:Value) (w:World) (h:RgAt B rb m w rd (.slice to m tc) vr vk) (hB:B≤w.heap.size) (hm:rd.types.length=m) (hm2:m≤250) (hs:rd.stay.length≤90) (hk:rd.taken.length≤90) (hx1 : -(m:Int)≤x) (hx2:x<m) :
  Calls Tryz.prog 355 #[.pointer (some ⟨rb,0,none⟩),.iface 273 (.agg #[.int .i64 x,.int .i64 want])] w (RdPost B rb m (.slice to m tc) w (rdOp want x rd)):=by
 have A:=(Below.refl w.heap.size w).alloc (Nat.le_refl _) (.cells #[.int .i64 x,.int .i64 want] 273)
 have HC:Hid (∀_:Unit,_):=fun _=>operand_any B rb m x want rd to tc vr vk _ (h.later A) (Nat.le_trans hB A.size) hm hx1 hx2 hm2 (by omega) (by omega)
 have HB:Hid (Below B w (w.alloc (.cells #[.int .i64 x,.int .i64 want] 273))):=A.mono hB
 clear A h
 go_enter Tryz.func355,Tryz.ntmps355
 go_wp2_with fail
 refine (HC.out ()).mono ?_
 unfold RdPost
 generalize rdOp want x rd=o at *
 clear HC
 cases o with
 | none=>
  rintro e w2 ⟨rfl,hb⟩
  go_wp2_with fail
  go_ret
  exact⟨rfl,HB.out.trans hb⟩
 | some rd2=>
  rintro e w2 ⟨⟨rfl,hR⟩,hb⟩
  have HR:Hid _:=hR
  clear hR
  go_wp2_with fail
  go_ret
  exact⟨⟨rfl,HR.out⟩,HB.out.trans hb⟩
set_option maxRecDepth 100000 in
set_option maxHeartbeats 4000000 in
theorem one_places (B rb m q cnt:Nat) (want:Int) (rd:Rd) (to:Option Addr) (tc:Nat) (vr vk:Value) (w:World) (h:RgAt B rb m w rd (.slice to m tc) vr vk) (hB:B≤w.heap.size) (hm:rd.types.length=m) (hm2:m≤250) (hs:rd.stay.length≤90) (_hk:rd.taken.length≤90) (hq:q+cnt≤m) (hc:cnt≤3) :
  Calls Tryz.prog 355 #[.pointer (some ⟨rb,0,none⟩),.iface 463 (.agg #[.int .i64 q,.int .i64 cnt,.int .i64 want])] w (RdPost B rb m (.slice to m tc) w (placesF want cnt q rd)):=by
 have A:=(Below.refl w.heap.size w).alloc (Nat.le_refl _) (.cells #[.int .i64 q,.int .i64 cnt,.int .i64 want] 463)
 have HC:Hid (∀_:Unit,_):=fun _=>places_any B rb m q cnt want rd to tc vr vk _ (h.later A) (Nat.le_trans hB A.size) hm hq hm2 hc (by omega)
 have HB:Hid (Below B w (w.alloc (.cells #[.int .i64 q,.int .i64 cnt,.int .i64 want] 463))):=A.mono hB
 clear A h
 go_enter Tryz.func355,Tryz.ntmps355
 go_wp2_with fail
 refine (HC.out ()).mono ?_
 unfold RgPost
 generalize hO:placesF want cnt q rd=o at *
 have HO:Hid _:=hO
 clear HC hO
 cases o with
 | none=>
  rintro e w2 ⟨rfl,hb⟩
  go_wp2_with fail
  go_ret
  unfold RdPost
  first | rw [HO.out] | skip
  exact⟨rfl,HB.out.trans hb⟩
 | some rd2=>
  rintro e w2 ⟨⟨rfl,vr2,hR⟩,hb⟩
  have HR:Hid (RgAt B rb m w2 rd2 (.slice to m tc) vr2 vk):=hR
  clear hR
  go_wp2_with fail
  go_ret
  unfold RdPost
  first | rw [HO.out] | skip
  exact⟨⟨rfl,_,_,HR.out⟩,HB.out.trans hb⟩
set_option maxRecDepth 100000 in
set_option maxHeartbeats 8000000 in
theorem one_opening (B rb m q:Nat) (rd:Rd) (to:Option Addr) (tc:Nat) (vr vk:Value) (w:World) (h:RgAt B rb m w rd (.slice to m tc) vr vk) (hB:B≤w.heap.size) (hm:rd.types.length=m) (hm2:m≤250) (_hs:rd.stay.length≤90) (hk:rd.taken.length≤90) (hq:q+2≤m) :
  Calls Tryz.prog 355 #[.pointer (some ⟨rb,0,none⟩),.iface 443 (.agg #[.int .i64 q])] w (RdPost B rb m (.slice to m tc) w (rdI 23 (q:Int) rd)):=by
 have A:=(Below.refl w.heap.size w).alloc (Nat.le_refl _) (.cells #[.int .i64 q] 443)
 have R1:=h.later A
 have P1:=Blk.new w #[.int .i64 q] 443
 have HB:Hid (Below B w (w.alloc (.cells #[.int .i64 q] 443))):=A.mono hB
 have hBw:B≤(w.alloc (.cells #[.int .i64 q] 443)).heap.size:=Nat.le_trans hB A.size
 rcases owns_form h.types with ⟨_,h0⟩ | ⟨g,cap',h1,h2,h3⟩
 ·omega
 simp only [Value.slice.injEq] at h1
 obtain⟨rfl,_,rfl⟩:=h1
 obtain⟨ro,rc,rfl⟩:=owns_slice h.read
 obtain⟨ko,kc,rfl⟩:=owns_slice h.taken
 have hwp:∀k,(Value.slice ko rd.taken.length kc).ownBlock=some k→k≠w.heap.size:=fun k hk=>by have:=(h.taken.lt k hk).2;omega
 have hrbw:rb<w.heap.size:=h.blk.lt
 clear A h h2 h3
 go_enter Tryz.func355,Tryz.ntmps355
 go_wp2_with fail
 generalize w.alloc (.cells #[.int .i64 q] 443)=w1 at *
 have r1:=R1.blk.cell
 have p1:=P1.cell
 have hr1:=R1.blk.lt
 have hp1:=P1.lt
 have hE1:Below w1.heap.size w1 w1.drew:=(Below.refl _ _).drew
 have HR1:Hid (RgAt B rb m w1.drew rd (.slice (some ⟨g,0,none⟩) m tc) (.slice ro rd.stay.length rc) (.slice ko rd.taken.length kc)):=R1.later hE1
 have HP1:Hid (Blk w1.drew w.heap.size #[.int .i64 q] 443):=P1.later hE1
 clear R1 P1
 go_wp2_with fail
 go_region_law (refine stp_int rfl _ _ rfl B _ rd.taken.length rd.taken (q:Int) _ rfl (HR1.out.taken.alloc _) rfl ((Blk.new _ _ _).cell 0) (by omega) (Nat.le_trans hBw (by simp)) ?_;intro v2 w3 H1 H2 H3;obtain ⟨vo,vc,rfl⟩:=owns_slice H1;have hb2:=blk_grown (HR1.out.blk.alloc _) H2 (fun e=>HR1.out.nk e.symm);have r3:=hb2.cell 2;have f3:=hb2.frozen 2)
 all_goals
  obtain⟨R4,B4⟩:=HR1.out.addTaken H1 H2 (by simp) H3 hBw
  have P4:=(blk_grown (HP1.out.alloc _) H2 (fun e=>hwp _ e.symm rfl)).setOther (p:=⟨rb,2,none⟩) (by dsimp only;omega) (.slice vo (rd.taken.length+1) vc)
  have HB4:Hid (Below B w (w3.setCell ⟨rb,2,none⟩ (.slice vo (rd.taken.length+1) vc))):=HB.out.trans (((Below.refl B w1).drew).trans B4)
  have HR4:Hid (RgAt B rb m (w3.setCell ⟨rb,2,none⟩ (.slice vo (rd.taken.length+1) vc)) ⟨rd.types,rd.stay,rd.taken ++ [(q:Int)]⟩ (.slice (some ⟨g,0,none⟩) m tc) (.slice ro rd.stay.length rc) (.slice vo (rd.taken.length+1) vc)):=R4
  have HP4:Hid (Blk (w3.setCell ⟨rb,2,none⟩ (.slice vo (rd.taken.length+1) vc)) w.heap.size #[.int .i64 q] 443):=P4
  clear H1 H2 H3 hb2 r3 f3 R4 B4 P4 HR1 HP1 r1 p1 HB
  generalize w3.setCell ⟨rb,2,none⟩ (.slice vo (rd.taken.length+1) vc)=w4 at *
  have r4:=HR4.out.blk.cell
  have p4:=HP4.out.cell
  have c0:=(HR4.out.types.cellAt q (by omega)).trans (ints_get (by rw [hm];omega))
  have c1:=(HR4.out.types.cellAt (q+1) (by omega)).trans (ints_get (by rw [hm];omega))
  obtain⟨t0,ht0⟩:∃t,t=rd.types.getD q 0:=⟨_,rfl⟩
  obtain⟨t1,ht1⟩:∃t,t=rd.types.getD (q+1) 0:=⟨_,rfl⟩
  rw [←ht0] at c0
  rw [←ht1] at c1
  have HT0:Hid (tyAt rd.types (q:Int)=t0):=ht0.symm
  have HT1:Hid (tyAt rd.types ((q:Int)+1)=t1):=by show _=_;rw [ht1];rfl
  have HDW:Hid (∀n,Below w4.heap.size w4 (w4.drewN n)):=fun n=>below_drewN (Below.refl _ _) n
  have HBW:Hid (B≤w4.heap.size):=Nat.le_trans HR4.out.low (Nat.le_of_lt HR4.out.blk.lt)
  have k1:(q:Int)<m:=by omega
  have k2:(q:Int)+1<m:=by omega
  clear ht0 ht1
  by_cases h0:t0=1
  ·by_cases h1:t1=0
   ·have HN:Hid (rdI 23 (q:Int) rd=some ⟨rd.types,rd.stay,rd.taken ++ [(q:Int)]⟩):=by
     show _=_
     simp only [rdI]
     rw [if_pos ⟨HT0.out.trans h0,HT1.out.trans h1⟩]
    subst h0 h1
    go_wp2_with fail
    go_quiet (fail)
    go_wp2_with fail
    go_ret
    unfold RdPost
    rw [HN.out]
    exact⟨⟨rfl,_,_,HR4.out.later (HDW.out _)⟩,HB4.out.trans ((HDW.out _).mono HBW.out)⟩
   ·have HN:Hid (rdI 23 (q:Int) rd=none):=by
     show _=_
     simp only [rdI]
     rw [if_neg (fun e=>h1 (HT1.out.symm.trans e.2))]
    have e1:(t1 == 0)=false:=by simpa using h1
    subst h0
    clear h1
    go_wp2_with fail
    go_quiet (fail)
    go_wp2_with fail
    go_ret
    unfold RdPost
    rw [HN.out]
    exact⟨rfl,HB4.out.trans ((HDW.out _).mono HBW.out)⟩
  ·have HN:Hid (rdI 23 (q:Int) rd=none):=by
    show _=_
    simp only [rdI]
    rw [if_neg (fun e=>h0 (HT0.out.symm.trans e.1))]
   have e0:(t0 == 1)=false:=by simpa using h0
   clear h0
   go_wp2_with fail
   go_quiet (fail)
   go_wp2_with fail
   go_ret
   unfold RdPost
   rw [HN.out]
   exact⟨rfl,HB4.out.trans ((HDW.out _).mono HBW.out)⟩
set_option maxRecDepth 100000 in
theorem one_any (np:Nat) (p:Pd) (B rb m r:Nat) (x:Int) (rd:Rd) (to:Option Addr) (tc:Nat) (vr vk:Value) (w:World) (h:RgAt B rb m w rd (.slice to m tc) vr vk) (hB:B≤w.heap.size) (hm:rd.types.length=m) (hm2:m≤250) (hs:rd.stay.length≤90) (hk:rd.taken.length≤90) (hmr:(m:Int)=p.regs) (hr:r≤23) (hf:fitsR np p (convR r) x=true) :
  Calls Tryz.prog 355 #[.pointer (some ⟨rb,0,none⟩),fieldVal np p r x] w (RdPost B rb m (.slice to m tc) w (rdI r x rd)):=by
 have hno:∀(T:TypeId) (v:Value),(∀w,Calls Tryz.prog 355 #[.pointer (some ⟨rb,0,none⟩),.iface T v] w fun e w'=>e=.returned (.bool true)∧w'=w)→Calls Tryz.prog 355 #[.pointer (some ⟨rb,0,none⟩),.iface T v] w (RdPost B rb m (.slice to m tc) w (some rd)):=by
  intro T v hc
  refine (hc w).mono ?_
  rintro e w' ⟨rfl,rfl⟩
  exact⟨⟨rfl,_,_,h⟩,Below.refl _ _⟩
 have hop:∀t:Int,inR x (-p.regs) (p.regs - 1)=true→-(m:Int)≤x∧x<m:=by
  intro _ hi
  simp [inR] at hi
  omega
 have hpl:∀(cnt:Nat) (want:Int),inR x 0 (p.regs - cnt)=true→cnt≤3→((r=14∧cnt=1∧want=1)∨(r=15∧cnt=1∧want=2)∨(r=16∧cnt=1∧want=3)∨(r=17∧cnt=2∧want=1)∨(r=18∧cnt=3∧want=1))→Calls Tryz.prog 355 #[.pointer (some ⟨rb,0,none⟩),.iface 463 (.agg #[.int .i64 x,.int .i64 cnt,.int .i64 want])] w (RdPost B rb m (.slice to m tc) w (rdI r x rd)):=by
  intro cnt want hi hc he
  simp [inR] at hi
  obtain⟨q,rfl⟩:=Int.eq_ofNat_of_zero_le hi.1
  rw [←place_eq he]
  exact one_places B rb m q cnt want rd to tc vr vk w h hB hm hm2 hs hk (by omega) hc
 rcases forms_all r hr with rfl | rfl | rfl | rfl | rfl | rfl | rfl | rfl | rfl | rfl | rfl | rfl | rfl | rfl | rfl | rfl | rfl | rfl | rfl | rfl | rfl | rfl | rfl | rfl
 ·exact hno _ _ (fun w=>one_unused rb _ w)
 ·exact hno _ _ (fun w=>one_number rb _ w)
 ·exact hno _ _ (fun w=>one_number rb _ w)
 ·exact hno _ _ (fun w=>one_number rb _ w)
 ·exact hno _ _ (fun w=>one_number rb _ w)
 ·exact hno _ _ (fun w=>one_number rb _ w)
 ·exact hno _ _ (fun w=>one_number rb _ w)
 ·exact hno _ _ (fun w=>one_number rb _ w)
 ·exact hno _ _ (fun w=>one_number rb _ w)
 ·exact hno _ _ (fun w=>one_number rb _ w)
 ·exact hno _ _ (fun w=>one_number rb _ w)
 ·exact hno _ _ (fun w=>one_target rb _ w)
 ·exact one_operand B rb m x 1 rd to tc vr vk w h hB hm hm2 hs hk (hop 0 hf).1 (hop 0 hf).2
 ·exact one_operand B rb m x 3 rd to tc vr vk w h hB hm hm2 hs hk (hop 0 hf).1 (hop 0 hf).2
 ·exact hpl 1 1 hf (by omega) (by simp)
 ·exact hpl 1 2 hf (by omega) (by simp)
 ·exact hpl 1 3 hf (by omega) (by simp)
 ·exact hpl 2 1 hf (by omega) (by simp)
 ·exact hpl 3 1 hf (by omega) (by simp)
 ·exact hno _ _ (fun w=>one_result rb _ w)
 ·exact hno _ _ (fun w=>one_result rb _ w)
 ·exact hno _ _ (fun w=>one_result rb _ w)
 ·exact hno _ _ (fun w=>one_result rb _ w)
 ·have hi:inR x 0 (p.regs - 2)=true:=hf
  simp [inR] at hi
  obtain⟨q,rfl⟩:=Int.eq_ofNat_of_zero_le hi.1
  exact one_opening B rb m q rd to tc vr vk w h hB hm hm2 hs hk (by omega)
theorem rdI_len {r:Nat} {x:Int} {s s':Rd} (h:rdI r x s=some s'):s'.types.length=s.types.length∧s'.stay.length≤s.stay.length+3∧s'.taken.length≤s.taken.length+1:=by
 have hop:∀w,rdOp w x s=some s'→s'.types.length=s.types.length∧s'.stay.length≤s.stay.length+3∧s'.taken.length≤s.taken.length+1:=by
  intro w h
  unfold rdOp at h
  split at h
  ·split at h
   ·split at h
    ·cases h
    ·obtain rfl:=Option.some.inj h;simp
   ·obtain rfl:=Option.some.inj h;simp
  ·cases h
 have hpl:∀w,rdPlace w x s=some s'→s'.types.length=s.types.length∧s'.stay.length≤s.stay.length+3∧s'.taken.length≤s.taken.length+1:=by
  intro w h
  unfold rdPlace at h
  split at h
  ·obtain rfl:=Option.some.inj h;simp
  ·cases h
 unfold rdI at h
 split at h
 ·exact hop _ h
 ·exact hop _ h
 ·exact hpl _ h
 ·exact hpl _ h
 ·exact hpl _ h
 ·split at h
  ·obtain rfl:=Option.some.inj h;simp
  ·cases h
 ·split at h
  ·obtain rfl:=Option.some.inj h;simp
  ·cases h
 ·split at h
  ·obtain rfl:=Option.some.inj h;simp
  ·cases h
 ·obtain rfl:=Option.some.inj h;simp
theorem rds_drop {rs:List Nat} {xs:List Int} {k r:Nat} {x:Int} (h1:rs[k]?=some r) (h2:xs[k]?=some x) (s:Rd):rdsI (rs.drop k) (xs.drop k) s=(rdI r x s).bind (rdsI (rs.drop (k+1)) (xs.drop (k+1))):=by
 rw [drop_some h1,drop_some h2];rfl
set_option maxRecDepth 100000 in
set_option maxHeartbeats 8000000 in
theorem all_any (np:Nat) (p:Pd) (B rb m r0 r1 r2 r3:Nat) (x0 x1 x2 x3:Int) (ts:List Int) (to:Option Addr) (tc:Nat) (vr vk:Value) (w:World) (h:RgAt B rb m w ⟨ts,[],[]⟩ (.slice to m tc) vr vk) (hB:B≤w.heap.size) (hm:ts.length=m) (hm2:m≤250) (hmr:(m:Int)=p.regs) (g0:r0≤23) (g1:r1≤23) (g2:r2≤23) (g3:r3≤23)
  (f0:fitsR np p (convR r0) x0=true) (f1:fitsR np p (convR r1) x1=true) (f2:fitsR np p (convR r2) x2=true) (f3:fitsR np p (convR r3) x3=true) :
  Calls Tryz.prog 305 #[.pointer (some ⟨rb,0,none⟩),.agg #[fieldVal np p r0 x0,fieldVal np p r1 x1,fieldVal np p r2 x2,fieldVal np p r3 x3]] w (RdPost B rb m (.slice to m tc) w (rdsI [r0,r1,r2,r3] [x0,x1,x2,x3] ⟨ts,[],[]⟩)):=by
 obtain⟨t0,v0,e0⟩:=fieldVal_iface np p r0 x0
 obtain⟨t1,v1,e1⟩:=fieldVal_iface np p r1 x1
 obtain⟨t2,v2,e2⟩:=fieldVal_iface np p r2 x2
 obtain⟨t3,v3,e3⟩:=fieldVal_iface np p r3 x3
 have HR:Hid (∀k,k<4→_):=fun k hk=>row4 (P:=fun r x t v=>r≤23∧fitsR np p (convR r) x=true∧fieldVal np p r x=.iface t v) ⟨g0,f0,e0⟩ ⟨g1,f1,e1⟩ ⟨g2,f2,e2⟩ ⟨g3,f3,e3⟩ (k:=k) hk
 have HO:Hid (∀(r:Nat) (x:Int) (t:TypeId) (v:Value) (W:World) (rd:Rd) (vr vk:Value),r≤23→fitsR np p (convR r) x=true→fieldVal np p r x=.iface t v→RgAt B rb m W rd (.slice to m tc) vr vk→B≤W.heap.size→rd.types.length=m→rd.stay.length≤90→rd.taken.length≤90→Calls Tryz.prog 355 #[.pointer (some ⟨rb,0,none⟩),.iface t v] W (RdPost B rb m (.slice to m tc) W (rdI r x rd))):=fun r x t v W rd vr vk hg hf hv hR hB hm hs hk=>by
  have:=one_any np p B rb m r x rd to tc vr vk W hR hB hm hm2 hs hk hmr hg hf
  rw [hv] at this
  exact this
 rw [e0,e1,e2,e3]
 have A:=(Below.refl w.heap.size w).alloc (Nat.le_refl _) (.cells #[.iface t0 v0,.iface t1 v1,.iface t2 v2,.iface t3 v3] 376)
 have R0:=h.later A
 have B0:Below B w (w.alloc (.cells #[.iface t0 v0,.iface t1 v1,.iface t2 v2,.iface t3 v3] 376)):=A.mono hB
 clear A h e0 e1 e2 e3 f0 f1 f2 f3 g0 g1 g2 g3 hmr
 go_enter Tryz.func305,Tryz.ntmps305
 go_wp2_with fail
 go_loopg [8] 5 (fun g y wr=>∃(k:Nat) (rd1:Rd) (vr1 vk1:Value),k≤4∧y=.int .i64 k∧Hid (rdsI ([r0,r1,r2,r3].drop k) ([x0,x1,x2,x3].drop k) rd1=rdsI [r0,r1,r2,r3] [x0,x1,x2,x3] ⟨ts,[],[]⟩)∧Hid (rd1.types.length=m∧rd1.stay.length≤3 * k∧rd1.taken.length≤k)∧Hid (5 - k≤g)∧RgAt B rb m wr rd1 (.slice to m tc) vr1 vk1∧Below B w wr)
 case atStart=>exact ⟨0,_,_,_,by omega,rfl,rfl,⟨hm,by simp,by simp⟩,by show _≤_;omega,R0,B0⟩
 case round=>
  obtain⟨k,rd1,vr1,vk1,hk,rfl,HQ,HL,HG,R1,B1⟩:=hrel
  clear R0 B0
  have HBw:Hid (B≤wr.heap.size):=Nat.le_trans R1.low (Nat.le_of_lt R1.blk.lt)
  have HB1:Hid _:=B1
  have HR1:Hid (RgAt B rb m wr rd1 (.slice to m tc) vr1 vk1):=R1
  clear B1 R1
  by_cases hk4:k<4
  ·obtain⟨r,x,t,v,hr,hx,iK,hg,hf,hv⟩:=HR.out k hk4
   have HD:Hid (rdsI [r0,r1,r2,r3] [x0,x1,x2,x3] ⟨ts,[],[]⟩=(rdI r x rd1).bind (rdsI ([r0,r1,r2,r3].drop (k+1)) ([x0,x1,x2,x3].drop (k+1)))):=HQ.out.symm.trans (rds_drop hr hx rd1)
   have HG2:Hid (5 - (k+1)≤gk - 1∧gk - 1<gk):=by have:=HG.out;show _∧_;omega
   have HC:Hid (∀_:Unit,_):=fun _=>HO.out r x t v wr rd1 vr1 vk1 hg hf hv HR1.out HBw.out HL.out.1 (by have:=HL.out.2.1;omega) (by have:=HL.out.2.2;omega)
   have hk5:(k:Int)<4:=by omega
   clear HQ HG hr hx hg hf hv
   go_wp2_with fail
   refine (HC.out ()).mono ?_
   unfold RdPost
   have hlen:=fun s'=>@rdI_len r x rd1 s'
   generalize rdI r x rd1=o at *
   cases o with
   | none=>
    rintro e w2 ⟨rfl,hb⟩
    have HN:Hid (rdsI [r0,r1,r2,r3] [x0,x1,x2,x3] ⟨ts,[],[]⟩=none):=HD.out
    clear HD hlen
    go_wp2_with fail
    go_ret
    unfold RdPost
    rw [HN.out]
    exact⟨rfl,HB1.out.trans hb⟩
   | some rd2=>
    rintro e w2 ⟨⟨rfl,vr2,vk2,hR⟩,hb⟩
    have HN:Hid (rdsI ([r0,r1,r2,r3].drop (k+1)) ([x0,x1,x2,x3].drop (k+1)) rd2=rdsI [r0,r1,r2,r3] [x0,x1,x2,x3] ⟨ts,[],[]⟩):=HD.out.symm
    have HL2:Hid (rd2.types.length=m∧rd2.stay.length≤3 * (k+1)∧rd2.taken.length≤k+1):=by
     obtain⟨a1,a2,a3⟩:=hlen rd2 rfl
     obtain⟨b1,b2,b3⟩:=HL.out
     exact⟨a1.trans b1,by omega,by omega⟩
    have HR2:Hid (RgAt B rb m w2 rd2 (.slice to m tc) vr2 vk2):=hR
    clear HD hlen hR
    go_wp2_with fail
    go_roundg (gk - 1)
    case measure=>exact HG2.out.2
    case rel=>exact ⟨k+1,rd2,vr2,vk2,by omega,by go_num,HN.out,HL2.out,HG2.out.1,HR2.out,HB1.out.trans hb⟩
  ·have hk0:k=4:=by omega
   subst hk0
   have HN:Hid (rdsI [r0,r1,r2,r3] [x0,x1,x2,x3] ⟨ts,[],[]⟩=some rd1):=HQ.out.symm
   clear HQ HG hk4
   go_wp2_with fail
   go_ret
   unfold RdPost
   rw [HN.out]
   exact⟨⟨rfl,_,_,HR1.out⟩,HB1.out⟩
end Go.Proofs.YtgopdffmnikhdaaGreatDoor
