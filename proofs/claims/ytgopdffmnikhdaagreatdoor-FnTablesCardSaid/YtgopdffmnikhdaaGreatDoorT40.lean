import Derived.Test.YtgopdffmnikhdaaGreatDoorT30
import Derived.Test.YtgopdffmnikhdaaGreatDoorT25
import Derived.Test.YtgopdffmnikhdaaGreatDoorT26
import Derived.Test.YtgopdffmnikhdaaGreatDoorT39
import Derived.Deep.MidRow
import Derived.Test.YtgopdffmnikhdaaGreatDoorT34
import Derived.Test.YtgopdffmnikhdaaGreatDoorT28
import Derived.Test.YtgopdffmnikhdaaGreatDoorT36
import Derived.Test.YtgopdffmnikhdaaGreatDoorT03
namespace Go.Proofs.YtgopdffmnikhdaaGreatDoor
open Go.RowKit Go.Deep
set_option maxRecDepth 1000000 in
set_option maxHeartbeats 8000000 in
theorem stp_r9 (x6 x8 x9 m kN:Nat) (kb:Bool) (ao ago ko bo:Option Addr) (ac agc kc bc:Nat) (s:St) (tk:List Int) (w:World) (c0 c1 c2 c3 c4 c5 c7 c10 c11 c12 c13 c14 c15 c16 c17 c18 c19 c20 c21 c22 c23 c24 c25 c26 c27 c28 c29 c30 c31 c32 c33 c34 c35 c36 c37 c38 c39 c40 c41 c42 c43 c44 c45 c46 c47 c48 c49 c50 c51 c52 c53 c54 c55 c56 c57 c58 c59 c60 c61 c62 c63 c64 c65 c66 c67 c68 c69 c70 c71 c72 c73 c74 c75 c76 c77 c78 c79 c80 c81 c82 c83 c84 c85 c86 c87 c88 c89 c90 c91 c92 c93 c94 c95 c96 c97 c98 c99 c100:Value) (Q:Exit→Act→World→Prop)
  (hq:∀(u83 u84 u85 u86 u87 u88 u89 u90 u91 u92:Value) (wx:World),Below w.heap.size w wx→Q .normal ⟨List.toArray (c0::c1::c2::c3::c4::c5::.pointer (some ⟨x6,0,none⟩)::c7::.pointer (some ⟨x8,0,none⟩)::.pointer (some ⟨x9,0,none⟩)::c10::c11::c12::c13::c14::c15::c16::c17::c18::c19::c20::c21::c22::c23::c24::c25::c26::c27::c28::c29::c30::c31::c32::c33::c34::c35::c36::c37::c38::c39::c40::c41::c42::c43::c44::c45::c46::c47::c48::c49::c50::c51::c52::c53::c54::c55::c56::c57::c58::c59::c60::c61::c62::c63::c64::c65::c66::c67::c68::c69::c70::c71::c72::c73::c74::c75::c76::c77::c78::c79::c80::c81::c82::u83::u84::u85::u86::u87::u88::u89::u90::u91::u92::.bool (!kb)::c94::c95::c96::c97::c98::c99::c100::[]),[]⟩ wx)
  (hkb:∀W,Below w.heap.size w W→Calls Tryz.prog 311 #[.slice ago s.guards.length agc] W fun e w'=>e=.returned (.int .i64 kN)∧Below w.heap.size w w')
  (hks:∀W,Below w.heap.size w W→Calls Tryz.prog 310 #[.int .i64 kN,.slice ko tk.length kc,.slice ao m ac,.slice bo m bc] W fun e w'=>e=.returned (.bool kb)∧Below w.heap.size w w')
  (hS:∀w',Below w.heap.size w w'→w'.cell? ⟨x6,1,none⟩=some (.slice ao m ac)∧w'.cell? ⟨x6,2,none⟩=some (.slice ago s.guards.length agc)∧w'.cell? ⟨x8,2,none⟩=some (.slice ko tk.length kc)∧w'.cell? ⟨x9,1,none⟩=some (.slice bo m bc)) :
  Code.wp Tryz.prog pcS9 Q ⟨List.toArray (c0::c1::c2::c3::c4::c5::.pointer (some ⟨x6,0,none⟩)::c7::.pointer (some ⟨x8,0,none⟩)::.pointer (some ⟨x9,0,none⟩)::c10::c11::c12::c13::c14::c15::c16::c17::c18::c19::c20::c21::c22::c23::c24::c25::c26::c27::c28::c29::c30::c31::c32::c33::c34::c35::c36::c37::c38::c39::c40::c41::c42::c43::c44::c45::c46::c47::c48::c49::c50::c51::c52::c53::c54::c55::c56::c57::c58::c59::c60::c61::c62::c63::c64::c65::c66::c67::c68::c69::c70::c71::c72::c73::c74::c75::c76::c77::c78::c79::c80::c81::c82::c83::c84::c85::c86::c87::c88::c89::c90::c91::c92::c93::c94::c95::c96::c97::c98::c99::c100::[]),[]⟩ w:=by
 conv=>arg 2;whnf
 have HQ:Hid _:=hq
 have HKB:Hid _:=hkb
 have HKS:Hid _:=hks
 have HS:Hid _:=hS
 obtain⟨e0,e1,e2,e3⟩:=hS w (Below.refl _ _)
 clear hq hkb hks hS
 go_region_held3 (fun w'=>w'.cell? ⟨x6,1,none⟩=some (.slice ao m ac)∧w'.cell? ⟨x6,2,none⟩=some (.slice ago s.guards.length agc)∧w'.cell? ⟨x8,2,none⟩=some (.slice ko tk.length kc)∧w'.cell? ⟨x9,1,none⟩=some (.slice bo m bc)) (first | (refine HS.out _ ?_;(repeat (first | assumption | exact HB2.out | exact HB3.out | exact Below.refl _ _ | refine Below.drew ?_ | refine below_al ?_ _ | refine below_st ?_ (by dsimp only;omega) _))))
  (first
   | (go_at_call 311;refine (HKB.out _ (by (repeat (first | assumption | exact HB2.out | exact HB3.out | exact Below.refl _ _ | refine Below.drew ?_ | refine below_al ?_ _ | refine below_st ?_ (by dsimp only;omega) _)))).mono ?_;rintro e w2 ⟨rfl,hw2⟩;have HB2:Hid (Below w.heap.size w w2):=hw2)
   | (go_at_call 310;refine (HKS.out _ (by (repeat (first | assumption | exact HB2.out | exact HB3.out | exact Below.refl _ _ | refine Below.drew ?_ | refine below_al ?_ _ | refine below_st ?_ (by dsimp only;omega) _)))).mono ?_;rintro e w3 ⟨rfl,hw3⟩;have HB3:Hid (Below w.heap.size w w3):=hw3))
 exact HQ.out _ _ _ _ _ _ _ _ _ _ _ HB3.out
theorem keptL_drop {e:Bool} {tk b a:List Int} {gs:List Gd} {k:Nat} {g:Gd} (h:gs[k]?=some g) :
  keptL e tk b a (gs.drop k)=((!g.tr || (notBelow g.keep tk && ((e && (gs.drop (k+1)).isEmpty) || sameBelow g.keep b a))) && keptL e tk b a (gs.drop (k+1))):=by
 rw [drop_some h];rfl
theorem notBelow_drop {keep:Int} {tk:List Int} {j:Nat} {x:Int} (h:tk[j]?=some x):notBelow keep (tk.drop j)=(!decide (x<keep) && notBelow keep (tk.drop (j+1))):=by
 rw [drop_some h];rfl
theorem same_true {K:Int} {b a:List Int} (h:∀j:Nat,(j:Int)<K→b[j]?=a[j]?):sameBelow K b a=true:=by
 unfold sameBelow
 rw [decide_eq_true_iff]
 apply List.ext_getElem?
 intro j
 rw [List.getElem?_take,List.getElem?_take]
 split
 ·exact h j (by omega)
 ·rfl
theorem same_false {K:Int} {b a:List Int} {j:Nat} {x y:Int} (hj:(j:Int)<K) (hx:b[j]?=some x) (hy:a[j]?=some y) (hn:¬x=y):sameBelow K b a=false:=by
 unfold sameBelow
 rw [decide_eq_false_iff_not]
 intro h
 have:=congrArg (fun l=>l[j]?) h
 have hj':j<K.toNat:=by omega
 simp only [List.getElem?_take,if_pos hj',hx,hy,Option.some.injEq] at this
 exact hn this
theorem drop_empty {α:Type} {l:List α} {k:Nat} (hk:k<l.length):(l.drop (k+1)).isEmpty=decide (k+1=l.length):=by
 rw [Bool.eq_iff_iff,List.isEmpty_iff,List.drop_eq_nil_iff,decide_eq_true_iff]
 omega
theorem equalInt_at (o1 o2:Option Addr) (c1 c2 n m:Nat) (t1 t2:List Int) (w:World) (e1:t1.length=n) (e2:t2.length=m) (l1:n≤1048576) (h1:IntsAt 0 w o1 t1) (h2:IntsAt 0 w o2 t2) :
  Calls Tryz.prog 301 #[.slice o1 n c1,.slice o2 m c2] w fun e w'=>e=.returned (.bool (decide (t1=t2)))∧Below w.heap.size w w':=by
 subst e1
 subst e2
 exact equalInt_any o1 o2 c1 c2 t1 t2 w l1 h1 h2
set_option maxRecDepth 100000 in
set_option maxHeartbeats 1600000 in
theorem keptStay_any (keep:Nat) (to bo ao:Option Addr) (tc bc ac:Nat) (tk bs cs:List Int) (w:World) (ht:tk.length≤1000) (hb:keep≤bs.length) (hc:keep≤cs.length) (hbl:bs.length≤250) (hbc:keep≤bc) (hac:keep≤ac) (h1:IntsAt 0 w to tk) (h2:IntsAt 0 w bo bs) (h3:IntsAt 0 w ao cs) :
  Calls Tryz.prog 310 #[.int .i64 keep,.slice to tk.length tc,.slice bo bs.length bc,.slice ao cs.length ac] w fun e w'=>e=.returned (.bool (stayB keep tk bs cs))∧Below w.heap.size w w':=by
 have HE:Hid (∀W,Below w.heap.size w W→Calls Tryz.prog 301 #[.slice bo keep bc,.slice ao keep ac] W fun e w'=>e=.returned (.bool (sameBelow keep bs cs))∧Below W.heap.size W w'):=
  fun W hW=>equalInt_at bo ao bc ac keep keep (bs.take keep) (cs.take keep) W (by simp;omega) (by simp;omega) (by omega) (AllAt.take (h2.later (Keeps.of_below hW)) keep) (AllAt.take (h3.later (Keeps.of_below hW)) keep)
 have kb:(keep:Int)≤bc:=by omega
 have ka:(keep:Int)≤ac:=by omega
 clear hb hc h2 h3 hbc hac
 go_enter Tryz.func310,Tryz.ntmps310
 go_wp2_with fail
 go_loopw [13] (fun y wr=>∃j:Nat,j≤tk.length∧y=.int .i64 j∧Hid (notBelow keep (tk.drop j)=notBelow keep tk)∧wr=w) (fun y _=>tk.length - (intOf y).toNat)
 case atStart=>exact ⟨0,Nat.zero_le _,rfl,rfl,rfl⟩
 case round=>
  obtain⟨j,hj,rfl,HQ,rfl⟩:=hrel
  by_cases hjl:j<tk.length
  ·obtain⟨t,htk⟩:=some_of_lt hjl
   obtain⟨bb,off,rfl,_,hbl2,p0⟩:=h1 j t htk
   unfold IntAt at p0
   rw [Nat.mul_one] at p0
   have HD:Hid _:=HQ.out.symm.trans (notBelow_drop htk)
   clear htk HQ
   by_cases hlt:t<keep
   ·have HN:Hid (stayB keep tk bs cs=false):=by
     show _=_
     unfold stayB
     rw [HD.out]
     simp [hlt]
    clear HD
    go_wp2_with fail
    go_ret
    exact⟨ret_bool HN.out.symm,Below.refl _ _⟩
   ·have HN:Hid (notBelow keep (tk.drop (j+1))=notBelow keep tk):=by show _=_;rw [HD.out];simp [hlt]
    clear HD
    go_wp2_with fail
    go_roundw
    case rel=>exact ⟨j+1,by omega,by go_num,HN.out,trivial⟩
    case measure=>simp [intOf];omega
  ·have HN:Hid (stayB keep tk bs cs=sameBelow keep bs cs):=by
    have h:=HQ.out
    rw [List.drop_of_length_le (by omega)] at h
    show _=_
    unfold stayB
    rw [←h]
    rfl
   clear HQ
   go_wp2_with fail
   go_region_held3 (fun _=>True) (trivial)
    (first | (go_at_call 301;refine (HE.out wr.drew (Below.refl _ _).drew).mono ?_;rintro e w2 ⟨rfl,hw2⟩))
   go_wp2_with fail
   go_ret
   exact⟨ret_bool HN.out.symm,(Below.refl _ _).drew.trans hw2⟩
structure SpAt (w0:World) (B L vb sb db:Nat) (cao:Option Addr) (ccap:Nat) (ps:List Pd) (p:Pd) (h:Ph) (c:Cf) (l i m:Nat) (op na nb nc nd:Int) (s:St) (ao ago:Option Addr) (ac agc b0 x5 x6 x7:Nat) (t0 t1 t2 t3:TypeId) (v0 v1 v2 v3:Value) (wS w3:World):Prop where
 X:Vctx w0 B L vb sb db ps p h
 H:VfAt L vb sb db cao ccap ps p h w3 c l
 hl:l≤p.ins.length
 hL:L≤wS.heap.size
 hb0:Below w0.heap.size w0 w3
 off:Off B L wS w3
 hok:CfOk p c
 hi:p.ins[i]?=some ⟨op,na,nb,nc,nd⟩
 hs:StOk p s
 hm:s.types.length=m
 R0:Blk w3 b0 #[.int .i64 0,.int .i64 0,.int .i64 0] 143
 N:Blk w3 x5 #[.int .i64 op,.int .i64 na,.int .i64 nb,.int .i64 nc,.int .i64 nd] 48
 A:Blk w3 x6 #[.bool true,.slice ao m ac,.slice ago s.guards.length agc] 318
 F:Blk w3 x7 #[.iface t0 v0,.iface t1 v1,.iface t2 v2,.iface t3 v3] 376
 hb:wS.heap.size≤b0
 RT:RowI L w3 ao ac s.types
 RG:RowG L w3 ago agc s.guards
theorem SpAt.m2 {w0:World} {B L vb sb db:Nat} {cao:Option Addr} {ccap:Nat} {ps:List Pd} {p:Pd} {h:Ph} {c:Cf} {l i m:Nat} {op na nb nc nd:Int} {s:St} {ao ago:Option Addr} {ac agc b0 x5 x6 x7:Nat} {t0 t1 t2 t3:TypeId} {v0 v1 v2 v3:Value} {wS w3:World} (x:SpAt w0 B L vb sb db cao ccap ps p h c l i m op na nb nc nd s ao ago ac agc b0 x5 x6 x7 t0 t1 t2 t3 v0 v1 v2 v3 wS w3):m≤250∧(m:Int)=p.regs:=by
 have h1:=x.hs.len
 have h2:=x.X.fit.regs
 have h3:=x.hm
 omega
theorem off3 {B L b0:Nat} {a b:World} (h:Off B L a b) (hB:B≤a.heap.size) (hb:a.heap.size≤b0) (v1 v2 v3:Value):Off B L a (((b.setCell ⟨b0,0,none⟩ v1).setCell ⟨b0,1,none⟩ v2).setCell ⟨b0,2,none⟩ v3):=
 ((h.setNew hB v1 (by dsimp only;omega)).setNew hB v2 (by dsimp only;omega)).setNew hB v3 (by dsimp only;omega)
noncomputable def pcSE:Code:=pathC [1,1,1,1,1,1,1] (Tryz.f253.body.getD .skip)
set_option maxRecDepth 1000000 in
set_option maxHeartbeats 8000000 in
theorem stp_end (w0:World) (B L vb sb db:Nat) (cao:Option Addr) (ccap:Nat) (ps:List Pd) (p:Pd) (h:Ph) (c:Cf) (l i m:Nat) (op na nb nc nd:Int) (s:St) (ao ago:Option Addr) (ac agc b0 x5 x6 x7:Nat) (t0 t1 t2 t3:TypeId) (v0 v1 v2 v3:Value) (wS w3:World) (x8 x9:Nat) (ko bo bgo:Option Addr) (kc bc bgc:Nat) (vt vr:Value) (tk ts2:List Int) (gs2:List Gd) (W:World) (c2 c3 c5 c7 c10 c11 c12 c13 c14 c15 c16 c17 c18 c19 c20 c21 c22 c23 c24 c25 c26 c27 c28 c29 c30 c31 c32 c33 c34 c35 c36 c37 c38 c39 c40 c41 c42 c43 c44 c45 c46 c47 c48 c49 c50 c51 c52 c53 c54 c55 c56 c57 c58 c59 c60 c61 c62 c63 c64 c65 c66 c67 c68 c69 c70 c71 c72 c73 c74 c75 c76 c77 c78 c79 c80 c81 c82 c83 c84 c85 c86 c87 c88 c89 c90 c91 c92 c93 c94 c95 c96 c97 c98 c99 c100:Value) (Q:Exit→Act→World→Prop) (hq:∀a' w',bodyPost Tryz.prog Tryz.f253 (FwPost B L vb sb db cao ccap ps p h wS (if stayB (maxKeep s.guards) tk s.types ts2 then followF c (folF ⟨op,na,nb,nc,nd⟩ i s ts2 gs2) else .error (12,i))) .ret a' w'→Q .ret a' w')
  (D:SpAt w0 B L vb sb db cao ccap ps p h c l i m op na nb nc nd s ao ago ac agc b0 x5 x6 x7 t0 t1 t2 t3 v0 v1 v2 v3 wS w3) (hB3:Below w3.heap.size w3 W) (R8:Blk W x8 #[vt,vr,.slice ko tk.length kc] 380) (hk:IntsAt 0 W ko tk) (htk:tk.length≤1000) (R9:Blk W x9 #[.bool false,.slice bo m bc,.slice bgo gs2.length bgc] 318) (RT2:RowI L W bo bc ts2) (RG2:RowG L W bgo bgc gs2) (ht2:ts2.length=m) (hso2:StOk p ⟨ts2,gs2⟩) (hfk:∀y ∈ goF ⟨op,na,nb,nc,nd⟩ s ts2 gs2,y.1<p.ins.length) :
  Code.wp Tryz.prog pcSE Q ⟨List.toArray (.pointer (some ⟨vb,0,none⟩)::.int .i64 i::c2::c3::.pointer (some ⟨b0,0,none⟩)::c5::.pointer (some ⟨x6,0,none⟩)::c7::.pointer (some ⟨x8,0,none⟩)::.pointer (some ⟨x9,0,none⟩)::c10::c11::c12::c13::c14::c15::c16::c17::c18::c19::c20::c21::c22::c23::c24::c25::c26::c27::c28::c29::c30::c31::c32::c33::c34::c35::c36::c37::c38::c39::c40::c41::c42::c43::c44::c45::c46::c47::c48::c49::c50::c51::c52::c53::c54::c55::c56::c57::c58::c59::c60::c61::c62::c63::c64::c65::c66::c67::c68::c69::c70::c71::c72::c73::c74::c75::c76::c77::c78::c79::c80::c81::c82::c83::c84::c85::c86::c87::c88::c89::c90::c91::c92::c93::c94::c95::c96::c97::c98::c99::c100::[]),[]⟩ W:=by
 conv=>arg 2;whnf
 have HQ:Hid _:=hq
 clear hq
 obtain⟨hm2,hmr⟩:=D.m2
 have hOW:Off B L wS W:=D.off.trans (Off.of_below hB3 (Nat.le_trans (Nat.le_trans D.X.hBL D.hL) D.off.size))
 have hBW:B≤wS.heap.size:=Nat.le_trans D.X.hBL D.hL
 obtain⟨mk,hmk⟩:∃mk:Nat,maxKeep s.guards=mk:=Int.eq_ofNat_of_zero_le (maxKeep_in s.guards).1
 have hmkm:mk≤m:=by
  rcases (maxKeep_in s.guards).2 with h0 | ⟨g,hg,_,hg2⟩
  ·omega
  ·have:=(D.hs.keep g hg).2;omega
 refine wp_seq_k ?_
 intro K1 hK1
 have HK1:Hid _:=hK1
 clear hK1
 refine wp_seq_k ?_
 intro K2 hK2
 have HK2:Hid _:=hK2
 clear hK2
 refine stp_r9 x6 x8 x9 m mk (stayB mk tk s.types ts2) ao ago ko bo ac agc kc bc s tk W _ _ _ _ _ _ _ _ _ _ _ _ _ _ _ _ _ _ _ _ _ _ _ _ _ _ _ _ _ _ _ _ _ _ _ _ _ _ _ _ _ _ _ _ _ _ _ _ _ _ _ _ _ _ _ _ _ _ _ _ _ _ _ _ _ _ _ _ _ _ _ _ _ _ _ _ _ _ _ _ _ _ _ _ _ _ _ _ _ _ _ _ _ _ _ _ _ _ _ ?_ ?_ ?_ ?_
 ·intro u83 u84 u85 u86 u87 u88 u89 u90 u91 u92 wx hbx
  refine HK2.out _ _ ?_
  clear HK2
  have hB4:=hB3.trans (hbx.mono hB3.size)
  have HR0:Hid (Blk wx b0 #[.int .i64 0,.int .i64 0,.int .i64 0] 143):=D.R0.later hB4
  have HO:Hid (Off B L wS wx):=hOW.trans (Off.of_below hbx (Nat.le_trans hBW hOW.size))
  cases hst:stayB mk tk s.types ts2
  ·have HRE:Hid ((if stayB (maxKeep s.guards) tk s.types ts2 then followF c (folF ⟨op,na,nb,nc,nd⟩ i s ts2 gs2) else .error (12,i):Except (Nat × Nat) Cf)=.error (12,i)):=by show _=_;rw [hmk,hst];rfl
   clear hst
   have r9:=HR0.out.cell
   have f9:=HR0.out.frozen
   go_wp2_with fail
   have c9:=(HR0.out.three (x':=.int .i64 12) (y':=.int .i64 0) (z':=.int .i64 i)).cell
   refine HQ.out _ _ (bodyPost_ret (v:=.agg #[.int .i64 12,.int .i64 0,.int .i64 i]) ?_ rfl ⟨?_,off3 HO.out hBW D.hb _ _ _⟩)
   ·simp [results,Tryz.results253,go_sem,c9]
   ·rw [HRE.out]
    try rfl
  ·have HRE:Hid ((if stayB (maxKeep s.guards) tk s.types ts2 then followF c (folF ⟨op,na,nb,nc,nd⟩ i s ts2 gs2) else .error (12,i):Except (Nat × Nat) Cf)=followF c (folF ⟨op,na,nb,nc,nd⟩ i s ts2 gs2)):=by show _=_;rw [hmk,hst];rfl
   clear hst
   have HFW:Hid (∀_:Unit,_):=fun _=>follow_any w0 B L vb sb db cao ccap ps p h c l wx i m ⟨op,na,nb,nc,nd⟩ true false ao ago bo bgo ac agc bc bgc s ts2 gs2 D.X (D.H.below hB4) D.hl (Nat.le_trans D.hL HO.out.size) (D.hb0.trans (hB4.mono D.hb0.size)) D.hok D.hi hso2 hfk D.hm ht2 hm2 hmr (D.RT.later (Keeps.of_below hB4)) (D.RG.later (Keeps.of_below hB4)) (RT2.later (Keeps.of_below hbx)) (RG2.later (Keeps.of_below hbx))
   rw [D.hm,ht2] at HFW
   have a6:=(D.A.later hB4).cell
   have a9:=(R9.later hbx).cell
   go_wp2_with fail
   refine HK1.out _ _ ?_
   clear HK1
   go_wp2_with fail
   refine (HFW.out ()).mono ?_
   unfold FwPost
   cases hfo:followF c (folF ⟨op,na,nb,nc,nd⟩ i s ts2 gs2) with
   | error kx=>
    obtain⟨k,x⟩:=kx
    rintro e w6 ⟨rfl,hO6⟩
    have HRE2:Hid ((if stayB (maxKeep s.guards) tk s.types ts2 then followF c (folF ⟨op,na,nb,nc,nd⟩ i s ts2 gs2) else .error (12,i):Except (Nat × Nat) Cf)=.error (k,x)):=HRE.out.trans hfo
    have HR0b:=hO6.blk HR0.out (Nat.le_trans D.hL D.hb)
    have HO6:Hid (Off B L wS w6):=HO.out.trans hO6
    clear HR0
    have HR0:Hid (Blk w6 b0 #[.int .i64 0,.int .i64 0,.int .i64 0] 143):=HR0b
    clear hfo HFW HRE a6 a9 HR0b
    have r9:=HR0.out.cell
    have f9:=HR0.out.frozen
    go_wp2_with fail
    have c9:=(HR0.out.three (x':=.int .i64 k) (y':=.int .i64 0) (z':=.int .i64 x)).cell
    refine HQ.out _ _ (bodyPost_ret (v:=.agg #[.int .i64 k,.int .i64 0,.int .i64 x]) ?_ rfl ⟨?_,off3 HO6.out hBW D.hb _ _ _⟩)
    ·simp [results,Tryz.results253,go_sem,c9]
    ·rw [HRE2.out]
     try rfl
   | ok c2=>
    rintro e w6 ⟨⟨rfl,l2,hl2,H6⟩,hO6⟩
    have HRE2:Hid ((if stayB (maxKeep s.guards) tk s.types ts2 then followF c (folF ⟨op,na,nb,nc,nd⟩ i s ts2 gs2) else .error (12,i):Except (Nat × Nat) Cf)=.ok c2):=HRE.out.trans hfo
    have HR0b:=hO6.blk HR0.out (Nat.le_trans D.hL D.hb)
    have HO6:Hid (Off B L wS w6):=HO.out.trans hO6
    clear HR0
    have HR0:Hid (Blk w6 b0 #[.int .i64 0,.int .i64 0,.int .i64 0] 143):=HR0b
    have HH6:Hid (VfAt L vb sb db cao ccap ps p h w6 c2 l2):=H6
    clear hfo HFW HRE a6 a9 HR0b H6
    have r9:=HR0.out.cell
    have f9:=HR0.out.frozen
    go_wp2_with fail
    have c9:=(HR0.out.three (x':=.int .i64 0) (y':=.int .i64 0) (z':=.int .i64 0)).cell
    refine HQ.out _ _ (bodyPost_ret (v:=.agg #[.int .i64 0,.int .i64 0,.int .i64 0]) ?_ rfl ⟨?_,off3 HO6.out hBW D.hb _ _ _⟩)
    ·simp [results,Tryz.results253,go_sem,c9]
    ·rw [HRE2.out]
     exact⟨rfl,_,hl2,HH6.out.fault D.X.V HR0.out (Nat.le_trans D.hL D.hb) _ _ _⟩
 ·intro W2 hb2
  have:=keptBelow_any ago agc s.guards W2 (by have:=D.hs.few;omega) (AllAt.lower (D.RG.later (Keeps.of_below (hB3.trans (hb2.mono hB3.size)))).at_ (Nat.zero_le _))
  rw [hmk] at this
  exact this.mono fun e w' hh=>⟨hh.1,hb2.trans (hh.2.mono hb2.size)⟩
 ·intro W2 hb2
  have hr1:=D.RT.later (Keeps.of_below (hB3.trans (hb2.mono hB3.size)))
  have hr2:=RT2.later (Keeps.of_below hb2)
  have:=keptStay_any mk ko ao bo kc ac bc tk s.types ts2 W2 htk (by rw [D.hm];exact hmkm) (by rw [ht2];exact hmkm) (by rw [D.hm];exact hm2) (Nat.le_trans (by rw [D.hm];exact hmkm) hr1.cap) (Nat.le_trans (by rw [ht2];exact hmkm) hr2.cap) (hk.later (Keeps.of_below hb2)) (AllAt.lower hr1.at_ (Nat.zero_le _)) (AllAt.lower hr2.at_ (Nat.zero_le _))
  rw [D.hm,ht2] at this
  exact this.mono fun e w' hh=>⟨hh.1,hb2.trans (hh.2.mono hb2.size)⟩
 ·intro W2 hb2
  have hB4:=hB3.trans (hb2.mono hB3.size)
  exact⟨(D.A.later hB4).cell 1,(D.A.later hB4).cell 2,(R8.later hb2).cell 2,(R9.later hb2).cell 1⟩
noncomputable def pcSF:Code:=pathC [1,1,1,1,1] (Tryz.f253.body.getD .skip)
theorem goF_lt {np:Nat} {p:Pd} {n:Nd} (hn:InsFit np p n) (s:St) (ts:List Int) (gs:List Gd):∀y ∈ goF n s ts gs,y.1<p.ins.length:=by
 obtain⟨f1,f2,f3,f4,f5,f6⟩:=fit_tab hn
 intro y hy
 unfold goF at hy
 split at hy
 ·rename_i ho;have:=f3 ho;simp at hy;subst hy;dsimp only;omega
 split at hy
 ·rename_i ho;have:=f4 (by omega);simp at hy;subst hy;dsimp only;omega
 split at hy
 ·rename_i ho;have:=f4 (by omega);simp at hy;subst hy;dsimp only;omega
 split at hy
 ·rename_i ho;have:=(f1 ho).1;simp at hy;subst hy;dsimp only;omega
 ·simp at hy
theorem wrsI_len:∀(rs:List Nat) (xs:List Int) (ts:List Int),(wrsI rs xs ts).length=ts.length
 | [],_,_=>by unfold wrsI;rfl
 | _::_,[],_=>by unfold wrsI;rfl
 | r::rs,x::xs,ts=>by unfold wrsI;rw [wrsI_len rs xs,wrI_len]
theorem gfit_some {n:Nd} {gs:List Gd} (h:gfitB n gs=true) (ho:n.op=32∨n.op=34∨n.op=36):gs.length≠0:=by
 intro h0
 have:gs=[]:=List.length_eq_zero_iff.1 h0
 subst this
 unfold gfitB lastTr at h
 rcases ho with ho | ho | ho <;> simp [ho] at h
set_option maxRecDepth 1000000 in
set_option maxHeartbeats 8000000 in
theorem stp_8 (w0:World) (B L vb sb db:Nat) (cao:Option Addr) (ccap:Nat) (ps:List Pd) (p:Pd) (h:Ph) (c:Cf) (l i m:Nat) (op na nb nc nd:Int) (s:St) (ao ago:Option Addr) (ac agc b0 x5 x6 x7:Nat) (t0 t1' t2 t3:TypeId) (v0 v1 v2 v3:Value) (wS w3:World) (x8 r0 r1 r2 r3:Nat) (ro ko:Option Addr) (rc kc:Nat) (vr:Value) (rd:Rd) (W:World) (c2 c3 c9 c10 c11 c12 c13 c14 c15 c16 c17 c18 c19 c20 c21 c22 c23 c24 c25 c26 c27 c28 c29 c30 c31 c32 c33 c34 c35 c36 c37 c38 c39 c40 c41 c42 c43 c44 c45 c46 c47 c48 c49 c50 c51 c52 c53 c54 c55 c56 c57 c58 c59 c60 c61 c62 c63 c64 c65 c66 c67 c68 c69 c70 c71 c72 c73 c74 c75 c76 c77 c78 c79 c80 c81 c82 c83 c84 c85 c86 c87 c88 c89 c90 c91 c92 c93 c94 c95 c96 c97 c98 c99 c100:Value) (Q:Exit→Act→World→Prop) (hq:∀a' w',bodyPost Tryz.prog Tryz.f253 (FwPost B L vb sb db cao ccap ps p h wS (if stayB (maxKeep s.guards) rd.taken s.types (wrsI [r0,r1,r2,r3] [na,nb,nc,nd] rd.types) then followF c (folF ⟨op,na,nb,nc,nd⟩ i s (wrsI [r0,r1,r2,r3] [na,nb,nc,nd] rd.types) (gbehF ⟨op,na,nb,nc,nd⟩ s.guards)) else .error (12,i))) .ret a' w'→Q .ret a' w')
  (D:SpAt w0 B L vb sb db cao ccap ps p h c l i m op na nb nc nd s ao ago ac agc b0 x5 x6 x7 t0 t1' t2 t3 v0 v1 v2 v3 wS w3) (hB3:Below w3.heap.size w3 W) (R8:RgAt w3.heap.size x8 m W rd (.slice ro m rc) vr (.slice ko rd.taken.length kc)) (ht1:rd.types.length=m) (htk:rd.taken.length≤1000) (hgf:gfitB ⟨op,na,nb,nc,nd⟩ s.guards=true) (e0:fieldVal ps.length p r0 na=.iface t0 v0) (g0:r0≤23) (f0:fitsR ps.length p (convR r0) na=true) (e1:fieldVal ps.length p r1 nb=.iface t1' v1) (g1:r1≤23) (f1:fitsR ps.length p (convR r1) nb=true) (e2:fieldVal ps.length p r2 nc=.iface t2 v2) (g2:r2≤23) (f2:fitsR ps.length p (convR r2) nc=true) (e3:fieldVal ps.length p r3 nd=.iface t3 v3) (g3:r3≤23) (f3:fitsR ps.length p (convR r3) nd=true) :
  Code.wp Tryz.prog pcSF Q ⟨List.toArray (.pointer (some ⟨vb,0,none⟩)::.int .i64 i::c2::c3::.pointer (some ⟨b0,0,none⟩)::.pointer (some ⟨x5,0,none⟩)::.pointer (some ⟨x6,0,none⟩)::.pointer (some ⟨x7,0,none⟩)::.pointer (some ⟨x8,0,none⟩)::c9::c10::c11::c12::c13::c14::c15::c16::c17::c18::c19::c20::c21::c22::c23::c24::c25::c26::c27::c28::c29::c30::c31::c32::c33::c34::c35::c36::c37::c38::c39::c40::c41::c42::c43::c44::c45::c46::c47::c48::c49::c50::c51::c52::c53::c54::c55::c56::c57::c58::c59::c60::c61::c62::c63::c64::c65::c66::c67::c68::c69::c70::c71::c72::c73::c74::c75::c76::c77::c78::c79::c80::c81::c82::c83::c84::c85::c86::c87::c88::c89::c90::c91::c92::c93::c94::c95::c96::c97::c98::c99::c100::[]),[]⟩ W:=by
 conv=>arg 2;whnf
 obtain⟨hm2,hmr⟩:=D.m2
 have hNF:=D.X.fit.fit i _ D.hi
 have hL3:L≤w3.heap.size:=Nat.le_trans D.hL D.off.size
 have hso2:StOk p ⟨(wrsI [r0,r1,r2,r3] [na,nb,nc,nd] rd.types),(gbehF ⟨op,na,nb,nc,nd⟩ s.guards)⟩:=by
  have hc:=change_eq hNF s.guards
  rw [hgf,if_pos rfl] at hc
  obtain⟨h1,h2⟩:=changeF_ok hNF D.hs.few D.hs.keep hc
  refine⟨?_,h1,h2⟩
  dsimp only
  rw [wrsI_len,ht1]
  exact hmr
 have HPUT:Hid (∀_:Unit,_):=fun _=>put_any ps.length p w3.heap.size x8 m r0 r1 r2 r3 na nb nc nd t0 t1' t2 t3 v0 v1 v2 v3 rd ro rc vr (.slice ko rd.taken.length kc) W R8 ht1 hm2 hmr g0 g1 g2 g3 f0 f1 f2 f3 e0 e1 e2 e3
 have HQ:Hid _:=hq
 have f8:=(D.F.later hB3).cell
 refine wp_seq_k ?_
 intro K1 hK1
 have HK1:Hid _:=hK1
 clear hK1 hq R8
 go_wp2_with fail
 refine (HPUT.out ()).mono ?_
 rintro e w8 ⟨rfl,R8',hb8⟩
 have hB8:=hB3.trans hb8
 clear f8 HPUT
 have hrt:=(RowI.of_owns R8'.types).lower hL3
 have hk8:IntsAt 0 w8 ko rd.taken:=AllAt.lower (owns_ints R8'.taken).1 (Nat.zero_le _)
 have HR8:Hid _:=R8'
 have HRT:Hid _:=hrt
 clear hrt R8'
 go_wp2_with fail
 refine HK1.out _ _ ?_
 clear HK1
 have R8':=HR8.out
 refine wp_seq_k ?_
 intro K2 hK2
 refine stp_r8 x5 x6 x7 x8 L m ro ago rc agc op na nb nc nd s (wrsI [r0,r1,r2,r3] [na,nb,nc,nd] rd.types) (gbehF ⟨op,na,nb,nc,nd⟩ s.guards) w8 _ _ _ _ _ _ _ _ _ _ _ _ _ _ _ _ _ _ _ _ _ _ _ _ _ _ _ _ _ _ _ _ _ _ _ _ _ _ _ _ _ _ _ _ _ _ _ _ _ _ _ _ _ _ _ _ _ _ _ _ _ _ _ _ _ _ _ _ _ _ _ _ _ _ _ _ _ _ _ _ _ _ _ _ _ _ _ _ _ _ _ _ _ _ _ _ _ _ ?_ HRT.out (Nat.le_trans hL3 hB8.size) ?_ ?_
 ·intro u76 u77 u78 u79 u80 u81 u82 x9 wx bgo bgc hx9 R9 RT2 RG2 hbx
  refine hK2 _ _ ?_
  exact stp_end w0 B L vb sb db cao ccap ps p h c l i m op na nb nc nd s ao ago ac agc b0 x5 x6 x7 t0 t1' t2 t3 v0 v1 v2 v3 wS w3 x8 x9 ko ro bgo kc rc bgc _ vr rd.taken (wrsI [r0,r1,r2,r3] [na,nb,nc,nd] rd.types) (gbehF ⟨op,na,nb,nc,nd⟩ s.guards) wx _ _ _ _ _ _ _ _ _ _ _ _ _ _ _ _ _ _ _ _ _ _ _ _ _ _ _ _ _ _ _ _ _ _ _ _ _ _ _ _ _ _ _ _ _ _ _ _ _ _ _ _ _ _ _ _ _ _ _ _ _ _ _ _ _ _ _ _ _ _ _ _ _ _ _ _ _ _ _ _ _ _ _ _ _ _ _ _ _ _ _ _ _ _ _ _ HQ.out D (hB8.trans (hbx.mono hB8.size)) (R8'.blk.later hbx) (hk8.later (Keeps.of_below hbx)) htk R9 RT2 RG2 (by rw [wrsI_len,ht1]) hso2 (goF_lt hNF _ _ _)
 ·intro W2 hb2
  have hL2:L≤W2.heap.size:=Nat.le_trans (Nat.le_trans hL3 hB8.size) hb2.size
  have hRG:=D.RG.later (Keeps.of_below (hB8.trans (hb2.mono hB8.size)))
  have hc:=guardsBehind_any L ⟨op,na,nb,nc,nd⟩ ago agc s.guards.length s.guards W2 rfl D.hs.few hL2 hRG (gfit_some hgf)
  refine hc.mono ?_
  rintro e w' ⟨⟨bgo,bgc,rfl,h1⟩,hb⟩
  exact⟨⟨bgo,bgc,rfl,h1⟩,hb2.trans (hb.mono hb2.size),hb⟩
 ·intro W2 hb2
  have hB4:=hB8.trans (hb2.mono hB8.size)
  have hN:=D.N.later hB4
  exact⟨(R8'.blk.later hb2).cell 0,hN.cell 0,hN.cell 1,hN.cell 2,hN.cell 3,hN.cell 4,(D.A.later hB4).cell 2⟩
set_option maxRecDepth 1000000 in
set_option maxHeartbeats 8000000 in
theorem stp_r4c (vb x5 x6 x7 x8:Nat) (bN pb pof m ac ccap uc:Nat) (ub:Bool) (ao uo:Option Addr) (ps:List Pd) (us:List Ud) (t0 t1 t2 t3:TypeId) (v0 v1 v2 v3:Value) (w:World) (c1 c2 c3 c4 c9 c10 c11 c12 c13 c14 c15 c16 c17 c18 c19 c20 c21 c22 c23 c24 c25 c26 c27 c28 c29 c30 c31 c32 c33 c34 c35 c36 c37 c38 c39 c40 c41 c42 c43 c44 c45 c46 c47 c48 c49 c50 c51 c52 c53 c54 c55 c56 c57 c58 c59 c60 c61 c62 c63 c64 c65 c66 c67 c68 c69 c70 c71 c72 c73 c74 c75 c76 c77 c78 c79 c80 c81 c82 c83 c84 c85 c86 c87 c88 c89 c90 c91 c92 c93 c94 c95 c96 c97 c98 c99 c100:Value) (Q:Exit→Act→World→Prop) (PO:World→Prop)
  (hq:∀(u40 u41 u42 u43 u44 u45 u46 u47 u48 u49 u50 u51 u52 u53 u54 u55 u56 u57 u58 u59 u60 u61 u62 u63:Value) (wx:World),PO wx→Q .normal ⟨List.toArray (.pointer (some ⟨vb,0,none⟩)::c1::c2::c3::c4::.pointer (some ⟨x5,0,none⟩)::.pointer (some ⟨x6,0,none⟩)::.pointer (some ⟨x7,0,none⟩)::.pointer (some ⟨x8,0,none⟩)::c9::c10::c11::c12::c13::c14::c15::c16::c17::c18::c19::c20::c21::c22::c23::c24::c25::c26::c27::c28::c29::c30::c31::c32::c33::c34::c35::c36::c37::c38::.bool (!ub)::u40::u41::u42::u43::u44::u45::u46::u47::u48::u49::u50::u51::u52::u53::u54::u55::u56::u57::u58::u59::u60::u61::u62::u63::c64::c65::c66::c67::c68::c69::c70::c71::c72::c73::c74::c75::c76::c77::c78::c79::c80::c81::c82::c83::c84::c85::c86::c87::c88::c89::c90::c91::c92::c93::c94::c95::c96::c97::c98::c99::c100::[]),[]⟩ wx)
  (hall:Calls Tryz.prog 305 #[.pointer (some ⟨x8,0,none⟩),.agg #[.iface t0 v0,.iface t1 v1,.iface t2 v2,.iface t3 v3]] w.drew fun e w'=>e=.returned (.bool true)∧PO w'∧w'.cell? ⟨x7,0,none⟩=some (.iface t0 v0)∧w'.cell? ⟨x7,1,none⟩=some (.iface t1 v1)∧w'.cell? ⟨x7,2,none⟩=some (.iface t2 v2)∧w'.cell? ⟨x7,3,none⟩=some (.iface t3 v3)∧w'.cell? ⟨x5,0,none⟩=some (.int .i64 11)∧w'.cell? ⟨x5,2,none⟩=some (.int .i64 bN)∧w'.cell? ⟨x6,1,none⟩=some (.slice ao m ac)∧w'.cell? ⟨vb,0,none⟩=some (.slice (some ⟨pb,pof,none⟩) ps.length ccap)∧w'.cell? ⟨pb,pof+bN*9+5,none⟩=some (.slice uo us.length uc))
  (hup:∀W,PO W→W.cell? ⟨x7,0,none⟩=some (.iface t0 v0)∧W.cell? ⟨x7,1,none⟩=some (.iface t1 v1)∧W.cell? ⟨x7,2,none⟩=some (.iface t2 v2)∧W.cell? ⟨x7,3,none⟩=some (.iface t3 v3)∧W.cell? ⟨x5,0,none⟩=some (.int .i64 11)∧W.cell? ⟨x5,2,none⟩=some (.int .i64 bN)∧W.cell? ⟨x6,1,none⟩=some (.slice ao m ac)∧W.cell? ⟨vb,0,none⟩=some (.slice (some ⟨pb,pof,none⟩) ps.length ccap)∧W.cell? ⟨pb,pof+bN*9+5,none⟩=some (.slice uo us.length uc)→Calls Tryz.prog 306 #[.slice ao m ac,.slice uo us.length uc] W fun e w'=>e=.returned (.bool ub)∧PO w'∧w'.cell? ⟨x7,0,none⟩=some (.iface t0 v0)∧w'.cell? ⟨x7,1,none⟩=some (.iface t1 v1)∧w'.cell? ⟨x7,2,none⟩=some (.iface t2 v2)∧w'.cell? ⟨x7,3,none⟩=some (.iface t3 v3)∧w'.cell? ⟨x5,0,none⟩=some (.int .i64 11)∧w'.cell? ⟨x5,2,none⟩=some (.int .i64 bN)∧w'.cell? ⟨x6,1,none⟩=some (.slice ao m ac)∧w'.cell? ⟨vb,0,none⟩=some (.slice (some ⟨pb,pof,none⟩) ps.length ccap)∧w'.cell? ⟨pb,pof+bN*9+5,none⟩=some (.slice uo us.length uc))
  (_hbn:(bN:Int)<ps.length)
  (hS0:w.drew.cell? ⟨x7,0,none⟩=some (.iface t0 v0)∧w.drew.cell? ⟨x7,1,none⟩=some (.iface t1 v1)∧w.drew.cell? ⟨x7,2,none⟩=some (.iface t2 v2)∧w.drew.cell? ⟨x7,3,none⟩=some (.iface t3 v3)∧w.drew.cell? ⟨x5,0,none⟩=some (.int .i64 11)∧w.drew.cell? ⟨x5,2,none⟩=some (.int .i64 bN)∧w.drew.cell? ⟨x6,1,none⟩=some (.slice ao m ac)∧w.drew.cell? ⟨vb,0,none⟩=some (.slice (some ⟨pb,pof,none⟩) ps.length ccap)∧w.drew.cell? ⟨pb,pof+bN*9+5,none⟩=some (.slice uo us.length uc)) :
  Code.wp Tryz.prog pcS4 Q ⟨List.toArray (.pointer (some ⟨vb,0,none⟩)::c1::c2::c3::c4::.pointer (some ⟨x5,0,none⟩)::.pointer (some ⟨x6,0,none⟩)::.pointer (some ⟨x7,0,none⟩)::.pointer (some ⟨x8,0,none⟩)::c9::c10::c11::c12::c13::c14::c15::c16::c17::c18::c19::c20::c21::c22::c23::c24::c25::c26::c27::c28::c29::c30::c31::c32::c33::c34::c35::c36::c37::c38::c39::c40::c41::c42::c43::c44::c45::c46::c47::c48::c49::c50::c51::c52::c53::c54::c55::c56::c57::c58::c59::c60::c61::c62::c63::c64::c65::c66::c67::c68::c69::c70::c71::c72::c73::c74::c75::c76::c77::c78::c79::c80::c81::c82::c83::c84::c85::c86::c87::c88::c89::c90::c91::c92::c93::c94::c95::c96::c97::c98::c99::c100::[]),[]⟩ w:=by
 conv=>arg 2;whnf
 have HQ:Hid _:=hq
 clear hq
 refine rgN (fun w'=>w'.cell? ⟨x7,0,none⟩=some (.iface t0 v0)∧w'.cell? ⟨x7,1,none⟩=some (.iface t1 v1)∧w'.cell? ⟨x7,2,none⟩=some (.iface t2 v2)∧w'.cell? ⟨x7,3,none⟩=some (.iface t3 v3)∧w'.cell? ⟨x5,0,none⟩=some (.int .i64 11)∧w'.cell? ⟨x5,2,none⟩=some (.int .i64 bN)∧w'.cell? ⟨x6,1,none⟩=some (.slice ao m ac)∧w'.cell? ⟨vb,0,none⟩=some (.slice (some ⟨pb,pof,none⟩) ps.length ccap)∧w'.cell? ⟨pb,pof+bN*9+5,none⟩=some (.slice uo us.length uc)) hS0 (fun hS=>?_)
 iterate 1 (refine tkF (by kernel_rfl) (by rfl) hS ⟨?_,fun W hW=>?_,?_⟩;rotate_left;(focus ((try dsimp only at hW);go_simp;try with_reducible rfl));try simp only [Act.put,List.setIfInBounds_toArray,List.set_cons_zero,List.set_cons_succ])
 refine doN (by kernel_rfl) (by rfl) (fun K hK=>?_)
 go_simp
 refine (hall).mono ?_
 rintro e w2 ⟨rfl,hpo,hS2⟩
 go_wp2_with fail
 refine hK.out _ _ hS2 (fun hS=>?_)
 clear hK K
 try simp only [Act.put,List.setIfInBounds_toArray,List.set_cons_zero,List.set_cons_succ]
 iterate 18 (refine tkF (by kernel_rfl) (by rfl) hS ⟨?_,fun W hW=>?_,?_⟩;rotate_left;(focus ((try dsimp only at hW);go_simp;try with_reducible rfl));try simp only [Act.put,List.setIfInBounds_toArray,List.set_cons_zero,List.set_cons_succ])
 refine doN (by kernel_rfl) (by rfl) (fun K hK=>?_)
 go_simp
 refine (hup _ hpo hS).mono ?_
 rintro e w3 ⟨rfl,hpo3,hS3⟩
 go_wp2_with fail
 refine hK.out _ _ hS3 (fun hS=>?_)
 clear hK K
 try simp only [Act.put,List.setIfInBounds_toArray,List.set_cons_zero,List.set_cons_succ]
 iterate 4 (refine tkF (by kernel_rfl) (by rfl) hS ⟨?_,fun W hW=>?_,?_⟩;rotate_left;(focus ((try dsimp only at hW);go_simp;try with_reducible rfl));try simp only [Act.put,List.setIfInBounds_toArray,List.set_cons_zero,List.set_cons_succ])
 refine enD (by kernel_rfl) (NoPanic.normal ?_)
 exact HQ.out _ _ _ _ _ _ _ _ _ _ _ _ _ _ _ _ _ _ _ _ _ _ _ _ _ hpo3
end Go.Proofs.YtgopdffmnikhdaaGreatDoor
