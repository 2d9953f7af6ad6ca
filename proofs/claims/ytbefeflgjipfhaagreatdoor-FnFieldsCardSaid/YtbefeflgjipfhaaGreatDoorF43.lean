import Derived.Test.YtbefeflgjipfhaaGreatDoorF42
set_option maxRecDepth 1000000
set_option maxHeartbeats 8000000
namespace Go.Proofs.YtbefeflgjipfhaaGreatDoor
open Go.Deep Go.Proofs.Tryz Go.RowKit
variable{p:Addr}{c:Cf}{keep x:Int}{tk:List Int}{ps:List Pd}{B L b0 ccap j:Nat}{cao:Option Addr}{h:Ph}{s:St}{w w' w0:World}
theorem Ak (h:Below w.heap.size w w') (o:Obj):Below w.heap.size w (w'.alloc o):=h.alloc h.size o
theorem Cj (h:Below w.heap.size w w') (hp:w.heap.size<=p.block) (v:Value):Below w.heap.size w (w'.setCell p v):=h.setCell hp v
noncomputable def pcS1:Code:=Fu [1,0] (Tryz.f261.body.getD .skip)
noncomputable def pcS2:Code:=Fu [1,1,0] (Tryz.f261.body.getD .skip)
noncomputable def pcS4:Code:=Fu [1,1,1,1,0,0,0] (Tryz.f261.body.getD .skip)
noncomputable def pcS8:Code:=Fu [1,1,1,1,1,1,0] (Tryz.f261.body.getD .skip)
noncomputable def pcS9:Code:=Fu [1,1,1,1,1,1,1,0,0] (Tryz.f261.body.getD .skip)
theorem Aag (vb sb ib iof i:Nat) (p:Pd) (h:Ph) (op na nb nc nd:Int) (s:St) (ao ago:Option Addr) (ac agc:Nat) (w:World) (c2 c3 c4 c5 c6 c7 c8 c9 c10 c11 c12 c13 c14 c15 c16 c17 c18 c19 c20 c21 c22 c23 c24 c25 c26 c27 c28 c29 c30 c31 c32 c33 c34 c35 c36 c37 c38 c39 c40 c41 c42 c43 c44 c45 c46 c47 c48 c49 c50 c51 c52 c53 c54 c55 c56 c57 c58 c59 c60 c61 c62 c63 c64 c65 c66 c67 c68 c69 c70 c71 c72 c73 c74 c75 c76 c77 c78 c79 c80 c81 c82 c83 c84 c85 c86 c87 c88 c89 c90 c91 c92 c93 c94 c95 c96 c97 c98 c99 c100:Value) (Q:Exit->Act->World->Prop)
  (hq:∀(u10 u11 u12 u13 u14 u15 u16 u17 u18 u19 u20 u21 u22 u23 u24:Value) (x5 x6:Nat) (wx:World),x5≠x6->w.heap.size<=x5->w.heap.size<=x6->Blk wx x5 #[.int .i64 op,.int .i64 na,.int .i64 nb,.int .i64 nc,.int .i64 nd] 58->Blk wx x6 #[.bool true,.slice ao s.types.length ac,.slice ago s.guards.length agc] 344->Below w.heap.size w wx->Q .normal ⟨List.toArray (.pointer (some ⟨vb,0,none⟩)::.int .i64 i::c2::c3::c4::.pointer (some ⟨x5,0,none⟩)::.pointer (some ⟨x6,0,none⟩)::c7::c8::c9::u10::u11::u12::u13::u14::u15::u16::u17::u18::u19::u20::u21::u22::u23::u24::c25::c26::c27::c28::c29::c30::c31::c32::c33::c34::c35::c36::c37::c38::c39::c40::c41::c42::c43::c44::c45::c46::c47::c48::c49::c50::c51::c52::c53::c54::c55::c56::c57::c58::c59::c60::c61::c62::c63::c64::c65::c66::c67::c68::c69::c70::c71::c72::c73::c74::c75::c76::c77::c78::c79::c80::c81::c82::c83::c84::c85::c86::c87::c88::c89::c90::c91::c92::c93::c94::c95::c96::c97::c98::c99::c100::[]),[]⟩ wx)
  (_k1:(i:Int)<p.ins.length) (_hv:vb<w.heap.size) (_hs:sb<w.heap.size) (_hi:ib<w.heap.size) (e0:w.cell? ⟨vb,8,none⟩=some (.slice (some ⟨ib,iof,none⟩) p.ins.length h.ic)) (e1:w.cell? ⟨vb,10,none⟩=some (.slice (some ⟨sb,0,none⟩) p.ins.length p.ins.length)) (e2:w.cell? ⟨ib,iof+i*5,none⟩=some (.int .i64 op)) (e3:w.cell? ⟨ib,iof+i*5+1,none⟩=some (.int .i64 na)) (e4:w.cell? ⟨ib,iof+i*5+2,none⟩=some (.int .i64 nb)) (e5:w.cell? ⟨ib,iof+i*5+3,none⟩=some (.int .i64 nc)) (e6:w.cell? ⟨ib,iof+i*5+4,none⟩=some (.int .i64 nd)) (e7:w.cell? ⟨sb,i*3,none⟩=some (.bool true)) (e8:w.cell? ⟨sb,i*3+1,none⟩=some (.slice ao s.types.length ac)) (e9:w.cell? ⟨sb,i*3+2,none⟩=some (.slice ago s.guards.length agc)) :
  Code.wp prog pcS1 Q ⟨List.toArray (.pointer (some ⟨vb,0,none⟩)::.int .i64 i::c2::c3::c4::c5::c6::c7::c8::c9::c10::c11::c12::c13::c14::c15::c16::c17::c18::c19::c20::c21::c22::c23::c24::c25::c26::c27::c28::c29::c30::c31::c32::c33::c34::c35::c36::c37::c38::c39::c40::c41::c42::c43::c44::c45::c46::c47::c48::c49::c50::c51::c52::c53::c54::c55::c56::c57::c58::c59::c60::c61::c62::c63::c64::c65::c66::c67::c68::c69::c70::c71::c72::c73::c74::c75::c76::c77::c78::c79::c80::c81::c82::c83::c84::c85::c86::c87::c88::c89::c90::c91::c92::c93::c94::c95::c96::c97::c98::c99::c100::[]),[]⟩ w:=by
 conv=>arg 2;whnf
 have HQ:Hid _:=hq;clear hq;go_region_held3 (fun w'=>w'.cell? ⟨vb,8,none⟩=some (.slice (some ⟨ib,iof,none⟩) p.ins.length h.ic)/\w'.cell? ⟨vb,10,none⟩=some (.slice (some ⟨sb,0,none⟩) p.ins.length p.ins.length)/\w'.cell? ⟨ib,iof+i*5,none⟩=some (.int .i64 op)/\w'.cell? ⟨ib,iof+i*5+1,none⟩=some (.int .i64 na)/\w'.cell? ⟨ib,iof+i*5+2,none⟩=some (.int .i64 nb)/\w'.cell? ⟨ib,iof+i*5+3,none⟩=some (.int .i64 nc)/\w'.cell? ⟨ib,iof+i*5+4,none⟩=some (.int .i64 nd)/\w'.cell? ⟨sb,i*3,none⟩=some (.bool true)/\w'.cell? ⟨sb,i*3+1,none⟩=some (.slice ao s.types.length ac)/\w'.cell? ⟨sb,i*3+2,none⟩=some (.slice ago s.guards.length agc)) (first|exact⟨e0,e1,e2,e3,e4,e5,e6,e7,e8,e9⟩|(go_keep;done)) (fail)
 ·refine HQ.out _ _ _ _ _ _ _ _ _ _ _ _ _ _ _ w.heap.size (w.heap.size+1) _ (by omega) (yB _) (by omega) ?_ ?_ ?_
  ·exact(Blk.new w #[.int .i64 op,.int .i64 na,.int .i64 nb,.int .i64 nc,.int .i64 nd] 58).alloc (.cells #[.bool true,.slice ao s.types.length ac,.slice ago s.guards.length agc] 344)
  ·have:=Blk.new (w.alloc (.cells #[.int .i64 op,.int .i64 na,.int .i64 nb,.int .i64 nc,.int .i64 nd] 58)) #[.bool true,.slice ao s.types.length ac,.slice ago s.guards.length agc] 344;simp only[nblk_alloc]at this;exact this
  ·exact(Ak (Ak (yA _ _) _) _).drew
 ·refine HQ.out _ _ _ _ _ _ _ _ _ _ _ _ _ _ _ (w.heap.size+1) w.heap.size _ (by omega) (by omega) (yB _) ?_ ?_ ?_
  ·have:=Blk.new (w.alloc (.cells #[.bool true,.slice ao s.types.length ac,.slice ago s.guards.length agc] 344)) #[.int .i64 op,.int .i64 na,.int .i64 nb,.int .i64 nc,.int .i64 nd] 58;simp only[nblk_alloc]at this;exact this
  ·exact(Blk.new w #[.bool true,.slice ao s.types.length ac,.slice ago s.guards.length agc] 344).alloc (.cells #[.int .i64 op,.int .i64 na,.int .i64 nb,.int .i64 nc,.int .i64 nd] 58)
  ·exact(Ak (Ak (yA _ _) _) _).drew
theorem Aaj (x6 x8 x9 m kN:Nat) (kb:Bool) (ao ago ko bo:Option Addr) (ac agc kc bc:Nat) (s:St) (tk:List Int) (w:World) (c0 c1 c2 c3 c4 c5 c7 c10 c11 c12 c13 c14 c15 c16 c17 c18 c19 c20 c21 c22 c23 c24 c25 c26 c27 c28 c29 c30 c31 c32 c33 c34 c35 c36 c37 c38 c39 c40 c41 c42 c43 c44 c45 c46 c47 c48 c49 c50 c51 c52 c53 c54 c55 c56 c57 c58 c59 c60 c61 c62 c63 c64 c65 c66 c67 c68 c69 c70 c71 c72 c73 c74 c75 c76 c77 c78 c79 c80 c81 c82 c83 c84 c85 c86 c87 c88 c89 c90 c91 c92 c93 c94 c95 c96 c97 c98 c99 c100:Value) (Q:Exit->Act->World->Prop)
  (hq:∀(u83 u84 u85 u86 u87 u88 u89 u90 u91 u92:Value) (wx:World),Below w.heap.size w wx->Q .normal ⟨List.toArray (c0::c1::c2::c3::c4::c5::.pointer (some ⟨x6,0,none⟩)::c7::.pointer (some ⟨x8,0,none⟩)::.pointer (some ⟨x9,0,none⟩)::c10::c11::c12::c13::c14::c15::c16::c17::c18::c19::c20::c21::c22::c23::c24::c25::c26::c27::c28::c29::c30::c31::c32::c33::c34::c35::c36::c37::c38::c39::c40::c41::c42::c43::c44::c45::c46::c47::c48::c49::c50::c51::c52::c53::c54::c55::c56::c57::c58::c59::c60::c61::c62::c63::c64::c65::c66::c67::c68::c69::c70::c71::c72::c73::c74::c75::c76::c77::c78::c79::c80::c81::c82::u83::u84::u85::u86::u87::u88::u89::u90::u91::u92::.bool (!kb)::c94::c95::c96::c97::c98::c99::c100::[]),[]⟩ wx)
  (hkb:∀W,Below w.heap.size w W->Calls prog 325 #[.slice ago s.guards.length agc] W fun e w'=>e=.returned (.int .i64 kN)/\Below w.heap.size w w')
  (hks:∀W,Below w.heap.size w W->Calls prog 324 #[.int .i64 kN,.slice ko tk.length kc,.slice ao m ac,.slice bo m bc] W fun e w'=>e=.returned (.bool kb)/\Below w.heap.size w w')
  (hS:∀w',Below w.heap.size w w'->w'.cell? ⟨x6,1,none⟩=some (.slice ao m ac)/\w'.cell? ⟨x6,2,none⟩=some (.slice ago s.guards.length agc)/\w'.cell? ⟨x8,2,none⟩=some (.slice ko tk.length kc)/\w'.cell? ⟨x9,1,none⟩=some (.slice bo m bc)) :
  Code.wp prog pcS9 Q ⟨List.toArray (c0::c1::c2::c3::c4::c5::.pointer (some ⟨x6,0,none⟩)::c7::.pointer (some ⟨x8,0,none⟩)::.pointer (some ⟨x9,0,none⟩)::c10::c11::c12::c13::c14::c15::c16::c17::c18::c19::c20::c21::c22::c23::c24::c25::c26::c27::c28::c29::c30::c31::c32::c33::c34::c35::c36::c37::c38::c39::c40::c41::c42::c43::c44::c45::c46::c47::c48::c49::c50::c51::c52::c53::c54::c55::c56::c57::c58::c59::c60::c61::c62::c63::c64::c65::c66::c67::c68::c69::c70::c71::c72::c73::c74::c75::c76::c77::c78::c79::c80::c81::c82::c83::c84::c85::c86::c87::c88::c89::c90::c91::c92::c93::c94::c95::c96::c97::c98::c99::c100::[]),[]⟩ w:=by
 conv=>arg 2;whnf
 have HQ:Hid _:=hq;have HKB:Hid _:=hkb;have HKS:Hid _:=hks;have HS:Hid _:=hS;obtain⟨e0,e1,e2,e3⟩:=hS w (yA _ _);clear hq hkb hks hS;go_region_held3 (fun w'=>w'.cell? ⟨x6,1,none⟩=some (.slice ao m ac)/\w'.cell? ⟨x6,2,none⟩=some (.slice ago s.guards.length agc)/\w'.cell? ⟨x8,2,none⟩=some (.slice ko tk.length kc)/\w'.cell? ⟨x9,1,none⟩=some (.slice bo m bc)) (first|(refine HS.out _ ?_;(repeat (first|assumption|exact HB2.out|exact HB3.out|exact yA _ _|refine Below.drew ?_|refine Ak ?_ _|refine Cj ?_ (by dsimp only;omega) _))))
  (first
   | (go_at_call 325;refine(HKB.out _ (by (repeat (first|assumption|exact HB2.out|exact HB3.out|exact yA _ _|refine Below.drew ?_|refine Ak ?_ _|refine Cj ?_ (by dsimp only;omega) _)))).mono ?_;rintro e w2 ⟨rfl,hw2⟩;have HB2:Hid (Below w.heap.size w w2):=hw2)
   | (go_at_call 324;refine(HKS.out _ (by (repeat (first|assumption|exact HB2.out|exact HB3.out|exact yA _ _|refine Below.drew ?_|refine Ak ?_ _|refine Cj ?_ (by dsimp only;omega) _)))).mono ?_;rintro e w3 ⟨rfl,hw3⟩;have HB3:Hid (Below w.heap.size w w3):=hw3))
 exact HQ.out _ _ _ _ _ _ _ _ _ _ _ HB3.out
theorem Tg (h:tk[j]?=some x):Dv keep (tk.drop j)=(!decide (x<keep)&&Dv keep (tk.drop (j+1))):=by rw[Bg h];rfl
theorem Yb (o1 o2:Option Addr) (c1 c2 n m:Nat) (t1 t2:List Int) (w:World) (e1:t1.length=n) (e2:t2.length=m) (l1:n<=1048576) (h1:Cv 0 w o1 t1) (h2:Cv 0 w o2 t2) :
  Kw 315 #[.slice o1 n c1,.slice o2 m c2] w (.bool (decide (t1=t2))):=by
 subst e1;subst e2;exact Mr o1 o2 c1 c2 t1 t2 w l1 h1 h2
theorem Vy (keep:Nat) (to bo ao:Option Addr) (tc bc ac:Nat) (tk bs cs:List Int) (w:World) (ht:tk.length<=1000) (hb:keep<=bs.length) (hc:keep<=cs.length) (hbl:bs.length<=250) (hbc:keep<=bc) (hac:keep<=ac) (h1:Cv 0 w to tk) (h2:Cv 0 w bo bs) (h3:Cv 0 w ao cs) :
  Kw 324 #[.int .i64 keep,.slice to tk.length tc,.slice bo bs.length bc,.slice ao cs.length ac] w (.bool (Dl keep tk bs cs)):=by
 have HE:Hid (∀W,Below w.heap.size w W->Kw 315 #[.slice bo keep bc,.slice ao keep ac] W (.bool (Ey keep bs cs))):=
  fun W hW=>Yb bo ao bc ac keep keep (bs.take keep) (cs.take keep) W (by simp;omega) (by simp;omega) (by omega) (Ay.take (h2.l (Ad.o hW)) keep) (Ay.take (h3.l (Ad.o hW)) keep)
 have kb:(keep:Int)<=bc:=by omega
 have ka:(keep:Int)<=ac:=by omega
 clear hb hc h2 h3 hbc hac;(try unfold Kw);go_in;go_wp2;go_loopw [13] (fun y wr=>∃j:Nat,j<=tk.length/\y=.int .i64 j/\Hid (Dv keep (tk.drop j)=Dv keep tk)/\wr=w) (fun y _=>tk.length-(intOf y).toNat);case atStart=>exact⟨0,yE _,rfl,rfl,rfl⟩
 case round=>
  obtain⟨j,hj,rfl,HQ,rfl⟩:=hrel;by_cases hjl:j<tk.length
  ·obtain⟨t,htk⟩:=Ah hjl;obtain⟨bb,off,rfl,_,hbl2,p0⟩:=h1 j t htk;unfold Jb at p0;rw[Nat.mul_one]at p0;have HD:Hid _:=HQ.out.symm.trans (Tg htk);clear htk HQ;by_cases hlt:t<keep
   ·have HN:Hid (Dl keep tk bs cs=false):=by show _=_;unfold Dl;rw[HD.out];simp[hlt]
    clear HD;go_wp2;go_ret;exact⟨Ac HN.out.symm,yA _ _⟩
   ·have HN:Hid (Dv keep (tk.drop (j+1))=Dv keep tk):=by show _=_;rw[HD.out];simp[hlt]
    clear HD;go_wp2;go_roundw;case rel=>exact⟨j+1,by omega,by go_num,HN.out,trivial⟩
    case measure=>simp[intOf];omega
  ·have HN:Hid (Dl keep tk bs cs=Ey keep bs cs):=by have h:=HQ.out;rw[yQ (by omega)]at h;show _=_;unfold Dl;rw[←h];rfl
   clear HQ;go_wp2_with fail;go_region_held3 (fun _=>True) (trivial)
    (first|(go_at_call 315;refine(HE.out wr.drew (yA _ _).drew).mono ?_;rintro e w2 ⟨rfl,hw2⟩))
   go_wp2;go_ret;exact⟨Ac HN.out.symm,(yA _ _).drew.trans hw2⟩
structure A36 (w0:World) (B L vb sb db:Nat) (cao:Option Addr) (ccap:Nat) (ps:List Pd) (p:Pd) (h:Ph) (c:Cf) (l i m:Nat) (op na nb nc nd:Int) (s:St) (ao ago:Option Addr) (ac agc b0 x5 x6 x7:Nat) (t0 t1 t2 t3:TypeId) (v0 v1 v2 v3:Value) (wS w3:World):Prop where
 X:Ux w0 B L vb sb db ps p h
 H:Cw L vb sb db cao ccap ps p h w3 c l
 hl:l<=p.ins.length
 hL:L<=wS.heap.size
 hb0:Below w0.heap.size w0 w3
 off:Off B L wS w3
 hok:Kb p c
 hi:p.ins[i]?=some ⟨op,na,nb,nc,nd⟩
 hs:Sa p s
 hm:s.types.length=m
 R0:Blk w3 b0 #[.int .i64 0,.int .i64 0,.int .i64 0] 155
 N:Blk w3 x5 #[.int .i64 op,.int .i64 na,.int .i64 nb,.int .i64 nc,.int .i64 nd] 58
 A:Blk w3 x6 #[.bool true,.slice ao m ac,.slice ago s.guards.length agc] 344
 F:Blk w3 x7 #[.iface t0 v0,.iface t1 v1,.iface t2 v2,.iface t3 v3] 402
 hb:wS.heap.size<=b0
 RT:Ed L w3 ao ac s.types
 RG:Bu L w3 ago agc s.guards
theorem A36.m2{vb sb db:Nat} {p:Pd} {l i m:Nat} {op na nb nc nd:Int} {ao ago:Option Addr}{ac agc x5 x6 x7:Nat} {t0 t1 t2 t3:TypeId} {v0 v1 v2 v3:Value} {wS w3:World} (x:A36 w0 B L vb sb db cao ccap ps p h c l i m op na nb nc nd s ao ago ac agc b0 x5 x6 x7 t0 t1 t2 t3 v0 v1 v2 v3 wS w3):m<=250/\(m:Int)=p.regs:=by have h1:=x.hs.len;have h2:=x.X.fit.regs;have h3:=x.hm;omega
theorem A1c {a b:World} (h:Off B L a b) (hB:B<=a.heap.size) (hb:a.heap.size<=b0) (v1 v2 v3:Value):Off B L a (((b.setCell ⟨b0,0,none⟩ v1).setCell ⟨b0,1,none⟩ v2).setCell ⟨b0,2,none⟩ v3):=
 ((h.setNew hB v1 (by dsimp only;omega)).setNew hB v2 (by dsimp only;omega)).setNew hB v3 (by dsimp only;omega)
noncomputable def pcSE:Code:=Fu [1,1,1,1,1,1,1] (Tryz.f261.body.getD .skip)
theorem A8w (w0:World) (B L vb sb db:Nat) (cao:Option Addr) (ccap:Nat) (ps:List Pd) (p:Pd) (h:Ph) (c:Cf) (l i m:Nat) (op na nb nc nd:Int) (s:St) (ao ago:Option Addr) (ac agc b0 x5 x6 x7:Nat) (t0 t1 t2 t3:TypeId) (v0 v1 v2 v3:Value) (wS w3:World) (x8 x9:Nat) (ko bo bgo:Option Addr) (kc bc bgc:Nat) (vt vr:Value) (tk ts2:List Int) (gs2:List Gd) (W:World) (c2 c3 c5 c7 c10 c11 c12 c13 c14 c15 c16 c17 c18 c19 c20 c21 c22 c23 c24 c25 c26 c27 c28 c29 c30 c31 c32 c33 c34 c35 c36 c37 c38 c39 c40 c41 c42 c43 c44 c45 c46 c47 c48 c49 c50 c51 c52 c53 c54 c55 c56 c57 c58 c59 c60 c61 c62 c63 c64 c65 c66 c67 c68 c69 c70 c71 c72 c73 c74 c75 c76 c77 c78 c79 c80 c81 c82 c83 c84 c85 c86 c87 c88 c89 c90 c91 c92 c93 c94 c95 c96 c97 c98 c99 c100:Value) (Q:Exit->Act->World->Prop) (hq:∀a' w',bodyPost prog Tryz.f261 (Ky B L vb sb db cao ccap ps p h wS (if Dl (Ap s.guards) tk s.types ts2 then Au c (En ⟨op,na,nb,nc,nd⟩ i s ts2 gs2) else .error (12,i))) .ret a' w'->Q .ret a' w')
  (D:A36 w0 B L vb sb db cao ccap ps p h c l i m op na nb nc nd s ao ago ac agc b0 x5 x6 x7 t0 t1 t2 t3 v0 v1 v2 v3 wS w3) (hB3:Below w3.heap.size w3 W) (R8:Blk W x8 #[vt,vr,.slice ko tk.length kc] 406) (hk:Cv 0 W ko tk) (htk:tk.length<=1000) (R9:Blk W x9 #[.bool false,.slice bo m bc,.slice bgo gs2.length bgc] 344) (RT2:Ed L W bo bc ts2) (RG2:Bu L W bgo bgc gs2) (ht2:ts2.length=m) (hso2:Sa p ⟨ts2,gs2⟩) (hfk:∀y∈goF ⟨op,na,nb,nc,nd⟩ s ts2 gs2,y.1<p.ins.length) :
  Code.wp prog pcSE Q ⟨List.toArray (.pointer (some ⟨vb,0,none⟩)::.int .i64 i::c2::c3::.pointer (some ⟨b0,0,none⟩)::c5::.pointer (some ⟨x6,0,none⟩)::c7::.pointer (some ⟨x8,0,none⟩)::.pointer (some ⟨x9,0,none⟩)::c10::c11::c12::c13::c14::c15::c16::c17::c18::c19::c20::c21::c22::c23::c24::c25::c26::c27::c28::c29::c30::c31::c32::c33::c34::c35::c36::c37::c38::c39::c40::c41::c42::c43::c44::c45::c46::c47::c48::c49::c50::c51::c52::c53::c54::c55::c56::c57::c58::c59::c60::c61::c62::c63::c64::c65::c66::c67::c68::c69::c70::c71::c72::c73::c74::c75::c76::c77::c78::c79::c80::c81::c82::c83::c84::c85::c86::c87::c88::c89::c90::c91::c92::c93::c94::c95::c96::c97::c98::c99::c100::[]),[]⟩ W:=by
 conv=>arg 2;whnf
 have HQ:Hid _:=hq;clear hq;obtain⟨hm2,hmr⟩:=D.m2;have hOW:Off B L wS W:=D.off.trans (Off.o hB3 (yI (yI D.X.hBL D.hL) D.off.size));have hBW:B<=wS.heap.size:=yI D.X.hBL D.hL;obtain⟨mk,hmk⟩:∃mk:Nat,Ap s.guards=mk:=yN (Lh s.guards).1;have hmkm:mk<=m:=by
  rcases (Lh s.guards).2 with h0|⟨g,hg,_,hg2⟩
  ·omega
  ·have:=(D.hs.keep g hg).2;omega
 refine wk fun K1 HK1=>?_;refine wk fun K2 HK2=>?_;refine Aaj x6 x8 x9 m mk (Dl mk tk s.types ts2) ao ago ko bo ac agc kc bc s tk W _ _ _ _ _ _ _ _ _ _ _ _ _ _ _ _ _ _ _ _ _ _ _ _ _ _ _ _ _ _ _ _ _ _ _ _ _ _ _ _ _ _ _ _ _ _ _ _ _ _ _ _ _ _ _ _ _ _ _ _ _ _ _ _ _ _ _ _ _ _ _ _ _ _ _ _ _ _ _ _ _ _ _ _ _ _ _ _ _ _ _ _ _ _ _ _ _ _ _ ?_ ?_ ?_ ?_
 ·intro u83 u84 u85 u86 u87 u88 u89 u90 u91 u92 wx hbx;refine HK2.out _ _ ?_;clear HK2;have hB4:=hB3.trans (hbx.mono hB3.size);have HR0:Hid (Blk wx b0 #[.int .i64 0,.int .i64 0,.int .i64 0] 155):=D.R0.l hB4;have HO:Hid (Off B L wS wx):=hOW.trans (Off.o hbx (yI hBW hOW.size));cases hst:Dl mk tk s.types ts2
  ·have HRE:Hid ((if Dl (Ap s.guards) tk s.types ts2 then Au c (En ⟨op,na,nb,nc,nd⟩ i s ts2 gs2) else .error (12,i):Except (Nat×Nat) Cf)=.error (12,i)):=by show _=_;rw[hmk,hst];rfl
   clear hst;have r9:=HR0.out.cell;have f9:=HR0.out.frozen;go_wp2_with fail;have c9:=(HR0.out.three (x':=.int .i64 12) (y':=.int .i64 0) (z':=.int .i64 i)).cell;refine HQ.out _ _ (bodyPost_ret (v:=.agg #[.int .i64 12,.int .i64 0,.int .i64 i]) ?_ rfl ⟨?_,A1c HO.out hBW D.hb _ _ _⟩)
   ·simp[results,results261,go_sem,c9]
   ·rw[HRE.out];try rfl
  ·have HRE:Hid ((if Dl (Ap s.guards) tk s.types ts2 then Au c (En ⟨op,na,nb,nc,nd⟩ i s ts2 gs2) else .error (12,i):Except (Nat×Nat) Cf)=Au c (En ⟨op,na,nb,nc,nd⟩ i s ts2 gs2)):=by show _=_;rw[hmk,hst];rfl
   clear hst;have HFW:Hid (∀_:Unit,_):=fun _=>A0x w0 B L vb sb db cao ccap ps p h c l wx i m ⟨op,na,nb,nc,nd⟩ true false ao ago bo bgo ac agc bc bgc s ts2 gs2 D.X (D.H.below hB4) D.hl (yI D.hL HO.out.size) (D.hb0.trans (hB4.mono D.hb0.size)) D.hok D.hi hso2 hfk D.hm ht2 hm2 hmr (D.RT.l (Ad.o hB4)) (D.RG.l (Ad.o hB4)) (RT2.l (Ad.o hbx)) (RG2.l (Ad.o hbx));rw[D.hm,ht2]at HFW;have a6:=(D.A.l hB4).cell;have a9:=(R9.l hbx).cell;go_wp2;refine HK1.out _ _ ?_;clear HK1;go_wp2_with fail;refine(HFW.out ()).mono ?_;unfold Ky;cases hfo:Au c (En ⟨op,na,nb,nc,nd⟩ i s ts2 gs2) with
   | error kx=>
    obtain⟨k,x⟩:=kx;rintro e w6 ⟨rfl,hO6⟩;have HRE2:Hid ((if Dl (Ap s.guards) tk s.types ts2 then Au c (En ⟨op,na,nb,nc,nd⟩ i s ts2 gs2) else .error (12,i):Except (Nat×Nat) Cf)=.error (k,x)):=HRE.out.trans hfo;have HR0b:=hO6.blk HR0.out (yI D.hL D.hb);have HO6:Hid (Off B L wS w6):=HO.out.trans hO6;clear HR0;have HR0:Hid (Blk w6 b0 #[.int .i64 0,.int .i64 0,.int .i64 0] 155):=HR0b;clear hfo HFW HRE a6 a9 HR0b;have r9:=HR0.out.cell;have f9:=HR0.out.frozen;go_wp2_with fail;have c9:=(HR0.out.three (x':=.int .i64 k) (y':=.int .i64 0) (z':=.int .i64 x)).cell;refine HQ.out _ _ (bodyPost_ret (v:=.agg #[.int .i64 k,.int .i64 0,.int .i64 x]) ?_ rfl ⟨?_,A1c HO6.out hBW D.hb _ _ _⟩)
    ·simp[results,results261,go_sem,c9]
    ·rw[HRE2.out];try rfl
   | ok c2=>
    rintro e w6 ⟨⟨rfl,l2,hl2,H6⟩,hO6⟩;have HRE2:Hid ((if Dl (Ap s.guards) tk s.types ts2 then Au c (En ⟨op,na,nb,nc,nd⟩ i s ts2 gs2) else .error (12,i):Except (Nat×Nat) Cf)=.ok c2):=HRE.out.trans hfo;have HR0b:=hO6.blk HR0.out (yI D.hL D.hb);have HO6:Hid (Off B L wS w6):=HO.out.trans hO6;clear HR0;have HR0:Hid (Blk w6 b0 #[.int .i64 0,.int .i64 0,.int .i64 0] 155):=HR0b;have HH6:Hid (Cw L vb sb db cao ccap ps p h w6 c2 l2):=H6;clear hfo HFW HRE a6 a9 HR0b H6;have r9:=HR0.out.cell;have f9:=HR0.out.frozen;go_wp2_with fail;have c9:=(HR0.out.three (x':=.int .i64 0) (y':=.int .i64 0) (z':=.int .i64 0)).cell;refine HQ.out _ _ (bodyPost_ret (v:=.agg #[.int .i64 0,.int .i64 0,.int .i64 0]) ?_ rfl ⟨?_,A1c HO6.out hBW D.hb _ _ _⟩)
    ·simp[results,results261,go_sem,c9]
    ·rw[HRE2.out];exact⟨rfl,_,hl2,HH6.out.fault D.X.V HR0.out (yI D.hL D.hb) _ _ _⟩
 ·intro W2 hb2;have:=Kl ago agc s.guards W2 (by have:=D.hs.few;omega) (Ay.w (D.RG.l (Ad.o (hB3.trans (hb2.mono hB3.size)))).at_ (yE _));rw[hmk]at this;exact this.mono fun e w' hh=>⟨hh.1,hb2.trans (hh.2.mono hb2.size)⟩
 ·intro W2 hb2;have hr1:=D.RT.l (Ad.o (hB3.trans (hb2.mono hB3.size)));have hr2:=RT2.l (Ad.o hb2);have:=Vy mk ko ao bo kc ac bc tk s.types ts2 W2 htk (by rw[D.hm];exact hmkm) (by rw[ht2];exact hmkm) (by rw[D.hm];exact hm2) (yI (by rw[D.hm];exact hmkm) hr1.cap) (yI (by rw[ht2];exact hmkm) hr2.cap) (hk.l (Ad.o hb2)) (Ay.w hr1.at_ (yE _)) (Ay.w hr2.at_ (yE _));rw[D.hm,ht2]at this;exact this.mono fun e w' hh=>⟨hh.1,hb2.trans (hh.2.mono hb2.size)⟩
 ·intro W2 hb2;have hB4:=hB3.trans (hb2.mono hB3.size);exact⟨(D.A.l hB4).cell 1,(D.A.l hB4).cell 2,(R8.l hb2).cell 2,(R9.l hb2).cell 1⟩
end Go.Proofs.YtbefeflgjipfhaaGreatDoor
