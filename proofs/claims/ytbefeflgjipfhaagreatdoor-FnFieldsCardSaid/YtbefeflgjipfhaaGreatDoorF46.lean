import Derived.Test.YtbefeflgjipfhaaGreatDoorF45
set_option maxRecDepth 1000000
set_option maxHeartbeats 16000000
namespace Go.Proofs.YtbefeflgjipfhaaGreatDoor
open Go.Deep Go.Proofs.Tryz Go.RowKit
variable{nb:Array Value}{c:Cf}{x:Int}{e:List Int}{ps:List Pd}{N ccap gb k np r:Nat}{o:Obj}{cao:Option Addr}{p:Pd}{h:Ph}{v:Value}{W w wr:World}
theorem Aah (vb x5:Nat) (cao:Option Addr) (ccap:Nat) (ps:List Pd) (p:Pd) (h:Ph) (op na nb nc nd:Int) (t0 t1 t2 t3:TypeId) (v0 v1 v2 v3:Value) (w:World) (c1 c2 c3 c4 c6 c7 c8 c9 c10 c11 c12 c13 c14 c15 c16 c17 c18 c19 c20 c21 c22 c23 c24 c25 c26 c27 c28 c29 c30 c31 c32 c33 c34 c35 c36 c37 c38 c39 c40 c41 c42 c43 c44 c45 c46 c47 c48 c49 c50 c51 c52 c53 c54 c55 c56 c57 c58 c59 c60 c61 c62 c63 c64 c65 c66 c67 c68 c69 c70 c71 c72 c73 c74 c75 c76 c77 c78 c79 c80 c81 c82 c83 c84 c85 c86 c87 c88 c89 c90 c91 c92 c93 c94 c95 c96 c97 c98 c99 c100:Value) (Q:Exit->Act->World->Prop)
  (hq:∀(u25 u26 u27 u28 u29 u30 u31 u32 u33 u34:Value) (x7:Nat) (wx:World),w.heap.size<=x7->Blk wx x7 #[.iface t0 v0,.iface t1 v1,.iface t2 v2,.iface t3 v3] 402->Below w.heap.size w wx->Q .normal ⟨List.toArray (.pointer (some ⟨vb,0,none⟩)::c1::c2::c3::c4::.pointer (some ⟨x5,0,none⟩)::c6::.pointer (some ⟨x7,0,none⟩)::c8::c9::c10::c11::c12::c13::c14::c15::c16::c17::c18::c19::c20::c21::c22::c23::c24::u25::u26::u27::u28::u29::u30::u31::u32::u33::u34::c35::c36::c37::c38::c39::c40::c41::c42::c43::c44::c45::c46::c47::c48::c49::c50::c51::c52::c53::c54::c55::c56::c57::c58::c59::c60::c61::c62::c63::c64::c65::c66::c67::c68::c69::c70::c71::c72::c73::c74::c75::c76::c77::c78::c79::c80::c81::c82::c83::c84::c85::c86::c87::c88::c89::c90::c91::c92::c93::c94::c95::c96::c97::c98::c99::c100::[]),[]⟩ wx)
  (hfl:∀W,Below w.heap.size w W->Calls prog 317 #[.agg #[.slice cao ps.length ccap],.agg #[.string p.name,.int .i64 p.line,.int .i64 p.params,.bool p.rest,.int .i64 p.regs,.slice h.uo p.ups.length h.uc,.slice h.co p.consts.length h.cc,.slice h.io p.ins.length h.ic,.slice h.no p.named.length h.nc],.agg #[.int .i64 op,.int .i64 na,.int .i64 nb,.int .i64 nc,.int .i64 nd]] W fun e w'=>e=.returned (.agg #[.iface t0 v0,.iface t1 v1,.iface t2 v2,.iface t3 v3])/\Below w.heap.size w w'/\Below W.heap.size W w')
  (hS:∀w',Below w.heap.size w w'->w'.cell? ⟨vb,0,none⟩=some (.slice cao ps.length ccap)/\w'.cell? ⟨vb,1,none⟩=some (.string p.name)/\w'.cell? ⟨vb,2,none⟩=some (.int .i64 p.line)/\w'.cell? ⟨vb,3,none⟩=some (.int .i64 p.params)/\w'.cell? ⟨vb,4,none⟩=some (.bool p.rest)/\w'.cell? ⟨vb,5,none⟩=some (.int .i64 p.regs)/\w'.cell? ⟨vb,6,none⟩=some (.slice h.uo p.ups.length h.uc)/\w'.cell? ⟨vb,7,none⟩=some (.slice h.co p.consts.length h.cc)/\w'.cell? ⟨vb,8,none⟩=some (.slice h.io p.ins.length h.ic)/\w'.cell? ⟨vb,9,none⟩=some (.slice h.no p.named.length h.nc)/\w'.cell? ⟨x5,0,none⟩=some (.int .i64 op)/\w'.cell? ⟨x5,1,none⟩=some (.int .i64 na)/\w'.cell? ⟨x5,2,none⟩=some (.int .i64 nb)/\w'.cell? ⟨x5,3,none⟩=some (.int .i64 nc)/\w'.cell? ⟨x5,4,none⟩=some (.int .i64 nd)) :
  Code.wp prog pcS2 Q ⟨List.toArray (.pointer (some ⟨vb,0,none⟩)::c1::c2::c3::c4::.pointer (some ⟨x5,0,none⟩)::c6::c7::c8::c9::c10::c11::c12::c13::c14::c15::c16::c17::c18::c19::c20::c21::c22::c23::c24::c25::c26::c27::c28::c29::c30::c31::c32::c33::c34::c35::c36::c37::c38::c39::c40::c41::c42::c43::c44::c45::c46::c47::c48::c49::c50::c51::c52::c53::c54::c55::c56::c57::c58::c59::c60::c61::c62::c63::c64::c65::c66::c67::c68::c69::c70::c71::c72::c73::c74::c75::c76::c77::c78::c79::c80::c81::c82::c83::c84::c85::c86::c87::c88::c89::c90::c91::c92::c93::c94::c95::c96::c97::c98::c99::c100::[]),[]⟩ w:=by
 conv=>arg 2;whnf
 have HQ:Hid _:=hq;have HFL:Hid _:=hfl;have HS:Hid _:=hS;obtain⟨e0,e1,e2,e3,e4,e5,e6,e7,e8,e9,e10,e11,e12,e13,e14⟩:=hS w (yA _ _);clear hq hfl hS;go_region_held3 (fun w'=>w'.cell? ⟨vb,0,none⟩=some (.slice cao ps.length ccap)/\w'.cell? ⟨vb,1,none⟩=some (.string p.name)/\w'.cell? ⟨vb,2,none⟩=some (.int .i64 p.line)/\w'.cell? ⟨vb,3,none⟩=some (.int .i64 p.params)/\w'.cell? ⟨vb,4,none⟩=some (.bool p.rest)/\w'.cell? ⟨vb,5,none⟩=some (.int .i64 p.regs)/\w'.cell? ⟨vb,6,none⟩=some (.slice h.uo p.ups.length h.uc)/\w'.cell? ⟨vb,7,none⟩=some (.slice h.co p.consts.length h.cc)/\w'.cell? ⟨vb,8,none⟩=some (.slice h.io p.ins.length h.ic)/\w'.cell? ⟨vb,9,none⟩=some (.slice h.no p.named.length h.nc)/\w'.cell? ⟨x5,0,none⟩=some (.int .i64 op)/\w'.cell? ⟨x5,1,none⟩=some (.int .i64 na)/\w'.cell? ⟨x5,2,none⟩=some (.int .i64 nb)/\w'.cell? ⟨x5,3,none⟩=some (.int .i64 nc)/\w'.cell? ⟨x5,4,none⟩=some (.int .i64 nd)) (first|(refine HS.out _ ?_;(repeat (first|assumption|exact HB2.out|exact HB3.out|exact yA _ _|refine Below.drew ?_|refine Ak ?_ _|refine Cj ?_ (by dsimp only;omega) _))))
  (first
   | (go_at_call 317;refine(HFL.out _ (by (repeat (first|assumption|exact HB2.out|exact HB3.out|exact yA _ _|refine Below.drew ?_|refine Ak ?_ _|refine Cj ?_ (by dsimp only;omega) _)))).mono ?_;rintro e w2 ⟨rfl,hw2,hw2b⟩;have HB2:Hid (Below w.heap.size w w2):=hw2;have zz:Blk w2 w.heap.size #[.nilIface,.nilIface,.nilIface,.nilIface] 402:=Blk.l (w:=(w.alloc (.cells #[.nilIface,.nilIface,.nilIface,.nilIface] 402)).drew) (Blk.new w #[.nilIface,.nilIface,.nilIface,.nilIface] 402) hw2b;have z0:=zz.cell;have zf:=zz.frozen)
   | (go_at_call 317;refine(HFL.out _ (by (repeat (first|assumption|exact HB2.out|exact HB3.out|exact yA _ _|refine Below.drew ?_|refine Ak ?_ _|refine Cj ?_ (by dsimp only;omega) _)))).mono ?_;rintro e w2 ⟨rfl,hw2,hw2b⟩;have HB2:Hid (Below w.heap.size w w2):=hw2))
 ·exact HQ.out _ _ _ _ _ _ _ _ _ _ w2.heap.size _ HB2.out.size (Blk.new w2 #[.iface t0 v0,.iface t1 v1,.iface t2 v2,.iface t3 v3] 402) (Ak HB2.out _)
 ·exact HQ.out _ _ _ _ _ _ _ _ _ _ w.heap.size _ (yB _) ((((zz.set 0 (.iface t0 v0)).set 1 (.iface t1 v1)).set 2 (.iface t2 v2)).set 3 (.iface t3 v3)) (Cj (Cj (Cj (Cj HB2.out (yB _) _) (yB _) _) (yB _) _) (yB _) _)
theorem A7e {L vb sb db:Nat} {l nb':Nat} {op na nb nc nd:Int} (H:Cw L vb sb db cao ccap ps p h w c l) (N:Blk w nb' #[.int .i64 op,.int .i64 na,.int .i64 nb,.int .i64 nc,.int .i64 nd] 58):w.cell? ⟨vb,0,none⟩=some (.slice cao ps.length ccap)/\w.cell? ⟨vb,1,none⟩=some (.string p.name)/\w.cell? ⟨vb,2,none⟩=some (.int .i64 p.line)/\w.cell? ⟨vb,3,none⟩=some (.int .i64 p.params)/\w.cell? ⟨vb,4,none⟩=some (.bool p.rest)/\w.cell? ⟨vb,5,none⟩=some (.int .i64 p.regs)/\w.cell? ⟨vb,6,none⟩=some (.slice h.uo p.ups.length h.uc)/\w.cell? ⟨vb,7,none⟩=some (.slice h.co p.consts.length h.cc)/\w.cell? ⟨vb,8,none⟩=some (.slice h.io p.ins.length h.ic)/\w.cell? ⟨vb,9,none⟩=some (.slice h.no p.named.length h.nc)/\w.cell? ⟨nb',0,none⟩=some (.int .i64 op)/\w.cell? ⟨nb',1,none⟩=some (.int .i64 na)/\w.cell? ⟨nb',2,none⟩=some (.int .i64 nb)/\w.cell? ⟨nb',3,none⟩=some (.int .i64 nc)/\w.cell? ⟨nb',4,none⟩=some (.int .i64 nd):=
 ⟨H.blk.cell 0,H.blk.cell 1,H.blk.cell 2,H.blk.cell 3,H.blk.cell 4,H.blk.cell 5,H.blk.cell 6,H.blk.cell 7,H.blk.cell 8,H.blk.cell 9,N.cell 0,N.cell 1,N.cell 2,N.cell 3,N.cell 4⟩
theorem Jp (w:World) (B e:Nat):w.ownsRow B e 1 (.slice none 0 0) 0 (Bj []):=⟨by simp[Bj],.inl ⟨rfl,rfl⟩⟩
theorem A72 (w0:World) (B L vb sb db:Nat) (cao:Option Addr) (ccap:Nat) (ps:List Pd) (p:Pd) (h:Ph) (c:Cf) (l:Nat) (w:World) (i:Nat) (n:Nd) (s:St)
  (X:Ux w0 B L vb sb db ps p h) (H0:Cw L vb sb db cao ccap ps p h w c l) (hl:l<=p.ins.length) (hL:L<=w.heap.size) (hb0:Below w0.heap.size w0 w) (hok:Kb p c) (hi:p.ins[i]?=some n) (hs:c.st i=some s) (hv:Az 0 w0 cao ps) (hu:∀u∈Du ps n,u.loc=true->0<=u.idx/\u.idx<p.regs) (hul:(Du ps n).length<=1048576) :
  Calls prog 261 #[.pointer (some ⟨vb,0,none⟩),.int .i64 i] w (Ky B L vb sb db cao ccap ps p h w (Es ps n i s c)):=by
 have hNF:=X.fit.fit i n hi;have hso:=hok.ok i s hs;have hil:i<p.ins.length:=(yD.1 hi).1;have hsx:c.sts[i]?=some (some s):=by
  have hl2:i<c.sts.length:=by rw[hok.lenS];exact hil
  have:=hs;unfold Cf.st at this;rw[yR,yV hl2]at this;rw[yV hl2];simpa using this
 have hBw:B<=w.heap.size:=yI X.hBL hL;obtain⟨op,na,nb,nc,nd⟩:=n;have hoplo:=hNF.lo;have hophi:=hNF.hi;dsimp only at hoplo hophi;obtain⟨opN,hopn⟩:=yN (show 0<=op by omega);obtain⟨r0,r1,r2,r3,hfo,g0,g1,g2,g3⟩:=Ic (show opN<=42 by omega);have hfit:=hNF.fit;dsimp only at hfit;rw[hopn,Int.toNat_natCast,←Iq opN (by omega) (by omega),hfo]at hfit;simp only[List.map_cons,List.map_nil,Nd.fs,Em,yY]at hfit;obtain⟨f0,f1,f2,f3,_⟩:=hfit;have hfl:=fun W hF=>Mw cao ccap ps.length p h ⟨op,na,nb,nc,nd⟩ opN r0 r1 r2 r3 W hopn (by omega) hfo g0 g1 g2 g3 X.few X.hpl X.fit.regs hF;obtain⟨t0,v0,e0⟩:=Bc ps.length p r0 na;obtain⟨t1',v1,e1⟩:=Bc ps.length p r1 nb;obtain⟨t2,v2,e2⟩:=Bc ps.length p r2 nc;obtain⟨t3,v3,e3⟩:=Bc ps.length p r3 nd;dsimp only at hfl;rw[e0,e1,e2,e3]at hfl;unfold Pd.cells Nd.val at hfl;have BR:=Ak (yA w.heap.size w) (.cells #[.int .i64 0,.int .i64 0,.int .i64 0] 155);have HR:=H0.below BR;have R0:=Blk.new w #[.int .i64 0,.int .i64 0,.int .i64 0] 155;go_in;refine wk fun K0 HK0=>?_;go_wp2;refine HK0.out _ _ ?_;clear HK0;generalize w.alloc (.cells #[.int .i64 0,.int .i64 0,.int .i64 0] 155)=wR at *;obtain⟨ib,iof,hio,_,hibl,q0,q1,q2,q3,q4⟩:=(X.ins.l (Ad.o (hb0.trans (BR.mono hb0.size)))) i _ hi;obtain⟨ao,ac,ago,agc,z0,z1,z2,RT,RG⟩:=HR.sts.at_ i (some s) hsx;dsimp only[stT,stG,Option.isSome]at z0 z1 z2 RT RG;have v8:=HR.blk.cell 8;simp only[List.getElem?_toArray,List.getElem?_cons_succ,List.getElem?_cons_zero]at v8;rw[hio]at v8;refine wp_seq_k ?_;intro K1 hK1;refine Aag vb sb ib iof i p h op na nb nc nd s ao ago ac agc wR _ _ _ _ _ _ _ _ _ _ _ _ _ _ _ _ _ _ _ _ _ _ _ _ _ _ _ _ _ _ _ _ _ _ _ _ _ _ _ _ _ _ _ _ _ _ _ _ _ _ _ _ _ _ _ _ _ _ _ _ _ _ _ _ _ _ _ _ _ _ _ _ _ _ _ _ _ _ _ _ _ _ _ _ _ _ _ _ _ _ _ _ _ _ _ _ _ _ _ _ ?_ (by omega) HR.blk.lt HR.sts.own.lt hibl v8 (HR.blk.cell 10) q0 q1 q2 q3 q4 z0 z1 z2;intro u10 u11 u12 u13 u14 u15 u16 u17 u18 u19 u20 u21 u22 u23 u24 x5 x6 wx hne h5 h6 N5 A6 bx;refine hK1 _ _ ?_;clear hK1;refine wp_seq_k ?_;intro K2 hK2;have Bx:Below w.heap.size w wx:=BR.trans (bx.mono BR.size);refine Aah vb x5 cao ccap ps p h op na nb nc nd t0 t1' t2 t3 v0 v1 v2 v3 wx _ _ _ _ _ _ _ _ _ _ _ _ _ _ _ _ _ _ _ _ _ _ _ _ _ _ _ _ _ _ _ _ _ _ _ _ _ _ _ _ _ _ _ _ _ _ _ _ _ _ _ _ _ _ _ _ _ _ _ _ _ _ _ _ _ _ _ _ _ _ _ _ _ _ _ _ _ _ _ _ _ _ _ _ _ _ _ _ _ _ _ _ _ _ _ _ _ _ _ _ ?_ ?_ ?_
 ·intro y25 y26 y27 y28 y29 y30 y31 y32 y33 y34 x7 wy h7 F7 bY;refine hK2 _ _ ?_;clear hK2;have Bxy:Below wR.heap.size wR wy:=bx.trans (bY.mono bx.size);have By:Below w.heap.size w wy:=BR.trans (Bxy.mono BR.size);have D:A36 w0 B L vb sb db cao ccap ps p h c l i s.types.length op na nb nc nd s ao ago ac agc w.heap.size x5 x6 x7 t0 t1' t2 t3 v0 v1 v2 v3 w wy:=⟨X,H0.below By,hl,hL,hb0.trans (By.mono hb0.size),Off.o By hBw,hok,hi,hso,rfl,R0.l Bxy,N5.l bY,A6.l bY,F7,yB _,RT.l (Ad.o Bxy),RG.l (Ad.o Bxy)⟩;obtain⟨hm2,hmr⟩:=D.m2;have HCL:Hid (∀_:Unit,_):=fun _=>Io ao ac s.types.length s.types wy rfl (by omega) RT.nil (Ay.w D.RT.at_ (yE _)) RT.form;have a6:=D.A.cell;have HD:Hid _:=D;clear D BR HR R0 q0 q1 q2 q3 q4 z0 z1 z2 v8 N5 A6 F7 bx bY Bx Bxy hfl;refine wk fun K3 HK3=>?_;go_wp2_with fail;refine(HCL.out ()).mono ?_;rintro e w8 ⟨vv,rfl,T8,hw8⟩;obtain⟨ro,rc,rfl⟩:=Af T8;clear a6 HCL;go_wp2;refine HK3.out _ _ ?_;have hal:=(yA w8.heap.size w8).alloc (yB _) (.cells #[.slice ro s.types.length rc,.slice none 0 0,.slice none 0 0] 406);have RX:Cu wy.heap.size w8.heap.size s.types.length (w8.alloc (.cells #[.slice ro s.types.length rc,.slice none 0 0,.slice none 0 0] 406)) ⟨s.types,[],[]⟩ (.slice ro s.types.length rc) (.slice none 0 0) (.slice none 0 0):=
   ⟨Blk.new w8 #[.slice ro s.types.length rc,.slice none 0 0,.slice none 0 0] 406,hw8.size,T8.alloc _,Jp _ _ _,Jp _ _ _,fun e=>by have:=(T8.lt _ e).2;omega,(by simp[Value.ownBlock]),(by simp[Value.ownBlock]),(by simp[Value.ownBlock]),(by simp[Value.ownBlock]),(by simp[Value.ownBlock])⟩
  exact Aak w0 B L vb sb db cao ccap ps p h c l i s.types.length op na nb nc nd s ao ago ac agc w.heap.size x5 x6 x7 t0 t1' t2 t3 v0 v1 v2 v3 w wy w8.heap.size r0 r1 r2 r3 opN ro rc _ _ _ _ _ _ _ _ _ _ _ _ _ _ _ _ _ _ _ _ _ _ _ _ _ _ _ _ _ _ _ _ _ _ _ _ _ _ _ _ _ _ _ _ _ _ _ _ _ _ _ _ _ _ _ _ _ _ _ _ _ _ _ _ _ _ _ _ _ _ _ _ _ _ _ _ _ _ _ _ _ _ _ _ _ _ _ _ _ _ _ _ _ _ _ _ _ _ (fun a' w' hb=>hb) HD.out (hw8.trans (hal.mono hw8.size)) RX (by rw[hopn];rfl) hfo hv hu hul e0 g0 f0 e1 g1 f1 e2 g2 f2 e3 g3 f3
 ·intro W2 hb2;have hbw:=Bx.trans (hb2.mono Bx.size);exact(hfl W2 (X.forms.l (hb0.trans (hbw.mono hb0.size)))).mono fun e w' hh=>⟨hh.1,hb2.trans (hh.2.mono hb2.size),hh.2⟩
 ·intro W2 hb2;have hbw:=Bx.trans (hb2.mono Bx.size);exact A7e (H0.below hbw) (N5.l hb2)
theorem Yx (w:World) (n:Nat):Blk (w.alloc (.cells (madeCells #[.int .i64 0] n) 3)) w.heap.size (G7 (List.replicate n 0)) 3:=by
 have h:madeCells #[.int .i64 0] n=G7 (List.replicate n 0):=by apply Array.toList_inj.1;rw[toList_madeCells_one];simp[G7,zs,Bj]
 rw[h];exact Blk.new _ _ _
theorem Zn (N:Nat):Iz N (fun v=>decide (v∈([]:List Nat)))=List.replicate N false:=by
 apply List.ext_getElem?;intro j;unfold Iz;by_cases hj:j<N
 ·simp[hj]
 ·simp[hj]
theorem Ni (N gb lo:Nat) (F:Nat->List Nat) (w:World) (hN:N<=6000) (S:Pn lo w gb N fun j=>zs (F j)) (hF:∀j,j<N->(F j).length<=2/\∀z∈F j,z<N) :
  Calls prog 262 #[.slice (some ⟨gb,0,none⟩) N N] w fun e w'=>(∃m:Nat,Ik (fun x y=>y∈F x) N m/\e=.returned (.int .i64 (if m=N then -1 else (m:Int))))/\Below w.heap.size w w':=by
 have hmb:=Ca (P:=prog) 242 4 _ 1 1 underlying242 Tryz.info_bool .i64 .i64 N (by omega) (by omega);have hmi:=Ca (P:=prog) 64 3 _ 1 8 underlying64 Tryz.info_int .i64 .i64 N (by omega) (by omega);simp only[Nat.mul_one]at hmb hmi;have HS:Hid _:=S;have HF:Hid _:=hF;clear S hF;go_in;go_wp2_with fail;go_cut [3] from 5 (fun v3 wx=>∃cb ob qb:Nat,v3=.pointer (some ⟨cb,0,none⟩)/\Hid (A34 w.heap.size cb ob qb)/\Hid (Kv w.heap.size cb gb ob qb N wx ⟨0,List.replicate N 0,[],N⟩ (.slice none 0 0))/\Hid (Below w.heap.size w wx)/\Hid (w.heap.size+3<=wx.heap.size));case first=>
  go_region_held3 (fun _=>True) (trivial) (fail)
  ·go_wp2;go_meet;case rel=>
    refine⟨w.heap.size+1+1,w.heap.size,w.heap.size+1,rfl,⟨by omega,by omega,by omega,by omega,by omega,by omega,by omega,by omega,by omega⟩,⟨?_,?_,?_,Jp _ _ _⟩,?_,?_⟩
    ·have:=Blk.new ((w.alloc (.cells (madeCells #[.int .i64 0] N) 3)).alloc (.cells (madeCells #[.bool false] N) 4)) #[.slice (some ⟨gb,0,none⟩) N N,.int .i64 0,.slice (some ⟨w.heap.size,0,none⟩) N N,.slice none 0 0,.slice (some ⟨w.heap.size+1,0,none⟩) N N,.int .i64 N] 417;simp only[nblk_alloc]at this;exact this
    ·exact((Yx w N).alloc _).alloc _
    ·rw[Zn];have:=(Jn (w.alloc (.cells (madeCells #[.int .i64 0] N) 3)) N).alloc (.cells #[.slice (some ⟨gb,0,none⟩) N N,.int .i64 0,.slice (some ⟨w.heap.size,0,none⟩) N N,.slice none 0 0,.slice (some ⟨w.heap.size+1,0,none⟩) N N,.int .i64 N] 417);simp only[nblk_alloc]at this;exact this
    ·exact(Ak (Ak (Ak (yA _ _) _) _) _).drew
    ·show _<=_;simp
  ·go_wp2;go_meet;case rel=>
    refine⟨w.heap.size+1+1,w.heap.size+1,w.heap.size,rfl,⟨by omega,by omega,by omega,by omega,by omega,by omega,by omega,by omega,by omega⟩,⟨?_,?_,?_,Jp _ _ _⟩,?_,?_⟩
    ·have:=Blk.new ((w.alloc (.cells (madeCells #[.bool false] N) 4)).alloc (.cells (madeCells #[.int .i64 0] N) 3)) #[.slice (some ⟨gb,0,none⟩) N N,.int .i64 0,.slice (some ⟨w.heap.size+1,0,none⟩) N N,.slice none 0 0,.slice (some ⟨w.heap.size,0,none⟩) N N,.int .i64 N] 417;simp only[nblk_alloc]at this;exact this
    ·have:=(Yx (w.alloc (.cells (madeCells #[.bool false] N) 4)) N).alloc (.cells #[.slice (some ⟨gb,0,none⟩) N N,.int .i64 0,.slice (some ⟨w.heap.size+1,0,none⟩) N N,.slice none 0 0,.slice (some ⟨w.heap.size,0,none⟩) N N,.int .i64 N] 417);simp only[nblk_alloc]at this;exact this
    ·rw[Zn];exact((Jn w N).alloc _).alloc _
    ·exact(Ak (Ak (Ak (yA _ _) _) _) _).drew
    ·show _<=_;simp
 case rest=>
  obtain⟨cb,ob,qb,rfl,HI,HC,HB,HS3⟩:=hcut;clear hmb hmi;go_wp2_with fail;have HJ0:Hid (Jt (fun x y=>y∈F x) N ⟨0,List.replicate N 0,[],N⟩ fun _=>False):=A5u _ _;have HU0:Hid ((0:Nat)+unv (List.replicate N 0)<=N):=by show _<=_;unfold unv;exact yI (by rw[yM];exact List.length_filter_le _ _) (by simp)
  go_loopg [18] (N+1) (fun g y wr=>∃(k:Nat) (T:Tj) (vp:Value),k<=N/\y=.int .i64 k/\Hid (Jt (fun x y=>y∈F x) N T fun _=>False)/\Hid (Kv w.heap.size cb gb ob qb N wr T vp)/\Hid (T.count+unv T.order<=N)/\Hid (∀j,j<k->T.ord j≠0)/\Hid (Below w.heap.size w wr)/\Hid (w.heap.size+3<=wr.heap.size)/\Hid (N+1-k<=g));case atStart=>exact⟨0,⟨0,List.replicate N 0,[],N⟩,_,yE _,rfl,HJ0.out,HC.out,HU0.out,fun j hj=>absurd hj (Nat.not_lt_zero _),HB.out,HS3.out,yB _⟩
  case round=>
   obtain⟨k,T,vp,hk,rfl,HJ,HCk,HU,HSN,HBk,HSk,HG⟩:=hrel;clear HC HB HS3 HJ0 HU0;have hck:=HCk.out.blk.cell;by_cases hkl:k<N
   ·have ock:=(HCk.out.order.cell k).trans (Iw (by rw[HJ.out.lenO];exact hkl));have HG2:Hid (N+1-(k+1)<=gk-1/\gk-1<gk):=by have:=HG.out;show _/\_;omega
    have kk:(k:Int)<N:=by omega
    clear HG;by_cases hok:T.order.getD k 0=0
    ·rw[hok]at ock;have HOK:Hid (T.ord k=0):=hok;have HVI:Hid (∀_:Unit,_):=fun _=>A4y w.heap.size cb gb ob qb N lo F w HI.out hN rfl HS.out HF.out (unv T.order) T (fun _=>False) k vp wr (yB _) HU.out HCk.out HBk.out HSk.out HJ.out (fun x hx=>by rw[Zq HJ.out]at hx;simp at hx) hkl HOK.out;clear hok;go_wp2_with fail;refine(HVI.out ()).mono ?_;rintro e w6 ⟨T6,v6,l6,rfl,C6,V6,hcu6,hb6⟩;have HJ6:Hid (Jt (fun x y=>y∈F x) N T6 fun _=>False):=V6.j;have HC6:Hid (Kv w.heap.size cb gb ob qb N w6 T6 v6):=C6;have HU6:Hid (T6.count+unv T6.order<=N):=hcu6;have HSN6:Hid (∀j,j<k+1->T6.ord j≠0):=by
      intro j hj;by_cases hjk:j=k
      ·rw[hjk];exact V6.seen
      ·have h1:=HSN.out j (by omega);rw[V6.same j h1];exact h1
     have HB6:Hid (Below w.heap.size w w6):=HBk.out.trans hb6;have HS6:Hid (w.heap.size+3<=w6.heap.size):=yI HSk.out hb6.size;clear C6 V6 hcu6 hb6 HVI HJ HCk HU HSN HBk HSk hck ock;go_wp2;go_roundg (gk-1);case measure=>exact HG2.out.2
     case rel=>exact⟨k+1,T6,v6,by omega,by go_num,HJ6.out,HC6.out,HU6.out,HSN6.out,HB6.out,HS6.out,HG2.out.1⟩
    ·obtain⟨o2,ho2⟩:∃x,x=T.order.getD k 0:=⟨_,rfl⟩;have e0:((o2:Int)==0)=false:=by rw[ho2];simpa using hok
     rw[←ho2]at ock;have HSN6:Hid (∀j,j<k+1->T.ord j≠0):=by
      intro j hj;by_cases hjk:j=k
      ·rw[hjk];exact hok
      ·exact HSN.out j (by omega)
     clear hok ho2 HSN;go_wp2;go_roundg (gk-1);case measure=>exact HG2.out.2
     case rel=>exact⟨k+1,T,vp,by omega,by go_num,HJ.out,HCk.out,HU.out,HSN6.out,HBk.out,HSk.out,HG2.out.1⟩
   ·obtain rfl:k=N:=by omega
    have kk:¬(k:Int)<k:=by omega
    have HLC:Hid (Ik (fun x y=>y∈F x) k T.least):=A5w HJ.out HSN.out;clear HG HSN HJ;by_cases hl:T.least=k
    ·have e0:((T.least:Int)==(k:Int))=true:=by simp[hl]
     have HLL:Hid _:=hl;clear hl;go_wp2;go_ret;exact⟨⟨T.least,HLC.out,by rw[if_pos HLL.out];rfl⟩,HBk.out⟩
    ·have e0:((T.least:Int)==(k:Int))=false:=by simp;omega
     have HLL:Hid _:=hl;clear hl;go_wp2;go_ret;exact⟨⟨T.least,HLC.out,by rw[if_neg HLL.out];rfl⟩,HBk.out⟩
def Hm (p:Pd) (c:Cf) (j:Nat):List Nat:=match p.ins[j]?,c.st j with|some n,some _=>Xb n j|_,_=>[]
theorem Tryz.info_ints:(prog.info? 64).map (fun i=>(i.zero,i.size,i.bytes))=some (some (.slice none 0 0),1,24):=by kernel_rfl
structure Hl (gb N k:Nat) (wr W:World) (nb:Array Value) (v:Value) (e:List Int):Prop where
 blk:∀b,b≠gb->b<wr.heap.size->W.heap[b]?=wr.heap[b]?
 oth:∀j,j≠k->W.cell? ⟨gb,j,none⟩=wr.cell? ⟨gb,j,none⟩
 cur:W.cell? ⟨gb,k,none⟩=some v
 own:Own W gb 64 N
 row:W.ownsRow (wr.heap.size+1) 3 1 v e.length (Bj e)
 ins:Blk W wr.heap.size nb 58
 size:wr.heap.size<W.heap.size
 kN:k<N
theorem Hl.l{W':World} (h:Hl gb N k wr W nb v e) (hb:Below W.heap.size W W'):Hl gb N k wr W' nb v e:=
 ⟨fun b h1 h2=>(hb.block b (Nat.lt_trans h2 h.size)).trans (h.blk b h1 h2),fun j hj=>(hb.cell (p:=⟨gb,j,none⟩) h.own.lt).trans (h.oth j hj),(hb.cell (p:=⟨gb,k,none⟩) h.own.lt).trans h.cur,h.own.l hb,Ab h.row hb,h.ins.l hb,yF h.size hb.size,h.kN⟩
theorem Hl.app{w2:World}{v':Value} (h:Hl gb N k wr W nb v e) (h1:w2.ownsRow (wr.heap.size+1) 3 1 v' (e.length+1) (Bj (e++[x]))) (h2:(W.alloc o).grownBy w2 v.ownBlock) (hg:gb<wr.heap.size) :
  Hl gb N k wr (w2.setCell ⟨gb,k,none⟩ v') nb v' (e++[x])/\w2.cell? ⟨gb,k,none⟩=some v/\w2.frozen? ⟨gb,k,none⟩=false/\Below gb W (w2.setCell ⟨gb,k,none⟩ v'):=by
 have hv:∀b,b<wr.heap.size+1->some b≠v.ownBlock:=fun b hb e=>by have:=(h.row.lt b e.symm).1;omega
 have hbk:∀b,b<wr.heap.size+1->w2.heap[b]?=W.heap[b]?:=fun b hb=>(h2.block b (by simp;have:=h.size;omega) (hv b hb)).trans (blk_alloc_lt _ _ _ (by have:=h.size;omega));have hgb2:=hbk gb (by omega);have ho2:Own w2 gb 64 N:=h.own.of_block hgb2;have hc2:∀j,w2.cell? ⟨gb,j,none⟩=W.cell? ⟨gb,j,none⟩:=fun j=>yX (w:=W) (a:=⟨gb,j,none⟩) hgb2;have hs2:W.heap.size<=w2.heap.size:=yI (by simp) h2.size;refine⟨⟨?_,?_,Gw ho2 h.kN,ho2.set k v',?_,?_,?_,h.kN⟩,(hc2 k).trans h.cur,ho2.frozen k,?_⟩
 ·intro b hb hl;exact(yL _ _ _ _ hb).trans ((hbk b (by omega)).trans (h.blk b hb hl))
 ·intro j hj;rw[Br (fun e=>hj e.symm)];exact(hc2 j).trans (h.oth j hj)
 ·rw[List.length_append];exact Ae h1 (fun b hb=>yL _ _ _ _ (by have:=(h1.lt b hb).1;dsimp only;omega))
 ·exact(yL _ _ _ _ (by dsimp only;omega)).trans ((hbk _ (by omega)).trans h.ins)
 ·rw[Gm];exact yF h.size hs2
 ·exact(((yA gb W).alloc (by have:=h.size;omega) o).grown h2 (by simp;have:=h.size;omega) (fun b hb=>by have:=(h.row.lt b hb).1;omega)).setCell (by dsimp only;exact yB _) _
def Gq (p:Pd) (c:Cf) (k j:Nat):List Int:=if j<k then zs (Hm p c j) else []
theorem Hw (h:Pn (gb+1) wr gb N (Gq p c k)) (hk:k<N) (s:Hl gb N k wr W nb v e) (he:zs (Hm p c k)=e):Pn (gb+1) W gb N (Gq p c (k+1)):=by
 refine⟨s.own,fun j hj=>?_⟩;have _:=hk;by_cases hjk:j=k
 ·subst hjk;have e1:Gq p c (j+1) j=e:=by unfold Gq;rw[if_pos (by omega)];exact he
  rw[e1];obtain⟨ao,cap,hv⟩:=Af s.row;have hr:=s.row;have hc:=s.cur;rw[hv]at hr hc;exact⟨ao,cap,hc,Ay.w (K8 hr).1 (by have:=h.own.lt;omega)⟩
 ·have e1:Gq p c (k+1) j=Gq p c k j:=by
   unfold Gq;by_cases h1:j<k
   ·rw[if_pos h1,if_pos (by omega)]
   ·rw[if_neg h1,if_neg (by omega)]
  rw[e1];obtain⟨ao,cap,hc,hr⟩:=h.at_ j hj;refine⟨ao,cap,(s.oth j hjk).trans hc,fun i x hx=>?_⟩;obtain⟨b,off,e2,h1,h2,h3⟩:=hr i x hx;exact⟨b,off,e2,h1,Nat.lt_trans h2 s.size,(yX (w:=wr) (a:=⟨b,off+i*1,none⟩) (s.blk b (by omega) h2)).trans h3⟩
theorem Qb (w0:World) (B L vb sb db:Nat) (cao:Option Addr) (ccap:Nat) (ps:List Pd) (p:Pd) (h:Ph) (c:Cf) (l:Nat) (w:World) (X:Ux w0 B L vb sb db ps p h) (H0:Cw L vb sb db cao ccap ps p h w c l) (hb0:Below w0.heap.size w0 w) :
  Calls prog 263 #[.pointer (some ⟨vb,0,none⟩)] w fun e w'=>(∃gb,e=.returned (.slice (some ⟨gb,0,none⟩) p.ins.length p.ins.length)/\Pn (gb+1) w' gb p.ins.length fun j=>zs (Hm p c j))/\Below w.heap.size w w':=by
 have hz:=X.hz;have hmk:=Ca (P:=prog) 347 64 _ 1 24 underlying347 Tryz.info_ints .i64 .i64 p.ins.length (by omega) (by omega);simp only[Nat.mul_one]at hmk;have A0:=Ak (yA w.heap.size w) (.cells (madeCells #[.slice none 0 0] p.ins.length) 64);have S0:Pn (w.heap.size+1) (w.alloc (.cells (madeCells #[.slice none 0 0] p.ins.length) 64)) w.heap.size p.ins.length (Gq p c 0):=by refine⟨Own.made w #[.slice none 0 0] p.ins.length 64,fun j hj=>⟨none,0,?_,fun i x hx=>by simp[Gq]at hx⟩⟩;have hb:=blk_alloc_new w (.cells (madeCells #[.slice none 0 0] p.ins.length) 64);have:=Ot (z:=#[.slice none 0 0]) (n:=p.ins.length) (j:=j) (i:=0) (by simp) (by simp;omega);simp only[World.cell?,hb];simpa[Gq]using this
 obtain⟨nz,hnz⟩:=Ah X.fit.some;obtain⟨ib,iof,hio,_⟩:=X.ins 0 nz hnz;have v0:=H0.blk.cell 8;have v1:=(H0.below A0).blk.cell 8;simp only[List.getElem?_toArray,List.getElem?_cons_succ,List.getElem?_cons_zero]at v0 v1;rw[hio]at v0 v1;have Z0:∀j,0<=j->j<p.ins.length->(w.alloc (.cells (madeCells #[.slice none 0 0] p.ins.length) 64)).cell? ⟨w.heap.size,j,none⟩=some (.slice none 0 0):=by intro j _ hj;have hb:=blk_alloc_new w (.cells (madeCells #[.slice none 0 0] p.ins.length) 64);have:=Ot (z:=#[.slice none 0 0]) (n:=p.ins.length) (j:=j) (i:=0) (by simp) (by simp;omega);simp only[World.cell?,hb];simpa using this
 have HIO:Hid (h.io=some ⟨ib,iof,none⟩):=hio;clear hio hnz;go_in;go_wp2_with fail;clear hmk v0 v1;generalize w.alloc (.cells (madeCells #[.slice none 0 0] p.ins.length) 64)=w1 at *;go_loopg [20] (p.ins.length+1) (fun g y wr=>∃k:Nat,k<=p.ins.length/\y=.int .i64 k/\Hid (Pn (w.heap.size+1) wr w.heap.size p.ins.length (Gq p c k))/\Hid (∀j,k<=j->j<p.ins.length->wr.cell? ⟨w.heap.size,j,none⟩=some (.slice none 0 0))/\Hid (Below w.heap.size w wr)/\Hid (p.ins.length+1-k<=g));case atStart=>exact⟨0,yE _,rfl,S0,Z0,A0,yB _⟩
 case round=>
  obtain⟨k,hk,rfl,HS,HZ,HB,HG⟩:=hrel;clear S0 A0 Z0;by_cases hkl:k<p.ins.length
  ·obtain⟨n,hn⟩:=Ah hkl;have HNF:Hid (El ps.length p n):=X.fit.fit k n hn;obtain⟨ib',iof',hio',_,hibl,q0,q1,q2,q3,q4⟩:=(X.ins.l (Ad.o (hb0.trans (HB.out.mono hb0.size)))) k n hn;rw[HIO.out]at hio';obtain⟨rfl,rfl⟩:ib=ib'/\iof=iof':=by simpa using hio'
   have HSR:Hid (Hm p c k=match c.st k with|some _=>Xb n k|none=>[]):=by show _=_;unfold Hm;rw[hn];cases c.st k<;>rfl
   obtain⟨op,na,nb,nc,nd⟩:=n;dsimp only at q0 q1 q2 q3 q4;have HG2:Hid (p.ins.length+1-(k+1)<=gk-1/\gk-1<gk):=by have:=HG.out;show _/\_;omega
   have hgr:w.heap.size<wr.heap.size:=HS.out.own.lt;have AW:=Ak (yA wr.heap.size wr) (.cells #[.int .i64 op,.int .i64 na,.int .i64 nb,.int .i64 nc,.int .i64 nd] 58);have HB1:Hid (Below w.heap.size w (wr.alloc (.cells #[.int .i64 op,.int .i64 na,.int .i64 nb,.int .i64 nc,.int .i64 nd] 58))):=HB.out.trans (AW.mono HB.out.size);have S1:Hl w.heap.size p.ins.length k wr (wr.alloc (.cells #[.int .i64 op,.int .i64 na,.int .i64 nb,.int .i64 nc,.int .i64 nd] 58)) #[.int .i64 op,.int .i64 na,.int .i64 nb,.int .i64 nc,.int .i64 nd] (.slice none 0 0) ([]:List Int):=
    ⟨fun b _ hl=>AW.block b hl,fun j _=>AW.cell (p:=⟨w.heap.size,j,none⟩) hgr,(AW.cell (p:=⟨w.heap.size,k,none⟩) hgr).trans (HZ.out k (yB _) hkl),HS.out.own.l AW,Jp _ _ _,Blk.new wr #[.int .i64 op,.int .i64 na,.int .i64 nb,.int .i64 nc,.int .i64 nd] 58,by simp,hkl⟩
   have HH1:=H0.below HB1.out;have u10:=HH1.blk.cell 10;obtain⟨o,ho⟩:=Ah (show k<c.sts.length by rw[H0.lenS];exact hkl);have HO:Hid (c.st k=o):=by show _=_;unfold Cf.st;rw[yR,ho];rfl
   obtain⟨_,_,_,_,z0,_,_,_,_⟩:=HH1.sts.at_ k o ho;have kk:(k:Int)<p.ins.length:=by omega
   have k6:(k:Int)<6000:=by omega
   have HS1:Hid (Hl w.heap.size p.ins.length k wr (wr.alloc (.cells #[.int .i64 op,.int .i64 na,.int .i64 nb,.int .i64 nc,.int .i64 nd] 58)) #[.int .i64 op,.int .i64 na,.int .i64 nb,.int .i64 nc,.int .i64 nd] (.slice none 0 0) ([]:List Int)):=S1;clear hn hio' ho HH1 HG AW S1;cases o with
   | none=>
    have HRD:Hid (zs (Hm p c k)=([]:List Int)):=by show _=_;rw[HSR.out,HO.out];rfl
    go_wp2;go_roundg (gk-1);case measure=>exact HG2.out.2
    case rel=>exact⟨k+1,by omega,by go_num,Hw HS.out hkl HS1.out HRD.out,fun j h1 h2=>((HS1.out).oth j (by omega)).trans (HZ.out j (by omega) h2),HB1.out,HG2.out.1⟩
   | some st=>
    have HSR2:Hid (Hm p c k=Xb ⟨op,na,nb,nc,nd⟩ k):=by show _=_;rw[HSR.out,HO.out]
    have HTI:Hid (∀W,Kw 328 #[.agg #[.int .i64 op,.int .i64 na,.int .i64 nb,.int .i64 nc,.int .i64 nd]] W (.bool (Oz ⟨op,na,nb,nc,nd⟩))):=fun W=>A4u ⟨op,na,nb,nc,nd⟩ W;have HHN:Hid (∀W,Kw 312 #[.agg #[.int .i64 op,.int .i64 na,.int .i64 nb,.int .i64 nc,.int .i64 nd]] W (.bool (Ea ⟨op,na,nb,nc,nd⟩))):=fun W=>Jk ⟨op,na,nb,nc,nd⟩ W;clear HSR HO;dsimp only[Option.isSome]at z0;go_wp2_with fail;refine(HTI.out _).mono ?_;rintro e w2 ⟨rfl,hw2⟩;have S2:=HS1.out.l hw2;have HB2:Hid (Below w.heap.size w w2):=HB1.out.trans (hw2.mono HB1.out.size);clear HTI u10 z0 q0 q1 q2 q3 q4 hibl HS1 HB1 hw2;cases hti:Oz ⟨op,na,nb,nc,nd⟩
    ·have n2:=S2.ins.cell;have HS2:Hid (Hl w.heap.size p.ins.length k wr w2 #[.int .i64 op,.int .i64 na,.int .i64 nb,.int .i64 nc,.int .i64 nd] (.slice none 0 0) ([]:List Int)):=S2;go_wp2_with fail;refine(HHN.out _).mono ?_;rintro e w3 ⟨rfl,hw3⟩;have S3:=HS2.out.l hw3;have HB3:Hid (Below w.heap.size w w3):=HB2.out.trans (hw3.mono HB2.out.size);clear n2 HHN hw3 S2 HS2 HB2;by_cases hnx:Ea ⟨op,na,nb,nc,nd⟩=true/\op≠41
     ·have HRW:Hid (zs (Hm p c k)=([]++[((k:Int)+1:Int)])++zs ((Jw ⟨op,na,nb,nc,nd⟩).toList)):=by show _=_;rw[HSR2.out];unfold Xb;rw[hti];simp[hnx.1,hnx.2,zs]
      have e41:(op !=41)=true:=by simpa using hnx.2
      rw[hnx.1];have n3:=S3.ins.cell;clear hnx hti;have HSa:Hid (Hl w.heap.size p.ins.length k wr w3 #[.int .i64 op,.int .i64 na,.int .i64 nb,.int .i64 nc,.int .i64 nd] (.slice none 0 0) ([]:List Int)):=S3;have cu:=HSa.out.cur;have cf:=HSa.out.own.frozen k;have hsw:=HSa.out.size;have hgw:=HSa.out.own.lt;go_wp2_with (at_builtin;refine Il rfl _ _ rfl (wr.heap.size+1) _ ([]:List Int).length ([]:List Int) (((k:Int)+1)) _ rfl (HSa.out.row.alloc _) rfl ?c1 (by simp) ?c3 ?_);case c1=>exact(Blk.new w3 #[.int .i64 (((k:Int)+1))] 3).cell 0
      case c3=>exact yI HSa.out.size (by simp)
      intro v' w' H1 H2 _;have H1b:w'.ownsRow (wr.heap.size+1) 3 1 v' 1 (Bj (([]:List Int)++[(((k:Int)+1):Int)])):=H1;obtain⟨vo',vc',rfl⟩:=Af H1b;obtain⟨HSb,cu',cf',hbb⟩:=HSa.out.app H1 H2 hgr;have HSb2:Hid (Hl w.heap.size p.ins.length k wr (w'.setCell ⟨w.heap.size,k,none⟩ (.slice vo' 1 vc')) #[.int .i64 op,.int .i64 na,.int .i64 nb,.int .i64 nc,.int .i64 nd] (.slice vo' 1 vc') (([]:List Int)++[(((k:Int)+1):Int)])):=HSb;have HBb:Hid (Below w.heap.size w (w'.setCell ⟨w.heap.size,k,none⟩ (.slice vo' 1 vc'))):=HB3.out.trans hbb;clear HSb hbb H1 H1b H2 cu cf HSa;have HGA:Hid (∀_:Unit,_):=fun _=>Fe ps.length p ⟨op,na,nb,nc,nd⟩ (w'.setCell ⟨w.heap.size,k,none⟩ (.slice vo' 1 vc')) HNF.out (X.forms.l (hb0.trans ((HBb.out).mono hb0.size)));unfold Nd.val at HGA;have n8:=(HSb2.out).ins.cell;go_wp2_with fail;refine(HGA.out ()).mono ?_;rintro e w8 ⟨rfl,hw8⟩;have S8:=(HSb2.out).l hw8;have HB8:Hid (Below w.heap.size w w8):=(HBb.out).trans (hw8.mono (HBb.out).size);clear n8 HGA hw8;cases htg:Jw ⟨op,na,nb,nc,nd⟩ with
      | none=>
       have HTV:Hid (tgV ⟨op,na,nb,nc,nd⟩ = -1):=by show _=_;unfold tgV;rw[htg]
       rw[HTV.out];have HS8:Hid (Hl w.heap.size p.ins.length k wr w8 #[.int .i64 op,.int .i64 na,.int .i64 nb,.int .i64 nc,.int .i64 nd] (.slice vo' 1 vc') ([]++[((k:Int)+1:Int)])):=S8;have HRD:Hid (zs (Hm p c k)=([]++[((k:Int)+1:Int)])):=by have:=HRW.out;rw[htg]at this;show _=_;rw[this];simp[zs]
       clear htg HTV S8;go_wp2;go_roundg (gk-1);case measure=>exact HG2.out.2
       case rel=>exact⟨k+1,by omega,by go_num,Hw HS.out hkl HS8.out HRD.out,fun j h1 h2=>((HS8.out).oth j (by omega)).trans (HZ.out j (by omega) h2),HB8.out,HG2.out.1⟩
      | some t=>
       have HTV:Hid (tgV ⟨op,na,nb,nc,nd⟩=(t:Int)):=by show _=_;unfold tgV;rw[htg]
       rw[HTV.out];have HRD:Hid (zs (Hm p c k)=([]++[((k:Int)+1:Int)])++[(t:Int)]):=by have:=HRW.out;rw[htg]at this;show _=_;rw[this];simp[zs]
       have kt:(0:Int)<=t:=by omega
       clear htg HTV;have HSa:Hid (Hl w.heap.size p.ins.length k wr w8 #[.int .i64 op,.int .i64 na,.int .i64 nb,.int .i64 nc,.int .i64 nd] (.slice vo' 1 vc') ([]++[((k:Int)+1:Int)])):=S8;have cu:=HSa.out.cur;have cf:=HSa.out.own.frozen k;have hsw:=HSa.out.size;have hgw:=HSa.out.own.lt;go_wp2_with (at_builtin;refine Il rfl _ _ rfl (wr.heap.size+1) _ ([]++[((k:Int)+1:Int)]).length ([]++[((k:Int)+1:Int)]) ((t:Int)) _ rfl (HSa.out.row.alloc _) rfl ?c1 (by simp) ?c3 ?_);case c1=>exact(Blk.new w8 #[.int .i64 ((t:Int))] 3).cell 0
       case c3=>exact yI HSa.out.size (by simp)
       intro v' w' H1 H2 _;have H1b:w'.ownsRow (wr.heap.size+1) 3 1 v' 2 (Bj (([]++[((k:Int)+1:Int)])++[((t:Int):Int)])):=H1;obtain⟨vo',vc',rfl⟩:=Af H1b;obtain⟨HSb,cu',cf',hbb⟩:=HSa.out.app H1 H2 hgr;have HSb2:Hid (Hl w.heap.size p.ins.length k wr (w'.setCell ⟨w.heap.size,k,none⟩ (.slice vo' 2 vc')) #[.int .i64 op,.int .i64 na,.int .i64 nb,.int .i64 nc,.int .i64 nd] (.slice vo' 2 vc') (([]++[((k:Int)+1:Int)])++[((t:Int):Int)])):=HSb;have HBb:Hid (Below w.heap.size w (w'.setCell ⟨w.heap.size,k,none⟩ (.slice vo' 2 vc'))):=HB8.out.trans hbb;clear HSb hbb H1 H1b H2 cu cf HSa;go_wp2;go_roundg (gk-1);case measure=>exact HG2.out.2
       case rel=>exact⟨k+1,by omega,by go_num,Hw HS.out hkl HSb2.out HRD.out,fun j h1 h2=>((HSb2.out).oth j (by omega)).trans (HZ.out j (by omega) h2),HBb.out,HG2.out.1⟩
     ·have hnf:(Ea ⟨op,na,nb,nc,nd⟩&&op !=41)=false:=by
       rw[Bool.and_eq_false_iff];by_cases h1:Ea ⟨op,na,nb,nc,nd⟩=true
       ·right;have:¬op≠41:=fun h2=>hnx ⟨h1,h2⟩;simpa using this
       ·left;simpa using h1
      have HRW:Hid (zs (Hm p c k)=([]:List Int)++zs ((Jw ⟨op,na,nb,nc,nd⟩).toList)):=by show _=_;rw[HSR2.out];unfold Xb;rw[hti];dsimp only;rw[hnf];rfl
      have n3:=S3.ins.cell;cases hb:Ea ⟨op,na,nb,nc,nd⟩
      ·clear hnx hti hnf hb;have HGA:Hid (∀_:Unit,_):=fun _=>Fe ps.length p ⟨op,na,nb,nc,nd⟩ w3 HNF.out (X.forms.l (hb0.trans ((HB3.out).mono hb0.size)));unfold Nd.val at HGA;have n8:=(S3).ins.cell;go_wp2_with fail;refine(HGA.out ()).mono ?_;rintro e w8 ⟨rfl,hw8⟩;have S8:=(S3).l hw8;have HB8:Hid (Below w.heap.size w w8):=(HB3.out).trans (hw8.mono (HB3.out).size);clear n8 HGA hw8;cases htg:Jw ⟨op,na,nb,nc,nd⟩ with
       | none=>
        have HTV:Hid (tgV ⟨op,na,nb,nc,nd⟩ = -1):=by show _=_;unfold tgV;rw[htg]
        rw[HTV.out];have HS8:Hid (Hl w.heap.size p.ins.length k wr w8 #[.int .i64 op,.int .i64 na,.int .i64 nb,.int .i64 nc,.int .i64 nd] (.slice none 0 0) ([]:List Int)):=S8;have HRD:Hid (zs (Hm p c k)=([]:List Int)):=by have:=HRW.out;rw[htg]at this;show _=_;rw[this];simp[zs]
        clear htg HTV S8;go_wp2;go_roundg (gk-1);case measure=>exact HG2.out.2
        case rel=>exact⟨k+1,by omega,by go_num,Hw HS.out hkl HS8.out HRD.out,fun j h1 h2=>((HS8.out).oth j (by omega)).trans (HZ.out j (by omega) h2),HB8.out,HG2.out.1⟩
       | some t=>
        have HTV:Hid (tgV ⟨op,na,nb,nc,nd⟩=(t:Int)):=by show _=_;unfold tgV;rw[htg]
        rw[HTV.out];have HRD:Hid (zs (Hm p c k)=([]:List Int)++[(t:Int)]):=by have:=HRW.out;rw[htg]at this;show _=_;rw[this];simp[zs]
        have kt:(0:Int)<=t:=by omega
        clear htg HTV;have HSa:Hid (Hl w.heap.size p.ins.length k wr w8 #[.int .i64 op,.int .i64 na,.int .i64 nb,.int .i64 nc,.int .i64 nd] (.slice none 0 0) ([]:List Int)):=S8;have cu:=HSa.out.cur;have cf:=HSa.out.own.frozen k;have hsw:=HSa.out.size;have hgw:=HSa.out.own.lt;go_wp2_with (at_builtin;refine Il rfl _ _ rfl (wr.heap.size+1) _ ([]:List Int).length ([]:List Int) ((t:Int)) _ rfl (HSa.out.row.alloc _) rfl ?c1 (by simp) ?c3 ?_);case c1=>exact(Blk.new w8 #[.int .i64 ((t:Int))] 3).cell 0
        case c3=>exact yI HSa.out.size (by simp)
        intro v' w' H1 H2 _;have H1b:w'.ownsRow (wr.heap.size+1) 3 1 v' 1 (Bj (([]:List Int)++[((t:Int):Int)])):=H1;obtain⟨vo',vc',rfl⟩:=Af H1b;obtain⟨HSb,cu',cf',hbb⟩:=HSa.out.app H1 H2 hgr;have HSb2:Hid (Hl w.heap.size p.ins.length k wr (w'.setCell ⟨w.heap.size,k,none⟩ (.slice vo' 1 vc')) #[.int .i64 op,.int .i64 na,.int .i64 nb,.int .i64 nc,.int .i64 nd] (.slice vo' 1 vc') (([]:List Int)++[((t:Int):Int)])):=HSb;have HBb:Hid (Below w.heap.size w (w'.setCell ⟨w.heap.size,k,none⟩ (.slice vo' 1 vc'))):=HB8.out.trans hbb;clear HSb hbb H1 H1b H2 cu cf HSa;go_wp2;go_roundg (gk-1);case measure=>exact HG2.out.2
        case rel=>exact⟨k+1,by omega,by go_num,Hw HS.out hkl HSb2.out HRD.out,fun j h1 h2=>((HSb2.out).oth j (by omega)).trans (HZ.out j (by omega) h2),HBb.out,HG2.out.1⟩
      ·have e41:(op !=41)=false:=by rw[hb]at hnf;simpa using hnf
       clear hnx hti hnf hb;have HGA:Hid (∀_:Unit,_):=fun _=>Fe ps.length p ⟨op,na,nb,nc,nd⟩ w3 HNF.out (X.forms.l (hb0.trans ((HB3.out).mono hb0.size)));unfold Nd.val at HGA;have n8:=(S3).ins.cell;go_wp2_with fail;refine(HGA.out ()).mono ?_;rintro e w8 ⟨rfl,hw8⟩;have S8:=(S3).l hw8;have HB8:Hid (Below w.heap.size w w8):=(HB3.out).trans (hw8.mono (HB3.out).size);clear n8 HGA hw8;cases htg:Jw ⟨op,na,nb,nc,nd⟩ with
       | none=>
        have HTV:Hid (tgV ⟨op,na,nb,nc,nd⟩ = -1):=by show _=_;unfold tgV;rw[htg]
        rw[HTV.out];have HS8:Hid (Hl w.heap.size p.ins.length k wr w8 #[.int .i64 op,.int .i64 na,.int .i64 nb,.int .i64 nc,.int .i64 nd] (.slice none 0 0) ([]:List Int)):=S8;have HRD:Hid (zs (Hm p c k)=([]:List Int)):=by have:=HRW.out;rw[htg]at this;show _=_;rw[this];simp[zs]
        clear htg HTV S8;go_wp2;go_roundg (gk-1);case measure=>exact HG2.out.2
        case rel=>exact⟨k+1,by omega,by go_num,Hw HS.out hkl HS8.out HRD.out,fun j h1 h2=>((HS8.out).oth j (by omega)).trans (HZ.out j (by omega) h2),HB8.out,HG2.out.1⟩
       | some t=>
        have HTV:Hid (tgV ⟨op,na,nb,nc,nd⟩=(t:Int)):=by show _=_;unfold tgV;rw[htg]
        rw[HTV.out];have HRD:Hid (zs (Hm p c k)=([]:List Int)++[(t:Int)]):=by have:=HRW.out;rw[htg]at this;show _=_;rw[this];simp[zs]
        have kt:(0:Int)<=t:=by omega
        clear htg HTV;have HSa:Hid (Hl w.heap.size p.ins.length k wr w8 #[.int .i64 op,.int .i64 na,.int .i64 nb,.int .i64 nc,.int .i64 nd] (.slice none 0 0) ([]:List Int)):=S8;have cu:=HSa.out.cur;have cf:=HSa.out.own.frozen k;have hsw:=HSa.out.size;have hgw:=HSa.out.own.lt;go_wp2_with (at_builtin;refine Il rfl _ _ rfl (wr.heap.size+1) _ ([]:List Int).length ([]:List Int) ((t:Int)) _ rfl (HSa.out.row.alloc _) rfl ?c1 (by simp) ?c3 ?_);case c1=>exact(Blk.new w8 #[.int .i64 ((t:Int))] 3).cell 0
        case c3=>exact yI HSa.out.size (by simp)
        intro v' w' H1 H2 _;have H1b:w'.ownsRow (wr.heap.size+1) 3 1 v' 1 (Bj (([]:List Int)++[((t:Int):Int)])):=H1;obtain⟨vo',vc',rfl⟩:=Af H1b;obtain⟨HSb,cu',cf',hbb⟩:=HSa.out.app H1 H2 hgr;have HSb2:Hid (Hl w.heap.size p.ins.length k wr (w'.setCell ⟨w.heap.size,k,none⟩ (.slice vo' 1 vc')) #[.int .i64 op,.int .i64 na,.int .i64 nb,.int .i64 nc,.int .i64 nd] (.slice vo' 1 vc') (([]:List Int)++[((t:Int):Int)])):=HSb;have HBb:Hid (Below w.heap.size w (w'.setCell ⟨w.heap.size,k,none⟩ (.slice vo' 1 vc'))):=HB8.out.trans hbb;clear HSb hbb H1 H1b H2 cu cf HSa;go_wp2;go_roundg (gk-1);case measure=>exact HG2.out.2
        case rel=>exact⟨k+1,by omega,by go_num,Hw HS.out hkl HSb2.out HRD.out,fun j h1 h2=>((HSb2.out).oth j (by omega)).trans (HZ.out j (by omega) h2),HBb.out,HG2.out.1⟩
    ·have HRD:Hid (zs (Hm p c k)=([]:List Int)):=by show _=_;rw[HSR2.out];unfold Xb;rw[hti];rfl
     have HS2:Hid (Hl w.heap.size p.ins.length k wr w2 #[.int .i64 op,.int .i64 na,.int .i64 nb,.int .i64 nc,.int .i64 nd] (.slice none 0 0) ([]:List Int)):=S2;clear hti S2;go_wp2;go_roundg (gk-1);case measure=>exact HG2.out.2
     case rel=>exact⟨k+1,by omega,by go_num,Hw HS.out hkl HS2.out HRD.out,fun j h1 h2=>((HS2.out).oth j (by omega)).trans (HZ.out j (by omega) h2),HB2.out,HG2.out.1⟩
  ·obtain rfl:k=p.ins.length:=by omega
   have kk:¬(p.ins.length:Int)<p.ins.length:=by omega
   clear HG;go_wp2;go_ret;refine⟨⟨w.heap.size,rfl,HS.out.own,fun j hj=>?_⟩,HB.out⟩;have:=HS.out.at_ j hj;unfold Gq at this;rw[if_pos hj]at this;exact this
theorem A6y {x y:Nat} : y∈Hm p c x ↔ c.E p x y:=by
 unfold Hm Cf.E Sil;cases hn:p.ins[x]? with
 | none=>simp
 | some n=>
  cases hs:c.st x with
  | none=>simp
  | some s=>
   simp only[Option.isSome_some,true_and];constructor
   ·intro h;exact⟨n,rfl,(A70 n x y).1 h⟩
   ·rintro⟨n',e,h⟩;obtain rfl:=yO e;exact(A70 n x y).2 h
theorem A6z (hp:Uu np p) (j:Nat):(Hm p c j).length<=2/\∀z∈Hm p c j,z<p.ins.length:=by
 refine⟨?_,?_⟩
 ·unfold Hm;split
  ·unfold Xb;split
   ·simp
   ·rename_i n _ _ _ _;rw[List.length_append];have h1:(if (Ea n&&n.op !=41)=true then [j+1] else []).length<=1:=by split<;>simp
    have h2:(Jw n).toList.length<=1:=by cases Jw n<;>simp
    omega
  ·simp
 ·intro z hz;obtain⟨_,n,hn,hy⟩:=A6y.1 hz;exact Aad hp hn hy
theorem Vz {E F:Nat->Nat->Prop} (h:∀a b,E a b ↔ F a b){m:Nat} (hl:Ik E N m):Ik F N m:=by
 have e:E=F:=by funext a b;exact propext (h a b)
 rw[←e];exact hl
noncomputable def pcVe:Code:=Fu [1,1,1,1,1] (Tryz.f194.body.getD .skip)
theorem Aap (w0:World) (B L vb sb db:Nat) (cao:Option Addr) (ccap:Nat) (ps:List Pd) (p:Pd) (h:Ph) (c:Cf) (l pi:Nat) (w W:World) (c0 c2 c3 c4 c6 c8 c9 c10 c11 c12 c13 c14 c15 c16 c17 c18 c19 c20 c21 c22 c23 c24 c25 c26 c27 c28 c29 c30 c31 c32 c33 c34 c35 c36 c37 c38 c39 c40 c41 c42 c43 c44 c45 c46 c47 c48 c49 c50 c51 c52 c53 c54 c55 c56 c57 c58 c59 c60:Value) (Q:Exit->Act->World->Prop) (hq:∀a' w',bodyPost prog Tryz.f194 (Qe w ps p pi) .ret a' w'->Q .ret a' w')
  (X:Ux w0 B L vb sb db ps p h) (H0:Cw L vb sb db cao ccap ps p h W c l) (hb0:Below w0.heap.size w0 W) (hbw:Below w.heap.size w W) (FL:Blk W (w.heap.size+1) #[.int .i64 0,.int .i64 0,.int .i64 0] 155) (hwo:Ej ps p (2*p.ins.length+2) (Ch p)=.ok c) :
  Code.wp prog pcVe Q ⟨List.toArray (c0::.int .i64 pi::c2::c3::c4::.pointer (some ⟨w.heap.size+1,0,none⟩)::c6::.pointer (some ⟨vb,0,none⟩)::c8::c9::c10::c11::c12::c13::c14::c15::c16::c17::c18::c19::c20::c21::c22::c23::c24::c25::c26::c27::c28::c29::c30::c31::c32::c33::c34::c35::c36::c37::c38::c39::c40::c41::c42::c43::c44::c45::c46::c47::c48::c49::c50::c51::c52::c53::c54::c55::c56::c57::c58::c59::c60::[]),[]⟩ W:=by
 conv=>arg 2;whnf
 have HQ:Hid _:=hq;have HSS:Hid (∀_:Unit,_):=fun _=>Qb w0 B L vb sb db cao ccap ps p h c l W X H0 hb0;have HWO:Hid _:=hwo;clear hq hwo;go_wp2_with fail;refine(HSS.out ()).mono ?_;rintro e w1 ⟨⟨gb,rfl,S1⟩,hw1⟩;have HLC:Hid (∀_:Unit,_):=fun _=>Ni p.ins.length gb (gb+1) (Hm p c) w1 X.hz S1 (fun j _=>A6z X.fit j);clear HSS S1;go_wp2_with fail;refine(HLC.out ()).mono ?_;rintro e w2 ⟨⟨m,hm,rfl⟩,hw2⟩;have hb2:Below W.heap.size W w2:=hw1.trans (hw2.mono hw1.size);have HM:Hid (Ik (c.E p) p.ins.length m):=Vz (fun a b=>A6y) hm;have F2:=FL.l hb2;have H2:=H0.below hb2;have f2:=F2.cell;have z2:=F2.frozen;have v2:=H2.blk.cell;have HB2:Hid (Below w.heap.size w w2):=hbw.trans (hb2.mono hbw.size);clear HLC hm hw1 hw2 hb2 FL;by_cases hmN:m=p.ins.length
 ·rw[if_pos hmN];have HVF:Hid (J7 ps p pi=(0,0,0)):=Un HWO.out (by have:=HM.out;rw[hmN]at this;exact this);clear hmN;go_wp2_with fail;refine HQ.out _ _ (bodyPost_ret (v:=.tuple #[.slice (some ⟨sb,0,none⟩) p.ins.length p.ins.length,.agg #[.int .i64 0,.int .i64 0,.int .i64 0]]) ?_ rfl ⟨⟨.slice (some ⟨sb,0,none⟩) p.ins.length p.ins.length,?_⟩,?_⟩)
  ·simp[results,results194,go_sem,f2]
  ·rw[HVF.out];rfl
  ·iterate 3 (refine yP ?_ (by simp) _)
   exact HB2.out
 ·rw[if_neg hmN];have HVF:Hid (J7 ps p pi=(14,(pi:Int),(m:Int))):=A4w HWO.out HM.out (by have:=HM.out.1;omega);have km:(0:Int)<=m:=by omega
  clear hmN;go_wp2_with fail;refine HQ.out _ _ (bodyPost_ret (v:=.tuple #[.slice none 0 0,.agg #[.int .i64 14,.int .i64 pi,.int .i64 m]]) ?_ rfl ⟨⟨.slice none 0 0,?_⟩,?_⟩)
  ·simp[results,results194,go_sem,f2]
  ·rw[HVF.out];rfl
  ·iterate 3 (refine yP ?_ (by simp) _)
   exact HB2.out
theorem A3v (w:World) (n:Nat) (hn:n<=maxLen):(w.alloc (.cells (madeCells #[.int .i64 0] n) 3)).ownsRow w.heap.size 3 1 (.slice (some ⟨w.heap.size,0,none⟩) n n) n (Bj (List.replicate n 0)):=by have h:=World.ownsRow_lit (base:=w.heap.size) (e:=3) (size:=1) w (madeCells #[.int .i64 0] n) n (yB _) hn (by rw[size_madeCells];omega);rw[toList_madeCells_one]at h;simpa[Bj]using h
def Gp (p:Pd) (r:Nat):List Int:=List.replicate r 1++List.replicate (p.regs.toNat-r) 0
theorem A0u (h:r<p.regs.toNat):(Gp p r).set r 1=Gp p (r+1):=by unfold Gp;rw[List.set_append_right _ _ (by simp),show p.regs.toNat-r=(p.regs.toNat-(r+1))+1 by omega,List.replicate_succ (n:=p.regs.toNat-(r+1))];simp only[List.length_replicate,Nat.sub_self,yJ];rw[List.replicate_succ',List.append_assoc];rfl
theorem Qt (h:r<=p.regs.toNat):(Gp p r).length=p.regs.toNat:=by unfold Gp;simp;omega
theorem Qv (p:Pd) (h:Ph) (np:Nat) (w:World) (hp:Uu np p) :
  Calls prog 259 #[.agg (p.cells h)] w fun e w'=>∃v,e=.returned v/\w'.ownsRow w.heap.size 3 1 v (Ev p).length (Bj (Ev p))/\Below w.heap.size w w':=by
 have hrg:=hp.regs;have hpa:=hp.params;have HP:Hid _:=hp;obtain⟨rg,hrgN⟩:=yN hrg.1;obtain⟨pa,hpaN⟩:=yN hpa.1;have hmi:=Ca (P:=prog) 64 3 _ 1 8 underlying64 Tryz.info_int .i64 .i64 rg (by omega) (by omega);simp only[Nat.mul_one]at hmi;rw[←hrgN]at hmi;have HPA:Hid _:=hpaN;have HRG:Hid _:=hrgN;have T1:=A3v (w.alloc (.cells #[.string p.name,.int .i64 p.line,.int .i64 p.params,.bool p.rest,.int .i64 p.regs,.slice h.uo p.ups.length h.uc,.slice h.co p.consts.length h.cc,.slice h.io p.ins.length h.ic,.slice h.no p.named.length h.nc] 63)) rg (by unfold maxLen;omega);have P1:=(Blk.new w #[.string p.name,.int .i64 p.line,.int .i64 p.params,.bool p.rest,.int .i64 p.regs,.slice h.uo p.ups.length h.uc,.slice h.co p.consts.length h.cc,.slice h.io p.ins.length h.ic,.slice h.no p.named.length h.nc] 63).alloc (.cells (madeCells #[.int .i64 0] rg) 3);have B1:Below w.heap.size w ((w.alloc (.cells #[.string p.name,.int .i64 p.line,.int .i64 p.params,.bool p.rest,.int .i64 p.regs,.slice h.uo p.ups.length h.uc,.slice h.co p.consts.length h.cc,.slice h.io p.ins.length h.ic,.slice h.no p.named.length h.nc] 63)).alloc (.cells (madeCells #[.int .i64 0] rg) 3)):=((yA _ _).alloc (yB _) _).alloc (by simp) _;simp only[nblk_alloc]at T1;have hT0:Bj (List.replicate rg 0)=Bj (Gp p 0):=by unfold Gp;rw[hrgN];simp
 rw[hT0]at T1;clear hT0 hp hpaN hrgN;unfold Pd.cells;go_in;go_wp2_with fail;clear hmi;generalize (w.alloc (.cells #[.string p.name,.int .i64 p.line,.int .i64 p.params,.bool p.rest,.int .i64 p.regs,.slice h.uo p.ups.length h.uc,.slice h.co p.consts.length h.cc,.slice h.io p.ins.length h.ic,.slice h.no p.named.length h.nc] 63)).alloc (.cells (madeCells #[.int .i64 0] rg) 3)=w1 at *;go_loopw [10] (fun y wr=>∃r:Nat,y=.int .i64 r/\r<=pa/\wr.ownsRow (w.heap.size+1) 3 1 (.slice (some ⟨w.heap.size+1,0,none⟩) rg rg) rg (Bj (Gp p r))/\Blk wr w.heap.size #[.string p.name,.int .i64 p.line,.int .i64 p.params,.bool p.rest,.int .i64 p.regs,.slice h.uo p.ups.length h.uc,.slice h.co p.consts.length h.cc,.slice h.io p.ins.length h.ic,.slice h.no p.named.length h.nc] 63/\Below w.heap.size w wr) (fun y _=>pa-(intOf y).toNat);case atStart=>exact⟨0,rfl,yE _,T1,P1,B1⟩
 case round=>
  obtain⟨r,rfl,hr,T2,P2,B2⟩:=hrel;clear T1 P1 B1;have hrr:pa<=rg:=by have:=HPA.out;have:=HRG.out;omega
  have hrN:p.regs.toNat=rg:=by have:=HRG.out;omega
  by_cases hrp:r<pa
  ·have t2:=(T2.cellAt r (by omega)).trans (De (by rw[Qt (by omega)];omega));have f2:=T2.frozenAt r;have T3:=(T2.stored r (.int .i64 1)).1;rw[Ha,A0u (by omega)]at T3;have k2:(r:Int)<p.params:=by have:=HPA.out;omega
   have k3:(r:Int)<rg:=by omega
   have P3:=P2.setOther (p:=⟨w.heap.size+1,r,none⟩) (by dsimp only;omega) (.int .i64 1);have B3:=B2.setCell (p:=⟨w.heap.size+1,r,none⟩) (by dsimp only;omega) (.int .i64 1);clear hrN;go_wp2;go_roundw;case rel=>exact⟨r+1,by go_num,by omega,T3,P3,B3⟩
   case measure=>simp[intOf];omega
  ·obtain rfl:r=pa:=by omega
   have k2:¬(r:Int)<p.params:=by have:=HPA.out;omega
   have hlen:(Ev p).length=rg:=by have:=Qu HP.out;have:=HRG.out;omega
   have HLEN:Hid _:=hlen;have hpr:=HPA.out;have hwk:∀{W:World} {v:Value} {n:Nat} {xs:List Value},W.ownsRow (w.heap.size+1) 3 1 v n xs->W.ownsRow w.heap.size 3 1 v n xs:=by
    rintro W v n xs ⟨r1,r2|⟨g',c',cur,r3,r4,r5⟩⟩
    ·exact⟨r1,.inl r2⟩
    ·exact⟨r1,.inr ⟨g',c',cur,r3,by omega,r5⟩⟩
   have HWK:Hid _:=@hwk;clear hwk;cases hre:p.rest
   ·have hft:Gp p r=Ev p:=by unfold Ev Gp;rw[hre,hpr];simp
    have P3:=P2;rw[hre]at P3;have p3:=P3.cell;rw[hft]at T2;clear hft hlen hpr hrN hre;go_wp2;go_ret;exact⟨_,rfl,by rw[HLEN.out];exact HWK.out T2,B2⟩
   ·have hrl:r<rg:=by have:=hpa.2.2 hre;have:=HRG.out;omega
    have k6:(r:Int)<rg:=by omega
    have t2:=(T2.cellAt r (by omega)).trans (De (by rw[Qt (by omega)];omega));have f2:=T2.frozenAt r;have T5:=(T2.stored r (.int .i64 3)).1;rw[Ha]at T5;have hft:(Gp p r).set r 3=Ev p:=by unfold Ev Gp;rw[hre,hpr];simp
    rw[hft]at T5;have B5:=B2.setCell (p:=⟨w.heap.size+1,r,none⟩) (by dsimp only;omega) (.int .i64 3);have P3:=P2;rw[hre,hpr]at P3;have p3:=P3.cell;clear hft hlen hpr hrN hre P2;go_wp2;go_ret;exact⟨_,rfl,by rw[HLEN.out];exact HWK.out T5,B5⟩
end Go.Proofs.YtbefeflgjipfhaaGreatDoor
