import Derived.Test.YtbefeflgjipfhaaGreatDoorF40
import Derived.Test.YtbefeflgjipfhaaGreatDoorF41
set_option maxRecDepth 100000
set_option maxHeartbeats 16000000
namespace Go.Proofs.YtbefeflgjipfhaaGreatDoor
open Go.Deep Go.Proofs.Tryz Go.RowKit
variable{A Bb N:Array Value}{c:Cf}{ps:List Pd}{B L b ccap g:Nat}{cao:Option Addr}{p:Pd}{h:Ph}{w w':World}
structure Ux (w0:World) (B L vb sb db:Nat) (ps:List Pd) (p:Pd) (h:Ph):Prop where
 V:Uy B L vb sb db
 hB:B=w0.heap.size
 hBL:B<=L
 hz:p.ins.length<=6000
 fit:Uu ps.length p
 few:Ny p
 hpl:ps.length<=1048576
 ins:E5 0 w0 h.io p.ins
 forms:Ep w0
def Ky (B L vb sb db:Nat) (cao:Option Addr) (ccap:Nat) (ps:List Pd) (p:Pd) (h:Ph) (w:World) (r:Except (Nat×Nat) Cf) (e:Ending) (w':World):Prop:=
 (match r with|.error (k,x)=>e=.returned (.agg #[.int .i64 k,.int .i64 0,.int .i64 x])|.ok c'=>e=.returned (.agg #[.int .i64 0,.int .i64 0,.int .i64 0])/\∃l',l'<=p.ins.length/\Cw L vb sb db cao ccap ps p h w' c' l')/\Off B L w w'
theorem Cw.fault{vb sb db:Nat} {l:Nat} (V:Uy B L vb sb db) (x:Cw L vb sb db cao ccap ps p h w c l) {a1 a2 a3:Value} (hg:Blk w g #[a1,a2,a3] 155) (hL:L<=g) (v1 v2 v3:Value):Cw L vb sb db cao ccap ps p h (((w.setCell ⟨g,0,none⟩ v1).setCell ⟨g,1,none⟩ v2).setCell ⟨g,2,none⟩ v3) c l:=
 ((x.store V hg hL (by decide) (by decide) 0 v1).store V (hg.set 0 v1) hL (by decide) (by decide) 1 v2).store V ((hg.set 0 v1).set 1 v2) hL (by decide) (by decide) 2 v3
theorem Off.fault {a b:World} (h:Off B L a b) (hB:B<=a.heap.size) (v1 v2 v3:Value):Off B L a (((b.setCell ⟨a.heap.size+1+1,0,none⟩ v1).setCell ⟨a.heap.size+1+1,1,none⟩ v2).setCell ⟨a.heap.size+1+1,2,none⟩ v3):=
 ((h.setNew hB v1 (by dsimp only;omega)).setNew hB v2 (by dsimp only;omega)).setNew hB v3 (by dsimp only;omega)
def A0d (w:World) (b:Nat) (A Bb N:Array Value):Prop:=Blk w b A 344/\Blk w (b+1) Bb 344/\Blk w (b+1+1) #[.int .i64 0,.int .i64 0,.int .i64 0] 155/\Blk w (b+1+1+1) N 58
theorem A0d.l (h:A0d w b A Bb N) (hb:Below w.heap.size w w'):A0d w' b A Bb N:=⟨h.1.l hb,h.2.1.l hb,h.2.2.1.l hb,h.2.2.2.l hb⟩
theorem A0d.off (h:A0d w b A Bb N) (hb:Off B L w w') (hL:L<=b):A0d w' b A Bb N:=⟨hb.blk h.1 hL,hb.blk h.2.1 (by omega),hb.blk h.2.2.1 (by omega),hb.blk h.2.2.2 (by omega)⟩
theorem A0x (w0:World) (B L vb sb db:Nat) (cao:Option Addr) (ccap:Nat) (ps:List Pd) (p:Pd) (h:Ph) (c:Cf) (l:Nat) (w:World) (i m:Nat) (n:Nd) (ab bb:Bool) (ao ago bo bgo:Option Addr) (ac agc bc bgc:Nat) (s:St) (ts:List Int) (gs:List Gd)
  (X:Ux w0 B L vb sb db ps p h) (H0:Cw L vb sb db cao ccap ps p h w c l) (hl:l<=p.ins.length) (hL:L<=w.heap.size) (hb0:Below w0.heap.size w0 w) (hok:Kb p c) (hi:p.ins[i]?=some n) (hso:Sa p ⟨ts,gs⟩) (hfk:∀y∈goF n s ts gs,y.1<p.ins.length)
  (hm:s.types.length=m) (ht:ts.length=m) (hm2:m<=250) (hmr:(m:Int)=p.regs) (R1:Ed L w ao ac s.types) (R2:Bu L w ago agc s.guards) (R3:Ed L w bo bc ts) (R4:Bu L w bgo bgc gs) :
  Calls prog 326 #[.pointer (some ⟨vb,0,none⟩),.int .i64 i,.agg #[.bool ab,.slice ao s.types.length ac,.slice ago s.guards.length agc],.agg #[.bool bb,.slice bo ts.length bc,.slice bgo gs.length bgc]] w (Ky B L vb sb db cao ccap ps p h w (Au c (En n i s ts gs))):=by
 have HNF:Hid (El ps.length p n):=X.fit.fit i n hi;have HNX:Hid (Ea n=true->i+1<p.ins.length):=X.fit.next i n hi;have HBW:Hid (B<=w.heap.size):=yI X.hBL hL;have HLW:Hid (L<=w.heap.size+1+1):=by show _<=_;omega
 have HB0:Hid (∀W,Off B L w W->Below w0.heap.size w0 W):=fun W hO=>hb0.trans (by have:=hO.below;rw[X.hB]at this;exact this);have HFK:Hid (∀t,(t,Ga n s ts gs)∈goF n s ts gs->t<p.ins.length):=fun t hm=>hfk _ hm;have HM0:Hid (s.types.length=m):=hm;have HT0:Hid (ts.length=m):=ht;have HMR:Hid ((m:Int)=p.regs):=hmr;clear hm ht hmr;have BZ:Below w.heap.size w (((w.alloc (.cells #[.bool ab,.slice ao s.types.length ac,.slice ago s.guards.length agc] 344)).alloc (.cells #[.bool bb,.slice bo ts.length bc,.slice bgo gs.length bgc] 344)).alloc (.cells #[.int .i64 0,.int .i64 0,.int .i64 0] 155)):=(((yA _ _).alloc (yB _) _).alloc (by simp) _).alloc (by simp;omega) _;obtain⟨ib,iof,hio,_,_,_⟩:=X.ins i n hi;obtain⟨ib',iof',hio',_,hibl,q0,q1,q2,q3,q4⟩:=(X.ins.l (Ad.o (HB0.out _ (Off.o BZ HBW.out)))) i n hi;rw[hio]at hio';obtain⟨rfl,rfl⟩:ib=ib'/\iof=iof':=by simpa using hio'
 have hil:i<p.ins.length:=(yD.1 hi).1;have k1:(i:Int)<p.ins.length:=by omega
 have v8:=(H0.below BZ).blk.cell 8;simp only[List.getElem?_toArray,List.getElem?_cons_succ,List.getElem?_cons_zero]at v8;rw[hio]at v8;obtain⟨op,na,nb,nc,nd⟩:=n;dsimp only at q0 q1 q2 q3 q4;have BY:Below w.heap.size w ((((w.alloc (.cells #[.bool ab,.slice ao s.types.length ac,.slice ago s.guards.length agc] 344)).alloc (.cells #[.bool bb,.slice bo ts.length bc,.slice bgo gs.length bgc] 344)).alloc (.cells #[.int .i64 0,.int .i64 0,.int .i64 0] 155)).alloc (.cells #[.int .i64 op,.int .i64 na,.int .i64 nb,.int .i64 nc,.int .i64 nd] 58)):=BZ.alloc BZ.size _;have H4:=H0.below BY;have C4:A0d ((((w.alloc (.cells #[.bool ab,.slice ao s.types.length ac,.slice ago s.guards.length agc] 344)).alloc (.cells #[.bool bb,.slice bo ts.length bc,.slice bgo gs.length bgc] 344)).alloc (.cells #[.int .i64 0,.int .i64 0,.int .i64 0] 155)).alloc (.cells #[.int .i64 op,.int .i64 na,.int .i64 nb,.int .i64 nc,.int .i64 nd] 58)) w.heap.size #[.bool ab,.slice ao s.types.length ac,.slice ago s.guards.length agc] #[.bool bb,.slice bo ts.length bc,.slice bgo gs.length bgc] #[.int .i64 op,.int .i64 na,.int .i64 nb,.int .i64 nc,.int .i64 nd]:=by have a1:=(((Blk.new w #[.bool ab,.slice ao s.types.length ac,.slice ago s.guards.length agc] 344).alloc (.cells #[.bool bb,.slice bo ts.length bc,.slice bgo gs.length bgc] 344)).alloc (.cells #[.int .i64 0,.int .i64 0,.int .i64 0] 155)).alloc (.cells #[.int .i64 op,.int .i64 na,.int .i64 nb,.int .i64 nc,.int .i64 nd] 58);have a2:=((Blk.new (w.alloc (.cells #[.bool ab,.slice ao s.types.length ac,.slice ago s.guards.length agc] 344)) #[.bool bb,.slice bo ts.length bc,.slice bgo gs.length bgc] 344).alloc (.cells #[.int .i64 0,.int .i64 0,.int .i64 0] 155)).alloc (.cells #[.int .i64 op,.int .i64 na,.int .i64 nb,.int .i64 nc,.int .i64 nd] 58);have a3:=(Blk.new ((w.alloc (.cells #[.bool ab,.slice ao s.types.length ac,.slice ago s.guards.length agc] 344)).alloc (.cells #[.bool bb,.slice bo ts.length bc,.slice bgo gs.length bgc] 344)) #[.int .i64 0,.int .i64 0,.int .i64 0] 155).alloc (.cells #[.int .i64 op,.int .i64 na,.int .i64 nb,.int .i64 nc,.int .i64 nd] 58);have a4:=Blk.new (((w.alloc (.cells #[.bool ab,.slice ao s.types.length ac,.slice ago s.guards.length agc] 344)).alloc (.cells #[.bool bb,.slice bo ts.length bc,.slice bgo gs.length bgc] 344)).alloc (.cells #[.int .i64 0,.int .i64 0,.int .i64 0] 155)) #[.int .i64 op,.int .i64 na,.int .i64 nb,.int .i64 nc,.int .i64 nd] 58;simp only[nblk_alloc]at a2 a3 a4;exact⟨a1,a2,a3,a4⟩
 have O4:Off B L w ((((w.alloc (.cells #[.bool ab,.slice ao s.types.length ac,.slice ago s.guards.length agc] 344)).alloc (.cells #[.bool bb,.slice bo ts.length bc,.slice bgo gs.length bgc] 344)).alloc (.cells #[.int .i64 0,.int .i64 0,.int .i64 0] 155)).alloc (.cells #[.int .i64 op,.int .i64 na,.int .i64 nb,.int .i64 nc,.int .i64 nd] 58)):=Off.o BY HBW.out;have HHN:Hid (∀W,Kw 312 #[.agg #[.int .i64 op,.int .i64 na,.int .i64 nb,.int .i64 nc,.int .i64 nd]] W (.bool (Ea ⟨op,na,nb,nc,nd⟩))):=fun W=>Jk ⟨op,na,nb,nc,nd⟩ W;clear H0 BZ BY hio hio' hi hfk hb0;go_in;go_wp2_with fail;generalize ((((w.alloc (.cells #[.bool ab,.slice ao s.types.length ac,.slice ago s.guards.length agc] 344)).alloc (.cells #[.bool bb,.slice bo ts.length bc,.slice bgo gs.length bgc] 344)).alloc (.cells #[.int .i64 0,.int .i64 0,.int .i64 0] 155)).alloc (.cells #[.int .i64 op,.int .i64 na,.int .i64 nb,.int .i64 nc,.int .i64 nd] 58))=w4 at *;clear q0 q1 q2 q3 q4 v8 hibl;refine(HHN.out w4).mono ?_;rintro e w5 ⟨rfl,hw5⟩;have H5:=H4.below hw5;have C5:=C4.l hw5;have O5:=O4.trans (Off.o (L:=L) hw5 (yI HBW.out O4.size));clear H4 C4 O4 hw5 HHN;cases hnx:Ea ⟨op,na,nb,nc,nd⟩
 ·have HFO:Hid (Au c (En ⟨op,na,nb,nc,nd⟩ i s ts gs)=Au c (goF ⟨op,na,nb,nc,nd⟩ s ts gs)):=by show _=_;unfold En;rw[hnx];rfl
  clear hnx;have HGA:Hid (∀_:Unit,_):=fun _=>Fe ps.length p ⟨op,na,nb,nc,nd⟩ w5 HNF.out (X.forms.l (HB0.out _ (O5)));have c5:=(C5).2.2.2.cell;go_wp2_with fail;refine(HGA.out ()).mono ?_;rintro e w6 ⟨rfl,hw6⟩;have H6:=(H5).below hw6;have C6:=(C5).l hw6;have O6:=(O5).trans (Off.o (L:=L) hw6 (yI HBW.out (O5).size));clear c5 HGA;cases htg:Jw ⟨op,na,nb,nc,nd⟩ with
  | none=>
   have HTV:Hid (tgV ⟨op,na,nb,nc,nd⟩ = -1):=by show _=_;unfold tgV;rw[htg]
   have HRE:Hid (Au c (En ⟨op,na,nb,nc,nd⟩ i s ts gs)=.ok c):=by show _=_;rw[HFO.out,U8,htg];rfl
   have HL9:Hid (l<=p.ins.length):=hl;rw[HTV.out];clear htg HTV;have r9:=(C6.2.2.1).cell;have f9:=(C6.2.2.1).frozen;have HC9:Hid (Blk w6 (w.heap.size+1+1) #[.int .i64 0,.int .i64 0,.int .i64 0] 155):=C6.2.2.1;have HH9:Hid (Cw L vb sb db cao ccap ps p h w6 c l):=H6;have HO9:Hid (Off B L w w6):=O6;go_wp2_with fail;have c9:=(HC9.out.three (x':=.int .i64 0) (y':=.int .i64 0) (z':=.int .i64 0)).cell;refine bodyPost_ret (v:=.agg #[.int .i64 0,.int .i64 0,.int .i64 0]) ?_ rfl ⟨?_,HO9.out.fault HBW.out _ _ _⟩
   ·simp[results,results326,go_sem,c9]
   ·rw[HRE.out];exact⟨rfl,_,HL9.out,HH9.out.fault X.V HC9.out HLW.out _ _ _⟩
  | some t=>
   have HTV:Hid (tgV ⟨op,na,nb,nc,nd⟩=(t:Int)):=by show _=_;unfold tgV;rw[htg]
   have HFO2:Hid (Au c (En ⟨op,na,nb,nc,nd⟩ i s ts gs)=match Bv c t (Ga ⟨op,na,nb,nc,nd⟩ s ts gs) with|none=>.error (13,t)|some c'=>.ok c'):=by show _=_;rw[HFO.out,U8,htg];dsimp only[Au];cases Bv c t (Ga ⟨op,na,nb,nc,nd⟩ s ts gs)<;>rfl
   have htn:t<p.ins.length:=HFK.out t (by rw[U8,htg];simp);rw[HTV.out];clear htg HTV;have HST:Hid (∀_:Unit,_):=fun _=>Jv ps.length p ⟨op,na,nb,nc,nd⟩ ab bb ao ago bo bgo ac agc bc bgc L m s ts gs w6 (yI hL O6.size) HM0.out HT0.out hm2 (R1.l O6.keeps) (R2.l O6.keeps) (R3.l O6.keeps) (R4.l O6.keeps) HNF.out HMR.out;have k6:¬(t:Int)<0:=by omega
   have a6:=C6.1.cell;have d6:=C6.2.1.cell;have n6:=C6.2.2.2.cell;unfold Nd.val at HST;go_wp2_with fail;refine(HST.out ()).mono ?_;rintro e w7 ⟨⟨rb,to7,tc7,go7,gc7,rfl,RT7,RG7⟩,hw7⟩;have H7:=H6.below hw7;have C7:=C6.l hw7;have O7:=O6.trans (Off.o (L:=L) hw7 (yI HBW.out O6.size));have HRC:Hid (∀_:Unit,_):=fun _=>K9 B L vb sb db cao ccap ps p h c l w7 t rb (Ga ⟨op,na,nb,nc,nd⟩ s ts gs) to7 go7 tc7 gc7 X.V X.hz H7 hl (yI hL O7.size) htn RT7 RG7 X.hBL (fun u hu=>by have h1:=(hok).ok t u hu;have h2:=h1.len;have h3:=X.fit.regs;exact⟨by omega,h1.few⟩);clear a6 d6 n6 HST;go_wp2_with fail;refine(HRC.out ()).mono ?_;unfold Ef;have C8:=C7;cases hre:Bv c t (Ga ⟨op,na,nb,nc,nd⟩ s ts gs) with
   | none=>
    rintro e w8 ⟨rfl,hO8⟩;have HRE:Hid (Au c (En ⟨op,na,nb,nc,nd⟩ i s ts gs)=.error (13,t)):=by show _=_;rw[HFO2.out,hre]
    have O8:=O7.trans hO8;have C9:=C7.off hO8 hL;clear hre HRC;have r9:=(C9.2.2.1).cell;have f9:=(C9.2.2.1).frozen;have HC9:Hid (Blk w8 (w.heap.size+1+1) #[.int .i64 0,.int .i64 0,.int .i64 0] 155):=C9.2.2.1;have HO9:Hid (Off B L w w8):=O8;go_wp2_with fail;have c9:=(HC9.out.three (x':=.int .i64 13) (y':=.int .i64 0) (z':=.int .i64 t)).cell;refine bodyPost_ret (v:=.agg #[.int .i64 13,.int .i64 0,.int .i64 t]) ?_ rfl ⟨?_,HO9.out.fault HBW.out _ _ _⟩
    ·simp[results,results326,go_sem,c9]
    ·rw[HRE.out];rfl
   | some c2=>
    rintro e w8 ⟨⟨rfl,l2,hl2,H8⟩,hO8⟩;have HRE:Hid (Au c (En ⟨op,na,nb,nc,nd⟩ i s ts gs)=.ok c2):=by show _=_;rw[HFO2.out,hre]
    have O8:=O7.trans hO8;have C9:=C7.off hO8 hL;have HL9:Hid (l2<=p.ins.length):=hl2;clear hre HRC;have r9:=(C9.2.2.1).cell;have f9:=(C9.2.2.1).frozen;have HC9:Hid (Blk w8 (w.heap.size+1+1) #[.int .i64 0,.int .i64 0,.int .i64 0] 155):=C9.2.2.1;have HH9:Hid (Cw L vb sb db cao ccap ps p h w8 c2 l2):=H8;have HO9:Hid (Off B L w w8):=O8;go_wp2_with fail;have c9:=(HC9.out.three (x':=.int .i64 0) (y':=.int .i64 0) (z':=.int .i64 0)).cell;refine bodyPost_ret (v:=.agg #[.int .i64 0,.int .i64 0,.int .i64 0]) ?_ rfl ⟨?_,HO9.out.fault HBW.out _ _ _⟩
    ·simp[results,results326,go_sem,c9]
    ·rw[HRE.out];exact⟨rfl,_,HL9.out,HH9.out.fault X.V HC9.out HLW.out _ _ _⟩
 ·have HFO:Hid (Au c (En ⟨op,na,nb,nc,nd⟩ i s ts gs)=Au c ((i+1,⟨ts,gs⟩)::goF ⟨op,na,nb,nc,nd⟩ s ts gs)):=by show _=_;unfold En;rw[hnx];rfl
  have hi1:=HNX.out hnx;have hz:=X.hz;have k2:(i:Int)<6000:=by omega
  have k3:IntKind.i64.wrap ((i:Int)+1)=(i:Int)+1:=by unfold IntKind.wrap;simp[IntKind.signed,IntKind.bits];omega
  have HRC:Hid (∀_:Unit,_):=fun _=>K9 B L vb sb db cao ccap ps p h c l w5 (i+1) bb ⟨ts,gs⟩ bo bgo bc bgc X.V X.hz H5 hl (yI hL O5.size) hi1 (R3.l O5.keeps) (R4.l O5.keeps) X.hBL (fun u hu=>by have h1:=hok.ok (i+1) u hu;have h2:=h1.len;have h3:=X.fit.regs;exact⟨by omega,h1.few⟩);have d5:=C5.2.1.cell;have kw:((i+1:Nat):Int)=(i:Int)+1:=by omega
  rw[kw]at HRC;clear hnx kw;go_wp2_with fail;refine(HRC.out ()).mono ?_;unfold Ef;have HRK:Hid (∀c',Bv c (i+1) ⟨ts,gs⟩=some c'->Kb p c'):=fun c' hr=>Zy hok hso hr;cases hre:Bv c (i+1) ⟨ts,gs⟩ with
  | none=>
   rintro e w6 ⟨rfl,hO6⟩;have HRE:Hid (Au c (En ⟨op,na,nb,nc,nd⟩ i s ts gs)=.error (13,i+1)):=by show _=_;rw[HFO.out,Jj,hre]
   have O6:=O5.trans hO6;have C6:=C5.off hO6 hL;clear hre HRC d5;have r9:=(C6.2.2.1).cell;have f9:=(C6.2.2.1).frozen;have HC9:Hid (Blk w6 (w.heap.size+1+1) #[.int .i64 0,.int .i64 0,.int .i64 0] 155):=C6.2.2.1;have HO9:Hid (Off B L w w6):=O6;go_wp2_with fail;have c9:=(HC9.out.three (x':=.int .i64 13) (y':=.int .i64 0) (z':=.int .i64 ((i:Int)+1))).cell;refine bodyPost_ret (v:=.agg #[.int .i64 13,.int .i64 0,.int .i64 ((i:Int)+1)]) ?_ rfl ⟨?_,HO9.out.fault HBW.out _ _ _⟩
   ·simp[results,results326,go_sem,c9]
   ·rw[HRE.out];rfl
  | some c1=>
   rintro e w6' ⟨⟨rfl,l1,hl1,H6'⟩,hO6⟩;have HFO1:Hid (Au c (En ⟨op,na,nb,nc,nd⟩ i s ts gs)=Au c1 (goF ⟨op,na,nb,nc,nd⟩ s ts gs)):=by show _=_;rw[HFO.out,Jj,hre]
   have hok1:=HRK.out c1 hre;have O6':=O5.trans hO6;have C6':=C5.off hO6 hL;clear hre HRC d5 HFO HRK;have HGA:Hid (∀_:Unit,_):=fun _=>Fe ps.length p ⟨op,na,nb,nc,nd⟩ w6' HNF.out (X.forms.l (HB0.out _ (O6')));have c5:=(C6').2.2.2.cell;go_wp2_with fail;refine(HGA.out ()).mono ?_;rintro e w6 ⟨rfl,hw6⟩;have H6:=(H6').below hw6;have C6:=(C6').l hw6;have O6:=(O6').trans (Off.o (L:=L) hw6 (yI HBW.out (O6').size));clear c5 HGA;cases htg:Jw ⟨op,na,nb,nc,nd⟩ with
   | none=>
    have HTV:Hid (tgV ⟨op,na,nb,nc,nd⟩ = -1):=by show _=_;unfold tgV;rw[htg]
    have HRE:Hid (Au c (En ⟨op,na,nb,nc,nd⟩ i s ts gs)=.ok c1):=by show _=_;rw[HFO1.out,U8,htg];rfl
    have HL9:Hid (l1<=p.ins.length):=hl1;rw[HTV.out];clear htg HTV;have r9:=(C6.2.2.1).cell;have f9:=(C6.2.2.1).frozen;have HC9:Hid (Blk w6 (w.heap.size+1+1) #[.int .i64 0,.int .i64 0,.int .i64 0] 155):=C6.2.2.1;have HH9:Hid (Cw L vb sb db cao ccap ps p h w6 c1 l1):=H6;have HO9:Hid (Off B L w w6):=O6;go_wp2_with fail;have c9:=(HC9.out.three (x':=.int .i64 0) (y':=.int .i64 0) (z':=.int .i64 0)).cell;refine bodyPost_ret (v:=.agg #[.int .i64 0,.int .i64 0,.int .i64 0]) ?_ rfl ⟨?_,HO9.out.fault HBW.out _ _ _⟩
    ·simp[results,results326,go_sem,c9]
    ·rw[HRE.out];exact⟨rfl,_,HL9.out,HH9.out.fault X.V HC9.out HLW.out _ _ _⟩
   | some t=>
    have HTV:Hid (tgV ⟨op,na,nb,nc,nd⟩=(t:Int)):=by show _=_;unfold tgV;rw[htg]
    have HFO2:Hid (Au c (En ⟨op,na,nb,nc,nd⟩ i s ts gs)=match Bv c1 t (Ga ⟨op,na,nb,nc,nd⟩ s ts gs) with|none=>.error (13,t)|some c'=>.ok c'):=by show _=_;rw[HFO1.out,U8,htg];dsimp only[Au];cases Bv c1 t (Ga ⟨op,na,nb,nc,nd⟩ s ts gs)<;>rfl
    have htn:t<p.ins.length:=HFK.out t (by rw[U8,htg];simp);rw[HTV.out];clear htg HTV;have HST:Hid (∀_:Unit,_):=fun _=>Jv ps.length p ⟨op,na,nb,nc,nd⟩ ab bb ao ago bo bgo ac agc bc bgc L m s ts gs w6 (yI hL O6.size) HM0.out HT0.out hm2 (R1.l O6.keeps) (R2.l O6.keeps) (R3.l O6.keeps) (R4.l O6.keeps) HNF.out HMR.out;have k6:¬(t:Int)<0:=by omega
    have a6:=C6.1.cell;have d6:=C6.2.1.cell;have n6:=C6.2.2.2.cell;unfold Nd.val at HST;go_wp2_with fail;refine(HST.out ()).mono ?_;rintro e w7 ⟨⟨rb,to7,tc7,go7,gc7,rfl,RT7,RG7⟩,hw7⟩;have H7:=H6.below hw7;have C7:=C6.l hw7;have O7:=O6.trans (Off.o (L:=L) hw7 (yI HBW.out O6.size));have HRC:Hid (∀_:Unit,_):=fun _=>K9 B L vb sb db cao ccap ps p h c1 l1 w7 t rb (Ga ⟨op,na,nb,nc,nd⟩ s ts gs) to7 go7 tc7 gc7 X.V X.hz H7 hl1 (yI hL O7.size) htn RT7 RG7 X.hBL (fun u hu=>by have h1:=(hok1).ok t u hu;have h2:=h1.len;have h3:=X.fit.regs;exact⟨by omega,h1.few⟩);clear a6 d6 n6 HST;go_wp2_with fail;refine(HRC.out ()).mono ?_;unfold Ef;have C8:=C7;cases hre:Bv c1 t (Ga ⟨op,na,nb,nc,nd⟩ s ts gs) with
    | none=>
     rintro e w8 ⟨rfl,hO8⟩;have HRE:Hid (Au c (En ⟨op,na,nb,nc,nd⟩ i s ts gs)=.error (13,t)):=by show _=_;rw[HFO2.out,hre]
     have O8:=O7.trans hO8;have C9:=C7.off hO8 hL;clear hre HRC;have r9:=(C9.2.2.1).cell;have f9:=(C9.2.2.1).frozen;have HC9:Hid (Blk w8 (w.heap.size+1+1) #[.int .i64 0,.int .i64 0,.int .i64 0] 155):=C9.2.2.1;have HO9:Hid (Off B L w w8):=O8;go_wp2_with fail;have c9:=(HC9.out.three (x':=.int .i64 13) (y':=.int .i64 0) (z':=.int .i64 t)).cell;refine bodyPost_ret (v:=.agg #[.int .i64 13,.int .i64 0,.int .i64 t]) ?_ rfl ⟨?_,HO9.out.fault HBW.out _ _ _⟩
     ·simp[results,results326,go_sem,c9]
     ·rw[HRE.out];rfl
    | some c2=>
     rintro e w8 ⟨⟨rfl,l2,hl2,H8⟩,hO8⟩;have HRE:Hid (Au c (En ⟨op,na,nb,nc,nd⟩ i s ts gs)=.ok c2):=by show _=_;rw[HFO2.out,hre]
     have O8:=O7.trans hO8;have C9:=C7.off hO8 hL;have HL9:Hid (l2<=p.ins.length):=hl2;clear hre HRC;have r9:=(C9.2.2.1).cell;have f9:=(C9.2.2.1).frozen;have HC9:Hid (Blk w8 (w.heap.size+1+1) #[.int .i64 0,.int .i64 0,.int .i64 0] 155):=C9.2.2.1;have HH9:Hid (Cw L vb sb db cao ccap ps p h w8 c2 l2):=H8;have HO9:Hid (Off B L w w8):=O8;go_wp2_with fail;have c9:=(HC9.out.three (x':=.int .i64 0) (y':=.int .i64 0) (z':=.int .i64 0)).cell;refine bodyPost_ret (v:=.agg #[.int .i64 0,.int .i64 0,.int .i64 0]) ?_ rfl ⟨?_,HO9.out.fault HBW.out _ _ _⟩
     ·simp[results,results326,go_sem,c9]
     ·rw[HRE.out];exact⟨rfl,_,HL9.out,HH9.out.fault X.V HC9.out HLW.out _ _ _⟩
end Go.Proofs.YtbefeflgjipfhaaGreatDoor
