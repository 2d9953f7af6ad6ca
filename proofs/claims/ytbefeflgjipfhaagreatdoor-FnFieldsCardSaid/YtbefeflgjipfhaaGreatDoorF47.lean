import Derived.Test.YtbefeflgjipfhaaGreatDoorF32
import Derived.Test.YtbefeflgjipfhaaGreatDoorF33
import Derived.Test.YtbefeflgjipfhaaGreatDoorF46
set_option maxRecDepth 1000000
set_option maxHeartbeats 8000000
namespace Go.Proofs.YtbefeflgjipfhaaGreatDoor
open Go.Deep Go.Proofs.Tryz Go.RowKit
variable{a:Act}{A:Array Value}{c:Cf}{ins is:List Nd}{ps:List Pd}{cs:List Vd}{g i id k np sb:Nat}{n:Nd}{p:Pd}{s:St}{W w w':World}
def CapP (w:World) (g:Nat) (ps:List Pd) (k:Nat):Prop:=∀j p,j<k->ps[j]?=some p->∃ao,w.cell? ⟨g,j*9+7,none⟩=some (.slice ao p.ins.length p.ins.length)
theorem CapP.keeps (h:CapP w g ps k) (hg:g<w.heap.size) (hk:Ad g w w'):CapP w' g ps k:=by intro j p hj hp;obtain⟨ao,h1⟩:=h j p hj hp;exact⟨ao,(hk.cell (yB _) hg).trans h1⟩
theorem Zi (B L vb sb db:Nat) (cao:Option Addr) (ccap:Nat) (ps:List Pd) (p:Pd) (h:Ph) (c:Cf) (l0:Nat) (w:World) (V:Uy B L vb sb db) (hz:p.ins.length<=6000) (H0:Cw L vb sb db cao ccap ps p h w c l0) (hl0:l0<=p.ins.length) :
  Calls prog 260 #[.pointer (some ⟨vb,0,none⟩)] w fun e w'=>(∃l:Nat,l<=p.ins.length/\((Cg c.due=none/\e=.returned (.int .i64 (-1))/\Cw L vb sb db cao ccap ps p h w' c l)∨(Cg c.due=some l/\e=.returned (.int .i64 l)/\Cw L vb sb db cao ccap ps p h w' ⟨c.sts,c.due.set l false⟩ l)))/\Off B L w w':=by
 have HVI:Hid _:=V;have hneV:¬vb=db:=V.vd;have hneD:¬db=vb:=V.vd.symm;clear V;go_in;go_wp2;go_loopg [] (p.ins.length+1) (fun g wr=>∃l:Nat,l<=p.ins.length/\Hid (p.ins.length+1-l<=g)/\Cw L vb sb db cao ccap ps p h wr c l/\Off B L w wr);case atStart=>exact⟨l0,hl0,(by show _<=_;omega),H0,Off.refl _ _ _⟩
 case round=>
  obtain⟨l,hl,HG,H1,O1⟩:=hrel;clear H0;have v1:=H1.blk.cell;have HB1:Hid (B<=wr.heap.size):=yI HVI.out.v1 (Nat.le_of_lt H1.blk.lt);have HD1:Hid (∀n,Below wr.heap.size wr (wr.drewN n)):=fun n=>below_drewN (yA _ _) n;by_cases hll:l<p.ins.length
  ·have k1:(l:Int)<p.ins.length:=by omega
   have HH1:Hid _:=H1;have HO1:Hid _:=O1;clear H1 O1;go_wp2_with fail;go_quiet (fail);have H2:=HH1.out.below (HD1.out nq);have O2:=HO1.out.trans (Off.o (L:=L) (HD1.out nq) HB1.out);have HB2:Hid (B<=(wr.drewN nq).heap.size):=yI HB1.out (HD1.out nq).size;generalize wr.drewN nq=w2 at *;clear v1 HH1 HO1 HB1 HD1;have v2:=H2.blk.cell;have d2:=(H2.due.cell l).trans (Cs (by rw[H2.lenD];exact hll));obtain⟨b,hb⟩:∃b,b=c.due.getD l false:=⟨_,rfl⟩;rw[←hb]at d2;have HB:Hid (c.due.getD l false=b):=hb.symm;have HH2:Hid _:=H2;have HO2:Hid _:=O2;have HD2:Hid (∀n,Below w2.heap.size w2 (w2.drewN n)):=fun n=>below_drewN (yA _ _) n;clear hb H2 O2;go_wp2_with fail;go_quiet (fail);have H3:=HH2.out.below (HD2.out nq);have O3:=HO2.out.trans (Off.o (L:=L) (HD2.out nq) HB2.out);have HB3:Hid (B<=(w2.drewN nq).heap.size):=yI HB2.out (HD2.out nq).size;generalize w2.drewN nq=w3 at *;clear v2 d2 HH2 HO2 HB2 HD2;cases b
   ·have HG2:Hid (p.ins.length+1-(l+1)<=gk-1/\gk-1<gk):=by have:=HG.out;show _/\_;omega
    have HLW:Hid (∀j,j<l+1->c.due.getD j false=false):=by
     intro j hj;by_cases hjl:j=l
     ·rw[hjl];exact HB.out
     ·exact H3.low j (by omega)
    have v3:=H3.blk.cell;have f3:=H3.blk.frozen 12;clear HG HB;go_wp2;go_roundg (gk-1);case measure=>exact HG2.out.2
    case rel=>exact⟨l+1,by omega,HG2.out.1,H3.move HVI.out (l+1) HLW.out,O3.set _ HVI.out.v1 HVI.out.v2⟩
   ·have HLD:Hid (Cg c.due=some l):=Yv H3.low HB.out;have v311:=H3.blk.cell 11;have v312:=H3.blk.cell 12;have d3:=(H3.due.cell l).trans (Cs (by rw[H3.lenD];exact hll));have f3:=H3.due.frozen l;have HKP:Hid ((w3.setCell ⟨db,l,none⟩ (.bool false)).drew.cell? ⟨vb,11,none⟩=some (.slice (some ⟨db,0,none⟩) p.ins.length p.ins.length)/\(w3.setCell ⟨db,l,none⟩ (.bool false)).drew.cell? ⟨vb,12,none⟩=some (.int .i64 l)):=
     ⟨(yG _ _ _ _ hneD).trans v311,(yG _ _ _ _ hneD).trans v312⟩
    clear HG HB;go_wp2_with fail;go_region_held3 (fun w'=>w'.cell? ⟨vb,11,none⟩=some (.slice (some ⟨db,0,none⟩) p.ins.length p.ins.length)/\w'.cell? ⟨vb,12,none⟩=some (.int .i64 l)) (first|exact HKP.out|(go_keep;done)) (fail);have H4:=(H3.take HVI.out l).below (w':=(w3.setCell ⟨db,l,none⟩ (.bool false)).drew) (yA _ _).drew;have O4:=(O3.set (.bool false) (p:=⟨db,l,none⟩) HVI.out.d1 HVI.out.d2).trans (Off.o (L:=L) (w':=(w3.setCell ⟨db,l,none⟩ (.bool false)).drew) (yA _ _).drew (by rw[Gm];exact HB3.out));have x12:=HKP.out.2;have H4b:Hid _:=H4;have O4b:Hid _:=O4;clear HKP v311 v312 d3 f3 H3 O3 H4 O4;generalize (w3.setCell ⟨db,l,none⟩ (.bool false)).drew=w4 at *;go_wp2;go_ret;exact⟨⟨l,hl,.inr ⟨HLD.out,rfl,H4b.out⟩⟩,O4b.out⟩
  ·have HLD:Hid (Cg c.due=none):=Wd (fun j hj=>H1.low j (by rw[H1.lenD]at hj;omega));have k1:¬(l:Int)<p.ins.length:=by omega
   have kd:decide ((l:Int)<p.ins.length)=false:=by simpa using k1
   have HH1:Hid _:=H1;have HO1:Hid _:=O1;clear H1 O1 HG;go_wp2_with fail;go_quiet (fail);have H2:=HH1.out.below (HD1.out nq);have O2:=HO1.out.trans (Off.o (L:=L) (HD1.out nq) HB1.out);have H2b:Hid _:=H2;have O2b:Hid _:=O2;clear v1 HH1 HO1 HB1 HD1 H2 O2;generalize wr.drewN nq=w2 at *;go_wp2;go_ret;exact⟨⟨l,hl,.inl ⟨HLD.out,rfl,H2b.out⟩⟩,O2b.out⟩
def A52 (L vb sb db:Nat) (cao:Option Addr) (ccap:Nat) (ps:List Pd) (p:Pd) (h:Ph) (c:Cf) (y:Value) (w:World):Prop:=
 ∃l:Nat,l<=p.ins.length/\((Cg c.due=none/\y=.int .i64 (-1)/\Cw L vb sb db cao ccap ps p h w c l)∨(Cg c.due=some l/\y=.int .i64 l/\Cw L vb sb db cao ccap ps p h w ⟨c.sts,c.due.set l false⟩ l))
theorem A1p (hn:El np p n) (hi:p.ins[i]?=some n) (hs:c.st i=some s):Es ps n i s ⟨c.sts,c.due.set i false⟩=J4 ps p c i:=by unfold Es J4;rw[hi,hs,A8u hn];dsimp only;cases Ul ps n i s<;>rfl
theorem A1o{x:Nat} (h:Es ps n i s c=.error (k,x)):k≠0/\k<=13:=by
 have hf:∀(l:List (Nat×St)) (c:Cf),Au c l=.error (k,x)->k=13:=by
  intro l
  induction l with
  | nil=>intro c h;cases h
  | cons a r ih=>
   intro c h;obtain⟨y,t⟩:=a;rw[Jj]at h;cases hr:Bv c y t with
   | none=>rw[hr]at h;simp at h;omega
   | some c2=>rw[hr]at h;exact ih c2 h
 unfold Es at h;cases hs:Kt ps n i s with
 | bad k2=>
  rw[hs]at h;simp at h;unfold Kt at hs;split at hs
  ·cases hs;omega
  ·split at hs
   ·split at hs
    ·split at hs
     ·cases hs
     ·cases hs;omega
    ·cases hs;omega
   ·cases hs;omega
 | go l=>rw[hs]at h;have:=hf l c h;omega
noncomputable def pcVl:Code:=Fu [1,1,1,1,0,1,0] (Tryz.f194.body.getD .skip)
theorem A96 (w0:World) (B L vb sb db:Nat) (cao:Option Addr) (ccap:Nat) (ps:List Pd) (p:Pd) (h:Ph) (pi:Nat) (w W:World) (c0 c2 c3 c4 c6 c8 c9 c10 c11 c12 c13 c14 c15 c16 c17 c18 c19 c20 c21 c22 c23 c24 c25 c26 c27 c28 c29 c30 c31 c32 c33 c34 c35 c36 c37 c38 c39 c40 c41 c42 c43 c44 c45 c46 c47 c48 c49 c50 c51 c52 c53 c54 c55 c56 c57 c58 c59 c60:Value) (Q:Exit->Act->World->Prop) (hq:∀a' w',bodyPost prog Tryz.f194 (Qe w ps p pi) .ret a' w'->Q .ret a' w')
  (hx:∀(u4 u8 u9 u35 u36 u37 u38 u39 u40 u41 u42 u43 u44 u45 u46 u47:Value) (c:Cf) (l:Nat) (w':World),Ej ps p (2*p.ins.length+2) (Ch p)=.ok c->Cw L vb sb db cao ccap ps p h w' c l->Below w0.heap.size w0 w'->Q (.exit 0) ⟨List.toArray (c0::.int .i64 pi::c2::c3::u4::.pointer (some ⟨w.heap.size+1,0,none⟩)::c6::.pointer (some ⟨vb,0,none⟩)::u8::u9::c10::c11::c12::c13::c14::c15::c16::c17::c18::c19::c20::c21::c22::c23::c24::c25::c26::c27::c28::c29::c30::c31::c32::c33::c34::u35::u36::u37::u38::u39::u40::u41::u42::u43::u44::u45::u46::u47::c48::c49::c50::c51::c52::c53::c54::c55::c56::c57::c58::c59::c60::[]),[]⟩ w')
  (X:Ux w0 B L vb sb db ps p h) (_hL0:L=w0.heap.size+3) (hLW:L<=W.heap.size) (N0:A52 L vb sb db cao ccap ps p h (Ch p) c8 W) (hb0:Below w0.heap.size w0 W) (hw0:Below w.heap.size w w0) (FL:Blk w0 (w.heap.size+1) #[.int .i64 0,.int .i64 0,.int .i64 0] 155) (hv:Az 0 w0 cao ps) (hu:∀n∈p.ins,∀u∈Du ps n,u.loc=true->0<=u.idx/\u.idx<p.regs) (hul:∀n,(Du ps n).length<=1048576) :
  Code.wp prog pcVl Q ⟨List.toArray (c0::.int .i64 pi::c2::c3::c4::.pointer (some ⟨w.heap.size+1,0,none⟩)::c6::.pointer (some ⟨vb,0,none⟩)::c8::c9::c10::c11::c12::c13::c14::c15::c16::c17::c18::c19::c20::c21::c22::c23::c24::c25::c26::c27::c28::c29::c30::c31::c32::c33::c34::c35::c36::c37::c38::c39::c40::c41::c42::c43::c44::c45::c46::c47::c48::c49::c50::c51::c52::c53::c54::c55::c56::c57::c58::c59::c60::[]),[]⟩ W:=by
 conv=>arg 2;whnf
 have HQ:Hid _:=hq;have HX:Hid _:=hx;have HST:=A71 X.fit;have HV:Hid (Az 0 w0 cao ps):=hv;have HU:Hid _:=hu;have HUL:Hid _:=hul;clear hq hx hv hu hul;go_loopg [8] (2*p.ins.length+2) (fun gk y wr=>∃c:Cf,Hid (Kb p c)/\Hid (I4 p c none)/\Hid (Ej ps p gk c=Ej ps p (2*p.ins.length+2) (Ch p))/\Hid (c.meas<gk)/\Hid (A52 L vb sb db cao ccap ps p h c y wr)/\Hid (Below w0.heap.size w0 wr)/\Hid (L<=wr.heap.size));case atStart=>exact⟨Ch p,HST.1,HST.2.1,rfl,HST.2.2,N0,hb0,hLW⟩
 case round=>
  obtain⟨c,HOK,HCL,HWK,HME,HN,HB,HLr⟩:=hrel;clear HST N0;have HFR:Hid (Blk wr (w.heap.size+1) #[.int .i64 0,.int .i64 0,.int .i64 0] 155):=FL.l HB.out;obtain⟨l,hl,hN⟩:=HN.out;rcases hN with ⟨hd,rfl,H1⟩|⟨hd,rfl,H1⟩
  ·have HWO:Hid (Ej ps p (2*p.ins.length+2) (Ch p)=.ok c):=HWK.out.symm.trans (A7h (Nat.lt_of_le_of_lt (yE _) HME.out) hd);have HH1:Hid (Cw L vb sb db cao ccap ps p h wr c l):=H1;clear hd H1 HN HWK HME HCL HOK;go_wp2_with fail;exact HX.out _ _ _ _ _ _ _ _ _ _ _ _ _ _ _ _ c l wr HWO.out HH1.out HB.out
  ·obtain⟨hd1,hd2,_⟩:=Km hd;obtain⟨s,hs⟩:=Option.isSome_iff_exists.1 (HOK.out.due l hd2);have hll:l<p.ins.length:=by rw[←HOK.out.lenD];exact hd1
   obtain⟨n,hn⟩:=Ah hll;have hNF:=X.fit.fit l n hn;have HSP:Hid (∀_:Unit,_):=fun _=>A72 w0 B L vb sb db cao ccap ps p h ⟨c.sts,c.due.set l false⟩ l wr l n s X H1 hl HLr.out HB.out (Qm HOK.out HCL.out).1 hn hs HV.out (HU.out n (yH hn)) (HUL.out n);have HRS:Hid (Es ps n l s ⟨c.sts,c.due.set l false⟩=J4 ps p c l):=A1p hNF hn hs;have HLD:Hid (Cg c.due=some l):=hd;have HRC:Hid (∀k x,Es ps n l s ⟨c.sts,c.due.set l false⟩=.error (k,x)->k≠0/\k<=13):=fun k x hh=>A1o hh;have k0:(0:Int)<=l:=by omega
   clear hd hd1 hd2 hs hn hNF H1 HN;go_wp2_with fail;refine(HSP.out ()).mono ?_;unfold Ky;cases hst:Es ps n l s ⟨c.sts,c.due.set l false⟩ with
   | error kx=>
    obtain⟨k,x⟩:=kx;rintro e w2 ⟨rfl,hO2⟩;have HVF:Hid (J7 ps p pi=((k:Int),(pi:Int),(x:Int))):=A1y (HWK.out.symm.trans (A7g (Nat.lt_of_le_of_lt (yE _) HME.out) HLD.out (HRS.out.symm.trans hst)));have hkk:=HRC.out k x hst;have hBe:=X.hB;have hb2:Below w0.heap.size wr w2:=by have:=hO2.below;rw[hBe]at this;exact this
    have HB2:Hid (Below w0.heap.size w0 w2):=HB.out.trans hb2;have FL2:=FL.l HB2.out;have ek:((k:Int) !=0)=true:=by simp;omega
    have hfw:w.heap.size+1<w2.heap.size:=FL2.lt;have hne:¬w2.heap.size=w.heap.size+1:=by omega
    have P3:=Blk.new w2 #[.int .i64 k,.int .i64 pi,.int .i64 x] 155;have A3:=Ak (yA w2.heap.size w2) (.cells #[.int .i64 k,.int .i64 pi,.int .i64 x] 155);have F3:=FL2.l A3;have HBW:Hid (Below w.heap.size w (w2.alloc (.cells #[.int .i64 k,.int .i64 pi,.int .i64 x] 155))):=(hw0.trans (HB2.out.mono hw0.size)).trans (A3.mono (yI hw0.size HB2.out.size));clear hst HSP HRS HOK HCL HWK HME HRC HLD hO2 hBe HB HLr HFR hb2 HB2 hkk FL2 A3;go_wp2_with fail;have p30:=P3.cell 0;have p31:=P3.cell 1;have p32:=P3.cell 2;have f3:=F3.cell;have z3:=F3.frozen;generalize w2.alloc (.cells #[.int .i64 k,.int .i64 pi,.int .i64 x] 155)=w3 at *;have hne2:¬w.heap.size+1=w2.heap.size:=fun e=>hne e.symm;go_region_held3 (fun w'=>w'.cell? ⟨w2.heap.size,0,none⟩=some (.int .i64 k)/\w'.cell? ⟨w2.heap.size,1,none⟩=some (.int .i64 pi)/\w'.cell? ⟨w2.heap.size,2,none⟩=some (.int .i64 x)) (first|exact⟨p30,p31,p32⟩|(exact⟨((yG _ _ _ _ hne2).trans ((yG _ _ _ _ hne2).trans (yG _ _ _ _ hne2))).trans p30,((yG _ _ _ _ hne2).trans ((yG _ _ _ _ hne2).trans (yG _ _ _ _ hne2))).trans p31,((yG _ _ _ _ hne2).trans ((yG _ _ _ _ hne2).trans (yG _ _ _ _ hne2))).trans p32⟩)|(go_keep;done)) (fail);all_goals
     go_wp2_with fail;have c9:=(F3.three (x':=.int .i64 k) (y':=.int .i64 pi) (z':=.int .i64 x)).cell;refine HQ.out _ _ (bodyPost_ret (v:=.tuple #[.slice none 0 0,.agg #[.int .i64 k,.int .i64 pi,.int .i64 x]]) ?_ rfl ⟨⟨.slice none 0 0,?_⟩,?_⟩)
     ·simp[results,results194,go_sem,c9]
     ·rw[HVF.out];rfl
     ·first
      | exact(((HBW.out.setCell (by dsimp only;omega) _).setCell (by dsimp only;omega) _).setCell (by dsimp only;omega) _).drew
      | exact((HBW.out.drew.setCell (by dsimp only;omega) _).setCell (by dsimp only;omega) _).setCell (by dsimp only;omega) _
   | ok c2=>
    rintro e w2 ⟨⟨rfl,l2,hl2,H2⟩,hO2⟩;have HRN:Hid (J4 ps p c l=.ok c2):=HRS.out.symm.trans hst;have HRO:Hid _:=A6p X.fit HOK.out HCL.out HLD.out HRN.out;have HWN:Hid (Ej ps p (gk-1) c2=Ej ps p (2*p.ins.length+2) (Ch p)):=(A98 (Nat.lt_of_le_of_lt (yE _) HME.out) HLD.out HRN.out).symm.trans HWK.out;have HMN:Hid (c2.meas<gk-1/\gk-1<gk):=by have h1:=HRO.out.2.2;have h2:=HME.out;show _/\_;omega
    have A2:=Ak (yA w2.heap.size w2) (.cells #[.int .i64 0,.int .i64 0,.int .i64 0] 155);have HNX:Hid (∀_:Unit,_):=fun _=>Zi B L vb sb db cao ccap ps p h c2 l2 (w2.alloc (.cells #[.int .i64 0,.int .i64 0,.int .i64 0] 155)) X.V X.hz (H2.below A2) hl2;have hBe:=X.hB;have HB2:Hid (Below w0.heap.size w0 (w2.alloc (.cells #[.int .i64 0,.int .i64 0,.int .i64 0] 155))):=HB.out.trans ((by have:=hO2.below;rw[hBe]at this;exact this:Below w0.heap.size wr w2).trans (A2.mono (yI HB.out.size hO2.size)));have HL2:Hid (L<=(w2.alloc (.cells #[.int .i64 0,.int .i64 0,.int .i64 0] 155)).heap.size):=yI HLr.out (yI hO2.size A2.size);clear hst HSP HRS HOK HCL HWK HME HRC HRN HLD H2 hO2 A2 hBe HB HLr HFR;go_wp2_with fail;refine(HNX.out ()).mono ?_;rintro e w4 ⟨⟨l4,hl4,hN4⟩,hO4⟩;have HB4:Hid (Below w0.heap.size w0 w4):=HB2.out.trans (by have:=hO4.below;rw[X.hB]at this;exact this);have HL4:Hid (L<=w4.heap.size):=yI HL2.out hO4.size;clear HNX HB2 HL2 hO4;rcases hN4 with ⟨h1,rfl,h3⟩|⟨h1,rfl,h3⟩
    ·have HNS:Hid (A52 L vb sb db cao ccap ps p h c2 (.int .i64 (-1)) w4):=⟨l4,hl4,.inl ⟨h1,rfl,h3⟩⟩;clear h1 h3;go_wp2;go_roundg (gk-1);case measure=>exact HMN.out.2
     case rel=>exact⟨c2,HRO.out.1,HRO.out.2.1,HWN.out,HMN.out.1,HNS.out,HB4.out,HL4.out⟩
    ·have HNS:Hid (A52 L vb sb db cao ccap ps p h c2 (.int .i64 l4) w4):=⟨l4,hl4,.inr ⟨h1,rfl,h3⟩⟩;clear h1 h3;go_wp2;go_roundg (gk-1);case measure=>exact HMN.out.2
     case rel=>exact⟨c2,HRO.out.1,HRO.out.2.1,HWN.out,HMN.out.1,HNS.out,HB4.out,HL4.out⟩
theorem A07 (w:World) (n:Nat):∀lo,Sb lo (w.alloc (.cells (madeCells #[.bool false,.slice none 0 0,.slice none 0 0] (n*3)) 344)) w.heap.size (List.replicate n none):=by
 intro lo;refine⟨by simpa using Own.made w #[.bool false,.slice none 0 0,.slice none 0 0] (n*3) 344,?_⟩;intro j o hj;rw[List.getElem?_replicate]at hj;split at hj
 ·rename_i hjn;obtain rfl:=(yO hj).symm;have hb:=blk_alloc_new w (.cells (madeCells #[.bool false,.slice none 0 0,.slice none 0 0] (n*3)) 344);have hc:∀i,i<3->(w.alloc (.cells (madeCells #[.bool false,.slice none 0 0,.slice none 0 0] (n*3)) 344)).cell? ⟨w.heap.size,j*3+i,none⟩=(#[.bool false,.slice none 0 0,.slice none 0 0]:Array Value)[i]?:=by intro i hi;have:=Ot (z:=#[.bool false,.slice none 0 0,.slice none 0 0]) (n:=n*3) (j:=j) (i:=i) (by simpa using hi) (by simp;omega);simp only[World.cell?,hb];simpa using this
  exact⟨none,0,none,0,hc 0 (by omega),hc 1 (by omega),hc 2 (by omega),⟨yB _,fun _=>rfl,fun a e=>(by cases e),fun i x hx=>(by simp[stT]at hx),fun b o e=>(by cases e)⟩,⟨yB _,fun _=>rfl,fun a e=>(by cases e),fun i x hx=>(by simp[stG]at hx),fun b o e=>(by cases e)⟩⟩
 ·cases hj
theorem A5p {Q:Exit->Act->World->Prop} (h:Q .normal a w):Exit.inBlock id Q (.exit id) a w:=by simpa[Exit.inBlock]using h
theorem Rv {n:Nat} (h:∀lo,Sb lo w sb (List.replicate n none)) (hb:Below w.heap.size w w'):∀lo,Sb lo w' sb (List.replicate n none):=fun lo=>(h lo).l (Ad.o hb) (hb.block sb (h lo).own.lt)
theorem Yk (p:Pd) (i:Nat):Cf.st ⟨List.replicate p.ins.length none,List.replicate p.ins.length false⟩ i=none:=by unfold Cf.st;rw[yR,List.getElem?_replicate];split<;>rfl
noncomputable def pcVr:Code:=Fu [1,1,1] (Tryz.f194.body.getD .skip)
theorem A32 (w0:World) (B L vb sb db:Nat) (cao:Option Addr) (ccap:Nat) (ps:List Pd) (p:Pd) (h:Ph) (pi:Nat) (w W:World) (c0 c2 c3 c4 c8 c9 c10 c11 c12 c13 c14 c15 c16 c17 c18 c19 c20 c21 c22 c23 c24 c25 c26 c27 c28 c29 c30 c31 c32 c33 c34 c35 c36 c37 c38 c39 c40 c41 c42 c43 c44 c45 c46 c47 c48 c49 c50 c51 c52 c53 c54 c55 c56 c57 c58 c59 c60:Value) (Q:Exit->Act->World->Prop) (hq:∀a' w',bodyPost prog Tryz.f194 (Qe w ps p pi) .ret a' w'->Q .ret a' w')
  (X:Ux w0 B L vb sb db ps p h) (hL0:L=w0.heap.size+3) (hLW:L<=W.heap.size) (V0:Cw L vb sb db cao ccap ps p h W ⟨List.replicate p.ins.length none,List.replicate p.ins.length false⟩ 0) (hb0:Below w0.heap.size w0 W) (hw0:Below w.heap.size w w0) (FL:Blk w0 (w.heap.size+1) #[.int .i64 0,.int .i64 0,.int .i64 0] 155) (PB:Blk W (w.heap.size+1+1) #[.string p.name,.int .i64 p.line,.int .i64 p.params,.bool p.rest,.int .i64 p.regs,.slice h.uo p.ups.length h.uc,.slice h.co p.consts.length h.cc,.slice h.io p.ins.length h.ic,.slice h.no p.named.length h.nc] 63) (hv:Az 0 w0 cao ps) (hu:∀n∈p.ins,∀u∈Du ps n,u.loc=true->0<=u.idx/\u.idx<p.regs) (hul:∀n,(Du ps n).length<=1048576) :
  Code.wp prog pcVr Q ⟨List.toArray (c0::.int .i64 pi::c2::c3::c4::.pointer (some ⟨w.heap.size+1,0,none⟩)::.pointer (some ⟨w.heap.size+1+1,0,none⟩)::.pointer (some ⟨vb,0,none⟩)::c8::c9::c10::c11::c12::c13::c14::c15::c16::c17::c18::c19::c20::c21::c22::c23::c24::c25::c26::c27::c28::c29::c30::c31::c32::c33::c34::c35::c36::c37::c38::c39::c40::c41::c42::c43::c44::c45::c46::c47::c48::c49::c50::c51::c52::c53::c54::c55::c56::c57::c58::c59::c60::[]),[]⟩ W:=by
 conv=>arg 2;whnf
 have hft:=Qv p h ps.length W X.fit;unfold Pd.cells at hft;have HFT:Hid (∀_:Unit,_):=fun _=>hft;have HV:Hid (Az 0 w0 cao ps):=hv;have HU:Hid _:=hu;have HUL:Hid _:=hul;have HQ:Hid _:=hq;have HV0:Hid _:=V0;clear hft hv hu hul hq V0;refine wk fun K3 HK3=>?_;have p0:=PB.cell;go_wp2_with fail;refine(HFT.out ()).mono ?_;rintro e w1 ⟨vv,rfl,T1,hb1⟩;obtain⟨ro,rc,rfl⟩:=Af T1;have hLB:Hid (L<=w1.heap.size):=yI hLW hb1.size;have hrc:=K9 B L vb sb db cao ccap ps p h ⟨List.replicate p.ins.length none,List.replicate p.ins.length false⟩ 0 w1 0 false ⟨Ev p,[]⟩ ro none rc 0 X.V X.hz (HV0.out.below hb1) (yE _) hLB.out X.fit.some ((Ed.of_owns T1).w hLW) ⟨yB _,fun _=>rfl,fun a e=>(by cases e),fun i x hx=>(by simp at hx),fun b o e=>(by cases e)⟩ X.hBL (fun t ht=>by rw[Yk]at ht;cases ht);have hre:Bv ⟨List.replicate p.ins.length none,List.replicate p.ins.length false⟩ 0 ⟨Ev p,[]⟩=some (Ch p):=by unfold Bv;rw[Yk];rfl
 rw[hre]at hrc;unfold Ef at hrc;dsimp only[List.length_nil]at hrc;rw[show ((0:Nat):Int)=0 from rfl]at hrc;have HRC:Hid (∀_:Unit,_):=fun _=>hrc;have HB1:Hid (Below w0.heap.size w0 w1):=hb0.trans (hb1.mono hb0.size);clear hrc hre p0 PB HFT T1 hb1 HV0 hb0 hLW;go_wp2_with fail;refine(HRC.out ()).mono ?_;rintro e w2 ⟨⟨rfl,l2,hl2,H2⟩,hO2⟩;have HB2:Hid (Below w0.heap.size w0 w2):=HB1.out.trans (by have:=hO2.below;rw[X.hB]at this;exact this);have hL2:Hid (L<=w2.heap.size):=yI hLB.out hO2.size;have HNX:Hid (∀_:Unit,_):=fun _=>Zi B L vb sb db cao ccap ps p h (Ch p) l2 w2 X.V X.hz H2 hl2;clear HRC HB1 hLB hO2 H2;go_wp2;refine HK3.out _ _ ?_;clear HK3;refine wk fun K4 HK4=>?_;refine wk fun K5 HK5=>?_;go_wp2_with fail;refine(HNX.out ()).mono ?_;rintro e w4 ⟨⟨l4,hl4,hN4⟩,hO4⟩;have HB4:Hid (Below w0.heap.size w0 w4):=HB2.out.trans (by have:=hO4.below;rw[X.hB]at this;exact this);have HL4:Hid (L<=w4.heap.size):=yI hL2.out hO4.size;clear HNX HB2 hL2 hO4;rcases hN4 with ⟨h1,rfl,h3⟩|⟨h1,rfl,h3⟩;all_goals
  have HNS:Hid (∃y,y=_/\A52 L vb sb db cao ccap ps p h (Ch p) y w4):=⟨_,rfl,l4,hl4,by first|exact .inl ⟨h1,rfl,h3⟩|exact .inr ⟨h1,rfl,h3⟩⟩;clear h1 h3;go_wp2;refine HK5.out _ _ ?_;clear HK5;refine wp_block ?_;obtain⟨_,rfl,hns⟩:=HNS.out;refine A96 w0 B L vb sb db cao ccap ps p h pi w w4 _ _ _ _ _ _ _ _ _ _ _ _ _ _ _ _ _ _ _ _ _ _ _ _ _ _ _ _ _ _ _ _ _ _ _ _ _ _ _ _ _ _ _ _ _ _ _ _ _ _ _ _ _ _ _ _ _ _ _ (fun a' w' hb=>HQ.out a' w' hb) ?_ X hL0 HL4.out hns HB4.out hw0 FL HV.out HU.out HUL.out;intro u4 u8 u9 u35 u36 u37 u38 u39 u40 u41 u42 u43 u44 u45 u46 u47 c l w5 hwo H5 hb5;refine A5p ?_;refine HK4.out _ _ ?_;exact Aap w0 B L vb sb db cao ccap ps p h c l pi w w5 _ _ _ _ _ _ _ _ _ _ _ _ _ _ _ _ _ _ _ _ _ _ _ _ _ _ _ _ _ _ _ _ _ _ _ _ _ _ _ _ _ _ _ _ _ _ _ _ _ _ _ _ _ _ _ _ _ _ _ (fun a' w' hb=>HQ.out a' w' hb) X H5 hb5 (hw0.trans (hb5.mono hw0.size)) (FL.l hb5) hwo
theorem A1z (cao:Option Addr) (ccap:Nat) (ps:List Pd) (pi:Nat) (p:Pd) (w:World) (hpk:ps[pi]?=some p) (hp:Uu ps.length p) (hz:p.ins.length<=6000) (hpl:ps.length<=1048576)
  (hu:∀n∈p.ins,∀u∈Du ps n,u.loc=true->0<=u.idx/\u.idx<p.regs) (hfi:Pm ps) (hF:Ep w) (hv:Az 0 w cao ps) :
  Calls prog 194 #[.agg #[.slice cao ps.length ccap],.int .i64 pi] w (Qe w ps p pi):=by
 have hlt:pi<ps.length:=(yD.1 hpk).1;have HV:Hid (Az 0 w cao ps):=hv;obtain⟨cb,co,rfl,_,hcl,h,NN,PI⟩:=hv pi p hpk;obtain⟨N1,N2,N3,N4,N5,N6,N7,N8,N9⟩:=NN;have hmk:=Ca (P:=prog) 274 344 _ 3 56 underlying274 Tryz.info_State .i64 .i64 p.ins.length (by omega) (by omega);have hmb:=Ca (P:=prog) 242 4 _ 1 1 underlying242 Tryz.info_bool .i64 .i64 p.ins.length (by omega) (by omega);simp only[Nat.mul_one]at hmb;have HP:Hid _:=hp;have HU:Hid _:=hu;have HFM0:Hid _:=hF;have HPK:Hid _:=hpk;have k1:(pi:Int)<ps.length:=by omega
 have C0:=((Blk.new w #[.slice (some ⟨cb,co,none⟩) ps.length ccap] 26).alloc (.cells #[.int .i64 0,.int .i64 0,.int .i64 0] 155));have CB:=C0.alloc (.cells #[.string p.name,.int .i64 p.line,.int .i64 p.params,.bool p.rest,.int .i64 p.regs,.slice h.uo p.ups.length h.uc,.slice h.co p.consts.length h.cc,.slice h.io p.ins.length h.ic,.slice h.no p.named.length h.nc] 63);have FL:=(Blk.new (w.alloc (.cells #[.slice (some ⟨cb,co,none⟩) ps.length ccap] 26)) #[.int .i64 0,.int .i64 0,.int .i64 0] 155).alloc (.cells #[.string p.name,.int .i64 p.line,.int .i64 p.params,.bool p.rest,.int .i64 p.regs,.slice h.uo p.ups.length h.uc,.slice h.co p.consts.length h.cc,.slice h.io p.ins.length h.ic,.slice h.no p.named.length h.nc] 63);have PB:=Blk.new ((w.alloc (.cells #[.slice (some ⟨cb,co,none⟩) ps.length ccap] 26)).alloc (.cells #[.int .i64 0,.int .i64 0,.int .i64 0] 155)) #[.string p.name,.int .i64 p.line,.int .i64 p.params,.bool p.rest,.int .i64 p.regs,.slice h.uo p.ups.length h.uc,.slice h.co p.consts.length h.cc,.slice h.io p.ins.length h.ic,.slice h.no p.named.length h.nc] 63;have hw0:Below w.heap.size w (((w.alloc (.cells #[.slice (some ⟨cb,co,none⟩) ps.length ccap] 26)).alloc (.cells #[.int .i64 0,.int .i64 0,.int .i64 0] 155)).alloc (.cells #[.string p.name,.int .i64 p.line,.int .i64 p.params,.bool p.rest,.int .i64 p.regs,.slice h.uo p.ups.length h.uc,.slice h.co p.consts.length h.cc,.slice h.io p.ins.length h.ic,.slice h.no p.named.length h.nc] 63)):=Ak (Ak (Ak (yA _ _) _) _) _;simp only[nblk_alloc]at FL PB;have HIN:Hid (E5 0 (((w.alloc (.cells #[.slice (some ⟨cb,co,none⟩) ps.length ccap] 26)).alloc (.cells #[.int .i64 0,.int .i64 0,.int .i64 0] 155)).alloc (.cells #[.string p.name,.int .i64 p.line,.int .i64 p.params,.bool p.rest,.int .i64 p.regs,.slice h.uo p.ups.length h.uc,.slice h.co p.consts.length h.cc,.slice h.io p.ins.length h.ic,.slice h.no p.named.length h.nc] 63)) h.io p.ins):=PI.ins.l (Ad.o hw0);have HV0:Hid (Az 0 (((w.alloc (.cells #[.slice (some ⟨cb,co,none⟩) ps.length ccap] 26)).alloc (.cells #[.int .i64 0,.int .i64 0,.int .i64 0] 155)).alloc (.cells #[.string p.name,.int .i64 p.line,.int .i64 p.params,.bool p.rest,.int .i64 p.regs,.slice h.uo p.ups.length h.uc,.slice h.co p.consts.length h.cc,.slice h.io p.ins.length h.ic,.slice h.no p.named.length h.nc] 63)) (some ⟨cb,co,none⟩) ps):=HV.out.l (Ad.o hw0);have HFM:Hid (Ep (((w.alloc (.cells #[.slice (some ⟨cb,co,none⟩) ps.length ccap] 26)).alloc (.cells #[.int .i64 0,.int .i64 0,.int .i64 0] 155)).alloc (.cells #[.string p.name,.int .i64 p.line,.int .i64 p.params,.bool p.rest,.int .i64 p.regs,.slice h.uo p.ups.length h.uc,.slice h.co p.consts.length h.cc,.slice h.io p.ins.length h.ic,.slice h.no p.named.length h.nc] 63))):=HFM0.out.l hw0;clear hp hu hF hv hpk PI HV HFM0;go_in;refine wk fun K0 HK0=>?_;go_wp2;refine HK0.out _ _ ?_;clear HK0;refine wk fun K1 HK1=>?_;have c0:=C0.cell 0;go_wp2;refine HK1.out _ _ ?_;clear HK1 c0 C0 N1 N2 N3 N4 N5 N6 N7 N8 N9;generalize ((w.alloc (.cells #[.slice (some ⟨cb,co,none⟩) ps.length ccap] 26)).alloc (.cells #[.int .i64 0,.int .i64 0,.int .i64 0] 155)).alloc (.cells #[.string p.name,.int .i64 p.line,.int .i64 p.params,.bool p.rest,.int .i64 p.regs,.slice h.uo p.ups.length h.uc,.slice h.co p.consts.length h.cc,.slice h.io p.ins.length h.ic,.slice h.no p.named.length h.nc] 63)=w0 at *;refine wk fun K2 HK2=>?_;have c0:=CB.cell 0;have p0:=PB.cell;go_region_held3 (fun w'=>w'.cell? ⟨w.heap.size,0,none⟩=some (.slice (some ⟨cb,co,none⟩) ps.length ccap)/\w'.cell? ⟨w.heap.size+1+1,0,none⟩=some (.string p.name)/\w'.cell? ⟨w.heap.size+1+1,1,none⟩=some (.int .i64 p.line)/\w'.cell? ⟨w.heap.size+1+1,2,none⟩=some (.int .i64 p.params)/\w'.cell? ⟨w.heap.size+1+1,3,none⟩=some (.bool p.rest)/\w'.cell? ⟨w.heap.size+1+1,4,none⟩=some (.int .i64 p.regs)/\w'.cell? ⟨w.heap.size+1+1,5,none⟩=some (.slice h.uo p.ups.length h.uc)/\w'.cell? ⟨w.heap.size+1+1,6,none⟩=some (.slice h.co p.consts.length h.cc)/\w'.cell? ⟨w.heap.size+1+1,7,none⟩=some (.slice h.io p.ins.length h.ic)/\w'.cell? ⟨w.heap.size+1+1,8,none⟩=some (.slice h.no p.named.length h.nc)) (first|exact⟨c0,p0 0,p0 1,p0 2,p0 3,p0 4,p0 5,p0 6,p0 7,p0 8⟩|exact⟨(CB.alloc _).cell 0,(PB.alloc _).cell 0,(PB.alloc _).cell 1,(PB.alloc _).cell 2,(PB.alloc _).cell 3,(PB.alloc _).cell 4,(PB.alloc _).cell 5,(PB.alloc _).cell 6,(PB.alloc _).cell 7,(PB.alloc _).cell 8⟩|exact⟨((CB.alloc _).alloc _).cell 0,((PB.alloc _).alloc _).cell 0,((PB.alloc _).alloc _).cell 1,((PB.alloc _).alloc _).cell 2,((PB.alloc _).alloc _).cell 3,((PB.alloc _).alloc _).cell 4,((PB.alloc _).alloc _).cell 5,((PB.alloc _).alloc _).cell 6,((PB.alloc _).alloc _).cell 7,((PB.alloc _).alloc _).cell 8⟩|exact⟨(((CB.alloc _).alloc _).alloc _).cell 0,(((PB.alloc _).alloc _).alloc _).cell 0,(((PB.alloc _).alloc _).alloc _).cell 1,(((PB.alloc _).alloc _).alloc _).cell 2,(((PB.alloc _).alloc _).alloc _).cell 3,(((PB.alloc _).alloc _).alloc _).cell 4,(((PB.alloc _).alloc _).alloc _).cell 5,(((PB.alloc _).alloc _).alloc _).cell 6,(((PB.alloc _).alloc _).alloc _).cell 7,(((PB.alloc _).alloc _).alloc _).cell 8⟩|(go_keep;done)) (fail)
 ·go_wp2;refine HK2.out _ _ ?_;have hal:Below w0.heap.size w0 (((w0.alloc (.cells (madeCells #[.bool false,.slice none 0 0,.slice none 0 0] (p.ins.length*3)) 344)).alloc (.cells (madeCells #[.bool false] p.ins.length) 4)).alloc (.cells #[.slice (some ⟨cb,co,none⟩) ps.length ccap,.string p.name,.int .i64 p.line,.int .i64 p.params,.bool p.rest,.int .i64 p.regs,.slice h.uo p.ups.length h.uc,.slice h.co p.consts.length h.cc,.slice h.io p.ins.length h.ic,.slice h.no p.named.length h.nc,.slice (some ⟨w0.heap.size,0,none⟩) p.ins.length p.ins.length,.slice (some ⟨w0.heap.size+1,0,none⟩) p.ins.length p.ins.length,.int .i64 0] 339)).drew:=(Ak (Ak (Ak (yA _ _) _) _) _).drew;have VFA:Cw (w0.heap.size+3) (w0.heap.size+1+1) (w0.heap.size) (w0.heap.size+1) (some ⟨cb,co,none⟩) ccap ps p h (((w0.alloc (.cells (madeCells #[.bool false,.slice none 0 0,.slice none 0 0] (p.ins.length*3)) 344)).alloc (.cells (madeCells #[.bool false] p.ins.length) 4)).alloc (.cells #[.slice (some ⟨cb,co,none⟩) ps.length ccap,.string p.name,.int .i64 p.line,.int .i64 p.params,.bool p.rest,.int .i64 p.regs,.slice h.uo p.ups.length h.uc,.slice h.co p.consts.length h.cc,.slice h.io p.ins.length h.ic,.slice h.no p.named.length h.nc,.slice (some ⟨w0.heap.size,0,none⟩) p.ins.length p.ins.length,.slice (some ⟨w0.heap.size+1,0,none⟩) p.ins.length p.ins.length,.int .i64 0] 339)).drew ⟨List.replicate p.ins.length none,List.replicate p.ins.length false⟩ 0:=by
   refine⟨?_,?_,?_,fun j hj=>absurd hj (Nat.not_lt_zero _),by simp,by simp⟩
   ·have:=Blk.new ((w0.alloc (.cells (madeCells #[.bool false,.slice none 0 0,.slice none 0 0] (p.ins.length*3)) 344)).alloc (.cells (madeCells #[.bool false] p.ins.length) 4)) #[.slice (some ⟨cb,co,none⟩) ps.length ccap,.string p.name,.int .i64 p.line,.int .i64 p.params,.bool p.rest,.int .i64 p.regs,.slice h.uo p.ups.length h.uc,.slice h.co p.consts.length h.cc,.slice h.io p.ins.length h.ic,.slice h.no p.named.length h.nc,.slice (some ⟨w0.heap.size,0,none⟩) p.ins.length p.ins.length,.slice (some ⟨w0.heap.size+1,0,none⟩) p.ins.length p.ins.length,.int .i64 0] 339;simp only[nblk_alloc]at this;exact this
   ·exact Rv (A07 w0 p.ins.length) (Ak (Ak (yA _ _) _) _).drew _
   ·have:=(Jn (w0.alloc (.cells (madeCells #[.bool false,.slice none 0 0,.slice none 0 0] (p.ins.length*3)) 344)) p.ins.length).alloc (.cells #[.slice (some ⟨cb,co,none⟩) ps.length ccap,.string p.name,.int .i64 p.line,.int .i64 p.params,.bool p.rest,.int .i64 p.regs,.slice h.uo p.ups.length h.uc,.slice h.co p.consts.length h.cc,.slice h.io p.ins.length h.ic,.slice h.no p.named.length h.nc,.slice (some ⟨w0.heap.size,0,none⟩) p.ins.length p.ins.length,.slice (some ⟨w0.heap.size+1,0,none⟩) p.ins.length p.ins.length,.int .i64 0] 339);simp only[nblk_alloc]at this;exact this
  have XX:Ux w0 w0.heap.size (w0.heap.size+3) (w0.heap.size+1+1) (w0.heap.size) (w0.heap.size+1) ps p h:=⟨⟨by omega,by omega,by omega,by omega,by omega,by omega,by omega,by omega,by omega⟩,rfl,by omega,hz,HP.out,hfi.few p (yH HPK.out),hpl,HIN.out,HFM.out⟩;exact A32 w0 w0.heap.size (w0.heap.size+3) (w0.heap.size+1+1) (w0.heap.size) (w0.heap.size+1) (some ⟨cb,co,none⟩) ccap ps p h pi w _ _ _ _ _ _ _ _ _ _ _ _ _ _ _ _ _ _ _ _ _ _ _ _ _ _ _ _ _ _ _ _ _ _ _ _ _ _ _ _ _ _ _ _ _ _ _ _ _ _ _ _ _ _ _ _ _ _ _ (fun a' w' hb=>hb) XX rfl (by show _<=_;simp) VFA hal hw0 FL (PB.l hal) HV0.out HU.out (U5 hfi.few)
 ·go_wp2;refine HK2.out _ _ ?_;have hal:Below w0.heap.size w0 (((w0.alloc (.cells (madeCells #[.bool false] p.ins.length) 4)).alloc (.cells (madeCells #[.bool false,.slice none 0 0,.slice none 0 0] (p.ins.length*3)) 344)).alloc (.cells #[.slice (some ⟨cb,co,none⟩) ps.length ccap,.string p.name,.int .i64 p.line,.int .i64 p.params,.bool p.rest,.int .i64 p.regs,.slice h.uo p.ups.length h.uc,.slice h.co p.consts.length h.cc,.slice h.io p.ins.length h.ic,.slice h.no p.named.length h.nc,.slice (some ⟨w0.heap.size+1,0,none⟩) p.ins.length p.ins.length,.slice (some ⟨w0.heap.size,0,none⟩) p.ins.length p.ins.length,.int .i64 0] 339)).drew:=(Ak (Ak (Ak (yA _ _) _) _) _).drew;have VFA:Cw (w0.heap.size+3) (w0.heap.size+1+1) (w0.heap.size+1) (w0.heap.size) (some ⟨cb,co,none⟩) ccap ps p h (((w0.alloc (.cells (madeCells #[.bool false] p.ins.length) 4)).alloc (.cells (madeCells #[.bool false,.slice none 0 0,.slice none 0 0] (p.ins.length*3)) 344)).alloc (.cells #[.slice (some ⟨cb,co,none⟩) ps.length ccap,.string p.name,.int .i64 p.line,.int .i64 p.params,.bool p.rest,.int .i64 p.regs,.slice h.uo p.ups.length h.uc,.slice h.co p.consts.length h.cc,.slice h.io p.ins.length h.ic,.slice h.no p.named.length h.nc,.slice (some ⟨w0.heap.size+1,0,none⟩) p.ins.length p.ins.length,.slice (some ⟨w0.heap.size,0,none⟩) p.ins.length p.ins.length,.int .i64 0] 339)).drew ⟨List.replicate p.ins.length none,List.replicate p.ins.length false⟩ 0:=by
   refine⟨?_,?_,?_,fun j hj=>absurd hj (Nat.not_lt_zero _),by simp,by simp⟩
   ·have:=Blk.new ((w0.alloc (.cells (madeCells #[.bool false] p.ins.length) 4)).alloc (.cells (madeCells #[.bool false,.slice none 0 0,.slice none 0 0] (p.ins.length*3)) 344)) #[.slice (some ⟨cb,co,none⟩) ps.length ccap,.string p.name,.int .i64 p.line,.int .i64 p.params,.bool p.rest,.int .i64 p.regs,.slice h.uo p.ups.length h.uc,.slice h.co p.consts.length h.cc,.slice h.io p.ins.length h.ic,.slice h.no p.named.length h.nc,.slice (some ⟨w0.heap.size+1,0,none⟩) p.ins.length p.ins.length,.slice (some ⟨w0.heap.size,0,none⟩) p.ins.length p.ins.length,.int .i64 0] 339;simp only[nblk_alloc]at this;exact this
   ·have:=Rv (A07 (w0.alloc (.cells (madeCells #[.bool false] p.ins.length) 4)) p.ins.length) (Ak (yA _ _) (.cells #[.slice (some ⟨cb,co,none⟩) ps.length ccap,.string p.name,.int .i64 p.line,.int .i64 p.params,.bool p.rest,.int .i64 p.regs,.slice h.uo p.ups.length h.uc,.slice h.co p.consts.length h.cc,.slice h.io p.ins.length h.ic,.slice h.no p.named.length h.nc,.slice (some ⟨w0.heap.size+1,0,none⟩) p.ins.length p.ins.length,.slice (some ⟨w0.heap.size,0,none⟩) p.ins.length p.ins.length,.int .i64 0] 339)).drew;simp only[nblk_alloc]at this;exact this _
   ·exact((Jn w0 p.ins.length).alloc _).alloc _
  have XX:Ux w0 w0.heap.size (w0.heap.size+3) (w0.heap.size+1+1) (w0.heap.size+1) (w0.heap.size) ps p h:=⟨⟨by omega,by omega,by omega,by omega,by omega,by omega,by omega,by omega,by omega⟩,rfl,by omega,hz,HP.out,hfi.few p (yH HPK.out),hpl,HIN.out,HFM.out⟩;exact A32 w0 w0.heap.size (w0.heap.size+3) (w0.heap.size+1+1) (w0.heap.size+1) (w0.heap.size) (some ⟨cb,co,none⟩) ccap ps p h pi w _ _ _ _ _ _ _ _ _ _ _ _ _ _ _ _ _ _ _ _ _ _ _ _ _ _ _ _ _ _ _ _ _ _ _ _ _ _ _ _ _ _ _ _ _ _ _ _ _ _ _ _ _ _ _ _ _ _ _ (fun a' w' hb=>hb) XX rfl (by show _<=_;simp) VFA hal hw0 FL (PB.l hal) HV0.out HU.out (U5 hfi.few)
theorem Nf (ao:Option Addr) (cap:Nat) (ps:List Pd) (w:World) (hfi:Pm ps) (hF:Ep w) (hv:Az 0 w ao ps) :
  Kw 115 #[.agg #[.slice ao ps.length cap]] w (Oi (F8 ps)):=by
 have hl:ps.length<=1048576:=by have:=hfi.bulk;unfold Jf at this;omega
 have C0:=(Blk.new w #[.slice ao ps.length cap] 26).alloc (.cells #[.int .i64 0,.int .i64 0,.int .i64 0] 155);have R0:=Blk.new (w.alloc (.cells #[.slice ao ps.length cap] 26)) #[.int .i64 0,.int .i64 0,.int .i64 0] 155;have B0:Below w.heap.size w ((w.alloc (.cells #[.slice ao ps.length cap] 26)).alloc (.cells #[.int .i64 0,.int .i64 0,.int .i64 0] 155)):=((yA _ _).alloc (yB _) _).alloc (by simp) _;simp only[nblk_alloc]at R0;have HFI:Hid _:=hfi;have HV:Hid (Az 0 w ao ps):=hv;have HFM:Hid _:=hF;clear hF;have HCK:Hid (F8 ps=if (Ce ps).1=0 then P8 ps 0 ps else Ce ps):=rfl;have HSH:Hid (∀W,Below w.heap.size w W->Kw 193 #[.agg #[.slice ao ps.length cap]] W (.agg #[.int .i64 (Ce ps).1,.int .i64 (Ce ps).2.1,.int .i64 (Ce ps).2.2])):=fun W hb=>Ql ao cap ps W HFI.out (HFM.out.l hb) (HV.out.l (Ad.o hb));obtain⟨⟨s0,s1,s2⟩,hs⟩:∃s,s=Ce ps:=⟨_,rfl⟩;have HS:Hid _:=hs;rw[←hs]at HSH HCK;dsimp only at HSH HCK;clear hs hfi hv;(try unfold Kw);go_in;have c0:=C0.cell 0;go_wp2_with fail;clear c0;generalize (w.alloc (.cells #[.slice ao ps.length cap] 26)).alloc (.cells #[.int .i64 0,.int .i64 0,.int .i64 0] 155)=w0 at *;refine(HSH.out w0 B0).mono ?_;rintro e w1 ⟨rfl,hw1⟩;have C1:=C0.l hw1;have R1:=R0.l hw1;have B1:=B0.trans (hw1.mono B0.size);clear C0 R0 B0 hw1 HSH;have A1:=fun o=>(yA w1.heap.size w1).alloc (yB _) o;have X1:=Blk.new w1 #[.int .i64 s0,.int .i64 s1,.int .i64 s2] 155;by_cases h0:s0=0
 ·subst h0;have HCK2:Hid (F8 ps=P8 ps 0 ps):=by have:=HCK.out;rw[if_pos rfl]at this;exact this
  have HFT:Hid (∀p∈ps,Fits ps p):=Ru (by have:=HS.out;rw[←this]);have C2:=C1.l (A1 (.cells #[.int .i64 0,.int .i64 s1,.int .i64 s2] 155));have R2:=R1.l (A1 (.cells #[.int .i64 0,.int .i64 s1,.int .i64 s2] 155));have B2:=B1.trans ((A1 (.cells #[.int .i64 0,.int .i64 s1,.int .i64 s2] 155)).mono B1.size);have c2:=C2.cell 0;clear HCK HS C1 R1 B1 A1;go_wp2_with fail;generalize w1.alloc (.cells #[.int .i64 0,.int .i64 s1,.int .i64 s2] 155)=w2 at *;clear c2 X1;go_loopg [16] (ps.length+1) (fun g y wr=>∃k:Nat,k<=ps.length/\y=.int .i64 k/\Hid (P8 ps k (ps.drop k)=P8 ps 0 ps)/\Hid (ps.length+1-k<=g)/\Below w.heap.size w wr/\Blk wr w.heap.size #[.slice ao ps.length cap] 26/\Blk wr (w.heap.size+1) #[.int .i64 0,.int .i64 0,.int .i64 0] 155);case atStart=>exact⟨0,yE _,rfl,rfl,yB _,B2,C2,R2⟩
  case round=>
   obtain⟨k,hk,rfl,HQ,HG,B3,C3,R3⟩:=hrel;clear B2 C2 R2;by_cases hkl:k<ps.length
   ·obtain⟨p,hp⟩:=Ah hkl;have HF:Hid (Fits ps p):=HFT.out p (yH hp);have HQ2:Hid (P8 ps 0 ps=if (J7 ps p k).1=0 then P8 ps (k+1) (ps.drop (k+1)) else J7 ps p k):=HQ.out.symm.trans (A4x hp);have HG2:Hid (ps.length+1-(k+1)<=gk-1/\gk-1<gk):=by have:=HG.out;show _/\_;omega
    have HWK:Hid (∀_:Unit,_):=fun _=>A1z ao cap ps k p wr hp HF.out.fit HF.out.few hl HF.out.ups HFI.out (HFM.out.l B3) (HV.out.l (Ad.o B3));have c3:=C3.cell 0;have k1:(k:Int)<ps.length:=by omega
    clear hp HQ HG;go_wp2_with fail;refine(HWK.out ()).mono ?_;unfold Qe Oi;rintro e w4 ⟨⟨v,rfl⟩,hw4⟩;have C4:=C3.l hw4;have R4:=R3.l hw4;have B4:=B3.trans (hw4.mono B3.size);obtain⟨⟨f0,f1,f2⟩,hf⟩:∃f,f=J7 ps p k:=⟨_,rfl⟩;rw[←hf]at HQ2 ⊢;dsimp only at HQ2 ⊢;clear hf HWK C3 R3 B3 hw4 c3;have X4:=Blk.new w4 #[.int .i64 f0,.int .i64 f1,.int .i64 f2] 155;have A4:=(yA w4.heap.size w4).alloc (yB _) (.cells #[.int .i64 f0,.int .i64 f1,.int .i64 f2] 155);have C5:=C4.l A4;have R5:=R4.l A4;have B5:=B4.trans (A4.mono B4.size);by_cases hf0:f0=0
    ·subst hf0;have HQ3:Hid (P8 ps (k+1) (ps.drop (k+1))=P8 ps 0 ps):=by have:=HQ2.out;rw[if_pos rfl]at this;exact this.symm
     clear HQ2;go_wp2;go_roundg (gk-1);case measure=>exact HG2.out.2
     case rel=>exact⟨k+1,by omega,by go_num,HQ3.out,HG2.out.1,B5,C5,R5⟩
    ·have HQ3:Hid (F8 ps=(f0,f1,f2)):=by have:=HQ2.out;rw[if_neg hf0]at this;exact HCK2.out.trans this
     have kf:(f0 !=0)=true:=by simpa using hf0
     have r5:=R5.cell;have z5:=R5.frozen;have hne:¬w4.heap.size=w.heap.size+1:=by have:=R4.lt;omega
     clear HQ2 hf0;go_wp2_with fail;refine bodyPost_ret (v:=.agg #[.int .i64 f0,.int .i64 f1,.int .i64 f2]) ?_ rfl ⟨?_,?_⟩
     ·simp[results,results115,go_sem,r5]
     ·rw[HQ3.out];rfl
     ·iterate 3 (refine yP ?_ (by simp) _)
      exact B5
   ·obtain rfl:k=ps.length:=by omega
    have HQ3:Hid (F8 ps=(0,0,0)):=by show _=_;rw[HCK2.out,←HQ.out,List.drop_length];rfl
    have r3:=R3.cell;have z3:=R3.frozen;have k1:¬(ps.length:Int)<ps.length:=by omega
    clear HQ HG;go_wp2_with fail;refine bodyPost_ret (v:=.agg #[.int .i64 0,.int .i64 0,.int .i64 0]) ?_ rfl ⟨?_,?_⟩
    ·simp[results,results115,go_sem,r3]
    ·rw[HQ3.out];rfl
    ·iterate 3 (refine yP ?_ (by simp) _)
     exact B3
 ·have HCK2:Hid (F8 ps=(s0,s1,s2)):=by have:=HCK.out;rw[if_neg h0]at this;exact this
  have kf:(s0 !=0)=true:=by simpa using h0
  have R2:=R1.l (A1 (.cells #[.int .i64 s0,.int .i64 s1,.int .i64 s2] 155));have B2:=B1.trans ((A1 (.cells #[.int .i64 s0,.int .i64 s1,.int .i64 s2] 155)).mono B1.size);have r2:=R2.cell;have z2:=R2.frozen;have hne:¬w1.heap.size=w.heap.size+1:=by have:=R1.lt;omega
  clear HCK HS h0 A1;go_wp2_with fail;refine bodyPost_ret (v:=.agg #[.int .i64 s0,.int .i64 s1,.int .i64 s2]) ?_ rfl ⟨?_,?_⟩
  ·simp[results,results115,go_sem,r2]
  ·rw[HCK2.out];rfl
  ·iterate 3 (refine yP ?_ (by simp) _)
   exact B2
theorem Tryz.info_QInsP:(prog.info? 161).map (fun i=>(i.zero,i.size,i.bytes))=some (some (.agg #[.int .i64 0,.int .i64 0,.int .i64 0,.int .i64 0,.int .i64 0,.int .i64 0,.int .i64 0]),7,56):=by kernel_rfl
theorem Tryz.info_QProtoP:(prog.info? 166).map (fun i=>(i.zero,i.size,i.bytes))=some (some (.agg #[.slice none 0 0]),1,24):=by kernel_rfl
theorem Yh (a b c:Int) (W:World):(Instr.field 155 (.agg #[.int .i64 a,.int .i64 b,.int .i64 c]) 0).run prog W=.ok (.int .i64 a) W:=by kernel_rfl
theorem CellsAre.sets7{b:Nat} (h:∀o,W.cell? ⟨b,o,none⟩=A[o]?) (hn:b≠g) (o0 o1 o2 o3 o4 o5 o6:Nat) (v0 v1 v2 v3 v4 v5 v6:Value):∀o,(((((((W.setCell ⟨g,o0,none⟩ v0).setCell ⟨g,o1,none⟩ v1).setCell ⟨g,o2,none⟩ v2).setCell ⟨g,o3,none⟩ v3).setCell ⟨g,o4,none⟩ v4).setCell ⟨g,o5,none⟩ v5).setCell ⟨g,o6,none⟩ v6).cell? ⟨b,o,none⟩=A[o]?:=
 CellsAre.set (CellsAre.set (CellsAre.set (CellsAre.set (CellsAre.set (CellsAre.set (CellsAre.set h hn _ _) hn _ _) hn _ _) hn _ _) hn _ _) hn _ _) hn _ _
theorem A59 (hf:Pm ps) (hl:ps.length<=1048576) (hk:k<ps.length) (hi:i<is.length) (hz:is.length<=1048576):Fv cs is (Dn ps k) i<=1099513724928:=by have h1:=V8 cs is (Dn ps k) i;have h2:=A7s (fun p hp=>(hf.few p hp).ins) k;omega
theorem A6k (hf:Pm ps) (hc:(F8 ps).1=0) (hp:p∈ps) (hi:p.ins[i]?=some n):Lv n (p.ins.drop (i+1)) p.consts:=by have hd:p.ins.drop i=n::p.ins.drop (i+1):=Bg hi;have hm:∀z∈n::p.ins.drop (i+1),z∈p.ins:=fun z hz=>List.mem_of_mem_drop (hd▸hz);have hq:=A8r hc p hp;refine⟨?_,fun z hz=>(hq z (hm z hz)).drop,(hq n (yH hi)).cst,(hq n (yH hi)).bin,fun z hz=>hf.nds p hp z (hm z hz)⟩;rw[←hd];have:=(hf.few p hp).ins;simp;omega
theorem A3h{c0:Nat} (hi:ins[i]?=some n):Fv cs ins c0 (i+1)=if (Ck cs (Fv cs ins c0 i) (n::ins.drop (i+1))).op=45 then Fv cs ins c0 i+1 else Fv cs ins c0 i:=by rw[Fv,Bg hi]
end Go.Proofs.YtbefeflgjipfhaaGreatDoor
namespace Go.Proofs.YtbefeflgjipfhaaGreatDoor
open Go.Deep Go.Proofs.Tryz Go.RowKit
def CapQ (w:World) (g:Nat) (ps:List Pd) (k:Nat):Prop:=∀j p,j<k->ps[j]?=some p->∃ao ic,w.cell? ⟨g,j*9+7,none⟩=some (.slice ao p.ins.length ic)/\p.ins.length<=ic
theorem Ol (cg cap:Nat) (ps:List Pd) (w:World) (hfi:Pm ps) (hF:Ep w) (hv:Az 0 w (some ⟨cg,0,none⟩) ps) (hcap:CapQ w cg ps ps.length) (hc:(F8 ps).1=0) :
  Calls prog 32 #[.agg #[.slice (some ⟨cg,0,none⟩) ps.length cap]] w fun e w'=>∃g gs,e=.returned (.agg #[.slice (some ⟨g,0,none⟩) ps.length ps.length,.int .i64 (Dn ps ps.length:Int)])/\A53 w' g gs (Zu ps)/\w.heap.size<=g/\Below w.heap.size w w':=by
 have hl:ps.length<=1048576:=by have:=hfi.bulk;unfold Jf at this;omega
 have C0:=(Blk.new w #[.slice (some ⟨cg,0,none⟩) ps.length cap] 26).alloc (.cells #[.slice none 0 0,.int .i64 0] 104)
 have R0:=Blk.newIn (W:=w.alloc (.cells #[.slice (some ⟨cg,0,none⟩) ps.length cap] 26)) (n:=w.heap.size+1) #[.slice none 0 0,.int .i64 0] 104 (by simp)
 have B0:Below w.heap.size w ((w.alloc (.cells #[.slice (some ⟨cg,0,none⟩) ps.length cap] 26)).alloc (.cells #[.slice none 0 0,.int .i64 0] 104)):=((Below.refl _ _).alloc (Nat.le_refl _) _).alloc (by simp) _
 obtain⟨⟨f0,f1,f2⟩,hf⟩:∃f,f=F8 ps:=⟨_,rfl⟩
 obtain rfl:f0=0:=by rw[←hf]at hc;exact hc
 have HCK:Hid (∀W,Below w.heap.size w W->Calls prog 115 #[.agg #[.slice (some ⟨cg,0,none⟩) ps.length cap]] W fun e w'=>e=.returned (.agg #[.int .i64 0,.int .i64 f1,.int .i64 f2])/\Below W.heap.size W w'):=fun W hb=>by
  have:=Nf (some ⟨cg,0,none⟩) cap ps W hfi (hF.l hb) (hv.l (Ad.o hb));rw[←hf]at this;exact this
 have HFI:Hid (Pm ps):=hfi
 have HCC:Hid ((F8 ps).1=0):=hc
 have HV:Hid (Az 0 w (some ⟨cg,0,none⟩) ps):=hv
 have HCA:Hid (CapQ w cg ps ps.length):=hcap
 have hmk:=Ca (P:=prog) 72 166 _ 1 24 underlying72 Tryz.info_QProtoP .i64 .i64 ps.length (by omega) (by omega)
 clear hf hc hF hv hfi hcap
 have hfd:=Yh 0 f1 f2
 go_enter func32,ntmps32
 have c0:=C0.cell
 go_wp2_with fail
 refine(HCK.out _ B0).mono ?_
 rintro e w1 ⟨rfl,hw1⟩
 have B1:=B0.trans (hw1.mono B0.size)
 have C1:=C0.l hw1
 have R1:=R0.l hw1
 clear hw1 B0 C0 R0 c0 HCK
 have c1:=C1.cell
 go_wp2_with fail
 refine(Wv w1).mono ?_
 rintro e w2 ⟨g0,rfl,P2,hg0,hw2⟩
 have B2:=B1.trans (hw2.mono B1.size)
 have C2:=C1.l hw2
 have R2:=R1.l hw2
 clear hw2 B1 C1 R1 c1
 have c2:=C2.cell
 have c2a:=fun o=>(C2.alloc o).cell
 have c2b:=fun o o'=>((C2.alloc o).alloc o').cell
 go_wp2_with fail
 have O0:=Gr.start w2 ps #[.slice none 0 0]
 clear hmk
 go_loopw [23] (fun y wr=>∃(k:Nat) (gs:Nat->Nat),k<=ps.length/\y=.int .i64 k/\Hid (Gr w2 ps wr gs k)) (fun y _=>ps.length-(intOf y).toNat)
 case atStart=>exact⟨0,fun _=>0,Nat.zero_le _,rfl,O0⟩
 case round=>
  obtain⟨k,gs,hk,rfl,HO⟩:=hrel
  obtain⟨wo,hwo⟩:∃wo,wo=wr:=⟨_,rfl⟩
  subst hwo
  clear O0 c2 c2a c2b
  have c3:=(C2.l HO.out.b2).cell
  by_cases hlt:k<ps.length
  ·obtain⟨p,hp⟩:=Ah hlt
   have HP:Hid (ps[k]?=some p):=hp
   have BR:=B2.trans (HO.out.b2.mono B2.size)
   obtain⟨b,off,e,_,hbl0,h,hnine,hpin⟩:=HV.out k p hp
   simp only[Option.some.injEq,Addr.mk.injEq,and_true]at e
   obtain⟨rfl,rfl⟩:=e
   obtain⟨n0,n1,n2,n3,n4,n5,n6,n7,n8⟩:=Jc.l hnine BR hbl0
   simp only[Nat.zero_add]at n0 n1 n2 n3 n4 n5 n6 n7 n8
   have hic:p.ins.length<=h.ic:=by
    obtain⟨ao',ic',h1,h0⟩:=HCA.out k p hlt hp
    have h2:=(BR.cell (p:=⟨cg,k*9+7,none⟩) hbl0).trans h1
    have h3:=Option.some.inj (n7.symm.trans h2)
    simp only[Value.slice.injEq]at h3
    rw[h3.2.2];exact h0
   have hil:p.ins.length<=1048576:=(HFI.out.few p (List.mem_of_getElem? hp)).ins
   have HPI:Hid (PIn 0 w h p):=hpin
   have hmk2:=Ca (P:=prog) 159 161 _ 7 56 underlying159 Tryz.info_QInsP .i64 .i64 p.ins.length (by omega) (by omega)
   have I0:=Dt.start (p:=p) HO.out (p.cells h) #[.int .i64 0,.int .i64 0,.int .i64 0,.int .i64 0,.int .i64 0,.int .i64 0,.int .i64 0]
   have HQG:Hid (∀(i:Nat) n,p.ins[i]?=some n->Lv n (p.ins.drop (i+1)) p.consts):=fun i n hi=>A6k HFI.out HCC.out (List.mem_of_getElem? hp) hi
   have HCS:Hid (Dn ps (k+1)=Fv p.consts p.ins (Dn ps k) p.ins.length):=A3g hp
   clear hp hpin hnine
   obtain⟨nm,ln,pa,re,rg,us,cs,is,ms⟩:=p
   obtain⟨uo,uc,co,cc,io,ic,no,nc⟩:=h
   dsimp only[Pd.cells]at *
   have hkl:(k:Int)<ps.length:=by omega
   go_wp2_with fail
   clear hmk2 n0 n1 n2 n3 n4 n5 n6 n7 n8 c3
   go_loopw [34] (fun y wi=>∃i:Nat,i<=is.length/\y=.int .i64 i/\Hid (Dt w2 wo ps #[.string nm,.int .i64 ln,.int .i64 pa,.bool re,.int .i64 rg,.slice uo us.length uc,.slice co cs.length cc,.slice io is.length ic,.slice no ms.length nc] k ⟨nm,ln,pa,re,rg,us,cs,is,ms⟩ wi (Fv cs is (Dn ps k) i) i)) (fun y _=>is.length-(intOf y).toNat)
   case atStart=>exact⟨0,Nat.zero_le _,rfl,I0⟩
   case round=>
    obtain⟨i,hi,rfl,HI⟩:=hrel
    clear I0
    obtain⟨wi,hwi⟩:∃wi,wi=wr:=⟨_,rfl⟩
    subst hwi
    have HL:Hid (wo.heap.size+1<wi.heap.size):=HI.out.own.lt
    by_cases hil2:i<is.length
    ·obtain⟨n,hn⟩:=Ah hil2
     have BI:=Dt.b2 HO.out HI.out
     have BWI:=B2.trans (BI.mono B2.size)
     have hqg:=HQG.out i n hn
     have hpd:=Bg hn
     have hpin:=HPI.out
     obtain⟨ib,iof,e,_,hibl,_⟩:=hpin.ins i n hn
     dsimp only at e
     subst e
     have hfew:=hqg.few
     obtain⟨q,hq⟩:∃q,q=Ck cs (Fv cs is (Dn ps k) i) (n::is.drop (i+1)):=⟨_,rfl⟩
     have hqi:(Qa cs is (Dn ps k))[i]?=some q:=by rw[A8n hil2,hpd,hq]
     have HCI:Hid (Fv cs is (Dn ps k) (i+1)=if q.op=45 then Fv cs is (Dn ps k) i+1 else Fv cs is (Dn ps k) i):=by
      rw[A3h hn,hq];rfl
     have HQC:Hid (∀W,Below w2.heap.size w2 W->Calls prog 117 #[.agg #[.slice (some ⟨ib,iof+i*5,none⟩) (is.length-i) (ic-i),.slice co cs.length cc,.int .i64 ((Fv cs is (Dn ps k) i:Nat):Int)],.slice (some ⟨g0,0,none⟩) 5 5] W fun e w'=>e=.returned q.val/\Below W.heap.size W w'):=by
      intro W hb
      have:=Zw (some ⟨ib,iof+i*5,none⟩) co (ic-i) cc (Fv cs is (Dn ps k) i) g0 n (is.drop (i+1)) cs W hqg (by rw[←hpd];exact Ay.dropAt (hpin.ins.l (Ad.o (B2.trans (hb.mono B2.size)))) i) (hpin.consts.l (Ad.o (B2.trans (hb.mono B2.size)))) (P2.l hb)
      rw[←hq,←hpd,List.length_drop]at this
      exact this
     obtain⟨q0,q1,q2,q3,q4,q5,q6⟩:=q
     dsimp only[Qd.val]at HQC HCI
     have HPT:Hid (∀W c,Dt w2 wo ps #[.string nm,.int .i64 ln,.int .i64 pa,.bool re,.int .i64 rg,.slice uo us.length uc,.slice co cs.length cc,.slice (some ⟨ib,iof,none⟩) is.length ic,.slice no ms.length nc] k ⟨nm,ln,pa,re,rg,us,cs,is,ms⟩ W c i->Dt w2 wo ps #[.string nm,.int .i64 ln,.int .i64 pa,.bool re,.int .i64 rg,.slice uo us.length uc,.slice co cs.length cc,.slice (some ⟨ib,iof,none⟩) is.length ic,.slice no ms.length nc] k ⟨nm,ln,pa,re,rg,us,cs,is,ms⟩ (W.setCells (wo.heap.size+1) (i*7) (Qd.vals ⟨q0,q1,q2,q3,q4,q5,q6⟩)) c (i+1)):=fun W c h=>Dt.put (q:=⟨q0,q1,q2,q3,q4,q5,q6⟩) HO.out h hqi
     have HCT:Hid (∀W c c',Dt w2 wo ps #[.string nm,.int .i64 ln,.int .i64 pa,.bool re,.int .i64 rg,.slice uo us.length uc,.slice co cs.length cc,.slice (some ⟨ib,iof,none⟩) is.length ic,.slice no ms.length nc] k ⟨nm,ln,pa,re,rg,us,cs,is,ms⟩ W c (i+1)->Dt w2 wo ps #[.string nm,.int .i64 ln,.int .i64 pa,.bool re,.int .i64 rg,.slice uo us.length uc,.slice co cs.length cc,.slice (some ⟨ib,iof,none⟩) is.length ic,.slice no ms.length nc] k ⟨nm,ln,pa,re,rg,us,cs,is,ms⟩ (W.setCell ⟨w2.heap.size+1,1,none⟩ (.int .i64 ((c':Nat):Int))) c' (i+1)):=fun W c c' h=>Dt.count HO.out h c'
     have HI1:Hid (Dt w2 wo ps #[.string nm,.int .i64 ln,.int .i64 pa,.bool re,.int .i64 rg,.slice uo us.length uc,.slice co cs.length cc,.slice (some ⟨ib,iof,none⟩) is.length ic,.slice no ms.length nc] k ⟨nm,ln,pa,re,rg,us,cs,is,ms⟩ wi.drew (Fv cs is (Dn ps k) i) i):=Dt.l HI.out (Below.refl _ _).drew
     have hcl:=A59 HFI.out (cs:=cs) (is:=is) hl hlt hil2 hil
     have e1:=HI1.out.pr.cell
     have e2:=HI1.out.hq.cell
     have hL:=Dt.lt HO.out
     have hn1:wo.heap.size≠wo.heap.size+1:=Nat.ne_of_lt (Nat.lt_succ_self _)
     have hn2:w2.heap.size+1≠wo.heap.size+1:=Nat.ne_of_lt (Nat.lt_succ_of_lt hL)
     have k1:(i:Int)<is.length:=Int.ofNat_lt.2 hil2
     have k2:¬is.length=i:=Nat.ne_of_gt hil2
     have k3:(i:Int)<=is.length:=Int.ofNat_le.2 hi
     have k4:(is.length:Int)<=ic:=Int.ofNat_le.2 hic
     have k6:¬ic=i:=by omega
     have k5:(i:Int)<=ic:=Int.le_trans k3 k4
     have BI1:Below w2.heap.size w2 wi.drew:=BI.drew
     have HQI:Hid ((Qa cs is (Dn ps k))[i]?=some ⟨q0,q1,q2,q3,q4,q5,q6⟩):=hqi
     have hi1:i+1<=is.length:=hil2
     clear hqi hq hpd hn hqg hfew hpin hil2 HI BI
     generalize Fv cs is (Dn ps k) i=C at *
     obtain⟨C',hC'⟩:∃C',Fv cs is (Dn ps k) (i+1)=C':=⟨_,rfl⟩
     rw[hC']at HCI
     have HCE:Hid (Fv cs is (Dn ps k) (i+1)=C'):=hC'
     clear hC'
     go_wp2_with fail
     go_region_held3 (fun W=>(∀o,W.cell? ⟨wo.heap.size,o,none⟩=(#[.string nm,.int .i64 ln,.int .i64 pa,.bool re,.int .i64 rg,.slice uo us.length uc,.slice co cs.length cc,.slice (some ⟨ib,iof,none⟩) is.length ic,.slice no ms.length nc]:Array Value)[o]?)/\(∀o,W.cell? ⟨w2.heap.size+1,o,none⟩=(#[.slice (some ⟨w2.heap.size,0,none⟩) ps.length ps.length,.int .i64 (C:Int)]:Array Value)[o]?)) (first|with_reducible exact⟨e1,e2⟩|with_reducible exact⟨d1,d2⟩|with_reducible exact⟨CellsAre.sets7 d1 hn1 _ _ _ _ _ _ _ _ _ _ _ _ _ _,CellsAre.sets7 d2 hn2 _ _ _ _ _ _ _ _ _ _ _ _ _ _⟩)
      (first|(go_at_call 117;refine(HQC.out _ BI1).mono ?_;rintro e w1 ⟨rfl,hw1⟩;have I1:=Dt.l HI1.out hw1;have d1:=I1.pr.cell;have d2:=I1.hq.cell;obtain⟨v0,c0⟩:=I1.own.cell (i:=i*7) (by show i*7<is.length*7;omega);obtain⟨v1,c1⟩:=I1.own.cell (i:=i*7+1) (by show i*7+1<is.length*7;omega);obtain⟨v2,c2⟩:=I1.own.cell (i:=i*7+2) (by show i*7+2<is.length*7;omega);obtain⟨v3,c3⟩:=I1.own.cell (i:=i*7+3) (by show i*7+3<is.length*7;omega);obtain⟨v4,c4⟩:=I1.own.cell (i:=i*7+4) (by show i*7+4<is.length*7;omega);obtain⟨v5,c5⟩:=I1.own.cell (i:=i*7+5) (by show i*7+5<is.length*7;omega);obtain⟨v6,c6⟩:=I1.own.cell (i:=i*7+6) (by show i*7+6<is.length*7;omega);have fz:=I1.own.frozen))
     have I2:Dt w2 wo ps #[.string nm,.int .i64 ln,.int .i64 pa,.bool re,.int .i64 rg,.slice uo us.length uc,.slice co cs.length cc,.slice (some ⟨ib,iof,none⟩) is.length ic,.slice no ms.length nc] k ⟨nm,ln,pa,re,rg,us,cs,is,ms⟩ (((((((w1.setCell ⟨wo.heap.size+1,i*7,none⟩ (.int .i64 q0)).setCell ⟨wo.heap.size+1,i*7+1,none⟩ (.int .i64 q1)).setCell ⟨wo.heap.size+1,i*7+2,none⟩ (.int .i64 q2)).setCell ⟨wo.heap.size+1,i*7+3,none⟩ (.int .i64 q3)).setCell ⟨wo.heap.size+1,i*7+4,none⟩ (.int .i64 q4)).setCell ⟨wo.heap.size+1,i*7+5,none⟩ (.int .i64 q5)).setCell ⟨wo.heap.size+1,i*7+6,none⟩ (.int .i64 q6)) C (i+1):=HPT.out w1 C I1
     have hq1:Dt w2 wo ps #[.string nm,.int .i64 ln,.int .i64 pa,.bool re,.int .i64 rg,.slice uo us.length uc,.slice co cs.length cc,.slice (some ⟨ib,iof,none⟩) is.length ic,.slice no ms.length nc] k ⟨nm,ln,pa,re,rg,us,cs,is,ms⟩ (((((((w1.setCell ⟨wo.heap.size+1,i*7,none⟩ (.int .i64 q0)).setCell ⟨wo.heap.size+1,i*7+1,none⟩ (.int .i64 q1)).setCell ⟨wo.heap.size+1,i*7+2,none⟩ (.int .i64 q2)).setCell ⟨wo.heap.size+1,i*7+3,none⟩ (.int .i64 q3)).setCell ⟨wo.heap.size+1,i*7+4,none⟩ (.int .i64 q4)).setCell ⟨wo.heap.size+1,i*7+5,none⟩ (.int .i64 q5)).setCell ⟨wo.heap.size+1,i*7+6,none⟩ (.int .i64 q6)) C (i+1)->(((((((w1.setCell ⟨wo.heap.size+1,i*7,none⟩ (.int .i64 q0)).setCell ⟨wo.heap.size+1,i*7+1,none⟩ (.int .i64 q1)).setCell ⟨wo.heap.size+1,i*7+2,none⟩ (.int .i64 q2)).setCell ⟨wo.heap.size+1,i*7+3,none⟩ (.int .i64 q3)).setCell ⟨wo.heap.size+1,i*7+4,none⟩ (.int .i64 q4)).setCell ⟨wo.heap.size+1,i*7+5,none⟩ (.int .i64 q5)).setCell ⟨wo.heap.size+1,i*7+6,none⟩ (.int .i64 q6)).cell? ⟨wo.heap.size+1,i*7,none⟩=some (.int .i64 q0):=fun h=>h.laid i ⟨q0,q1,q2,q3,q4,q5,q6⟩ (Nat.lt_succ_self _) HQI.out 0 _ rfl
     have z0:=hq1 I2
     have z1:=I2.hq.cell
     have z2:=I2.hq.frozen
     have HI2:Hid (Dt w2 wo ps #[.string nm,.int .i64 ln,.int .i64 pa,.bool re,.int .i64 rg,.slice uo us.length uc,.slice co cs.length cc,.slice (some ⟨ib,iof,none⟩) is.length ic,.slice no ms.length nc] k ⟨nm,ln,pa,re,rg,us,cs,is,ms⟩ (((((((w1.setCell ⟨wo.heap.size+1,i*7,none⟩ (.int .i64 q0)).setCell ⟨wo.heap.size+1,i*7+1,none⟩ (.int .i64 q1)).setCell ⟨wo.heap.size+1,i*7+2,none⟩ (.int .i64 q2)).setCell ⟨wo.heap.size+1,i*7+3,none⟩ (.int .i64 q3)).setCell ⟨wo.heap.size+1,i*7+4,none⟩ (.int .i64 q4)).setCell ⟨wo.heap.size+1,i*7+5,none⟩ (.int .i64 q5)).setCell ⟨wo.heap.size+1,i*7+6,none⟩ (.int .i64 q6)) C (i+1)):=I2
     clear hq1 I2 I1 d1 d2 c0 c1 c2 c3 c4 c5 c6 fz e1 e2 hw1
     by_cases h45:q0=45
     ·have g45:(q0==45)=true:=by simpa using h45
      have hcc:C'=C+1:=HCI.out.trans (if_pos h45)
      have HI3:Hid (Dt w2 wo ps #[.string nm,.int .i64 ln,.int .i64 pa,.bool re,.int .i64 rg,.slice uo us.length uc,.slice co cs.length cc,.slice (some ⟨ib,iof,none⟩) is.length ic,.slice no ms.length nc] k ⟨nm,ln,pa,re,rg,us,cs,is,ms⟩ ((((((((w1.setCell ⟨wo.heap.size+1,i*7,none⟩ (.int .i64 q0)).setCell ⟨wo.heap.size+1,i*7+1,none⟩ (.int .i64 q1)).setCell ⟨wo.heap.size+1,i*7+2,none⟩ (.int .i64 q2)).setCell ⟨wo.heap.size+1,i*7+3,none⟩ (.int .i64 q3)).setCell ⟨wo.heap.size+1,i*7+4,none⟩ (.int .i64 q4)).setCell ⟨wo.heap.size+1,i*7+5,none⟩ (.int .i64 q5)).setCell ⟨wo.heap.size+1,i*7+6,none⟩ (.int .i64 q6)).setCell ⟨w2.heap.size+1,1,none⟩ (.int .i64 ((C:Int)+1))) C' (i+1)):=by
       have:=HCT.out (((((((w1.setCell ⟨wo.heap.size+1,i*7,none⟩ (.int .i64 q0)).setCell ⟨wo.heap.size+1,i*7+1,none⟩ (.int .i64 q1)).setCell ⟨wo.heap.size+1,i*7+2,none⟩ (.int .i64 q2)).setCell ⟨wo.heap.size+1,i*7+3,none⟩ (.int .i64 q3)).setCell ⟨wo.heap.size+1,i*7+4,none⟩ (.int .i64 q4)).setCell ⟨wo.heap.size+1,i*7+5,none⟩ (.int .i64 q5)).setCell ⟨wo.heap.size+1,i*7+6,none⟩ (.int .i64 q6)) C C' HI2.out
       rw[show ((C':Nat):Int)=(C:Int)+1 by rw[hcc];rfl]at this
       exact this
      clear hcc h45
      go_wp2_with fail
      go_roundw
      case rel=>exact⟨i+1,hi1,by go_num,by rw[HCE.out];exact HI3.out⟩
      case measure=>simp[intOf];omega
     ·have g45:(q0==45)=false:=by simpa using h45
      have hcc:C'=C:=HCI.out.trans (if_neg h45)
      have HI3:Hid (Dt w2 wo ps #[.string nm,.int .i64 ln,.int .i64 pa,.bool re,.int .i64 rg,.slice uo us.length uc,.slice co cs.length cc,.slice (some ⟨ib,iof,none⟩) is.length ic,.slice no ms.length nc] k ⟨nm,ln,pa,re,rg,us,cs,is,ms⟩ (((((((w1.setCell ⟨wo.heap.size+1,i*7,none⟩ (.int .i64 q0)).setCell ⟨wo.heap.size+1,i*7+1,none⟩ (.int .i64 q1)).setCell ⟨wo.heap.size+1,i*7+2,none⟩ (.int .i64 q2)).setCell ⟨wo.heap.size+1,i*7+3,none⟩ (.int .i64 q3)).setCell ⟨wo.heap.size+1,i*7+4,none⟩ (.int .i64 q4)).setCell ⟨wo.heap.size+1,i*7+5,none⟩ (.int .i64 q5)).setCell ⟨wo.heap.size+1,i*7+6,none⟩ (.int .i64 q6)) C' (i+1)):=hcc▸HI2.out
      clear hcc h45
      go_wp2_with fail
      go_roundw
      case rel=>exact⟨i+1,hi1,by go_num,by rw[HCE.out];exact HI3.out⟩
      case measure=>simp[intOf];omega
    ·obtain rfl:i=is.length:=Nat.le_antisymm hi (Nat.le_of_not_lt hil2)
     have HI1:Hid (Dt w2 wo ps #[.string nm,.int .i64 ln,.int .i64 pa,.bool re,.int .i64 rg,.slice uo us.length uc,.slice co cs.length cc,.slice io is.length ic,.slice no ms.length nc] k ⟨nm,ln,pa,re,rg,us,cs,is,ms⟩ wi (Dn ps (k+1)) is.length):=HCS.out▸HI.out
     have hG:Own wi w2.heap.size 166 ps.length:=HO.out.own.of_block (HI1.out.only.block _ (Nat.ne_of_lt (Nat.lt_succ_self _)) HO.out.own.lt)
     obtain⟨v0,c0⟩:=hG.cell (i:=k) hlt
     have f0:=hG.frozen k
     have z1:=HI1.out.hq.cell
     have HO2:Hid (Gr w2 ps (wi.setCell ⟨w2.heap.size,k,none⟩ (.slice (some ⟨wo.heap.size+1,0,none⟩) is.length is.length)) (fun j=>if j=k then wo.heap.size+1 else gs j) (k+1)):=Gr.more (p:=⟨nm,ln,pa,re,rg,us,cs,is,ms⟩) HO.out HP.out HI1.out
     have hk1:k+1<=ps.length:=hlt
     clear hG HI1 HI hil2 HL
     go_wp2_with fail
     go_roundw
     case rel=>exact⟨k+1,_,hk1,by go_num,HO2.out⟩
     case measure=>simp[intOf];omega
  ·obtain rfl:k=ps.length:=Nat.le_antisymm hk (Nat.le_of_not_lt hlt)
   have z1:=HO.out.hq.cell
   have r1:=(R2.l HO.out.b2).cell
   have rf1:=(R2.l HO.out.b2).frozen
   have BR:=B2.trans (HO.out.b2.mono B2.size)
   have HD:=HO.out.done
   have hgl:w.heap.size+1<w2.heap.size:=R2.lt
   go_wp2_with fail
   refine bodyPost_ret (v:=.agg #[.slice (some ⟨w2.heap.size,0,none⟩) ps.length ps.length,.int .i64 (Dn ps ps.length:Int)]) ?_ rfl ⟨w2.heap.size,gs,rfl,?_,by omega,?_⟩
   ·simp[results,results32,go_sem,r1]
   ·refine HD.l ?_
    iterate 2 (refine Ad.setCell ?_ (by show w.heap.size+1<w2.heap.size;exact hgl) _)
    exact Ad.refl _ _
   ·iterate 2 (refine Below.setCell ?_ (by show w.heap.size<=w.heap.size+1;omega) _)
    exact BR
end Go.Proofs.YtbefeflgjipfhaaGreatDoor
