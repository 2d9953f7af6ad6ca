import Derived.Test.YtbefeflgjipfhaaGreatDoorF34
set_option maxRecDepth 100000
set_option maxHeartbeats 8000000
namespace Go.Proofs.YtbefeflgjipfhaaGreatDoor
open Go.Deep Go.Proofs.Tryz Go.RowKit
attribute [local go_sem] Ko Kr
theorem Ya (p1 p2:Option Addr) (d1 d2:Nat) (g1 g2:List Gd) (w:World) (l3:g1.length<=1048576) (h3:Er 0 w p1 g1) (h4:Er 0 w p2 g2) :
  Kw 316 #[.slice p1 g1.length d1,.slice p2 g2.length d2] w (.bool (decide (g1=g2))):=by
 (try unfold Kw);go_in;by_cases e2:g1.length=g2.length;rotate_left
 ·have k2:((g1.length:Int) !=g2.length)=true:=by simp;omega
  have HN:Hid (¬g1=g2):=fun h=>e2 (by rw[h]);clear e2;go_wp2;go_ret;exact⟨Ac (by simp[HN.out]),yA _ _⟩
 ·have k2:((g1.length:Int) !=g2.length)=false:=by simp;omega
  have E2:Hid (g1.length=g2.length):=e2;clear e2;go_wp2;go_loopw [13] (fun y wr=>∃k:Nat,k<=g1.length/\y=.int .i64 k/\Hid ((g1=g2) ↔ (g1.drop k=g2.drop k))/\Below w.heap.size w wr) (fun y _=>g1.length-(intOf y).toNat);case atStart=>exact⟨0,yE _,rfl,Iff.rfl,yA _ _⟩
  case round=>
   obtain⟨k',hk',rfl,HQ,hb'⟩:=hrel;by_cases hkl2:k'<g1.length
   ·obtain⟨x,hxk⟩:=Ah hkl2;have hkl3:k'<g2.length:=by rw[←E2.out];exact hkl2
    obtain⟨y,hyk⟩:=Ah hkl3;obtain⟨b,off,rfl,_,hbl,q0,q1,q2⟩:=h3.l (Ad.o hb') k' x hxk;obtain⟨b',off',rfl,_,hbl',q3,q4,q5⟩:=h4.l (Ad.o hb') k' y hyk;have HD:Hid ((g1=g2) ↔ (x=y/\g1.drop (k'+1)=g2.drop (k'+1))):=HQ.out.trans (Mm hxk hyk);have k3:(k':Int)<g2.length:=by omega
    obtain⟨x0,x1,x2'⟩:=x;obtain⟨y0,y1,y2'⟩:=y;dsimp only at *;clear HQ h3 h4 hxk hyk;by_cases hxy:(⟨x0,x1,x2'⟩:Gd)=⟨y0,y1,y2'⟩
    ·have HN:Hid ((g1=g2) ↔ g1.drop (k'+1)=g2.drop (k'+1)):=by show _ ↔ _;rw[HD.out];exact⟨fun h=>h.2,fun h=>⟨hxy,h⟩⟩
     simp only[Gd.mk.injEq]at hxy;obtain⟨rfl,rfl,rfl⟩:=hxy;clear HD;go_wp2_with fail;go_quiet (fail);go_wp2;go_roundw;case rel=>exact⟨k'+1,by omega,by go_num,HN.out,below_drewN hb' _⟩
     case measure=>simp[intOf];omega
    ·have HN:Hid (¬g1=g2):=by intro h;exact hxy (HD.out.1 h).1
     have k4:(¬x0=y0)∨(x0=y0/\¬x1=y1)∨(x0=y0/\x1=y1/\¬x2'=y2'):=by simp only[Gd.mk.injEq]at hxy;by_cases z0:x0=y0<;>by_cases z1:x1=y1<;>by_cases z2:x2'=y2'<;>simp_all
     clear HD hxy;rcases k4 with k4|⟨rfl,k4⟩|⟨rfl,rfl,k4⟩
     ·have k5:(x0==y0)=false:=by simpa using k4
      go_wp2_with fail;go_quiet (fail);go_wp2;go_ret;exact⟨Ac (by simp[HN.out]),below_drewN hb' _⟩
     ·have k5:(x1==y1)=false:=by simpa using k4
      go_wp2_with fail;go_quiet (fail);go_wp2;go_ret;exact⟨Ac (by simp[HN.out]),below_drewN hb' _⟩
     ·have k5:(x2'==y2')=false:=by simpa using k4
      go_wp2_with fail;go_quiet (fail);go_wp2;go_ret;exact⟨Ac (by simp[HN.out]),below_drewN hb' _⟩
   ·have HG:Hid (g1=g2):=by show _=_;rw[HQ.out,yQ (by omega),yQ (by rw[←E2.out];omega)]
    clear HQ;go_wp2;go_ret;exact⟨Ac (by simp[HG.out]),hb'⟩
end Go.Proofs.YtbefeflgjipfhaaGreatDoor
namespace Go.Proofs.YtbefeflgjipfhaaGreatDoor
open Go.Deep Go.Proofs.Tryz Go.RowKit
variable{np op:Nat}{n:Nd}{p:Pd}
def Ef (B L vb sb db:Nat) (cao:Option Addr) (ccap:Nat) (ps:List Pd) (p:Pd) (h:Ph) (w:World) (o:Option Cf) (e:Ending) (w':World):Prop:=
 (match o with|none=>e=.returned (.bool false)|some c'=>e=.returned (.bool true)/\∃l',l'<=p.ins.length/\Cw L vb sb db cao ccap ps p h w' c' l')/\Off B L w w'
theorem K9 (B L vb sb db:Nat) (cao:Option Addr) (ccap:Nat) (ps:List Pd) (p:Pd) (h:Ph) (c:Cf) (l:Nat) (w:World) (x:Nat) (rb:Bool) (s:St) (to go:Option Addr) (tc gc:Nat) (V:Uy B L vb sb db) (_hz:p.ins.length<=6000) (H0:Cw L vb sb db cao ccap ps p h w c l) (hl:l<=p.ins.length) (hL:L<=w.heap.size) (hx:x<p.ins.length) (ht:Ed L w to tc s.types) (hg:Bu L w go gc s.guards) (hB:B<=L) (hold:∀t,c.st x=some t->t.types.length<=250/\t.guards.length<=50) :
  Calls prog 258 #[.pointer (some ⟨vb,0,none⟩),.int .i64 x,.agg #[.bool rb,.slice to s.types.length tc,.slice go s.guards.length gc]] w (Ef B L vb sb db cao ccap ps p h w (Bv c x s)):=by
 have HVI:Hid _:=V;have A0:=fun o=>(yA w.heap.size w).alloc (yB _) o;have hxS:x<c.sts.length:=by rw[H0.lenS];exact hx
 obtain⟨o,ho⟩:=Ah hxS;have HO:Hid (c.st x=o):=by show _=_;unfold Cf.st;rw[yR,ho];rfl
 have k1:(x:Int)<p.ins.length:=by omega
 have H1:=H0.below (A0 (.cells #[.bool rb,.slice to s.types.length tc,.slice go s.guards.length gc] 344));have T1:=ht.l (Ad.o (A0 (.cells #[.bool rb,.slice to s.types.length tc,.slice go s.guards.length gc] 344)));have G1:=hg.l (Ad.o (A0 (.cells #[.bool rb,.slice to s.types.length tc,.slice go s.guards.length gc] 344)));have S1:=Blk.new w #[.bool rb,.slice to s.types.length tc,.slice go s.guards.length gc] 344;obtain⟨to2,tc2,go2,gc2,z0,z1,z2,RT,RG⟩:=H1.sts.at_ x o ho;have O1:Off B L w (w.alloc (.cells #[.bool rb,.slice to s.types.length tc,.slice go s.guards.length gc] 344)):=Off.o (A0 _) (yI hB hL);have v1:=H1.blk.cell;have hwl:L<=w.heap.size:=hL;have HOLD:Hid _:=hold;have HH0:Hid _:=H0;have HT0:Hid (Ed L w to tc s.types):=ht;have HG0:Hid (Bu L w go gc s.guards):=hg;have HSX:Hid (c.sts[x]?=some o):=ho;have HB1:Hid (Below w.heap.size w (w.alloc (.cells #[.bool rb,.slice to s.types.length tc,.slice go s.guards.length gc] 344))):=A0 _;clear H0 ht hg V hold ho A0;generalize hw1:w.alloc (.cells #[.bool rb,.slice to s.types.length tc,.slice go s.guards.length gc] 344)=w1 at *;have hw1s:w1.heap.size=w.heap.size+1:=by rw[←hw1];simp
 cases o with
 | none=>
  dsimp only[stT,stG,Option.isSome,List.length_nil]at z0 z1 z2;have BZ:Below w.heap.size w ((w.alloc (.cells #[.bool true,.slice to s.types.length tc,.slice go s.guards.length gc] 344)).alloc (.cells #[.bool false,.slice to2 0 tc2,.slice go2 0 gc2] 344)):=((yA _ _).alloc (yB _) _).alloc (by simp) _;have H2:=HH0.out.below BZ;have T2:=HT0.out.l (Ad.o BZ);have G2:=HG0.out.l (Ad.o BZ);have S2:=(Blk.new w #[.bool true,.slice to s.types.length tc,.slice go s.guards.length gc] 344).alloc (.cells #[.bool false,.slice to2 0 tc2,.slice go2 0 gc2] 344);have O2:Off B L w _:=Off.o BZ (yI hB hL);have HRE:Hid (Bv c x s=some ⟨c.sts.set x (some s),c.due.set x true⟩):=A4e HO.out;have hneS2:¬sb=w.heap.size:=by have:=HVI.out.s2;omega
  have hsv:¬sb=vb:=fun e=>HVI.out.vs e.symm;clear H1 T1 G1 S1 O1 BZ;subst hw1;go_in;go_wp2_with fail;generalize hwz:(w.alloc (.cells #[.bool true,.slice to s.types.length tc,.slice go s.guards.length gc] 344)).alloc (.cells #[.bool false,.slice to2 0 tc2,.slice go2 0 gc2] 344)=w2 at *;have hB2:B<=w2.heap.size:=yI (yI hB hL) O2.size;clear hwz v1 z0 z1 z2;have v210:=H2.blk.cell 10;have s20:=S2.cell 0;have s21:=S2.cell 1;have s22:=S2.cell 2;obtain⟨to3,tc3,go3,gc3,y0,y1,y2,_,_⟩:=H2.sts.at_ x none HSX.out;have fz:=H2.sts.own.frozen;have HKP:Hid ((((w2.setCell ⟨sb,x*3,none⟩ (.bool true)).setCell ⟨sb,x*3+1,none⟩ (.slice to s.types.length tc)).setCell ⟨sb,x*3+2,none⟩ (.slice go s.guards.length gc)).drew.cell? ⟨vb,10,none⟩=some (.slice (some ⟨sb,0,none⟩) p.ins.length p.ins.length)/\(((w2.setCell ⟨sb,x*3,none⟩ (.bool true)).setCell ⟨sb,x*3+1,none⟩ (.slice to s.types.length tc)).setCell ⟨sb,x*3+2,none⟩ (.slice go s.guards.length gc)).drew.cell? ⟨w.heap.size,0,none⟩=some (.bool true)/\(((w2.setCell ⟨sb,x*3,none⟩ (.bool true)).setCell ⟨sb,x*3+1,none⟩ (.slice to s.types.length tc)).setCell ⟨sb,x*3+2,none⟩ (.slice go s.guards.length gc)).drew.cell? ⟨w.heap.size,1,none⟩=some (.slice to s.types.length tc)/\(((w2.setCell ⟨sb,x*3,none⟩ (.bool true)).setCell ⟨sb,x*3+1,none⟩ (.slice to s.types.length tc)).setCell ⟨sb,x*3+2,none⟩ (.slice go s.guards.length gc)).drew.cell? ⟨w.heap.size,2,none⟩=some (.slice go s.guards.length gc)):=
   ⟨((yG _ _ _ _ hsv).trans ((yG _ _ _ _ hsv).trans (yG _ _ _ _ hsv))).trans v210,((yG _ _ _ _ hneS2).trans ((yG _ _ _ _ hneS2).trans (yG _ _ _ _ hneS2))).trans s20,((yG _ _ _ _ hneS2).trans ((yG _ _ _ _ hneS2).trans (yG _ _ _ _ hneS2))).trans s21,((yG _ _ _ _ hneS2).trans ((yG _ _ _ _ hneS2).trans (yG _ _ _ _ hneS2))).trans s22⟩
  have hD:Below w2.heap.size w2 w2.drew:=(yA _ _).drew;have H3:=(H2.below hD).put HVI.out hx (T2.l (Ad.o hD)) (G2.l (Ad.o hD));have O3:=(((O2.trans (Off.o (L:=L) hD hB2)).set (.bool true) (p:=⟨sb,x*3,none⟩) HVI.out.s1 HVI.out.s2).set (.slice to s.types.length tc) (p:=⟨sb,x*3+1,none⟩) HVI.out.s1 HVI.out.s2).set (.slice go s.guards.length gc) (p:=⟨sb,x*3+2,none⟩) HVI.out.s1 HVI.out.s2;have HH3:Hid (Cw L vb sb db cao ccap ps p h (((w2.setCell ⟨sb,x*3,none⟩ (.bool true)).setCell ⟨sb,x*3+1,none⟩ (.slice to s.types.length tc)).setCell ⟨sb,x*3+2,none⟩ (.slice go s.guards.length gc)).drew ⟨c.sts.set x (some s),c.due⟩ l):=H3;have HO3:Hid (Off B L w (((w2.setCell ⟨sb,x*3,none⟩ (.bool true)).setCell ⟨sb,x*3+1,none⟩ (.slice to s.types.length tc)).setCell ⟨sb,x*3+2,none⟩ (.slice go s.guards.length gc)).drew):=O3;clear H3 O3 hD T2 G2 H2 O2 S2 hneS2 hsv;go_wp2_with fail;go_region_held3 (fun w'=>w'.cell? ⟨vb,10,none⟩=some (.slice (some ⟨sb,0,none⟩) p.ins.length p.ins.length)/\w'.cell? ⟨w.heap.size,0,none⟩=some (.bool true)/\w'.cell? ⟨w.heap.size,1,none⟩=some (.slice to s.types.length tc)/\w'.cell? ⟨w.heap.size,2,none⟩=some (.slice go s.guards.length gc)) (first|exact⟨v210,s20,s21,s22⟩|exact HKP.out|(go_keep;done)) (fail);clear v210 s20 s21 s22 y0 y1 y2 fz HKP;generalize (((w2.setCell ⟨sb,x*3,none⟩ (.bool true)).setCell ⟨sb,x*3+1,none⟩ (.slice to s.types.length tc)).setCell ⟨sb,x*3+2,none⟩ (.slice go s.guards.length gc)).drew=w3 at *;have v3:=HH3.out.blk.cell;have f3:=HH3.out.blk.frozen 12;have d3:=(HH3.out.due.cell x).trans (Cs (by rw[HH3.out.lenD];exact hx));have g3:=HH3.out.due.frozen x;have hdv:¬db=vb:=fun e=>HVI.out.vd e.symm;have hvd:¬vb=db:=HVI.out.vd;have hmn:min (l:Int) (x:Int)=((min l x:Nat):Int):=by omega
  have HMN:Hid _:=hmn;clear hmn;go_wp2;go_ret;unfold Ef;rw[HRE.out,HMN.out];exact⟨⟨rfl,min l x,by omega,HH3.out.setDue HVI.out x (min l x) (by omega) (by omega)⟩,(HO3.out.set _ HVI.out.d1 HVI.out.d2).set _ HVI.out.v1 HVI.out.v2⟩
 | some t=>
  dsimp only[stT,stG,Option.isSome]at z0 z1 z2;have hots:=HOLD.out t HO.out;have BZ:Below w.heap.size w ((w.alloc (.cells #[.bool rb,.slice to s.types.length tc,.slice go s.guards.length gc] 344)).alloc (.cells #[.bool true,.slice to2 t.types.length tc2,.slice go2 t.guards.length gc2] 344)):=((yA _ _).alloc (yB _) _).alloc (by simp) _;have H2:=HH0.out.below BZ;obtain⟨to3,tc3,go3,gc3,y0,y1,y2,RT0,RG0⟩:=HH0.out.sts.at_ x (some t) HSX.out;have e1:to3=to2/\tc3=tc2:=by have:=(HB1.out.cell (p:=⟨sb,x*3+1,none⟩) HH0.out.sts.own.lt).trans y1;rw[z1]at this;simpa[stT]using this.symm
  have e2:go3=go2/\gc3=gc2:=by have:=(HB1.out.cell (p:=⟨sb,x*3+2,none⟩) HH0.out.sts.own.lt).trans y2;rw[z2]at this;simpa[stG]using this.symm
  obtain⟨rfl,rfl⟩:=e1;obtain⟨rfl,rfl⟩:=e2;dsimp only[stT,stG]at RT0 RG0;have HE1:Hid (∀W,Below w.heap.size w W->Kw 315 #[.slice to3 t.types.length tc3,.slice to s.types.length tc] W (.bool (decide (t.types=s.types)))):=fun W hb=>Mr _ _ _ _ _ _ W (by omega) (Ay.w (RT0.l (Ad.o hb)).at_ (yE _)) (Ay.w (HT0.out.l (Ad.o hb)).at_ (yE _));have HE2:Hid (∀W,Below w.heap.size w W->Kw 316 #[.slice go3 t.guards.length gc3,.slice go s.guards.length gc] W (.bool (decide (t.guards=s.guards)))):=fun W hb=>Ya _ _ _ _ _ _ W (by omega) (Ay.w (RG0.l (Ad.o hb)).at_ (yE _)) (Ay.w (HG0.out.l (Ad.o hb)).at_ (yE _));have S2:=(Blk.new w #[.bool rb,.slice to s.types.length tc,.slice go s.guards.length gc] 344).alloc (.cells #[.bool true,.slice to3 t.types.length tc3,.slice go3 t.guards.length gc3] 344);have P2:=Blk.new (w.alloc (.cells #[.bool rb,.slice to s.types.length tc,.slice go s.guards.length gc] 344)) #[.bool true,.slice to3 t.types.length tc3,.slice go3 t.guards.length gc3] 344;simp only[nblk_alloc]at P2;have HRE:Hid (Bv c x s=if t=s then some c else none):=A4f HO.out;have HST:Hid ((decide (t.types=s.types)&&decide (t.guards=s.guards))=decide (t=s)):=A8t;have HBZ:Hid _:=BZ;clear H1 T1 G1 S1 O1 BZ RT0 RG0 RT RG y0 y1 y2 HOLD hots;subst hw1;go_in;go_wp2_with fail;generalize hwz:(w.alloc (.cells #[.bool rb,.slice to s.types.length tc,.slice go s.guards.length gc] 344)).alloc (.cells #[.bool true,.slice to3 t.types.length tc3,.slice go3 t.guards.length gc3] 344)=w2 at *;clear hwz v1 z0 z1 z2;refine(HE1.out w2 HBZ.out).mono ?_;rintro e w3 ⟨rfl,hw3⟩;have HB3:Hid (Below w.heap.size w w3):=HBZ.out.trans (hw3.mono HBZ.out.size);have H3:=H2.below hw3;have s3:=(S2.l hw3).cell;have p3:=(P2.l hw3).cell;clear hw3 H2 S2 P2 HE1;cases hte:decide (t.types=s.types)
  ·have HR2:Hid (Bv c x s=none):=by have h1:=HST.out;rw[hte]at h1;show _=_;rw[HRE.out,if_neg (by simpa using h1.symm)]
   clear hte HST HRE;go_wp2;go_ret;unfold Ef;rw[HR2.out];exact⟨rfl,Off.o HB3.out (yI hB hL)⟩
  ·have HST2:Hid (decide (t.guards=s.guards)=decide (t=s)):=by have h1:=HST.out;rw[hte,Bool.true_and]at h1;exact h1
   clear hte HST;go_wp2_with fail;refine(HE2.out w3 HB3.out).mono ?_;rintro e w4 ⟨rfl,hw4⟩;have HB4:Hid (Below w.heap.size w w4):=HB3.out.trans (hw4.mono HB3.out.size);have H4:=H3.below hw4;rw[HST2.out];clear hw4 H3 s3 p3 HE2 HST2;by_cases hts:t=s
   ·have HR2:Hid (Bv c x s=some c):=by show _=_;rw[HRE.out,if_pos hts]
    rw[decide_eq_true hts];clear hts HRE;go_wp2;go_ret;unfold Ef;rw[HR2.out];exact⟨⟨rfl,l,hl,H4⟩,Off.o HB4.out (yI hB hL)⟩
   ·have HR2:Hid (Bv c x s=none):=by show _=_;rw[HRE.out,if_neg hts]
    rw[decide_eq_false hts];clear hts HRE;go_wp2;go_ret;unfold Ef;rw[HR2.out];exact⟨rfl,Off.o HB4.out (yI hB hL)⟩
def tgL:List Nat->List Int->Int
 | r::rs,x::xs=>if r=11 then x else tgL rs xs
 | _,_=>-1
def tgV (n:Nd):Int:=match Jw n with|some t=>(t:Int)|none=>-1
theorem Aan (hn:El np p n) (ho:n.op=op):tgL (Bi op) n.fs=tgV n:=by
 obtain⟨f1,f2,f3,f4,f5,f6⟩:=Ht hn;have h1:=hn.lo;have h2:=hn.hi;obtain⟨o,a,b,c,d⟩:=n;dsimp only at *;subst ho;rcases A2m op (by omega) (by omega) with rfl|rfl|rfl|rfl|rfl|rfl|rfl|rfl|rfl|rfl|rfl|rfl|rfl|rfl|rfl|rfl|rfl|rfl|rfl|rfl|rfl|rfl|rfl|rfl|rfl|rfl|rfl|rfl|rfl|rfl|rfl|rfl|rfl|rfl|rfl|rfl|rfl|rfl|rfl|rfl|rfl|rfl;all_goals first
  | rfl
  | (have:=(f1 rfl).1;simp[tgL,Bi,Et,Nd.fs,tgV,Jw];omega)
  | (have:=f3 rfl;simp[tgL,Bi,Et,Nd.fs,tgV,Jw];omega)
  | (have:=f4 (by simp);simp[tgL,Bi,Et,Nd.fs,tgV,Jw];omega)
theorem Aao{f0 f1 f2 f3:Nat} (hn:El np p n) (ho:n.op=op) (hfo:Bi op=[f0,f1,f2,f3]):tgV n=if f0=11 then n.a else if f1=11 then n.b else -1:=by
 have h:∀k,k<43->(Bi k).getD 2 0≠11/\(Bi k).getD 3 0≠11:=by decide
 have h0:=h op (by have:=hn.hi;omega);rw[←Aan hn ho,hfo];rw[hfo]at h0;simp at h0;simp[tgL,Nd.fs,h0.1,h0.2]
theorem Fe (np:Nat) (p:Pd) (n:Nd) (w:World) (hn:El np p n) (hF:Ep w) :
  Kw 329 #[n.val] w (.int .i64 (tgV n)):=by
 have h1:=hn.lo;have h2:=hn.hi;obtain⟨op,hop⟩:=yN (by omega:0<=n.op);have h42:op<=42:=by omega
 obtain⟨f0,f1,f2,f3,hfo,-,-,-,-⟩:=Ic h42;have HV:Hid (tgV n=if f0=11 then n.a else if f1=11 then n.b else -1):=Aao hn hop hfo;have HW:∀o1,Below w.heap.size w (w.alloc o1):=fun o1=>(yA _ _).alloc (yB _) o1;have HW2:∀o1 o2,Below w.heap.size w ((w.alloc o1).alloc o2):=fun o1 o2=>(HW o1).alloc (by simp) o2;have c0:=fun o1=>(hF.l (HW o1)).at_ op 0 f0 (by rw[hfo];rfl);have c1:=fun o1=>(hF.l (HW o1)).at_ op 1 f1 (by rw[hfo];rfl);have c2:=fun o1=>(hF.l (HW o1)).at_ op 2 f2 (by rw[hfo];rfl);have c3:=fun o1=>(hF.l (HW o1)).at_ op 3 f3 (by rw[hfo];rfl);simp only[Nat.add_zero]at c0;obtain⟨x0,x1,x2,x3,x4⟩:=n;dsimp only[Nd.val]at *;subst hop;clear hF hfo hn h1 h2 HW;by_cases ha:f0=11
 ·subst ha;(try unfold Kw);go_in;go_wp2;go_ret;exact⟨Cr (by rw[HV.out];simp),HW2 _ _⟩
 have ea:((f0:Int)==11)=false:=by simp;omega
 by_cases hb:f1=11
 ·subst hb;(try unfold Kw);go_in;go_wp2;go_ret;exact⟨Cr (by rw[HV.out];simp[ha]),HW2 _ _⟩
 have eb:((f1:Int)==11)=false:=by simp;omega
 (try unfold Kw);go_in;go_wp2;go_ret;exact⟨Cr (by rw[HV.out];simp[ha,hb]),HW2 _ _⟩
end Go.Proofs.YtbefeflgjipfhaaGreatDoor
