import Derived.Test.YtjbbppblgjhapaaGreatDoorJ09
set_option maxRecDepth 100000
set_option maxHeartbeats 16000000
namespace Go.Proofs.YtjbbppblgjhapaaGreatDoor
open Go.Deep Go.Proofs.Tryz Go.RowKit
variable{x:Int}{B S k m rb tc:Nat}{o:Obj}{rd:Rd}{vk vr vt:Value}{w w2:World}
structure Er (B rb m:Nat) (w:World) (rd:Rd) (vt vr vk:Value):Prop where
 blk:Blk w rb #[vt,vr,vk] 299
 low:B<=rb
 types:w.ownsRow B 3 1 vt m (Az rd.types)
 read:w.ownsRow B 3 1 vr rd.stay.length (Az rd.stay)
 taken:w.ownsRow B 3 1 vk rd.taken.length (Az rd.taken)
 nt:vt.ownBlock≠some rb
 nr:vr.ownBlock≠some rb
 nk:vk.ownBlock≠some rb
 tr:∀k,vt.ownBlock=some k->vr.ownBlock≠some k
 tk:∀k,vt.ownBlock=some k->vk.ownBlock≠some k
 rk:∀k,vr.ownBlock=some k->vk.ownBlock≠some k
theorem Er.l{w':World} (h:Er B rb m w rd vt vr vk) (hb:Below w w w'):Er B rb m w' rd vt vr vk:=
 ⟨h.blk.l hb,h.low,Ai h.types hb,Ai h.read hb,Ai h.taken hb,h.nt,h.nr,h.nk,h.tr,h.tk,h.rk⟩
theorem Er.addRead{vr':Value} (h:Er B rb m w rd vt vr vk) (h1:w2.ownsRow B 3 1 vr' (rd.stay.length+1) (Az (rd.stay++[x]))) (h2:(w.alloc o).grownBy w2 vr.ownBlock) (hS:(w:Nat)<=S) (h3:vr'.ownBlock=vr.ownBlock∨vr'.ownBlock=some S) (hB:B<=(w:Nat)) :
  Er B rb m (w2.setCell (rb,1) vr') ⟨rd.types,rd.stay++[x],rd.taken⟩ vt vr' vk/\Below B w (w2.setCell (rb,1) vr'):=by
 have hlt:=h.blk.lt;have hnr':vr'.ownBlock≠some rb:=by
  rcases h3 with h3|h3
  ·rw[h3];exact h.nr
  ·rw[h3];intro e;simp at e;omega
 have hb2:=Am (h.blk.alloc o) h2 (fun e=>h.nr e.symm);have T2:=D6 (h.types.alloc o) h2 (fun k hk e=>h.tr k hk e.symm);have K2:=D6 (h.taken.alloc o) h2 (fun k hk e=>h.rk k e.symm hk);have hset:∀{v:Value},v.ownBlock≠some rb->∀k,v.ownBlock=some k->(w2.setCell (rb,1) vr').heap[k]?=w2.heap[k]?:=fun hn k hk=>yL _ _ _ _ (fun e=>hn (by rw[hk,e]));have hs:=hb2.set 1 vr';have e1:(#[vt,vr,vk]:Array Value).setIfInBounds 1 vr'=#[vt,vr',vk]:=rfl;rw[e1]at hs;refine⟨⟨hs,h.low,Aj T2 (hset h.nt),by simpa using Aj h1 (hset hnr'),Aj K2 (hset h.nk),h.nt,hnr',h.nk,?_,h.tk,?_⟩,?_⟩
 ·intro k hk e;rcases h3 with h3|h3
  ·exact h.tr k hk (h3▸e)
  ·have:=(h.types.lt k hk).2;rw[h3]at e;simp at e;omega
 ·intro k hk e;rcases h3 with h3|h3
  ·exact h.rk k (h3▸hk) e
  ·have:=(h.taken.lt k e).2;rw[h3]at hk;simp at hk;omega
 ·exact(((yA B w).alloc hB o).grown h2 (by simp;omega) (fun k hk=>(h.read.lt k hk).1)).setCell h.low _
def Ec (want:Int):Nat->Nat->Rd->Option Rd
 | 0,_,s=>some s
 | c+1,q,s=>if Ca s.types (q:Int)=want then Ec want c (q+1) ⟨s.types,s.stay++[(q:Int)],s.taken⟩ else none
def Aa1 (B rb m:Nat) (vt vk:Value) (w:World) (r:Option Rd) (e:Ending) (w':World):Prop:=
 (match r with|none=>e=.returned (false)|some rd=>e=.returned (true)/\∃vr,Er B rb m w' rd vt vr vk)/\Below B w w'
theorem A6a (B rb m q cnt:Nat) (want:Int) (rd:Rd) (to:Option Addr) (tc:Nat) (vr vk:Value) (w:World) (h:Er B rb m w rd (.slice to m tc) vr vk) (hB:B<=(w:Nat)) (hm:rd.types.length=m) (hq:q+cnt<=m) (hm2:m<=250) (hc:cnt<=3) (hs:rd.stay.length<=100) :
  Calls prog 292 #[.pointer rb,.agg #[q,cnt,want]] w (Aa1 B rb m (.slice to m tc) vk w (Ec want cnt q rd)):=by
 have P0:=Blk.new w #[q,cnt,want] 444;have R0:=h.l ((yA _ _).alloc (yB _) (.cells #[q,cnt,want] 444));have B0:=(yA B w).alloc hB (.cells #[q,cnt,want] 444);have S0:∀k,vr.ownBlock=some k->k≠(w:Nat):=fun k hk=>by have:=(h.read.lt k hk).2;omega
 have hrw:rb≠(w:Nat):=by have:=h.blk.lt;omega
 have HM:Hid _:=hm;have HS0:Hid _:=hs;clear hm h hs;go_in;go_wp2;go_loopw [5] (fun y wr=>∃(j:Nat) (rd1:Rd) (vr1:Value),y=((q:Int)+j:Int)/\j<=cnt/\Hid (Ec want (cnt-j) (q+j) rd1=Ec want cnt q rd)/\Hid (rd1.types.length=m/\rd1.stay.length<=rd.stay.length+j)/\Er B rb m wr rd1 (.slice to m tc) vr1 vk/\Blk wr (w:Nat) #[q,cnt,want] 444/\(∀k,vr1.ownBlock=some k->k≠(w:Nat))/\Below B w wr) (fun y _=>q+cnt-(intOf y).toNat);case atStart=>exact⟨0,rd,vr,by simp,yE _,rfl,⟨HM.out,by omega⟩,R0,P0,S0,B0⟩
 case round=>
  obtain⟨j,rd1,vr1,rfl,hj,HQ,HL,R1,P1,S1,B1⟩:=hrel;clear R0 P0 S0 B0;have p1:=P1.cell;have hsl:rd1.stay.length<=103:=by have:=HL.out;have:=HS0.out;omega
  obtain⟨ro,rc,rfl⟩:=Aa R1.read;obtain⟨ko,kc,rfl⟩:=Aa R1.taken;by_cases hjl:j<cnt
  ·rcases Ce R1.types with ⟨_,h0⟩|⟨g,cap',h1,h2,h3⟩
   ·omega
   simp only[Value.slice.injEq]at h1;obtain⟨rfl,_,rfl⟩:=h1;have ct:=(R1.types.cellAt (q+j) (by omega)).trans (Co (by rw[HL.out.1];omega));obtain⟨ty,hty⟩:∃ty,ty=rd1.types.getD (q+j) 0:=⟨_,rfl⟩;rw[←hty]at ct;have HTY:Hid (Ca rd1.types ((q+j:Nat):Int)=ty):=hty.symm;have HD:Hid (Ec want cnt q rd=if Ca rd1.types ((q+j:Nat):Int)=want then Ec want (cnt-(j+1)) (q+j+1) ⟨rd1.types,rd1.stay++[((q+j:Nat):Int)],rd1.taken⟩ else none):=by show _=_;rw[←HQ.out,show cnt-j=(cnt-(j+1))+1 by omega];rfl
   have r1:=R1.blk.cell;have k1:(q:Int)+j<(q:Int)+cnt:=by omega
   have k2:(q:Int)+j<m:=by omega
   have k3:(q:Int)+j=((q+j:Nat):Int):=by omega
   clear hty HQ;by_cases hw:ty=want
   ·subst hw;have HN:Hid (Ec ty (cnt-(j+1)) (q+(j+1)) ⟨rd1.types,rd1.stay++[(q:Int)+j],rd1.taken⟩=Ec ty cnt q rd):=by show _=_;rw[HD.out,if_pos HTY.out,k3];rfl
    clear HD HTY k3;go_wp2_with fail;go_quiet (fail);have hDR:∀n,Below wr wr (wr.drewN n):=fun n=>below_drewN (yA _ _) n;have R2:=fun n=>R1.l (hDR n);have P2:=fun n=>P1.l (hDR n);have B2:=fun n=>below_drewN B1 n;have HR2:Hid _:=R2;have HP2:Hid _:=P2;have HB2:Hid _:=B2;have hBw:=yI hB B1.size;have hrbl:=R1.blk.lt;have hpl:=P1.lt;clear R2 P2 B2 hDR;go_wp2_with (at_builtin;refine Df rfl _ _ rfl B _ rd1.stay.length rd1.stay ((q:Int)+j) (wr:Nat) rfl ((HR2.out _).read.alloc _) rfl ?c1 (by omega) ?c3 ?_);case c1=> have hn:=(Blk.new (wr.drewN nq) #[((q:Int)+j:Int)] 3).cell 0;exact hn
    case c3=>first|omega|(simp;omega)
    ·intro v2 w2 H1 H2 H3;have R2:=HR2.out nq;have hb2:=Am (R2.blk.alloc _) H2 (fun e=>R2.nr e.symm);have r2:=hb2.cell 1;have f2:=hb2.frozen 1;have P3:=(Am ((HP2.out nq).alloc _) H2 (fun e=>S1 _ e.symm rfl)).setOther (p:=(rb,1)) (by dsimp only;intro e;exact hrw e.symm) v2;obtain⟨R3,B3⟩:=R2.addRead H1 H2 (S:=(wr:Nat)+1) (Nat.le_succ _) H3 hBw;have B4:=(HB2.out nq).trans B3;have S3:∀k,v2.ownBlock=some k->k≠(w:Nat):=by
      intro k hk;rcases H3 with H3|H3
      ·exact S1 k (H3▸hk)
      ·rw[H3]at hk;simp at hk;omega
     have HR3:Hid _:=R3;have HP3:Hid _:=P3;have HB4:Hid _:=B4;have HS3:Hid _:=S3;obtain⟨vo,vc,rfl⟩:=Aa H1;clear H1 H2 H3 hb2 R2 R3 P3 B3 B4 S3 HR2 HP2 HB2 S1 R1 P1 r1 p1 ct;go_wp2;go_roundw;case rel=>exact⟨j+1,⟨rd1.types,rd1.stay++[(q:Int)+j],rd1.taken⟩,_,by go_num,by omega,HN.out,⟨HL.out.1,by have:=HL.out.2;simp;omega⟩,HR3.out,HP3.out,HS3.out,HB4.out⟩
     case measure=>simp[intOf];omega
   ·have HN:Hid (Ec want cnt q rd=none):=by show _=_;rw[HD.out,if_neg (by rw[HTY.out];exact hw)]
    have k5:(ty !=want)=true:=by simpa using hw
    clear HD HTY hw k3;go_wp2_with fail;go_quiet (fail);go_wp2;go_ret;refine⟨?_,below_drewN B1 _⟩;rw[HN.out];rfl
  ·obtain rfl:j=cnt:=by omega
   have HN:Hid (Ec want j q rd=some rd1):=by show _=_;rw[←HQ.out,Nat.sub_self];rfl
   have k1:¬(q:Int)+j<(q:Int)+j:=by omega
   clear HQ;go_wp2;go_ret;refine⟨?_,B1⟩;rw[HN.out];exact⟨rfl,_,R1⟩
theorem Er.addTaken{vk':Value} (h:Er B rb m w rd vt vr vk) (h1:w2.ownsRow B 3 1 vk' (rd.taken.length+1) (Az (rd.taken++[x]))) (h2:(w.alloc o).grownBy w2 vk.ownBlock) (hS:(w:Nat)<=S) (h3:vk'.ownBlock=vk.ownBlock∨vk'.ownBlock=some S) (hB:B<=(w:Nat)) :
  Er B rb m (w2.setCell (rb,2) vk') ⟨rd.types,rd.stay,rd.taken++[x]⟩ vt vr vk'/\Below B w (w2.setCell (rb,2) vk'):=by
 have hlt:=h.blk.lt;have hnk':vk'.ownBlock≠some rb:=by
  rcases h3 with h3|h3
  ·rw[h3];exact h.nk
  ·rw[h3];intro e;simp at e;omega
 have hb2:=Am (h.blk.alloc o) h2 (fun e=>h.nk e.symm);have T2:=D6 (h.types.alloc o) h2 (fun k hk e=>h.tk k hk e.symm);have R2:=D6 (h.read.alloc o) h2 (fun k hk e=>h.rk k hk e.symm);have hset:∀{v:Value},v.ownBlock≠some rb->∀k,v.ownBlock=some k->(w2.setCell (rb,2) vk').heap[k]?=w2.heap[k]?:=fun hn k hk=>yL _ _ _ _ (fun e=>hn (by rw[hk,e]));have hs:=hb2.set 2 vk';have e1:(#[vt,vr,vk]:Array Value).setIfInBounds 2 vk'=#[vt,vr,vk']:=rfl;rw[e1]at hs;refine⟨⟨hs,h.low,Aj T2 (hset h.nt),Aj R2 (hset h.nr),by simpa using Aj h1 (hset hnk'),h.nt,h.nr,hnk',h.tr,?_,?_⟩,?_⟩
 ·intro k hk e;rcases h3 with h3|h3
  ·exact h.tk k hk (h3▸e)
  ·have:=(h.types.lt k hk).2;rw[h3]at e;simp at e;omega
 ·intro k hk e;rcases h3 with h3|h3
  ·exact h.rk k hk (h3▸e)
  ·have:=(h.read.lt k hk).2;rw[h3]at e;simp at e;omega
 ·exact(((yA B w).alloc hB o).grown h2 (by simp;omega) (fun k hk=>(h.taken.lt k hk).1)).setCell h.low _
theorem Er.setType{g:Nat} (h:Er B rb m w rd (.slice g m tc) vr vk) (q:Nat) (t:Int) :
  Er B rb m (w.setCell (g,q) t) ⟨rd.types.set q t,rd.stay,rd.taken⟩ (.slice g m tc) vr vk/\Below B w (w.setCell (g,q) t):=by
 have T2:=(h.types.stored q t).1;rw[Dx]at T2;have hg:(Value.slice g m tc).ownBlock=some g:=rfl;have hne:¬rb=g:=fun e=>h.nt (by rw[hg,e]);have hset:∀{v:Value},v.ownBlock≠some g->∀k,v.ownBlock=some k->(w.setCell (g,q) t).heap[k]?=w.heap[k]?:=fun hn k hk=>yL _ _ _ _ (fun e=>hn (by rw[hk,e]));exact⟨⟨h.blk.setOther (p:=(g,q)) hne _,h.low,T2,Aj h.read (hset (h.tr g hg)),Aj h.taken (hset (h.tk g hg)),h.nt,h.nr,h.nk,h.tr,h.tk,h.rk⟩,(yA B w).setCell (h.types.lt g hg).1 _⟩
def Eh (B rb m:Nat) (vt:Value) (w:World) (r:Option Rd) (e:Ending) (w':World):Prop:=
 (match r with|none=>e=.returned (false)|some rd=>e=.returned (true)/\∃vr vk,Er B rb m w' rd vt vr vk)/\Below B w w'
theorem A3w (B rb m:Nat) (x want:Int) (rd:Rd) (to:Option Addr) (tc:Nat) (vr vk:Value) (w:World) (h:Er B rb m w rd (.slice to m tc) vr vk) (hB:B<=(w:Nat)) (hm:rd.types.length=m) (hx1 : -(m:Int)<=x) (hx2:x<m) (hm2:m<=250) (hs:rd.stay.length<=100) (hk:rd.taken.length<=100) :
  Calls prog 291 #[.pointer rb,.agg #[x,want]] w (Eh B rb m (.slice to m tc) w (Hu want x rd)):=by
 have P0:=Blk.new w #[x,want] 404;have D0:=(yA (w:Nat) w).alloc (yB _) (.cells #[x,want] 404);have hrbl:=h.blk.lt;obtain⟨q,hq⟩:∃q:Nat,Bz x=q:=yN (by unfold Bz;split<;>omega);have hqm:q<m:=by
  have:Bz x<m:=by unfold Bz;split<;>omega
  omega
 rcases Ce h.types with ⟨_,h0⟩|⟨g,cap',h1,h2,h3⟩
 ·omega
 simp only[Value.slice.injEq]at h1;obtain⟨rfl,_,rfl⟩:=h1;obtain⟨ro,rc,rfl⟩:=Aa h.read;obtain⟨ko,kc,rfl⟩:=Aa h.taken;have ct:=(h.types.cellAt q (by omega)).trans (Co (by rw[hm];exact hqm));obtain⟨ty,hty⟩:∃ty,ty=rd.types.getD q 0:=⟨_,rfl⟩;rw[←hty]at ct;have HTY:Hid (Ca rd.types (Bz x)=ty):=by show _=_;rw[hq,hty];rfl
 have HQ:Hid _:=hq;have HREG:Hid (∀W,Kw 260 #[.agg #[x,want]] W q):=by intro W;have:=Mg x want (by omega) (by omega) W;rw[hq]at this;exact this
 have HTK:Hid _:=fun W=>Sk x want W;have HM:Hid _:=hm;have HCN:Hid (∀W,Er B rb m W rd (.slice g m tc) (.slice ro rd.stay.length rc) (.slice ko rd.taken.length kc)->Kw 293 #[.slice ro rd.stay.length rc,q] W (.bool (decide ((q:Int)∈rd.stay)))):=fun W hR=>Mj ro rc rd.stay q W (by omega) (Ah.w (Dp hR.read).1 (yE _));clear hty hq hm;go_in;go_wp2_with fail;refine(HREG.out _).mono ?_;rintro e w1 ⟨rfl,hw1⟩;have D1:=D0.trans (hw1.mono (by simp));have R1:=h.l D1;have P1:=P0.l hw1;have ct1:=(D1.cell h3).trans ct;have r10:=R1.blk.cell 0;have r11:=R1.blk.cell 1;have p10:=P1.cell 0;have p11:=P1.cell 1;have hg1:=yF h3 D1.size;have hpl:=P1.lt;have hrl:=R1.blk.lt;have k2:(q:Int)<m:=by omega
 have hE1:Below w1 w1 w1.drew:=(yA _ _).drew;have HD1:Hid _:=D1;have HR1:Hid _:=R1;have HP1:Hid (Blk w1 w #[x,want] 404):=P1;clear hw1 D0 P0 HREG ct h h2 D1;go_wp2_with fail;go_cut [29] from 8 (fun v29 wx=>v29=.bool (Hu want x rd).isNone/\Hid (Er B rb m wx rd (.slice g m tc) (.slice ro rd.stay.length rc) (.slice ko rd.taken.length kc))/\Hid (Blk wx (w:Nat) #[x,want] 404)/\Hid (Below w w wx));case first=>
  by_cases hne:ty=want
  ·rw[hne]at ct1 HTY;clear hne;by_cases hx0:x<0
   ·have kx:=decide_eq_true hx0;rw[kx]at HTK;have HN:Hid ((Hu want x rd).isNone=decide ((q:Int)∈rd.stay)):=by
     show _=_;by_cases hst:Bz x∈rd.stay
     ·rw[Ps HTY.out hx0 hst];rw[HQ.out]at hst;simp[hst]
     ·rw[Pt HTY.out hx0 hst];rw[HQ.out]at hst;simp[hst]
    clear HTY hx0 kx R1 P1;generalize decide ((q:Int)∈rd.stay)=bb at *;first
    | (go_region_with (first|(go_at_call 259;refine(HTK.out _).mono ?_;rintro e w2 ⟨rfl,hw2⟩;have R2:=(HR1.out.l hE1).l hw2;have P2:=(HP1.out.l hE1).l hw2;have s0:=R2.blk.cell 0;have s1:=R2.blk.cell 1;have s2:=(hw2.cell (p:=(g,q)) hg1).trans ct1;have s3:=P2.cell 0;have s4:=P2.cell 1;have HB2:Hid (Below w w w2):=HD1.out.trans ((hE1.trans hw2).mono HD1.out.size))|(go_at_call 293;refine(HCN.out _ R2).mono ?_;rintro e w3 ⟨rfl,hw3⟩;have HR3:Hid (Er B rb m w3 rd (.slice g m tc) (.slice ro rd.stay.length rc) (.slice ko rd.taken.length kc)):=R2.l hw3;have HP3:Hid (Blk w3 w #[x,want] 404):=P2.l hw3;have HB3:Hid (Below w w w3):=HB2.out.trans (hw3.mono HB2.out.size))))
    | fail
    all_goals
     go_wp2;go_meet;case rel=>exact⟨by rw[HN.out],HR3.out,HP3.out,HB3.out⟩
   ·have kx:=decide_eq_false hx0;rw[kx]at HTK;have HN:Hid ((Hu want x rd).isNone=false):=by show _=_;rw[Sb HTY.out hx0];rfl
    clear HTY hx0 kx R1 P1;first
    | (go_region_with (first|(go_at_call 259;refine(HTK.out _).mono ?_;rintro e w2 ⟨rfl,hw2⟩;have HR2:Hid (Er B rb m w2 rd (.slice g m tc) (.slice ro rd.stay.length rc) (.slice ko rd.taken.length kc)):=(HR1.out.l hE1).l hw2;have HP2:Hid (Blk w2 w #[x,want] 404):=(HP1.out.l hE1).l hw2;have HB2:Hid (Below w w w2):=HD1.out.trans ((hE1.trans hw2).mono HD1.out.size))))
    | fail
    all_goals
     go_wp2;go_meet;case rel=>exact⟨by rw[HN.out],HR2.out,HP2.out,HB2.out⟩
  ·have HN:Hid ((Hu want x rd).isNone=true):=by show _=_;rw[Re (by rw[HTY.out];exact hne)];rfl
   have k5:(ty !=want)=true:=by simpa using hne
   have HDR:Hid (∀n,Below w1 w1 (w1.drewN n)):=fun n=>below_drewN (yA _ _) n;clear HTY hne R1 P1 hE1;go_quiet (fail);go_wp2;go_meet;case rel=>exact⟨by rw[HN.out],HR1.out.l (HDR.out _),HP1.out.l (HDR.out _),HD1.out.trans ((HDR.out _).mono HD1.out.size)⟩
 case rest=>
  obtain⟨rfl,HR,HP,HBc⟩:=hcut;clear R1 P1 HR1 HP1 HD1 r10 r11 p10 p11 ct1 hg1 hpl hrl hE1 HCN;have pc:=HP.out.cell;cases hrd:Hu want x rd with
  | none=>
   have HRD:Hid _:=hrd;clear hrd;go_wp2;go_ret;unfold Eh;rw[HRD.out];exact⟨rfl,HBc.out.mono hB⟩
  | some rd'=>
   by_cases hx0:x<0
   ·have hty:=Classical.byContradiction fun hc=>by rw[Re hc]at hrd;cases hrd
    have hns:¬Bz x∈rd.stay:=fun hc=>by rw[Ps hty hx0 hc]at hrd;cases hrd
    have HRD:Hid (Hu want x rd=some ⟨rd.types.set q 0,rd.stay,rd.taken++[(q:Int)]⟩):=by show _=_;rw[Pt hty hx0 hns,HQ.out,Int.toNat_natCast]
    rw[decide_eq_true hx0]at HTK;clear hrd hty hns hx0 HTY;go_wp2_with fail;refine(HTK.out _).mono ?_;rintro e w2 ⟨rfl,hw2⟩;have R2:=HR.out.l hw2;have B2:=HBc.out.trans (hw2.mono HBc.out.size);clear hw2 HR HP HBc pc;have r2:=R2.blk.cell;have ct2:=(R2.types.cellAt q (by omega)).trans (Co (by rw[HM.out];exact hqm));have cf2:=R2.types.frozenAt q;obtain⟨R3,B3⟩:=R2.setType q 0;have HR3:Hid _:=R3;have HB3:Hid _:=(B2.mono hB).trans B3;have hgr:¬g=rb:=fun e=>R2.nt (by rw[e];rfl);have hBw:B<=(w2.setCell (g,q) ()).heap.size:=by rw[Cr];exact yI hB B2.size
    clear R3 B3 B2;go_wp2_with (at_builtin;refine Df rfl _ _ rfl B _ rd.taken.length rd.taken (q:Int) _ rfl (HR3.out.taken.alloc _) rfl ?c1 (by omega) ?c3 ?_);case c1=> have hn:=(Blk.new (w2.setCell (g,q) ()) #[q] 3).cell 0;rw[Cr]at hn;exact hn
    case c3=>exact yI hBw (by simp)
    ·intro v2 w3 H1 H2 H3;have hb2:=Am (HR3.out.blk.alloc _) H2 (fun e=>HR3.out.nk e.symm);have r3:=hb2.cell 2;have f3:=hb2.frozen 2;obtain⟨R4,B4⟩:=HR3.out.addTaken H1 H2 (by simp) H3 hBw;have HR4:Hid (Er B rb m (w3.setCell (rb,2) v2) ⟨rd.types.set q 0,rd.stay,rd.taken++[(q:Int)]⟩ (.slice g m tc) (.slice ro rd.stay.length rc) v2):=R4;have HB4:Hid _:=HB3.out.trans B4;obtain⟨vo,vc,rfl⟩:=Aa H1;clear H1 H2 H3 hb2 R4 B4 HR3 HB3 R2 r2 ct2 cf2;go_wp2;go_ret;unfold Eh;rw[HRD.out];exact⟨⟨rfl,_,_,HR4.out⟩,HB4.out⟩
   ·have hty:=Classical.byContradiction fun hc=>by rw[Re hc]at hrd;cases hrd
    have HRD:Hid _:=Sb hty hx0;rw[decide_eq_false hx0]at HTK;clear hrd hty hx0 HTY;go_wp2_with fail;refine(HTK.out _).mono ?_;rintro e w2 ⟨rfl,hw2⟩;have R2:=HR.out.l hw2;have B2:=HBc.out.trans (hw2.mono HBc.out.size);clear hw2 HR HP HBc pc;go_wp2;go_ret;unfold Eh;rw[HRD.out];exact⟨⟨rfl,_,_,R2⟩,B2.mono hB⟩
theorem row4 {P:Nat->Int->TypeId->Value->Prop} {r0 r1 r2 r3:Nat} {x0 x1 x2 x3:Int} {t0 t1 t2 t3:TypeId} {v0 v1 v2 v3:Value} (p0:P r0 x0 t0 v0) (p1:P r1 x1 t1 v1) (p2:P r2 x2 t2 v2) (p3:P r3 x3 t3 v3) (hk:k<4) :
  ∃r x t v,[r0,r1,r2,r3][k]?=some r/\[x0,x1,x2,x3][k]?=some x/\(∀w:World,(Instr.index 296 (.agg #[.iface t0 v0,.iface t1 v1,.iface t2 v2,.iface t3 v3]) k).run prog w=.ok (.iface t v) w)/\P r x t v:=by
 rcases (by omega:k=0∨k=1∨k=2∨k=3) with rfl|rfl|rfl|rfl
 ·exact⟨_,_,_,_,rfl,rfl,fun _=>by kernel_rfl,p0⟩
 ·exact⟨_,_,_,_,rfl,rfl,fun _=>by kernel_rfl,p1⟩
 ·exact⟨_,_,_,_,rfl,rfl,fun _=>by kernel_rfl,p2⟩
 ·exact⟨_,_,_,_,rfl,rfl,fun _=>by kernel_rfl,p3⟩
end Go.Proofs.YtjbbppblgjhapaaGreatDoor
