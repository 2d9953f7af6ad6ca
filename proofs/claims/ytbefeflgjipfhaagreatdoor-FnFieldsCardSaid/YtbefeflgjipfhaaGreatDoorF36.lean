import Derived.Test.YtbefeflgjipfhaaGreatDoorF34
import Derived.Test.YtbefeflgjipfhaaGreatDoorF35
set_option maxRecDepth 100000
set_option maxHeartbeats 16000000
namespace Go.Proofs.YtbefeflgjipfhaaGreatDoor
open Go.Deep Go.Proofs.Tryz Go.RowKit
variable{x:Int}{B S k m rb tc:Nat}{o:Obj}{rd:Rd}{vk vr:Value}{w:World}
theorem Cu.addTaken{w2:World}{vt vk':Value} (h:Cu B rb m w rd vt vr vk) (h1:w2.ownsRow B 3 1 vk' (rd.taken.length+1) (Bj (rd.taken++[x]))) (h2:(w.alloc o).grownBy w2 vk.ownBlock) (hS:w.heap.size<=S) (h3:vk'.ownBlock=vk.ownBlock∨vk'.ownBlock=some S) (hB:B<=w.heap.size) :
  Cu B rb m (w2.setCell ⟨rb,2,none⟩ vk') ⟨rd.types,rd.stay,rd.taken++[x]⟩ vt vr vk'/\Below B w (w2.setCell ⟨rb,2,none⟩ vk'):=by
 have hlt:=h.blk.lt;have hnk':vk'.ownBlock≠some rb:=by
  rcases h3 with h3|h3
  ·rw[h3];exact h.nk
  ·rw[h3];intro e;simp at e;omega
 have hb2:=Dx (h.blk.alloc o) h2 (fun e=>h.nk e.symm);have T2:=J3 (h.types.alloc o) h2 (fun k hk e=>h.tk k hk e.symm);have R2:=J3 (h.read.alloc o) h2 (fun k hk e=>h.rk k hk e.symm);have hset:∀{v:Value},v.ownBlock≠some rb->∀k,v.ownBlock=some k->(w2.setCell ⟨rb,2,none⟩ vk').heap[k]?=w2.heap[k]?:=fun hn k hk=>yL _ _ _ _ (fun e=>hn (by rw[hk,e]));have hs:=hb2.set 2 vk';have e1:(#[vt,vr,vk]:Array Value).setIfInBounds 2 vk'=#[vt,vr,vk']:=rfl;rw[e1]at hs;refine⟨⟨hs,h.low,Ae T2 (hset h.nt),Ae R2 (hset h.nr),by simpa using Ae h1 (hset hnk'),h.nt,h.nr,hnk',h.tr,?_,?_⟩,?_⟩
 ·intro k hk e;rcases h3 with h3|h3
  ·exact h.tk k hk (h3▸e)
  ·have:=(h.types.lt k hk).2;rw[h3]at e;simp at e;omega
 ·intro k hk e;rcases h3 with h3|h3
  ·exact h.rk k hk (h3▸e)
  ·have:=(h.read.lt k hk).2;rw[h3]at e;simp at e;omega
 ·exact(((yA B w).alloc hB o).grown h2 (by simp;omega) (fun k hk=>(h.taken.lt k hk).1)).setCell h.low _
theorem Cu.setType{g:Nat} (h:Cu B rb m w rd (.slice (some ⟨g,0,none⟩) m tc) vr vk) (q:Nat) (t:Int) :
  Cu B rb m (w.setCell ⟨g,q,none⟩ (.int .i64 t)) ⟨rd.types.set q t,rd.stay,rd.taken⟩ (.slice (some ⟨g,0,none⟩) m tc) vr vk/\Below B w (w.setCell ⟨g,q,none⟩ (.int .i64 t)):=by
 have T2:=(h.types.stored q (.int .i64 t)).1;rw[Ha]at T2;have hg:(Value.slice (some ⟨g,0,none⟩) m tc).ownBlock=some g:=rfl;have hne:¬rb=g:=fun e=>h.nt (by rw[hg,e]);have hset:∀{v:Value},v.ownBlock≠some g->∀k,v.ownBlock=some k->(w.setCell ⟨g,q,none⟩ (.int .i64 t)).heap[k]?=w.heap[k]?:=fun hn k hk=>yL _ _ _ _ (fun e=>hn (by rw[hk,e]));exact⟨⟨h.blk.setOther (p:=⟨g,q,none⟩) hne _,h.low,T2,Ae h.read (hset (h.tr g hg)),Ae h.taken (hset (h.tk g hg)),h.nt,h.nr,h.nk,h.tr,h.tk,h.rk⟩,(yA B w).setCell (h.types.lt g hg).1 _⟩
def D8 (B rb m:Nat) (vt:Value) (w:World) (r:Option Rd) (e:Ending) (w':World):Prop:=
 (match r with|none=>e=.returned (.bool false)|some rd=>e=.returned (.bool true)/\∃vr vk,Cu B rb m w' rd vt vr vk)/\Below B w w'
theorem Zl (B rb m:Nat) (x want:Int) (rd:Rd) (to:Option Addr) (tc:Nat) (vr vk:Value) (w:World) (h:Cu B rb m w rd (.slice to m tc) vr vk) (hB:B<=w.heap.size) (hm:rd.types.length=m) (hx1 : -(m:Int)<=x) (hx2:x<m) (hm2:m<=250) (hs:rd.stay.length<=100) (hk:rd.taken.length<=100) :
  Calls prog 391 #[.pointer (some ⟨rb,0,none⟩),.agg #[.int .i64 x,.int .i64 want]] w (D8 B rb m (.slice to m tc) w (Fj want x rd)):=by
 have P0:=Blk.new w #[.int .i64 x,.int .i64 want] 286;have D0:=(yA w.heap.size w).alloc (yB _) (.cells #[.int .i64 x,.int .i64 want] 286);have hrbl:=h.blk.lt;obtain⟨q,hq⟩:∃q:Nat,Be x=q:=yN (by unfold Be;split<;>omega);have hqm:q<m:=by
  have:Be x<m:=by unfold Be;split<;>omega
  omega
 rcases Aj h.types with ⟨_,h0⟩|⟨g,cap',h1,h2,h3⟩
 ·omega
 simp only[Value.slice.injEq]at h1;obtain⟨rfl,_,rfl⟩:=h1;obtain⟨ro,rc,rfl⟩:=Af h.read;obtain⟨ko,kc,rfl⟩:=Af h.taken;have ct:=(h.types.cellAt q (by omega)).trans (De (by rw[hm];exact hqm));obtain⟨ty,hty⟩:∃ty,ty=rd.types.getD q 0:=⟨_,rfl⟩;rw[←hty]at ct;have HTY:Hid (D7 rd.types (Be x)=ty):=by show _=_;rw[hq,hty];rfl
 have HQ:Hid (Be x=q):=hq;have HREG:Hid (∀W,Kw 202 #[.agg #[.int .i64 x,.int .i64 want]] W (.int .i64 q)):=by intro W;have:=Gx x want (by omega) (by omega) W;rw[hq]at this;exact this
 have HTK:Hid (∀W,Kw 203 #[.agg #[.int .i64 x,.int .i64 want]] W (.bool (decide (x<0)))):=fun W=>Ig x want W;have HM:Hid (rd.types.length=m):=hm;have HCN:Hid (∀W,Cu B rb m W rd (.slice (some ⟨g,0,none⟩) m tc) (.slice ro rd.stay.length rc) (.slice ko rd.taken.length kc)->Kw 393 #[.slice ro rd.stay.length rc,.int .i64 q] W (.bool (decide ((q:Int)∈rd.stay)))):=fun W hR=>J9 ro rc rd.stay q W (by omega) (Ay.w (K8 hR.read).1 (yE _));clear hty hq hm;go_in;go_wp2_with fail;refine(HREG.out _).mono ?_;rintro e w1 ⟨rfl,hw1⟩;have D1:=D0.trans (hw1.mono (by simp));have R1:=h.l D1;have P1:=P0.l hw1;have ct1:=(D1.cell (p:=⟨g,q,none⟩) h3).trans ct;have r10:=R1.blk.cell 0;have r11:=R1.blk.cell 1;have p10:=P1.cell 0;have p11:=P1.cell 1;have hg1:g<w1.heap.size:=yF h3 D1.size;have hpl:=P1.lt;have hrl:=R1.blk.lt;have k2:(q:Int)<m:=by omega
 have hE1:Below w1.heap.size w1 w1.drew:=(yA _ _).drew;have HD1:Hid (Below w.heap.size w w1):=D1;have HR1:Hid (Cu B rb m w1 rd (.slice (some ⟨g,0,none⟩) m tc) (.slice ro rd.stay.length rc) (.slice ko rd.taken.length kc)):=R1;have HP1:Hid (Blk w1 w.heap.size #[.int .i64 x,.int .i64 want] 286):=P1;clear hw1 D0 P0 HREG ct h h2 D1;go_wp2_with fail;go_cut [29] from 8 (fun v29 wx=>v29=.bool (Fj want x rd).isNone/\Hid (Cu B rb m wx rd (.slice (some ⟨g,0,none⟩) m tc) (.slice ro rd.stay.length rc) (.slice ko rd.taken.length kc))/\Hid (Blk wx w.heap.size #[.int .i64 x,.int .i64 want] 286)/\Hid (Below w.heap.size w wx));case first=>
  by_cases hne:ty=want
  ·rw[hne]at ct1 HTY;clear hne;by_cases hx0:x<0
   ·have kx:decide (x<0)=true:=decide_eq_true hx0;rw[kx]at HTK;have HN:Hid ((Fj want x rd).isNone=decide ((q:Int)∈rd.stay)):=by
     show _=_;by_cases hst:Be x∈rd.stay
     ·rw[Rp HTY.out hx0 hst];rw[HQ.out]at hst;simp[hst]
     ·rw[Rq HTY.out hx0 hst];rw[HQ.out]at hst;simp[hst]
    clear HTY hx0 kx R1 P1;generalize decide ((q:Int)∈rd.stay)=bb at *;first
    | (go_region_with (first|(go_at_call 203;refine(HTK.out _).mono ?_;rintro e w2 ⟨rfl,hw2⟩;have R2:=(HR1.out.l hE1).l hw2;have P2:=(HP1.out.l hE1).l hw2;have s0:=R2.blk.cell 0;have s1:=R2.blk.cell 1;have s2:=(hw2.cell (p:=⟨g,q,none⟩) hg1).trans ct1;have s3:=P2.cell 0;have s4:=P2.cell 1;have HB2:Hid (Below w.heap.size w w2):=HD1.out.trans ((hE1.trans hw2).mono HD1.out.size))|(go_at_call 393;refine(HCN.out _ R2).mono ?_;rintro e w3 ⟨rfl,hw3⟩;have HR3:Hid (Cu B rb m w3 rd (.slice (some ⟨g,0,none⟩) m tc) (.slice ro rd.stay.length rc) (.slice ko rd.taken.length kc)):=R2.l hw3;have HP3:Hid (Blk w3 w.heap.size #[.int .i64 x,.int .i64 want] 286):=P2.l hw3;have HB3:Hid (Below w.heap.size w w3):=HB2.out.trans (hw3.mono HB2.out.size))))
    | fail
    all_goals
     go_wp2;go_meet;case rel=>exact⟨by rw[HN.out],HR3.out,HP3.out,HB3.out⟩
   ·have kx:decide (x<0)=false:=decide_eq_false hx0;rw[kx]at HTK;have HN:Hid ((Fj want x rd).isNone=false):=by show _=_;rw[Ui HTY.out hx0];rfl
    clear HTY hx0 kx R1 P1;first
    | (go_region_with (first|(go_at_call 203;refine(HTK.out _).mono ?_;rintro e w2 ⟨rfl,hw2⟩;have HR2:Hid (Cu B rb m w2 rd (.slice (some ⟨g,0,none⟩) m tc) (.slice ro rd.stay.length rc) (.slice ko rd.taken.length kc)):=(HR1.out.l hE1).l hw2;have HP2:Hid (Blk w2 w.heap.size #[.int .i64 x,.int .i64 want] 286):=(HP1.out.l hE1).l hw2;have HB2:Hid (Below w.heap.size w w2):=HD1.out.trans ((hE1.trans hw2).mono HD1.out.size))))
    | fail
    all_goals
     go_wp2;go_meet;case rel=>exact⟨by rw[HN.out],HR2.out,HP2.out,HB2.out⟩
  ·have HN:Hid ((Fj want x rd).isNone=true):=by show _=_;rw[Ww (by rw[HTY.out];exact hne)];rfl
   have k5:(ty !=want)=true:=by simpa using hne
   have HDR:Hid (∀n,Below w1.heap.size w1 (w1.drewN n)):=fun n=>below_drewN (yA _ _) n;clear HTY hne R1 P1 hE1;go_quiet (fail);go_wp2;go_meet;case rel=>exact⟨by rw[HN.out],HR1.out.l (HDR.out _),HP1.out.l (HDR.out _),HD1.out.trans ((HDR.out _).mono HD1.out.size)⟩
 case rest=>
  obtain⟨rfl,HR,HP,HBc⟩:=hcut;clear R1 P1 HR1 HP1 HD1 r10 r11 p10 p11 ct1 hg1 hpl hrl hE1 HCN;have pc:=HP.out.cell;cases hrd:Fj want x rd with
  | none=>
   have HRD:Hid _:=hrd;clear hrd;go_wp2;go_ret;unfold D8;rw[HRD.out];exact⟨rfl,HBc.out.mono hB⟩
  | some rd'=>
   by_cases hx0:x<0
   ·have hty:D7 rd.types (Be x)=want:=Classical.byContradiction fun hc=>by rw[Ww hc]at hrd;cases hrd
    have hns:¬Be x∈rd.stay:=fun hc=>by rw[Rp hty hx0 hc]at hrd;cases hrd
    have HRD:Hid (Fj want x rd=some ⟨rd.types.set q 0,rd.stay,rd.taken++[(q:Int)]⟩):=by show _=_;rw[Rq hty hx0 hns,HQ.out,Int.toNat_natCast]
    rw[decide_eq_true hx0]at HTK;clear hrd hty hns hx0 HTY;go_wp2_with fail;refine(HTK.out _).mono ?_;rintro e w2 ⟨rfl,hw2⟩;have R2:=HR.out.l hw2;have B2:=HBc.out.trans (hw2.mono HBc.out.size);clear hw2 HR HP HBc pc;have r2:=R2.blk.cell;have ct2:=(R2.types.cellAt q (by omega)).trans (De (by rw[HM.out];exact hqm));have cf2:=R2.types.frozenAt q;obtain⟨R3,B3⟩:=R2.setType q 0;have HR3:Hid (Cu B rb m (w2.setCell ⟨g,q,none⟩ (.int .i64 0)) ⟨rd.types.set q 0,rd.stay,rd.taken⟩ (.slice (some ⟨g,0,none⟩) m tc) (.slice ro rd.stay.length rc) (.slice ko rd.taken.length kc)):=R3;have HB3:Hid (Below B w (w2.setCell ⟨g,q,none⟩ (.int .i64 0))):=(B2.mono hB).trans B3;have hgr:¬g=rb:=fun e=>R2.nt (by rw[e];rfl);have hBw:B<=(w2.setCell ⟨g,q,none⟩ (.int .i64 0)).heap.size:=by rw[Gm];exact yI hB B2.size
    clear R3 B3 B2;go_wp2_with (at_builtin;refine Il rfl _ _ rfl B _ rd.taken.length rd.taken (q:Int) _ rfl (HR3.out.taken.alloc _) rfl ?c1 (by omega) ?c3 ?_);case c1=> have hn:=(Blk.new (w2.setCell ⟨g,q,none⟩ (.int .i64 0)) #[.int .i64 q] 3).cell 0;rw[Gm]at hn;exact hn
    case c3=>exact yI hBw (by simp)
    ·intro v2 w3 H1 H2 H3;have hb2:=Dx (HR3.out.blk.alloc _) H2 (fun e=>HR3.out.nk e.symm);have r3:=hb2.cell 2;have f3:=hb2.frozen 2;obtain⟨R4,B4⟩:=HR3.out.addTaken H1 H2 (by simp) H3 hBw;have HR4:Hid (Cu B rb m (w3.setCell ⟨rb,2,none⟩ v2) ⟨rd.types.set q 0,rd.stay,rd.taken++[(q:Int)]⟩ (.slice (some ⟨g,0,none⟩) m tc) (.slice ro rd.stay.length rc) v2):=R4;have HB4:Hid (Below B w (w3.setCell ⟨rb,2,none⟩ v2)):=HB3.out.trans B4;obtain⟨vo,vc,rfl⟩:=Af H1;clear H1 H2 H3 hb2 R4 B4 HR3 HB3 R2 r2 ct2 cf2;go_wp2;go_ret;unfold D8;rw[HRD.out];exact⟨⟨rfl,_,_,HR4.out⟩,HB4.out⟩
   ·have hty:D7 rd.types (Be x)=want:=Classical.byContradiction fun hc=>by rw[Ww hc]at hrd;cases hrd
    have HRD:Hid (Fj want x rd=some rd):=Ui hty hx0;rw[decide_eq_false hx0]at HTK;clear hrd hty hx0 HTY;go_wp2_with fail;refine(HTK.out _).mono ?_;rintro e w2 ⟨rfl,hw2⟩;have R2:=HR.out.l hw2;have B2:=HBc.out.trans (hw2.mono HBc.out.size);clear hw2 HR HP HBc pc;go_wp2;go_ret;unfold D8;rw[HRD.out];exact⟨⟨rfl,_,_,R2⟩,B2.mono hB⟩
theorem row4 {P:Nat->Int->TypeId->Value->Prop} {r0 r1 r2 r3:Nat} {x0 x1 x2 x3:Int} {t0 t1 t2 t3:TypeId} {v0 v1 v2 v3:Value} (p0:P r0 x0 t0 v0) (p1:P r1 x1 t1 v1) (p2:P r2 x2 t2 v2) (p3:P r3 x3 t3 v3) (hk:k<4) :
  ∃r x t v,[r0,r1,r2,r3][k]?=some r/\[x0,x1,x2,x3][k]?=some x/\(∀w:World,(Instr.index 402 (.agg #[.iface t0 v0,.iface t1 v1,.iface t2 v2,.iface t3 v3]) (.int .i64 k)).run prog w=.ok (.iface t v) w)/\P r x t v:=by
 rcases (by omega:k=0∨k=1∨k=2∨k=3) with rfl|rfl|rfl|rfl
 ·exact⟨_,_,_,_,rfl,rfl,fun _=>by kernel_rfl,p0⟩
 ·exact⟨_,_,_,_,rfl,rfl,fun _=>by kernel_rfl,p1⟩
 ·exact⟨_,_,_,_,rfl,rfl,fun _=>by kernel_rfl,p2⟩
 ·exact⟨_,_,_,_,rfl,rfl,fun _=>by kernel_rfl,p3⟩
end Go.Proofs.YtbefeflgjipfhaaGreatDoor
