import Derived.Lib.SliceRun
import Derived.Lib.Walk
import Derived.Test.YtbefeflgjipfhaaGreatDoorF26
set_option maxRecDepth 100000
set_option maxHeartbeats 3200000
namespace Go.Proofs.YtbefeflgjipfhaaGreatDoor
open Go.Deep Go.Proofs.Tryz Go.RowKit
variable{x:Int}{B S m rb:Nat}{o:Obj}{rd:Rd}{vk vr vt:Value}{w:World}
structure Cu (B rb m:Nat) (w:World) (rd:Rd) (vt vr vk:Value):Prop where
 blk:Blk w rb #[vt,vr,vk] 406
 low:B<=rb
 types:w.ownsRow B 3 1 vt m (Bj rd.types)
 read:w.ownsRow B 3 1 vr rd.stay.length (Bj rd.stay)
 taken:w.ownsRow B 3 1 vk rd.taken.length (Bj rd.taken)
 nt:vt.ownBlock≠some rb
 nr:vr.ownBlock≠some rb
 nk:vk.ownBlock≠some rb
 tr:∀k,vt.ownBlock=some k->vr.ownBlock≠some k
 tk:∀k,vt.ownBlock=some k->vk.ownBlock≠some k
 rk:∀k,vr.ownBlock=some k->vk.ownBlock≠some k
theorem Cu.l{w':World} (h:Cu B rb m w rd vt vr vk) (hb:Below w.heap.size w w'):Cu B rb m w' rd vt vr vk:=
 ⟨h.blk.l hb,h.low,Ab h.types hb,Ab h.read hb,Ab h.taken hb,h.nt,h.nr,h.nk,h.tr,h.tk,h.rk⟩
theorem Cu.addRead{w2:World}{vr':Value} (h:Cu B rb m w rd vt vr vk) (h1:w2.ownsRow B 3 1 vr' (rd.stay.length+1) (Bj (rd.stay++[x]))) (h2:(w.alloc o).grownBy w2 vr.ownBlock) (hS:w.heap.size<=S) (h3:vr'.ownBlock=vr.ownBlock∨vr'.ownBlock=some S) (hB:B<=w.heap.size) :
  Cu B rb m (w2.setCell ⟨rb,1,none⟩ vr') ⟨rd.types,rd.stay++[x],rd.taken⟩ vt vr' vk/\Below B w (w2.setCell ⟨rb,1,none⟩ vr'):=by
 have hlt:=h.blk.lt;have hnr':vr'.ownBlock≠some rb:=by
  rcases h3 with h3|h3
  ·rw[h3];exact h.nr
  ·rw[h3];intro e;simp at e;omega
 have hb2:=Dx (h.blk.alloc o) h2 (fun e=>h.nr e.symm);have T2:=J3 (h.types.alloc o) h2 (fun k hk e=>h.tr k hk e.symm);have K2:=J3 (h.taken.alloc o) h2 (fun k hk e=>h.rk k e.symm hk);have hset:∀{v:Value},v.ownBlock≠some rb->∀k,v.ownBlock=some k->(w2.setCell ⟨rb,1,none⟩ vr').heap[k]?=w2.heap[k]?:=fun hn k hk=>yL _ _ _ _ (fun e=>hn (by rw[hk,e]));have hs:=hb2.set 1 vr';have e1:(#[vt,vr,vk]:Array Value).setIfInBounds 1 vr'=#[vt,vr',vk]:=rfl;rw[e1]at hs;refine⟨⟨hs,h.low,Ae T2 (hset h.nt),by simpa using Ae h1 (hset hnr'),Ae K2 (hset h.nk),h.nt,hnr',h.nk,?_,h.tk,?_⟩,?_⟩
 ·intro k hk e;rcases h3 with h3|h3
  ·exact h.tr k hk (h3▸e)
  ·have:=(h.types.lt k hk).2;rw[h3]at e;simp at e;omega
 ·intro k hk e;rcases h3 with h3|h3
  ·exact h.rk k (h3▸hk) e
  ·have:=(h.taken.lt k e).2;rw[h3]at hk;simp at hk;omega
 ·exact(((yA B w).alloc hB o).grown h2 (by simp;omega) (fun k hk=>(h.read.lt k hk).1)).setCell h.low _
def Cy (want:Int):Nat->Nat->Rd->Option Rd
 | 0,_,s=>some s
 | c+1,q,s=>if D7 s.types (q:Int)=want then Cy want c (q+1) ⟨s.types,s.stay++[(q:Int)],s.taken⟩ else none
def A54 (B rb m:Nat) (vt vk:Value) (w:World) (r:Option Rd) (e:Ending) (w':World):Prop:=
 (match r with|none=>e=.returned (.bool false)|some rd=>e=.returned (.bool true)/\∃vr,Cu B rb m w' rd vt vr vk)/\Below B w w'
theorem A1i (B rb m q cnt:Nat) (want:Int) (rd:Rd) (to:Option Addr) (tc:Nat) (vr vk:Value) (w:World) (h:Cu B rb m w rd (.slice to m tc) vr vk) (hB:B<=w.heap.size) (hm:rd.types.length=m) (hq:q+cnt<=m) (hm2:m<=250) (hc:cnt<=3) (hs:rd.stay.length<=100) :
  Calls prog 392 #[.pointer (some ⟨rb,0,none⟩),.agg #[.int .i64 q,.int .i64 cnt,.int .i64 want]] w (A54 B rb m (.slice to m tc) vk w (Cy want cnt q rd)):=by
 have P0:=Blk.new w #[.int .i64 q,.int .i64 cnt,.int .i64 want] 489;have R0:=h.l ((yA _ _).alloc (yB _) (.cells #[.int .i64 q,.int .i64 cnt,.int .i64 want] 489));have B0:=(yA B w).alloc hB (.cells #[.int .i64 q,.int .i64 cnt,.int .i64 want] 489);have S0:∀k,vr.ownBlock=some k->k≠w.heap.size:=fun k hk=>by have:=(h.read.lt k hk).2;omega
 have hrw:rb≠w.heap.size:=by have:=h.blk.lt;omega
 have HM:Hid (rd.types.length=m):=hm;have HS0:Hid (rd.stay.length<=100):=hs;clear hm h hs;go_in;go_wp2;go_loopw [5] (fun y wr=>∃(j:Nat) (rd1:Rd) (vr1:Value),y=.int .i64 ((q:Int)+j)/\j<=cnt/\Hid (Cy want (cnt-j) (q+j) rd1=Cy want cnt q rd)/\Hid (rd1.types.length=m/\rd1.stay.length<=rd.stay.length+j)/\Cu B rb m wr rd1 (.slice to m tc) vr1 vk/\Blk wr w.heap.size #[.int .i64 q,.int .i64 cnt,.int .i64 want] 489/\(∀k,vr1.ownBlock=some k->k≠w.heap.size)/\Below B w wr) (fun y _=>q+cnt-(intOf y).toNat);case atStart=>exact⟨0,rd,vr,by simp,yE _,rfl,⟨HM.out,by omega⟩,R0,P0,S0,B0⟩
 case round=>
  obtain⟨j,rd1,vr1,rfl,hj,HQ,HL,R1,P1,S1,B1⟩:=hrel;clear R0 P0 S0 B0;have p1:=P1.cell;have hsl:rd1.stay.length<=103:=by have:=HL.out;have:=HS0.out;omega
  obtain⟨ro,rc,rfl⟩:=Af R1.read;obtain⟨ko,kc,rfl⟩:=Af R1.taken;by_cases hjl:j<cnt
  ·rcases Aj R1.types with ⟨_,h0⟩|⟨g,cap',h1,h2,h3⟩
   ·omega
   simp only[Value.slice.injEq]at h1;obtain⟨rfl,_,rfl⟩:=h1;have ct:=(R1.types.cellAt (q+j) (by omega)).trans (De (by rw[HL.out.1];omega));obtain⟨ty,hty⟩:∃ty,ty=rd1.types.getD (q+j) 0:=⟨_,rfl⟩;rw[←hty]at ct;have HTY:Hid (D7 rd1.types ((q+j:Nat):Int)=ty):=hty.symm;have HD:Hid (Cy want cnt q rd=if D7 rd1.types ((q+j:Nat):Int)=want then Cy want (cnt-(j+1)) (q+j+1) ⟨rd1.types,rd1.stay++[((q+j:Nat):Int)],rd1.taken⟩ else none):=by show _=_;rw[←HQ.out,show cnt-j=(cnt-(j+1))+1 by omega];rfl
   have r1:=R1.blk.cell;have k1:(q:Int)+j<(q:Int)+cnt:=by omega
   have k2:(q:Int)+j<m:=by omega
   have k3:(q:Int)+j=((q+j:Nat):Int):=by omega
   clear hty HQ;by_cases hw:ty=want
   ·subst hw;have HN:Hid (Cy ty (cnt-(j+1)) (q+(j+1)) ⟨rd1.types,rd1.stay++[(q:Int)+j],rd1.taken⟩=Cy ty cnt q rd):=by show _=_;rw[HD.out,if_pos HTY.out,k3];rfl
    clear HD HTY k3;go_wp2_with fail;go_quiet (fail);have hDR:∀n,Below wr.heap.size wr (wr.drewN n):=fun n=>below_drewN (yA _ _) n;have R2:=fun n=>R1.l (hDR n);have P2:=fun n=>P1.l (hDR n);have B2:=fun n=>below_drewN B1 n;have HR2:Hid _:=R2;have HP2:Hid _:=P2;have HB2:Hid _:=B2;have hBw:B<=wr.heap.size:=yI hB B1.size;have hrbl:=R1.blk.lt;have hpl:=P1.lt;clear R2 P2 B2 hDR;go_wp2_with (at_builtin;refine Il rfl _ _ rfl B _ rd1.stay.length rd1.stay ((q:Int)+j) wr.heap.size rfl ((HR2.out _).read.alloc _) rfl ?c1 (by omega) ?c3 ?_);case c1=> have hn:=(Blk.new (wr.drewN nq) #[.int .i64 ((q:Int)+j)] 3).cell 0;exact hn
    case c3=>first|omega|(simp;omega)
    ·intro v2 w2 H1 H2 H3;have R2:=HR2.out nq;have hb2:=Dx (R2.blk.alloc _) H2 (fun e=>R2.nr e.symm);have r2:=hb2.cell 1;have f2:=hb2.frozen 1;have P3:=(Dx ((HP2.out nq).alloc _) H2 (fun e=>S1 _ e.symm rfl)).setOther (p:=⟨rb,1,none⟩) (by dsimp only;intro e;exact hrw e.symm) v2;obtain⟨R3,B3⟩:=R2.addRead H1 H2 (S:=wr.heap.size+1) (Nat.le_succ _) H3 hBw;have B4:=(HB2.out nq).trans B3;have S3:∀k,v2.ownBlock=some k->k≠w.heap.size:=by
      intro k hk;rcases H3 with H3|H3
      ·exact S1 k (H3▸hk)
      ·rw[H3]at hk;simp at hk;omega
     have HR3:Hid _:=R3;have HP3:Hid _:=P3;have HB4:Hid _:=B4;have HS3:Hid _:=S3;obtain⟨vo,vc,rfl⟩:=Af H1;clear H1 H2 H3 hb2 R2 R3 P3 B3 B4 S3 HR2 HP2 HB2 S1 R1 P1 r1 p1 ct;go_wp2;go_roundw;case rel=>exact⟨j+1,⟨rd1.types,rd1.stay++[(q:Int)+j],rd1.taken⟩,_,by go_num,by omega,HN.out,⟨HL.out.1,by have:=HL.out.2;simp;omega⟩,HR3.out,HP3.out,HS3.out,HB4.out⟩
     case measure=>simp[intOf];omega
   ·have HN:Hid (Cy want cnt q rd=none):=by show _=_;rw[HD.out,if_neg (by rw[HTY.out];exact hw)]
    have k5:(ty !=want)=true:=by simpa using hw
    clear HD HTY hw k3;go_wp2_with fail;go_quiet (fail);go_wp2;go_ret;refine⟨?_,below_drewN B1 _⟩;rw[HN.out];rfl
  ·obtain rfl:j=cnt:=by omega
   have HN:Hid (Cy want j q rd=some rd1):=by show _=_;rw[←HQ.out,Nat.sub_self];rfl
   have k1:¬(q:Int)+j<(q:Int)+j:=by omega
   clear HQ;go_wp2;go_ret;refine⟨?_,B1⟩;rw[HN.out];exact⟨rfl,_,R1⟩
end Go.Proofs.YtbefeflgjipfhaaGreatDoor
