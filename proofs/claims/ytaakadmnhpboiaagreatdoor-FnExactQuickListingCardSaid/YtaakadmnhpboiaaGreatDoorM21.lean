import Derived.Test.YtaakadmnhpboiaaGreatDoorM01
import Derived.Deep.LoopGhost
import Derived.Laws.FloatArith
import Derived.Laws.StructEq
import Derived.Lib.SliceRun
import Derived.Lib.Walk
import Derived.Maps.AppendAt
import Derived.Test.YtaakadmnhpboiaaGreatDoorM11
import Derived.Test.YtaakadmnhpboiaaGreatDoorM14
namespace Go.Proofs.YtaakadmnhpboiaaGreatDoor
open Go.RowKit Go.Deep
theorem owns_cap {w:World} {base e size n:Nat} {v:Value} {xs:List Value} (h:w.ownsRow base e size v n xs):∀ao c,v=.slice ao n c→n≤c:=by
 intro ao c hv
 obtain⟨_,⟨h1,h2⟩ | ⟨g,cap,cur,rfl,_,_,hc,_⟩⟩:=h
 ·omega
 ·simp at hv;omega
def RTag (w:World) (ao:Option Addr) (t:TypeId):Prop:=∀x,ao=some x→∃b,x=⟨b,0,none⟩∧∃arr,w.heap[b]?=some (.cells arr t (0,0))
theorem owns_tag {w:World} {base e size n:Nat} {ao:Option Addr} {c:Nat} {xs:List Value} (h:w.ownsRow base e size (.slice ao n c) n xs):RTag w ao e:=by
 obtain⟨_,⟨h1,h2⟩ | ⟨g,cap,cur,h3,hg,hh,_⟩⟩:=h
 ·rintro x rfl;simp at h1
 ·rintro x rfl;simp at h3;exact ⟨g,h3.1,cur,hh⟩
attribute [local go_sem] run_eqg_Guard run_neq_Guard
set_option maxRecDepth 100000 in
set_option maxHeartbeats 1600000 in
theorem equalGd_any (p1 p2:Option Addr) (d1 d2:Nat) (g1 g2:List Gd) (w:World) (l3:g1.length≤1048576) (h3:GdsAt 0 w p1 g1) (h4:GdsAt 0 w p2 g2) :
  Calls Tryz.prog 111 #[.slice p1 g1.length d1,.slice p2 g2.length d2] w fun e w'=>e=.returned (.bool (decide (g1=g2)))∧Below w.heap.size w w':=by
 go_enter Tryz.func111,Tryz.ntmps111
 by_cases e2:g1.length=g2.length
 rotate_left
 ·have k2:((g1.length:Int) != g2.length)=true:=by simp;omega
  have HN:Hid (¬g1=g2):=fun h=>e2 (by rw [h])
  clear e2
  go_wp2_with fail
  go_ret
  exact⟨ret_bool (by simp [HN.out]),Below.refl _ _⟩
 ·have k2:((g1.length:Int) != g2.length)=false:=by simp;omega
  have E2:Hid (g1.length=g2.length):=e2
  clear e2
  go_wp2_with fail
  go_loopw [13] (fun y wr=>∃k:Nat,k≤g1.length∧y=.int .i64 k∧Hid ((g1=g2) ↔ (g1.drop k=g2.drop k))∧Below w.heap.size w wr) (fun y _=>g1.length - (intOf y).toNat)
  case atStart=>exact ⟨0,Nat.zero_le _,rfl,Iff.rfl,Below.refl _ _⟩
  case round=>
   obtain⟨k',hk',rfl,HQ,hb'⟩:=hrel
   by_cases hkl2:k'<g1.length
   ·obtain⟨x,hxk⟩:=some_of_lt hkl2
    have hkl3:k'<g2.length:=by rw [←E2.out];exact hkl2
    obtain⟨y,hyk⟩:=some_of_lt hkl3
    obtain⟨b,off,rfl,_,hbl,q0,q1,q2⟩:=h3.later (Keeps.of_below hb') k' x hxk
    obtain⟨b',off',rfl,_,hbl',q3,q4,q5⟩:=h4.later (Keeps.of_below hb') k' y hyk
    have HD:Hid ((g1=g2) ↔ (x=y∧g1.drop (k'+1)=g2.drop (k'+1))):=HQ.out.trans (drop_eq_step hxk hyk)
    have k3:(k':Int)<g2.length:=by omega
    obtain⟨x0,x1,x2'⟩:=x
    obtain⟨y0,y1,y2'⟩:=y
    dsimp only at *
    clear HQ h3 h4 hxk hyk
    by_cases hxy:(⟨x0,x1,x2'⟩:Gd)=⟨y0,y1,y2'⟩
    ·have HN:Hid ((g1=g2) ↔ g1.drop (k'+1)=g2.drop (k'+1)):=by
      show _ ↔ _
      rw [HD.out]
      exact⟨fun h=>h.2,fun h=>⟨hxy,h⟩⟩
     simp only [Gd.mk.injEq] at hxy
     obtain⟨rfl,rfl,rfl⟩:=hxy
     clear HD
     go_wp2_with fail
     go_quiet (fail)
     go_wp2_with fail
     go_roundw
     case rel=>exact ⟨k'+1,by omega,by go_num,HN.out,below_drewN hb' _⟩
     case measure=>simp [intOf];omega
    ·have HN:Hid (¬g1=g2):=by
      intro h
      exact hxy (HD.out.1 h).1
     have k4:(¬x0=y0)∨(x0=y0∧¬x1=y1)∨(x0=y0∧x1=y1∧¬x2'=y2'):=by
      simp only [Gd.mk.injEq] at hxy
      by_cases z0:x0=y0 <;> by_cases z1:x1=y1 <;> by_cases z2:x2'=y2' <;> simp_all
     clear HD hxy
     rcases k4 with k4 | ⟨rfl,k4⟩ | ⟨rfl,rfl,k4⟩
     ·have k5:(x0 == y0)=false:=by simpa using k4
      go_wp2_with fail
      go_quiet (fail)
      go_wp2_with fail
      go_ret
      exact⟨ret_bool (by simp [HN.out]),below_drewN hb' _⟩
     ·have k5:(x1 == y1)=false:=by simpa using k4
      go_wp2_with fail
      go_quiet (fail)
      go_wp2_with fail
      go_ret
      exact⟨ret_bool (by simp [HN.out]),below_drewN hb' _⟩
     ·have k5:(x2' == y2')=false:=by simpa using k4
      go_wp2_with fail
      go_quiet (fail)
      go_wp2_with fail
      go_ret
      exact⟨ret_bool (by simp [HN.out]),below_drewN hb' _⟩
   ·have HG:Hid (g1=g2):=by
     show _=_
     rw [HQ.out,List.drop_of_length_le (by omega),List.drop_of_length_le (by rw [←E2.out];omega)]
    clear HQ
    go_wp2_with fail
    go_ret
    exact⟨ret_bool (by simp [HG.out]),hb'⟩
end Go.Proofs.YtaakadmnhpboiaaGreatDoor
namespace Go.Proofs.YtaakadmnhpboiaaGreatDoor
open Go.RowKit Go.Deep
structure RgAt (B rb m:Nat) (w:World) (rd:Rd) (vt vr vk:Value):Prop where
 blk:Blk w rb #[vt,vr,vk] 182
 low:B≤rb
 types:w.ownsRow B 3 1 vt m (ints rd.types)
 read:w.ownsRow B 3 1 vr rd.stay.length (ints rd.stay)
 taken:w.ownsRow B 3 1 vk rd.taken.length (ints rd.taken)
 nt:vt.ownBlock≠some rb
 nr:vr.ownBlock≠some rb
 nk:vk.ownBlock≠some rb
 tr:∀k,vt.ownBlock=some k→vr.ownBlock≠some k
 tk:∀k,vt.ownBlock=some k→vk.ownBlock≠some k
 rk:∀k,vr.ownBlock=some k→vk.ownBlock≠some k
theorem RgAt.later {B rb m:Nat} {w w':World} {rd:Rd} {vt vr vk:Value} (h:RgAt B rb m w rd vt vr vk) (hb:Below w.heap.size w w'):RgAt B rb m w' rd vt vr vk:=
 ⟨h.blk.later hb,h.low,owns_below h.types hb,owns_below h.read hb,owns_below h.taken hb,h.nt,h.nr,h.nk,h.tr,h.tk,h.rk⟩
theorem RgAt.addRead {B rb m:Nat} {w w2:World} {rd:Rd} {vt vr vr' vk:Value} {x:Int} {o:Obj} {S:Nat} (h:RgAt B rb m w rd vt vr vk) (h1:w2.ownsRow B 3 1 vr' (rd.stay.length+1) (ints (rd.stay ++ [x]))) (h2:(w.alloc o).grownBy w2 vr.ownBlock) (hS:w.heap.size≤S) (h3:vr'.ownBlock=vr.ownBlock∨vr'.ownBlock=some S) (hB:B≤w.heap.size) :
  RgAt B rb m (w2.setCell ⟨rb,1,none⟩ vr') ⟨rd.types,rd.stay ++ [x],rd.taken⟩ vt vr' vk∧Below B w (w2.setCell ⟨rb,1,none⟩ vr'):=by
 have hlt:=h.blk.lt
 have hnr':vr'.ownBlock≠some rb:=by
  rcases h3 with h3 | h3
  ·rw [h3];exact h.nr
  ·rw [h3];intro e;simp at e;omega
 have hb2:=blk_grown (h.blk.alloc o) h2 (fun e=>h.nr e.symm)
 have T2:=owns_grown (h.types.alloc o) h2 (fun k hk e=>h.tr k hk e.symm)
 have K2:=owns_grown (h.taken.alloc o) h2 (fun k hk e=>h.rk k e.symm hk)
 have hset:∀{v:Value},v.ownBlock≠some rb→∀k,v.ownBlock=some k→(w2.setCell ⟨rb,1,none⟩ vr').heap[k]?=w2.heap[k]?:=fun hn k hk=>Below.heap_setCell _ _ _ _ (fun e=>hn (by rw [hk,e]))
 have hs:=hb2.set 1 vr'
 have e1:(#[vt,vr,vk]:Array Value).setIfInBounds 1 vr'=#[vt,vr',vk]:=rfl
 rw [e1] at hs
 refine⟨⟨hs,h.low,owns_other T2 (hset h.nt),by simpa using owns_other h1 (hset hnr'),owns_other K2 (hset h.nk),h.nt,hnr',h.nk,?_,h.tk,?_⟩,?_⟩
 ·intro k hk e
  rcases h3 with h3 | h3
  ·exact h.tr k hk (h3▸e)
  ·have:=(h.types.lt k hk).2
   rw [h3] at e
   simp at e
   omega
 ·intro k hk e
  rcases h3 with h3 | h3
  ·exact h.rk k (h3▸hk) e
  ·have:=(h.taken.lt k e).2
   rw [h3] at hk
   simp at hk
   omega
 ·exact (((Below.refl B w).alloc hB o).grown h2 (by simp;omega) (fun k hk=>(h.read.lt k hk).1)).setCell h.low _
def placesF (want:Int):Nat→Nat→Rd→Option Rd
 | 0,_,s=>some s
 | c+1,q,s=>if tyAt s.types (q:Int)=want then placesF want c (q+1) ⟨s.types,s.stay ++ [(q:Int)],s.taken⟩ else none
def RgPost (B rb m:Nat) (vt vk:Value) (w:World) (r:Option Rd) (e:Ending) (w':World):Prop:=
 (match r with | none=>e=.returned (.bool false) | some rd=>e=.returned (.bool true)∧∃vr,RgAt B rb m w' rd vt vr vk)∧Below B w w'
set_option maxRecDepth 100000 in
set_option maxHeartbeats 3200000 in
theorem places_any (B rb m q cnt:Nat) (want:Int) (rd:Rd) (to:Option Addr) (tc:Nat) (vr vk:Value) (w:World) (h:RgAt B rb m w rd (.slice to m tc) vr vk) (hB:B≤w.heap.size) (hm:rd.types.length=m) (hq:q+cnt≤m) (hm2:m≤250) (hc:cnt≤3) (hs:rd.stay.length≤100) :
  Calls Tryz.prog 166 #[.pointer (some ⟨rb,0,none⟩),.agg #[.int .i64 q,.int .i64 cnt,.int .i64 want]] w (RgPost B rb m (.slice to m tc) vk w (placesF want cnt q rd)):=by
 have P0:=Blk.new w #[.int .i64 q,.int .i64 cnt,.int .i64 want] 249
 have R0:=h.later ((Below.refl _ _).alloc (Nat.le_refl _) (.cells #[.int .i64 q,.int .i64 cnt,.int .i64 want] 249))
 have B0:=(Below.refl B w).alloc hB (.cells #[.int .i64 q,.int .i64 cnt,.int .i64 want] 249)
 have S0:∀k,vr.ownBlock=some k→k≠w.heap.size:=fun k hk=>by have:=(h.read.lt k hk).2;omega
 have hrw:rb≠w.heap.size:=by have:=h.blk.lt;omega
 have HM:Hid (rd.types.length=m):=hm
 have HS0:Hid (rd.stay.length≤100):=hs
 clear hm h hs
 go_enter Tryz.func166,Tryz.ntmps166
 go_wp2_with fail
 go_loopw [5] (fun y wr=>∃(j:Nat) (rd1:Rd) (vr1:Value),y=.int .i64 ((q:Int)+j)∧j≤cnt∧Hid (placesF want (cnt - j) (q+j) rd1=placesF want cnt q rd)∧Hid (rd1.types.length=m∧rd1.stay.length≤rd.stay.length+j)∧RgAt B rb m wr rd1 (.slice to m tc) vr1 vk∧Blk wr w.heap.size #[.int .i64 q,.int .i64 cnt,.int .i64 want] 249∧(∀k,vr1.ownBlock=some k→k≠w.heap.size)∧Below B w wr) (fun y _=>q+cnt - (intOf y).toNat)
 case atStart=>exact ⟨0,rd,vr,by simp,Nat.zero_le _,rfl,⟨HM.out,by omega⟩,R0,P0,S0,B0⟩
 case round=>
  obtain⟨j,rd1,vr1,rfl,hj,HQ,HL,R1,P1,S1,B1⟩:=hrel
  clear R0 P0 S0 B0
  have p1:=P1.cell
  have hsl:rd1.stay.length≤103:=by have:=HL.out;have:=HS0.out;omega
  obtain⟨ro,rc,rfl⟩:=owns_slice R1.read
  obtain⟨ko,kc,rfl⟩:=owns_slice R1.taken
  by_cases hjl:j<cnt
  ·rcases owns_form R1.types with ⟨_,h0⟩ | ⟨g,cap',h1,h2,h3⟩
   ·omega
   simp only [Value.slice.injEq] at h1
   obtain⟨rfl,_,rfl⟩:=h1
   have ct:=(R1.types.cellAt (q+j) (by omega)).trans (ints_get (by rw [HL.out.1];omega))
   obtain⟨ty,hty⟩:∃ty,ty=rd1.types.getD (q+j) 0:=⟨_,rfl⟩
   rw [←hty] at ct
   have HTY:Hid (tyAt rd1.types ((q+j:Nat):Int)=ty):=hty.symm
   have HD:Hid (placesF want cnt q rd=if tyAt rd1.types ((q+j:Nat):Int)=want then placesF want (cnt - (j+1)) (q+j+1) ⟨rd1.types,rd1.stay ++ [((q+j:Nat):Int)],rd1.taken⟩ else none):=by
    show _=_
    rw [←HQ.out,show cnt - j=(cnt - (j+1))+1 by omega]
    rfl
   have r1:=R1.blk.cell
   have k1:(q:Int)+j<(q:Int)+cnt:=by omega
   have k2:(q:Int)+j<m:=by omega
   have k3:(q:Int)+j=((q+j:Nat):Int):=by omega
   clear hty HQ
   by_cases hw:ty=want
   ·subst hw
    have HN:Hid (placesF ty (cnt - (j+1)) (q+(j+1)) ⟨rd1.types,rd1.stay ++ [(q:Int)+j],rd1.taken⟩=placesF ty cnt q rd):=by
     show _=_
     rw [HD.out,if_pos HTY.out,k3]
     rfl
    clear HD HTY k3
    go_wp2_with fail
    go_quiet (fail)
    have hDR:∀n,Below wr.heap.size wr (wr.drewN n):=fun n=>below_drewN (Below.refl _ _) n
    have R2:=fun n=>R1.later (hDR n)
    have P2:=fun n=>P1.later (hDR n)
    have B2:=fun n=>below_drewN B1 n
    have HR2:Hid _:=R2
    have HP2:Hid _:=P2
    have HB2:Hid _:=B2
    have hBw:B≤wr.heap.size:=Nat.le_trans hB B1.size
    have hrbl:=R1.blk.lt
    have hpl:=P1.lt
    clear R2 P2 B2 hDR
    go_wp2_with (at_builtin;refine app_int rfl _ _ rfl B _ rd1.stay.length rd1.stay ((q:Int)+j) wr.heap.size rfl ((HR2.out _).read.alloc _) rfl ?c1 (by omega) ?c3 ?_)
    case c1=>
     have hn:=(Blk.new (wr.drewN nq) #[.int .i64 ((q:Int)+j)] 3).cell 0
     exact hn
    case c3=>first | omega | (simp;omega)
    ·intro v2 w2 H1 H2 H3
     have R2:=HR2.out nq
     have hb2:=blk_grown (R2.blk.alloc _) H2 (fun e=>R2.nr e.symm)
     have r2:=hb2.cell 1
     have f2:=hb2.frozen 1
     have P3:=(blk_grown ((HP2.out nq).alloc _) H2 (fun e=>S1 _ e.symm rfl)).setOther (p:=⟨rb,1,none⟩) (by dsimp only;intro e;exact hrw e.symm) v2
     obtain⟨R3,B3⟩:=R2.addRead H1 H2 (S:=wr.heap.size+1) (Nat.le_succ _) H3 hBw
     have B4:=(HB2.out nq).trans B3
     have S3:∀k,v2.ownBlock=some k→k≠w.heap.size:=by
      intro k hk
      rcases H3 with H3 | H3
      ·exact S1 k (H3▸hk)
      ·rw [H3] at hk
       simp at hk
       omega
     have HR3:Hid _:=R3
     have HP3:Hid _:=P3
     have HB4:Hid _:=B4
     have HS3:Hid _:=S3
     obtain⟨vo,vc,rfl⟩:=owns_slice H1
     clear H1 H2 H3 hb2 R2 R3 P3 B3 B4 S3 HR2 HP2 HB2 S1 R1 P1 r1 p1 ct
     go_wp2_with fail
     go_roundw
     case rel=>exact ⟨j+1,⟨rd1.types,rd1.stay ++ [(q:Int)+j],rd1.taken⟩,_,by go_num,by omega,HN.out,⟨HL.out.1,by have:=HL.out.2;simp;omega⟩,HR3.out,HP3.out,HS3.out,HB4.out⟩
     case measure=>simp [intOf];omega
   ·have HN:Hid (placesF want cnt q rd=none):=by show _=_;rw [HD.out,if_neg (by rw [HTY.out];exact hw)]
    have k5:(ty != want)=true:=by simpa using hw
    clear HD HTY hw k3
    go_wp2_with fail
    go_quiet (fail)
    go_wp2_with fail
    go_ret
    refine⟨?_,below_drewN B1 _⟩
    rw [HN.out]
    rfl
  ·obtain rfl:j=cnt:=by omega
   have HN:Hid (placesF want j q rd=some rd1):=by
    show _=_
    rw [←HQ.out,Nat.sub_self]
    rfl
   have k1:¬(q:Int)+j<(q:Int)+j:=by omega
   clear HQ
   go_wp2_with fail
   go_ret
   refine⟨?_,B1⟩
   rw [HN.out]
   exact⟨rfl,_,R1⟩
end Go.Proofs.YtaakadmnhpboiaaGreatDoor
