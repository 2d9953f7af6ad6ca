import Derived.Test.YtjbbppblgjhapaaGreatDoorJ08
import Derived.Test.YtjbbppblgjhapaaGreatDoorJ09
import Derived.Test.YtjbbppblgjhapaaGreatDoorJ10
set_option maxRecDepth 100000
set_option maxHeartbeats 8000000
namespace Go.Proofs.YtjbbppblgjhapaaGreatDoor
open Go.Deep Go.Proofs.Tryz Go.RowKit
variable{arr:Array Value}{c:Cf}{xs:List Int}{ps:List Pd}{B L cap ccap db g gc j k lo lo' sb tc vb x:Nat}{ao cao go to:Option Addr}{p:Pd}{h:Ph}{s:St}{α:Type}{t:TypeId}{a b w':World}
attribute [local go_sem] Ac
def Ii (_:Nat) (v:Vd):Bool:=Jq v
theorem Tp (ao:Option Addr) (cap:Nat) (ps:List Pd) (i:Nat) (p:Pd) (w:World) (hi:ps[i]?=some p) (hz:Ie p) (hf:A4w p.consts) (hv:Ad 0 w ao ps) :
  Kw 97 #[.agg #[.slice ao ps.length cap],i] w (Aa6 (Ak Ii 0 p.consts)):=by
 have hlt:=(yD.1 hi).1;have hb1:∀o,Below w w (w.alloc o):=fun o=>(yA _ _).alloc (yB _) o;obtain⟨b,off,rfl,_,hbl,h,n1,i1⟩:=hv i p hi;have hn:=i1.consts;clear hv hi i1;obtain⟨z1,z2,z3,z4⟩:=hz;obtain⟨nm,ln,pa,re,rg,us,cs,is,ms⟩:=p;obtain⟨uo,uc,co,cc,io,ic,no,nc⟩:=h;obtain⟨p0,p1,p2,p3,p4,p5,p6,p7,p8⟩:=n1;dsimp only at *;have HF:Hid (∀k m,cs[k]?=some m->Ak Ii k (cs.drop k)=if Ii k m then Ak Ii (k+1) (cs.drop (k+1)) else some k):=fun k m hm=>Fy hm;unfold Kw;go_in;go_wp2;go_loopw [15] (fun x wr=>∃k:Nat,k<=cs.length/\x=k/\Hid (Ak Ii k (cs.drop k)=Ak Ii 0 cs)/\Below w w wr) (fun x _=>cs.length-(intOf x).toNat);case atStart=>exact⟨0,yE _,rfl,rfl,hb1 _⟩
 case round=>
  obtain⟨k,hk,rfl,HQ,hb⟩:=hrel;clear p0 p1 p2 p3 p4 p5 p6 p7 p8;by_cases hkl:k<cs.length
  ·obtain⟨m,hmk⟩:=A8 hkl;obtain⟨b',off',rfl,_,hbl',q0,q1,q2,q3,q4⟩:=hn.l (A7.o hb) k m hmk;have hfm:=hf m (yH hmk);have HD:Hid (Ak Ii 0 cs=if Jq m then Ak Ii (k+1) (cs.drop (k+1)) else some k):=HQ.out.symm.trans (HF.out k m hmk);have hba:=fun o=>hb.alloc hb.size o;clear hn HF HQ hb1 hmk hf;have HM:Hid _:=hfm;clear hfm;go_wp2_with fail;refine(Xf m HM.out _).mono ?_;rintro e w1 ⟨rfl,hw1⟩;have hb2:=(hba _).trans (hw1.mono (hba _).size);generalize Jq m=cb at *;cases cb
   ·go_wp2;go_ret2;exact⟨Ym (by rw[HD.out];rfl),hb2⟩
   ·go_wp2;go_roundw;case rel=>exact⟨k+1,by omega,by go_num,by show _=_;rw[HD.out];rfl,hb2⟩
    case measure=>simp[intOf];omega
  ·go_wp2;go_ret2;have h:=HQ.out;rw[yQ (by omega)]at h;exact⟨Yl h.symm,hb⟩
theorem A2o (o1 o2:Option Addr) (c1 c2 n m:Nat) (t1 t2:List Int) (w:World) (e1:t1.length=n) (e2:t2.length=m) (l1:n<=1048576) (h1:Bl 0 w o1 t1) (h2:Bl 0 w o2 t2) :
  Kw 181 #[.slice o1 n c1,.slice o2 m c2] w (.bool (decide (t1=t2))):=by
 subst e1;subst e2;exact Qj o1 o2 c1 c2 t1 t2 w l1 h1 h2
theorem A0g (keep:Nat) (to bo ao:Option Addr) (tc bc ac:Nat) (tk bs cs:List Int) (w:World) (ht:tk.length<=1000) (hb:keep<=bs.length) (hc:keep<=cs.length) (hbl:bs.length<=250) (hbc:keep<=bc) (hac:keep<=ac) (h1:Bl 0 w to tk) (h2:Bl 0 w bo bs) (h3:Bl 0 w ao cs) :
  Kw 190 #[keep,.slice to tk.length tc,.slice bo bs.length bc,.slice ao cs.length ac] w (.bool (Fx keep tk bs cs)):=by
 have HE:Hid (∀W,Below w w W->Kw 181 #[.slice bo keep bc,.slice ao keep ac] W (.bool (Dr keep bs cs))):=
  fun W hW=>A2o bo ao bc ac keep keep (bs.take keep) (cs.take keep) W (by simp;omega) (by simp;omega) (by omega) (Ah.take (h2.l (A7.o hW)) keep) (Ah.take (h3.l (A7.o hW)) keep)
 have kb:(keep:Int)<=bc:=by omega
 have ka:(keep:Int)<=ac:=by omega
 clear hb hc h2 h3 hbc hac;unfold Kw;go_in;go_wp2;go_loopw [13] (fun y wr=>∃j:Nat,j<=tk.length/\y=j/\Hid (Di keep (tk.drop j)=Di keep tk)/\wr=w) (fun y _=>tk.length-(intOf y).toNat);case atStart=>exact⟨0,yE _,rfl,rfl,rfl⟩
 case round=>
  obtain⟨j,hj,rfl,HQ,rfl⟩:=hrel;by_cases hjl:j<tk.length
  ·obtain⟨t,htk⟩:=A8 hjl;obtain⟨bb,off,rfl,_,hbl2,p0⟩:=h1 j t htk;unfold Ho at p0;rw[Nat.mul_one]at p0;have HD:Hid _:=HQ.out.symm.trans (Oo htk);clear htk HQ;by_cases hlt:t<keep
   ·have HN:Hid (Fx keep tk bs cs=false):=by show _=_;unfold Fx;rw[HD.out];simp[hlt]
    clear HD;go_wp2;go_ret;exact⟨Ab HN.out.symm,yA _ _⟩
   ·have HN:Hid (Di keep (tk.drop (j+1))=Di keep tk):=by show _=_;rw[HD.out];simp[hlt]
    clear HD;go_wp2;go_roundw;case rel=>exact⟨j+1,by omega,by go_num,HN.out,trivial⟩
    case measure=>simp[intOf];omega
  ·have HN:Hid (Fx keep tk bs cs=Dr keep bs cs):=by have h:=HQ.out;rw[yQ (by omega)]at h;show _=_;unfold Fx;rw[←h];rfl
   clear HQ;go_wp2_with fail;go_region_held3 (fun _=>True) (trivial)
    (first|(go_at_call 181;refine(HE.out wr.drew (yA _ _).drew).mono ?_;rintro e w2 ⟨rfl,hw2⟩))
   go_wp2;go_ret;exact⟨Ab HN.out.symm,(yA _ _).drew.trans hw2⟩
def Qx (xs:List Nat):List Int:=xs.map fun (x:Nat)=>(x:Int)
theorem Ih (w:World) (o1 o2:Obj) (x:Value) (t:TypeId):(((w.alloc o1).alloc o2).alloc (.cells #[x] t)).cell? ((w:Nat)+2,0)=some x:=by have h:=(Blk.new ((w.alloc o1).alloc o2) #[x] t).cell 0;rw[nblk_alloc,nblk_alloc]at h;exact h
def Jf (l:List Nat) (w:World) (e:Ending) (w':World):Prop:=∃v,e=.returned v/\w'.ownsRow (w:Nat) 3 1 v l.length (Az (Qx l))/\Below w w w'
theorem A0l (p:Pd) (h:Ph) (i:Nat) (n:Nd) (np:Nat) (w:World) (hi:p.ins[i]?=some n) (hz:p.ins.length<=1048576) (hn:Ep np p n) (hp:Ck 0 w h.io p.ins) :
  Calls prog 167 #[.agg (p.cells h),i] w (Jf (Lh n i) w):=by
 obtain⟨ib,io,hio,_,hil,q0,q1,q2,q3,q4⟩:=hp i n hi;have hlt:=(yD.1 hi).1;obtain⟨f1,-,f3,f4,-,-⟩:=Hr hn;clear hp hn hi;obtain⟨op,a,b,c,d⟩:=n;obtain⟨nmp,ln,pa,re,rg,us,cs,is,ms⟩:=p;obtain⟨o1,c1,o2,c2,o3,c3,o4,c4⟩:=h;dsimp only[Pd.cells]at *;subst hio;have B2:∀o1 o2,Below w w ((w.alloc o1).alloc o2):=fun o1 o2=>((yA _ _).alloc (yB _) o1).alloc (by simp) o2;have k1:(i:Int)<is.length:=by omega
 unfold Lh;dsimp only;by_cases h0:op=1∨op=3∨op=28∨op=29∨op=30
 ·rw[if_pos h0];rcases h0 with rfl|rfl|rfl|rfl|rfl;all_goals
   clear f1 f3 f4;show Calls prog 167 _ w (Jf [] w);go_in;go_wp2;go_ret;exact⟨_,rfl,yU _ _ _ _,B2 _ _⟩
 rw[if_neg h0];by_cases h18:op=18
 ·subst h18;clear f1 f3 f4 h0;by_cases hb:b=12
  ·rw[if_pos ⟨rfl,hb⟩];show Calls prog 167 _ w (Jf [] w);subst hb;go_in;go_wp2;go_ret;exact⟨_,rfl,yU _ _ _ _,B2 _ _⟩
  ·rw[if_neg (fun h=>hb h.2)];show Calls prog 167 _ w (Jf [i+1] w);have k2:(b==12)=false:=by simpa using hb
   clear hb;go_in;go_wp2_with (at_builtin;refine Df rfl _ _ rfl (w:Nat) _ 0 [] ((i:Int)+1) ((w:Nat)+2) rfl (yU _ _ _ _) rfl ?c1 (by omega) ?c3 ?_);try case c1=>exact Ih _ _ _ _ _
   case c3=>first|omega|(simp;omega)
   ·intro v' w2 H1 H2 _;have B3:=((B2 _ _).alloc (by simp;omega) _).grown H2 (by simp;omega) (fun k hk=>by cases hk);obtain⟨vo,vc,rfl⟩:=Aa H1;clear H2;go_wp2;go_ret;exact⟨_,rfl,H1,B3⟩
 rw[if_neg (fun h=>h18 h.1)];by_cases h19:op=19
 ·subst h19;have ha:=(f3 rfl).1;rw[if_pos rfl];clear f1 f3 f4 h0 h18;show Calls prog 167 _ w (Jf [a.toNat] w);obtain⟨aN,rfl⟩:=yN ha;go_in;go_wp2_with (at_builtin;refine Df rfl _ _ rfl (w:Nat) _ 0 [] aN ((w:Nat)+2) rfl (yU _ _ _ _) rfl ?c1 (by omega) ?c3 ?_);try case c1=>exact Ih _ _ _ _ _
  case c3=>first|omega|(simp;omega)
  ·intro v' w2 H1 H2 _;have B3:=((B2 _ _).alloc (by simp;omega) _).grown H2 (by simp;omega) (fun k hk=>by cases hk);obtain⟨vo,vc,rfl⟩:=Aa H1;clear H2;go_wp2;go_ret;exact⟨_,rfl,H1,B3⟩
 rw[if_neg h19];by_cases h41:op=41
 ·subst h41;have hb:=(f4 (by simp)).1;rw[if_pos rfl];clear f1 f3 f4 h0 h18 h19;show Calls prog 167 _ w (Jf [b.toNat] w);obtain⟨bN,rfl⟩:=yN hb;go_in;go_wp2_with (at_builtin;refine Df rfl _ _ rfl (w:Nat) _ 0 [] bN ((w:Nat)+2) rfl (yU _ _ _ _) rfl ?c1 (by omega) ?c3 ?_);try case c1=>exact Ih _ _ _ _ _
  case c3=>first|omega|(simp;omega)
  ·intro v' w2 H1 H2 _;have B3:=((B2 _ _).alloc (by simp;omega) _).grown H2 (by simp;omega) (fun k hk=>by cases hk);obtain⟨vo,vc,rfl⟩:=Aa H1;clear H2;go_wp2;go_ret;exact⟨_,rfl,H1,B3⟩
 rw[if_neg h41];by_cases h20:op=20∨op=21∨op=38∨op=39
 ·rw[if_pos h20];rcases h20 with rfl|rfl|rfl|rfl;all_goals
   have hb:=(f4 (by simp)).1;clear f1 f3 f4 h0 h18 h19 h41;show Calls prog 167 _ w (Jf [b.toNat,i+1] w);obtain⟨bN,rfl⟩:=yN hb;go_in;go_wp2_with (at_builtin;refine Df rfl _ _ rfl (w:Nat) _ 0 [] bN ((w:Nat)+2) rfl (yU _ _ _ _) rfl ?c1 (by omega) ?c3 ?_);try case c1=>exact Ih _ _ _ _ _
   case c3=>first|omega|(simp;omega)
   ·intro v' w2 H1 H2 _;have B3:=((B2 _ _).alloc (by simp;omega) _).grown H2 (by simp;omega) (fun k hk=>by cases hk);obtain⟨vo,vc,rfl⟩:=Aa H1;clear H2;have hs2:=B3.size;go_wp2_with (at_builtin;refine Df rfl _ _ rfl (w:Nat) _ 1 [bN] ((i:Int)+1) (w2:Nat) rfl (H1.alloc _) rfl ?c1 (by omega) ?c3 ?_);try case c1=>simp
    case c3=>first|omega|(simp;omega)
    ·intro v2 w3 H3 H4 _;have B4:=(B3.alloc hs2 _).grown H4 (by simp;omega) (fun k hk=>(H1.lt k hk).1);obtain⟨vo2,vc2,rfl⟩:=Aa H3;clear H4;go_wp2;go_ret;exact⟨_,rfl,H3,B4⟩
 rw[if_neg h20];by_cases h31:op=31
 ·subst h31;have ha:=(f1 rfl).1.1;rw[if_pos rfl];clear f1 f3 f4 h0 h18 h19 h41 h20;show Calls prog 167 _ w (Jf [a.toNat,i+1] w);obtain⟨aN,rfl⟩:=yN ha;go_in;go_wp2_with (at_builtin;refine Df rfl _ _ rfl (w:Nat) _ 0 [] aN ((w:Nat)+2) rfl (yU _ _ _ _) rfl ?c1 (by omega) ?c3 ?_);try case c1=>exact Ih _ _ _ _ _
  case c3=>first|omega|(simp;omega)
  ·intro v' w2 H1 H2 _;have B3:=((B2 _ _).alloc (by simp;omega) _).grown H2 (by simp;omega) (fun k hk=>by cases hk);obtain⟨vo,vc,rfl⟩:=Aa H1;clear H2;have hs2:=B3.size;go_wp2_with (at_builtin;refine Df rfl _ _ rfl (w:Nat) _ 1 [aN] ((i:Int)+1) (w2:Nat) rfl (H1.alloc _) rfl ?c1 (by omega) ?c3 ?_);try case c1=>simp
   case c3=>first|omega|(simp;omega)
   ·intro v2 w3 H3 H4 _;have B4:=(B3.alloc hs2 _).grown H4 (by simp;omega) (fun k hk=>(H1.lt k hk).1);obtain⟨vo2,vc2,rfl⟩:=Aa H3;clear H4;go_wp2;go_ret;exact⟨_,rfl,H3,B4⟩
 rw[if_neg h31];have t1:(op==1)=false:=by simp;omega
 have t3:(op==3)=false:=by simp;omega
 have t28:(op==28)=false:=by simp;omega
 have t29:(op==29)=false:=by simp;omega
 have t30:(op==30)=false:=by simp;omega
 have t18:(op==18)=false:=by simp;omega
 have t19:(op==19)=false:=by simp;omega
 have t41:(op==41)=false:=by simp;omega
 have t20:(op==20)=false:=by simp;omega
 have t21:(op==21)=false:=by simp;omega
 have t38:(op==38)=false:=by simp;omega
 have t39:(op==39)=false:=by simp;omega
 have t31:(op==31)=false:=by simp;omega
 clear h0 h18 h19 h41 h20 h31 f1 f3 f4;go_in;go_wp2_with (at_builtin;refine Df rfl _ _ rfl (w:Nat) _ 0 [] ((i:Int)+1) ((w:Nat)+2) rfl (yU _ _ _ _) rfl ?c1 (by omega) ?c3 ?_);try case c1=>exact Ih _ _ _ _ _
 case c3=>first|omega|(simp;omega)
 ·intro v' w2 H1 H2 _;have B3:=((B2 _ _).alloc (by simp;omega) _).grown H2 (by simp;omega) (fun k hk=>by cases hk);obtain⟨vo,vc,rfl⟩:=Aa H1;clear H2;go_wp2;go_ret;exact⟨_,rfl,H1,B3⟩
structure Gp (lo:Nat) (w:World) (ao:Option Addr) (cap:Nat) (xs:List Int):Prop where
 cap:xs.length<=cap
 nil:ao=none->xs.length=0
 form:∀a,ao=some a->∃b o,a=⟨b,o,none⟩
 at_:Bl lo w ao xs
 tag:∀b o,ao=some ⟨b,o,none⟩->0<xs.length->∃arr,w.heap[b]?=some (.cells arr 3 (0,0))
structure Dl (lo:Nat) (w:World) (ao:Option Addr) (cap:Nat) (xs:List Gd):Prop where
 cap:xs.length<=cap
 nil:ao=none->xs.length=0
 form:∀a,ao=some a->∃b o,a=⟨b,o,none⟩
 at_:Bn lo w ao xs
 tag:∀b o,ao=some ⟨b,o,none⟩->0<xs.length->∃arr,w.heap[b]?=some (.cells arr 280 (0,0))
theorem A7o {w:World} {at1:Nat->Nat->α->Prop} {xs:List α} (h:Ah lo w ao k at1 xs) {b o:Nat} (ha:ao=some ⟨b,o,none⟩) (hl:0<xs.length):lo<=b/\b<(w:Nat):=by obtain⟨x,hx⟩:=A8 hl;obtain⟨b',o',e,h1,h2,_⟩:=h 0 x hx;rw[ha]at e;simp at e;obtain⟨rfl,_⟩:=e;exact⟨h1,h2⟩
theorem Gp.l{w:World} (h:Gp lo w ao cap xs) (hk:A7 lo w w'):Gp lo w' ao cap xs:=⟨h.cap,h.nil,h.form,h.at_.l hk,fun b o e hl=>by obtain⟨arr,ha⟩:=h.tag b o e hl;have hb:=A7o h.at_ e hl;exact⟨arr,(hk.block b hb.1 hb.2).trans ha⟩⟩
theorem Dl.l{w:World} {xs:List Gd} (h:Dl lo w ao cap xs) (hk:A7 lo w w'):Dl lo w' ao cap xs:=⟨h.cap,h.nil,h.form,h.at_.l hk,fun b o e hl=>by obtain⟨arr,ha⟩:=h.tag b o e hl;have hb:=A7o h.at_ e hl;exact⟨arr,(hk.block b hb.1 hb.2).trans ha⟩⟩
theorem Gp.w {w:World} (h:Gp lo w ao cap xs) (hl:lo'<=lo):Gp lo' w ao cap xs:=⟨h.cap,h.nil,h.form,Ah.w h.at_ hl,h.tag⟩
theorem Dl.w {w:World} {xs:List Gd} (h:Dl lo w ao cap xs) (hl:lo'<=lo):Dl lo' w ao cap xs:=⟨h.cap,h.nil,h.form,Ah.w h.at_ hl,h.tag⟩
theorem Gp.of_owns{base n:Nat} {w:World} (h:w.ownsRow base 3 1 (.slice ao n cap) n (Az xs)):Gp base w ao cap xs:=by
 obtain⟨h1,rfl⟩:=Dp h;refine⟨Qy h ao cap rfl,?_,?_,h1,?_⟩
 ·rintro rfl;rcases Ce h with ⟨_,h0⟩|⟨g,c,h2,_⟩
  ·exact h0
  ·simp at h2
 ·rintro a rfl;rcases Ce h with ⟨h2,_⟩|⟨g,c,h2,_⟩
  ·simp at h2
  ·simp at h2;exact⟨g,0,h2.1⟩
 ·rintro b o rfl _;obtain⟨b',e,ht⟩:=A3z h _ rfl;simp at e;rw[e.1];exact ht
theorem Gp.store {w:World} (h:Gp lo w ao cap xs) (hg:Blk w g arr t) (ht:t≠3) (o:Nat) (v:Value):Gp lo (w.setCell (g,o) v) ao cap xs:=by
 have hne:∀b o',ao=some ⟨b,o',none⟩->0<xs.length->b≠g:=by rintro b o' e hl rfl;obtain⟨a2,h2⟩:=h.tag b o' e hl;unfold Blk at hg;rw[hg]at h2;simp at h2;exact ht h2.2
 refine⟨h.cap,h.nil,h.form,?_,?_⟩
 ·intro i x hx;obtain⟨b,off,e,h1,h2,h3⟩:=h.at_ i x hx;have hl:0<xs.length:=by have:=(yD.1 hx).1;omega
  exact⟨b,off,e,h1,by rw[Cr];exact h2,(yG _ _ _ _ (fun e2=>hne b off e hl e2.symm)).trans h3⟩
 ·intro b o' e hl;obtain⟨a2,h2⟩:=h.tag b o' e hl;exact⟨a2,(yL _ _ _ _ (hne b o' e hl)).trans h2⟩
theorem Dl.store {w:World} {xs:List Gd} (h:Dl lo w ao cap xs) (hg:Blk w g arr t) (ht:t≠280) (o:Nat) (v:Value):Dl lo (w.setCell (g,o) v) ao cap xs:=by
 have hne:∀b o',ao=some ⟨b,o',none⟩->0<xs.length->b≠g:=by rintro b o' e hl rfl;obtain⟨a2,h2⟩:=h.tag b o' e hl;unfold Blk at hg;rw[hg]at h2;simp at h2;exact ht h2.2
 refine⟨h.cap,h.nil,h.form,?_,?_⟩
 ·intro i x hx;obtain⟨b,off,e,h1,h2,h3,h4,h5⟩:=h.at_ i x hx;have hl:0<xs.length:=by have:=(yD.1 hx).1;omega
  have hf:=fun e2=>hne b off e hl e2;exact⟨b,off,e,h1,by rw[Cr];exact h2,(yG _ _ _ _ (fun e2=>hf e2.symm)).trans h3,(yG _ _ _ _ (fun e2=>hf e2.symm)).trans h4,(yG _ _ _ _ (fun e2=>hf e2.symm)).trans h5⟩
 ·intro b o' e hl;obtain⟨a2,h2⟩:=h.tag b o' e hl;exact⟨a2,(yL _ _ _ _ (hne b o' e hl)).trans h2⟩
theorem Dl.of_post {l:List Gd} (h1:l.length<=cap) (h2:Bn lo w' ao l) (h3:RTag w' ao 280):Dl lo w' ao cap l:=by
 refine⟨h1,?_,?_,h2,?_⟩
 ·rintro rfl;cases l with
  | nil=>rfl
  | cons a r=>obtain⟨b,o,e,_⟩:=h2 0 a rfl;cases e
 ·rintro a rfl;obtain⟨b,e,_⟩:=h3 a rfl;exact⟨b,0,e⟩
 ·rintro b o rfl _;obtain⟨b',e,ht⟩:=h3 _ rfl;simp at e;rw[e.1];exact ht
def StI (lo:Nat) (w:World) (sb j:Nat) (o:Option St):Prop:=
 ∃to tc go gc,w.cell? (sb,j*3)=some (.bool o.isSome)/\w.cell? (sb,j*3+1)=some (.slice to (stT o).length tc)/\w.cell? (sb,j*3+2)=some (.slice go (stG o).length gc)/\Gp lo w to tc (stT o)/\Dl lo w go gc (stG o)
structure Xb (lo:Nat) (w:World) (sb:Nat) (sts:List (Option St)):Prop where
 own:Own w sb 146 (sts.length*3)
 at_:∀j o,sts[j]?=some o->StI lo w sb j o
theorem StI.l{w:World} {o:Option St} (h:StI lo w sb j o) (hk:A7 lo w w') (hb:w'.heap[sb]?=w.heap[sb]?):StI lo w' sb j o:=by obtain⟨to,tc,go,gc,h1,h2,h3,h4,h5⟩:=h;have hc:∀i,w'.cell? ⟨sb,i,none⟩=w.cell? ⟨sb,i,none⟩:=fun i=>yX (w:=w) (a:=⟨sb,i,none⟩) hb;exact⟨to,tc,go,gc,(hc _).trans h1,(hc _).trans h2,(hc _).trans h3,h4.l hk,h5.l hk⟩
theorem Xb.l{w:World} {sts:List (Option St)} (h:Xb lo w sb sts) (hk:A7 lo w w') (hb:w'.heap[sb]?=w.heap[sb]?):Xb lo w' sb sts:=
 ⟨h.own.of_block hb,fun j o ho=>(h.at_ j o ho).l hk hb⟩
theorem Xb.put {w:World} {sts:List (Option St)} (h:Xb lo w sb sts) (hx:x<sts.length) (hsb:sb<lo) (ht:Gp lo w to tc s.types) (hg:Dl lo w go gc s.guards) :
  Xb lo (((w.setCell ⟨sb,x*3,none⟩ (.bool true)).setCell ⟨sb,x*3+1,none⟩ (.slice to s.types.length tc)).setCell ⟨sb,x*3+2,none⟩ (.slice go s.guards.length gc)) sb (sts.set x (some s)):=by
 have hk:A7 lo w (((w.setCell ⟨sb,x*3,none⟩ (.bool true)).setCell ⟨sb,x*3+1,none⟩ (.slice to s.types.length tc)).setCell ⟨sb,x*3+2,none⟩ (.slice go s.guards.length gc)):=
  (((A7.refl lo w).setCell (p:=⟨sb,x*3,none⟩) hsb _).setCell (p:=⟨sb,x*3+1,none⟩) hsb _).setCell (p:=⟨sb,x*3+2,none⟩) hsb _
 have ho:=((h.own.set (x*3) (true)).set (x*3+1) (.slice to s.types.length tc)).set (x*3+2) (.slice go s.guards.length gc);refine⟨by rw[List.length_set];exact ho,?_⟩;intro j o hj;rw[List.getElem?_set]at hj;by_cases hxj:x=j
 ·subst hxj;simp[hx]at hj;subst hj;have o1:=h.own.set (x*3) (true);have o2:=o1.set (x*3+1) (.slice to s.types.length tc);refine⟨to,tc,go,gc,?_,?_,Fq o2 (by omega),ht.l hk,hg.l hk⟩
  ·rw[Ap (by omega),Ap (by omega)];exact Fq h.own (by omega)
  ·rw[Ap (by omega)];exact Fq o1 (by omega)
 ·rw[if_neg hxj]at hj;obtain⟨to',tc',go',gc',h1,h2,h3,h4,h5⟩:=h.at_ j o hj;refine⟨to',tc',go',gc',?_,?_,?_,h4.l hk,h5.l hk⟩
  ·rw[Ap (by omega),Ap (by omega),Ap (by omega)];exact h1
  ·rw[Ap (by omega),Ap (by omega),Ap (by omega)];exact h2
  ·rw[Ap (by omega),Ap (by omega),Ap (by omega)];exact h3
theorem StI.store {w:World} {o:Option St} (h:StI lo w sb j o) (hg:Blk w g arr t) (ht:t≠3) (ht2:t≠280) (hs:sb≠g) (q:Nat) (v:Value):StI lo (w.setCell (g,q) v) sb j o:=by obtain⟨to,tc,go,gc,h1,h2,h3,h4,h5⟩:=h;have hc:∀i,(w.setCell (g,q) v).cell? ⟨sb,i,none⟩=w.cell? ⟨sb,i,none⟩:=fun i=>yG _ _ _ _ (fun e=>hs e.symm);exact⟨to,tc,go,gc,(hc _).trans h1,(hc _).trans h2,(hc _).trans h3,h4.store hg ht q v,h5.store hg ht2 q v⟩
structure Zo (B L vb sb db:Nat):Prop where
 v1:B<=vb
 v2:vb<L
 s1:B<=sb
 s2:sb<L
 d1:B<=db
 d2:db<L
 vs:vb≠sb
 vd:vb≠db
 sd:sb≠db
structure Off (B L:Nat) (w w':World):Prop where
 below:Below B w w'
 keeps:A7 L w w'
theorem Off.o{w:World} (h:Below w w w') (hB:B<=(w:Nat)):Off B L w w':=⟨h.mono hB,A7.o h⟩
theorem Off.refl (B L:Nat) (w:World):Off B L w w:=⟨yA _ _,A7.refl _ _⟩
theorem Off.trans{c:World} (h:Off B L a b) (k:Off B L b c):Off B L a c:=⟨h.below.trans k.below,h.keeps.trans k.keeps⟩
theorem Off.size (h:Off B L a b):(a:Nat)<=(b:Nat):=h.below.size
theorem Off.blk (h:Off B L a b) (x:Blk a g arr t) (hg:L<=g):Blk b g arr t:=(h.keeps.block g hg x.lt).trans x
theorem Off.set (h:Off B L a b) {p:Addr} (v:Value) (h1:B<=p.block) (h2:p.block<L):Off B L a (b.setCell p v):=⟨h.below.setCell h1 _,h.keeps.setCell h2 _⟩
theorem Off.setNew (h:Off B L a b) (hB:B<=(a:Nat)) {p:Addr} (v:Value) (h1:(a:Nat)<=p.block):Off B L a (b.setCell p v):=
 ⟨h.below.setCell (yI hB h1) _,⟨by rw[Cr];exact h.size,fun k hk hs=>(yL _ _ _ _ (by omega)).trans (h.keeps.block k hk hs)⟩⟩
structure Es (L vb sb db:Nat) (cao:Option Addr) (ccap:Nat) (ps:List Pd) (p:Pd) (h:Ph) (w:World) (c:Cf) (l:Nat):Prop where
 blk:Blk w vb #[.slice cao ps.length ccap,p.name,p.line,p.params,.bool p.rest,p.regs,.slice h.uo p.ups.length h.uc,.slice h.co p.consts.length h.cc,.slice h.io p.ins.length h.ic,.slice h.no p.named.length h.nc,.slice sb p.ins.length p.ins.length,.slice db p.ins.length p.ins.length,l] 168
 sts:Xb L w sb c.sts
 due:Blk w db (Cc c.due) 4
 low:∀j,j<l->c.due.getD j false=false
 lenS:c.sts.length=p.ins.length
 lenD:c.due.length=p.ins.length
theorem Es.below{w:World} {l:Nat} (x:Es L vb sb db cao ccap ps p h w c l) (hb:Below w w w'):Es L vb sb db cao ccap ps p h w' c l:=
 ⟨x.blk.l hb,x.sts.l (A7.o hb) (hb.block sb x.sts.own.lt),x.due.l hb,x.low,x.lenS,x.lenD⟩
theorem Es.store {w:World} {l:Nat} (V:Zo B L vb sb db) (x:Es L vb sb db cao ccap ps p h w c l) (hg:Blk w g arr t) (hL:L<=g) (ht:t≠3) (ht2:t≠280) (q:Nat) (v:Value):Es L vb sb db cao ccap ps p h (w.setCell (g,q) v) c l:=by
 have n1:vb≠g:=by have:=V.v2;omega
 have n2:sb≠g:=by have:=V.s2;omega
 have n3:db≠g:=by have:=V.d2;omega
 exact⟨x.blk.setOther (p:=(g,q)) n1 _,⟨x.sts.own.of_block (yL _ _ _ _ n2),fun j o ho=>(x.sts.at_ j o ho).store hg ht ht2 n2 q v⟩,x.due.setOther (p:=(g,q)) n3 _,x.low,x.lenS,x.lenD⟩
theorem Es.put {w:World} {l:Nat} (V:Zo B L vb sb db) (x:Es L vb sb db cao ccap ps p h w c l) (hk:k<p.ins.length) (ht:Gp L w to tc s.types) (hg:Dl L w go gc s.guards) :
  Es L vb sb db cao ccap ps p h (((w.setCell ⟨sb,k*3,none⟩ (.bool true)).setCell ⟨sb,k*3+1,none⟩ (.slice to s.types.length tc)).setCell ⟨sb,k*3+2,none⟩ (.slice go s.guards.length gc)) ⟨c.sts.set k (some s),c.due⟩ l:=by
 have hs3:∀j,j≠sb->(((w.setCell ⟨sb,k*3,none⟩ (.bool true)).setCell ⟨sb,k*3+1,none⟩ (.slice to s.types.length tc)).setCell ⟨sb,k*3+2,none⟩ (.slice go s.guards.length gc)).heap[j]?=w.heap[j]?:=fun j hj=>by
  rw[yL _ _ _ _ hj,yL _ _ _ _ hj,yL _ _ _ _ hj]
 exact⟨(hs3 vb V.vs).trans x.blk,x.sts.put (by rw[x.lenS];exact hk) V.s2 ht hg,(hs3 db V.sd.symm).trans x.due,x.low,by simp[x.lenS],x.lenD⟩
theorem Es.setDue {w:World} {l:Nat} (V:Zo B L vb sb db) (x:Es L vb sb db cao ccap ps p h w c l) (k l':Nat) (hl':l'<=l) (hlk:l'<=k) :
  Es L vb sb db cao ccap ps p h ((w.setCell (db,k) (true)).setCell (vb,12) l') ⟨c.sts,c.due.set k true⟩ l':=by
 have D4:=x.due.set k (true);rw[E8]at D4;have V4:=x.blk.setOther (p:=(db,k)) V.vd (true);have S4:=x.sts.l (w':=w.setCell ⟨db,k,none⟩ (.bool true)) ((A7.refl _ _).setCell V.d2 _) (yL _ _ _ _ V.sd);have V5:=V4.set 12 l';have S5:=S4.l (w':=(w.setCell ⟨db,k,none⟩ (.bool true)).setCell ⟨vb,12,none⟩ (.int .i64 l')) ((A7.refl _ _).setCell V.v2 _) (yL _ _ _ _ V.vs.symm);have D5:=D4.setOther (p:=(vb,12)) V.vd.symm l';refine⟨V5,S5,D5,?_,x.lenS,by simp[x.lenD]⟩;intro j hj;rw[Ko];rw[if_neg (by omega)];exact x.low j (by omega)
theorem Es.take {w:World} {l:Nat} (V:Zo B L vb sb db) (x:Es L vb sb db cao ccap ps p h w c l) (k:Nat):Es L vb sb db cao ccap ps p h (w.setCell (db,k) (false)) ⟨c.sts,c.due.set k false⟩ l:=by
 have D4:=x.due.set k (false);rw[E8]at D4;refine⟨x.blk.setOther V.vd _,x.sts.l ((A7.refl _ _).setCell V.d2 _) (yL _ _ _ _ V.sd),D4,?_,x.lenS,by simp[x.lenD]⟩;intro j hj;rw[Ko];split
 ·rfl
 ·exact x.low j hj
theorem Es.move {w:World} {l:Nat} (V:Zo B L vb sb db) (x:Es L vb sb db cao ccap ps p h w c l) (l':Nat) (hl:∀j,j<l'->c.due.getD j false=false):Es L vb sb db cao ccap ps p h (w.setCell (vb,12) l') c l':=
 ⟨x.blk.set 12 l',x.sts.l ((A7.refl _ _).setCell V.v2 _) (yL _ _ _ _ V.vs.symm),x.due.setOther (p:=(vb,12)) V.vd.symm _,hl,x.lenS,x.lenD⟩
end Go.Proofs.YtjbbppblgjhapaaGreatDoor
