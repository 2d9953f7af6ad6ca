import Derived.Test.YtjbbppblgjhapaaGreatDoorJ32
set_option maxRecDepth 100000
set_option maxHeartbeats 4000000
namespace Go.Proofs.YtjbbppblgjhapaaGreatDoor
open Go.Deep Go.Proofs.Tryz Go.RowKit
variable{arr:Array Value}{b g:Nat}{q:Qd}{t:TypeId}
theorem A42 (io co:Option Addr) (ic cc c g:Nat) (n:Nd) (r:List Nd) (cs:List Vd) (w:World) (hq:Sv n r cs) (hin:Ck 0 w io (n::r)) (hcs:Ba 0 w co cs) (hp:Ro w g) :
  Kw 41 #[.agg #[.slice io (n::r).length ic,.slice co cs.length cc,c],.slice g 5 5] w (Qd.val (Bt cs c (n::r))):=by
 obtain⟨z,hz⟩:∃z,(n::r).length=z:=⟨_,rfl⟩;have HST:Hid _:=fun f gp x y W hb h1 h2 h3=>by
  have:=A1i f gp x y io co ic cs.length cc c (n::r) W hq.few h1 h2 h3 (hin.l (A7.o hb));rw[hz]at this;exact this
 rw[hz];have hzl:=hz▸hq.few;have hz1:0<z:=by rw[←hz];simp
 have hz0:(0:Int)<z:=by omega
 have hb2:∀o1 o2,Below w w ((w.alloc o1).alloc o2):=fun o1 o2=>((yA _ _).alloc (yB _) o1).alloc (by simp) o2;have X0:=(Blk.new w #[.slice io z ic,.slice co cs.length cc,c] 93).alloc (.cells #[(),(),(),(),(),(),()] 79);have Y0:=Blk.newIn (W:=w.alloc (.cells #[.slice io z ic,.slice co cs.length cc,c] 93)) (n:=(w:Nat)+1) #[(),(),(),(),(),(),()] 79 (by simp);have HHIT:Hid (∀k q,k<5->(∀j,j<k->Dm cs c (n::r) j=none)->Dm cs c (n::r) k=some q->Bt cs c (n::r)=q):=fun k q h1 h2 h3=>Adw h1 h2 h3;have HMISS:Hid ((∀j,j<5->Dm cs c (n::r) j=none)->Bt cs c (n::r)=Pq n):=Acd;have HIN:Hid (Ck 0 w io (n::r)):=hin;have HCS:Hid (Ba 0 w co cs):=hcs;have HQ:Hid _:=hq;clear hq hin hcs;generalize Bt cs c (n::r)=R at *;unfold Kw;go_in;go_wp2;go_loopw [12] (fun y wr=>∃k:Nat,k<=5/\y=k/\Hid (∀j,j<k->Dm cs c (n::r) j=none)/\Below w w wr/\Ro wr g/\Blk wr (w:Nat) #[.slice io z ic,.slice co cs.length cc,c] 93/\Blk wr ((w:Nat)+1) #[(),(),(),(),(),(),()] 79) (fun y _=>5-(intOf y).toNat);case atStart=>exact⟨0,by omega,rfl,fun j h=>absurd h (Nat.not_lt_zero _),hb2 _ _,hp.l (hb2 _ _),X0,Y0⟩
 case round=>
  obtain⟨k,hk,rfl,HK,hb,P1,X1,Y1⟩:=hrel;clear X0 Y0 hb2 hp;have x1:=X1.cell;by_cases hk5:k<5
  ·have xa:=fun o=>(X1.alloc o).cell;rcases (show k=0∨k=1∨k=2∨k=3∨k=4 by omega) with rfl|rfl|rfl|rfl|rfl
   ·obtain⟨gp,p1,p2,p3,p4,p5⟩:=P1.p0;clear hk hk5;cases hs:stands 42 42 (n::r)
    ·
     have HN:Hid (∀j,j<1->Dm cs c (n::r) j=none):=by
      intro j hj;rcases (show j<0∨j=0 by omega) with h|rfl
      ·exact HK.out j h
      ·exact Ll hs (by simp)
     have BA:=Be (yA (wr:Nat) wr) (yB _) (.cells #[.func (.func 111) #[] #[],.slice gp 2 2] 183);go_wp2_with fail;refine(HST.out (.func 111) gp 42 42 _ (Below.trans hb (BA.mono hb.size)) (yF p3 BA.size) ((BA.cell p3).trans p4) ((BA.cell p3).trans p5)).mono ?_;rintro e w1 ⟨rfl,hw1⟩;have BW:=BA.trans (hw1.mono BA.size);have B1:=hb.trans (BW.mono hb.size);have C1:=(Blk.new wr #[.func (.func 111) #[] #[],.slice gp 2 2] 183).l hw1;have P2:=P1.l BW;have X2:=X1.l BW;have Y2:=Y1.l BW;clear hw1 BW BA P1 X1 Y1 x1 xa hb;have c1:=C1.cell;have x2:=X2.cell;rw[hs];go_wp2;go_roundw;case rel=>exact⟨1,by omega,by go_num,HN.out,B1,P2,X2,Y2⟩
     case measure=>simp[intOf]
    ·obtain⟨q,ok,hj,ht,hf⟩:=A0b (ic:=ic) (cc:=cc) (c:=c) (co:=co) HQ.out HIN.out hs;rw[hz]at hj;obtain⟨q0,q1,q2,q3,q4,q5,q6⟩:=q;have HJ:Hid (∀W,Below w w W->Kw 111 #[.agg #[.slice io z ic,.slice co cs.length cc,c]] W (.tuple #[.agg #[q0,q1,q2,q3,q4,q5,q6],.bool ok])):=hj;have HT:Hid _:=ht;have HF:Hid _:=hf;clear hj ht hf;have BA:=Be (yA (wr:Nat) wr) (yB _) (.cells #[.func (.func 111) #[] #[],.slice gp 2 2] 183);go_wp2_with fail;refine(HST.out (.func 111) gp 42 42 _ (Below.trans hb (BA.mono hb.size)) (yF p3 BA.size) ((BA.cell p3).trans p4) ((BA.cell p3).trans p5)).mono ?_;rintro e w1 ⟨rfl,hw1⟩;have BW:=BA.trans (hw1.mono BA.size);have B1:=hb.trans (BW.mono hb.size);have C1:=(Blk.new wr #[.func (.func 111) #[] #[],.slice gp 2 2] 183).l hw1;have P2:=P1.l BW;have X2:=X1.l BW;have Y2:=Y1.l BW;clear hw1 BW BA P1 X1 Y1 x1 xa hb;have c1:=C1.cell;have x2:=X2.cell;rw[hs];go_wp2_with fail;cases ok
     ·
      have HN:Hid (∀j,j<1->Dm cs c (n::r) j=none):=by
       intro j hj;rcases (show j<0∨j=0 by omega) with h|rfl
       ·exact HK.out j h
       ·exact HF.out rfl
      refine(HJ.out w1 B1).mono ?_;rintro e w2 ⟨rfl,hw2⟩;have B2:=B1.trans (hw2.mono B1.size);have P3:=P2.l hw2;have X3:=X2.l hw2;have Y3:=Y2.l hw2;clear hw2 P2 X2 Y2 C1 c1 x2;have y3:=fun o=>(Y3.alloc o).cell;have yf3:=fun o=>(Y3.alloc o).frozen;have BB:∀o,Below w2 w2 (w2.alloc o):=fun o=>Be (yA _ _) (yB _) o;go_wp2;go_roundw;case rel=>exact⟨1,by omega,by go_num,HN.out,(B2.trans ((BB _).mono B2.size)),(P3.l (BB _)),(X3.alloc _),(Y3.alloc _)⟩
      case measure=>simp[intOf]
     ·have HT2:Hid _:=HT.out rfl;clear HT HF;refine(HJ.out w1 B1).mono ?_;rintro e w2 ⟨rfl,hw2⟩;have B2:=B1.trans (hw2.mono B1.size);have P3:=P2.l hw2;have X3:=X2.l hw2;have Y3:=Y2.l hw2;clear hw2 P2 X2 Y2 C1 c1 x2;have y3:=fun o=>(Y3.alloc o).cell;have yf3:=fun o=>(Y3.alloc o).frozen;have BB:∀o,Below w2 w2 (w2.alloc o):=fun o=>Be (yA _ _) (yB _) o;go_wp2_with fail;refine bodyPost_ret (v:=.agg #[q0,q1,q2,q3,q4,q5,q6]) ?_ rfl ⟨?_,?_⟩
      ·simp[results,results41,go_sem,y3]
      ·rw[HHIT.out 0 _ (by omega) HK.out HT2.out];rfl
      ·iterate 7 (refine yP ?_ (by show (w:Nat)<=(w:Nat)+1;omega) _)
       exact B2.trans ((BB _).mono B2.size)
   ·obtain⟨gp,p1,p2,p3,p4,p5⟩:=P1.p1;clear hk hk5;cases hs:stands 18 20 (n::r)
    ·
     have HN:Hid (∀j,j<2->Dm cs c (n::r) j=none):=by
      intro j hj;rcases (show j<1∨j=1 by omega) with h|rfl
      ·exact HK.out j h
      ·exact Ll hs (by simp)
     have BA:=Be (yA (wr:Nat) wr) (yB _) (.cells #[.func (.func 112) #[] #[],.slice gp 2 2] 183);go_wp2_with fail;refine(HST.out (.func 112) gp 18 20 _ (Below.trans hb (BA.mono hb.size)) (yF p3 BA.size) ((BA.cell p3).trans p4) ((BA.cell p3).trans p5)).mono ?_;rintro e w1 ⟨rfl,hw1⟩;have BW:=BA.trans (hw1.mono BA.size);have B1:=hb.trans (BW.mono hb.size);have C1:=(Blk.new wr #[.func (.func 112) #[] #[],.slice gp 2 2] 183).l hw1;have P2:=P1.l BW;have X2:=X1.l BW;have Y2:=Y1.l BW;clear hw1 BW BA P1 X1 Y1 x1 xa hb;have c1:=C1.cell;have x2:=X2.cell;rw[hs];go_wp2;go_roundw;case rel=>exact⟨2,by omega,by go_num,HN.out,B1,P2,X2,Y2⟩
     case measure=>simp[intOf]
    ·obtain⟨q,ok,hj,ht,hf⟩:=A0d (ic:=ic) (cc:=cc) (c:=c) (co:=co) HQ.out HIN.out hs;rw[hz]at hj;obtain⟨q0,q1,q2,q3,q4,q5,q6⟩:=q;have HJ:Hid (∀W,Below w w W->Kw 112 #[.agg #[.slice io z ic,.slice co cs.length cc,c]] W (.tuple #[.agg #[q0,q1,q2,q3,q4,q5,q6],.bool ok])):=hj;have HT:Hid _:=ht;have HF:Hid _:=hf;clear hj ht hf;have BA:=Be (yA (wr:Nat) wr) (yB _) (.cells #[.func (.func 112) #[] #[],.slice gp 2 2] 183);go_wp2_with fail;refine(HST.out (.func 112) gp 18 20 _ (Below.trans hb (BA.mono hb.size)) (yF p3 BA.size) ((BA.cell p3).trans p4) ((BA.cell p3).trans p5)).mono ?_;rintro e w1 ⟨rfl,hw1⟩;have BW:=BA.trans (hw1.mono BA.size);have B1:=hb.trans (BW.mono hb.size);have C1:=(Blk.new wr #[.func (.func 112) #[] #[],.slice gp 2 2] 183).l hw1;have P2:=P1.l BW;have X2:=X1.l BW;have Y2:=Y1.l BW;clear hw1 BW BA P1 X1 Y1 x1 xa hb;have c1:=C1.cell;have x2:=X2.cell;rw[hs];go_wp2_with fail;cases ok
     ·
      have HN:Hid (∀j,j<2->Dm cs c (n::r) j=none):=by
       intro j hj;rcases (show j<1∨j=1 by omega) with h|rfl
       ·exact HK.out j h
       ·exact HF.out rfl
      refine(HJ.out w1 B1).mono ?_;rintro e w2 ⟨rfl,hw2⟩;have B2:=B1.trans (hw2.mono B1.size);have P3:=P2.l hw2;have X3:=X2.l hw2;have Y3:=Y2.l hw2;clear hw2 P2 X2 Y2 C1 c1 x2;have y3:=fun o=>(Y3.alloc o).cell;have yf3:=fun o=>(Y3.alloc o).frozen;have BB:∀o,Below w2 w2 (w2.alloc o):=fun o=>Be (yA _ _) (yB _) o;go_wp2;go_roundw;case rel=>exact⟨2,by omega,by go_num,HN.out,(B2.trans ((BB _).mono B2.size)),(P3.l (BB _)),(X3.alloc _),(Y3.alloc _)⟩
      case measure=>simp[intOf]
     ·have HT2:Hid _:=HT.out rfl;clear HT HF;refine(HJ.out w1 B1).mono ?_;rintro e w2 ⟨rfl,hw2⟩;have B2:=B1.trans (hw2.mono B1.size);have P3:=P2.l hw2;have X3:=X2.l hw2;have Y3:=Y2.l hw2;clear hw2 P2 X2 Y2 C1 c1 x2;have y3:=fun o=>(Y3.alloc o).cell;have yf3:=fun o=>(Y3.alloc o).frozen;have BB:∀o,Below w2 w2 (w2.alloc o):=fun o=>Be (yA _ _) (yB _) o;go_wp2_with fail;refine bodyPost_ret (v:=.agg #[q0,q1,q2,q3,q4,q5,q6]) ?_ rfl ⟨?_,?_⟩
      ·simp[results,results41,go_sem,y3]
      ·rw[HHIT.out 1 _ (by omega) HK.out HT2.out];rfl
      ·iterate 7 (refine yP ?_ (by show (w:Nat)<=(w:Nat)+1;omega) _)
       exact B2.trans ((BB _).mono B2.size)
   ·obtain⟨gp,p1,p2,p3,p4,p5⟩:=P1.p2;clear hk hk5;cases hs:stands 18 21 (n::r)
    ·
     have HN:Hid (∀j,j<3->Dm cs c (n::r) j=none):=by
      intro j hj;rcases (show j<2∨j=2 by omega) with h|rfl
      ·exact HK.out j h
      ·exact Ll hs (by simp)
     have BA:=Be (yA (wr:Nat) wr) (yB _) (.cells #[.func (.func 112) #[] #[],.slice gp 2 2] 183);go_wp2_with fail;refine(HST.out (.func 112) gp 18 21 _ (Below.trans hb (BA.mono hb.size)) (yF p3 BA.size) ((BA.cell p3).trans p4) ((BA.cell p3).trans p5)).mono ?_;rintro e w1 ⟨rfl,hw1⟩;have BW:=BA.trans (hw1.mono BA.size);have B1:=hb.trans (BW.mono hb.size);have C1:=(Blk.new wr #[.func (.func 112) #[] #[],.slice gp 2 2] 183).l hw1;have P2:=P1.l BW;have X2:=X1.l BW;have Y2:=Y1.l BW;clear hw1 BW BA P1 X1 Y1 x1 xa hb;have c1:=C1.cell;have x2:=X2.cell;rw[hs];go_wp2;go_roundw;case rel=>exact⟨3,by omega,by go_num,HN.out,B1,P2,X2,Y2⟩
     case measure=>simp[intOf]
    ·obtain⟨q,ok,hj,ht,hf⟩:=A0e (ic:=ic) (cc:=cc) (c:=c) (co:=co) HQ.out HIN.out hs;rw[hz]at hj;obtain⟨q0,q1,q2,q3,q4,q5,q6⟩:=q;have HJ:Hid (∀W,Below w w W->Kw 112 #[.agg #[.slice io z ic,.slice co cs.length cc,c]] W (.tuple #[.agg #[q0,q1,q2,q3,q4,q5,q6],.bool ok])):=hj;have HT:Hid _:=ht;have HF:Hid _:=hf;clear hj ht hf;have BA:=Be (yA (wr:Nat) wr) (yB _) (.cells #[.func (.func 112) #[] #[],.slice gp 2 2] 183);go_wp2_with fail;refine(HST.out (.func 112) gp 18 21 _ (Below.trans hb (BA.mono hb.size)) (yF p3 BA.size) ((BA.cell p3).trans p4) ((BA.cell p3).trans p5)).mono ?_;rintro e w1 ⟨rfl,hw1⟩;have BW:=BA.trans (hw1.mono BA.size);have B1:=hb.trans (BW.mono hb.size);have C1:=(Blk.new wr #[.func (.func 112) #[] #[],.slice gp 2 2] 183).l hw1;have P2:=P1.l BW;have X2:=X1.l BW;have Y2:=Y1.l BW;clear hw1 BW BA P1 X1 Y1 x1 xa hb;have c1:=C1.cell;have x2:=X2.cell;rw[hs];go_wp2_with fail;cases ok
     ·
      have HN:Hid (∀j,j<3->Dm cs c (n::r) j=none):=by
       intro j hj;rcases (show j<2∨j=2 by omega) with h|rfl
       ·exact HK.out j h
       ·exact HF.out rfl
      refine(HJ.out w1 B1).mono ?_;rintro e w2 ⟨rfl,hw2⟩;have B2:=B1.trans (hw2.mono B1.size);have P3:=P2.l hw2;have X3:=X2.l hw2;have Y3:=Y2.l hw2;clear hw2 P2 X2 Y2 C1 c1 x2;have y3:=fun o=>(Y3.alloc o).cell;have yf3:=fun o=>(Y3.alloc o).frozen;have BB:∀o,Below w2 w2 (w2.alloc o):=fun o=>Be (yA _ _) (yB _) o;go_wp2;go_roundw;case rel=>exact⟨3,by omega,by go_num,HN.out,(B2.trans ((BB _).mono B2.size)),(P3.l (BB _)),(X3.alloc _),(Y3.alloc _)⟩
      case measure=>simp[intOf]
     ·have HT2:Hid _:=HT.out rfl;clear HT HF;refine(HJ.out w1 B1).mono ?_;rintro e w2 ⟨rfl,hw2⟩;have B2:=B1.trans (hw2.mono B1.size);have P3:=P2.l hw2;have X3:=X2.l hw2;have Y3:=Y2.l hw2;clear hw2 P2 X2 Y2 C1 c1 x2;have y3:=fun o=>(Y3.alloc o).cell;have yf3:=fun o=>(Y3.alloc o).frozen;have BB:∀o,Below w2 w2 (w2.alloc o):=fun o=>Be (yA _ _) (yB _) o;go_wp2_with fail;refine bodyPost_ret (v:=.agg #[q0,q1,q2,q3,q4,q5,q6]) ?_ rfl ⟨?_,?_⟩
      ·simp[results,results41,go_sem,y3]
      ·rw[HHIT.out 2 _ (by omega) HK.out HT2.out];rfl
      ·iterate 7 (refine yP ?_ (by show (w:Nat)<=(w:Nat)+1;omega) _)
       exact B2.trans ((BB _).mono B2.size)
   ·obtain⟨gp,p1,p2,p3,p4,p5⟩:=P1.p3;clear hk hk5;cases hs:stands 4 18 (n::r)
    ·
     have HN:Hid (∀j,j<4->Dm cs c (n::r) j=none):=by
      intro j hj;rcases (show j<3∨j=3 by omega) with h|rfl
      ·exact HK.out j h
      ·exact Ll hs (by simp)
     have BA:=Be (yA (wr:Nat) wr) (yB _) (.cells #[.func (.func 113) #[] #[],.slice gp 2 2] 183);go_wp2_with fail;refine(HST.out (.func 113) gp 4 18 _ (Below.trans hb (BA.mono hb.size)) (yF p3 BA.size) ((BA.cell p3).trans p4) ((BA.cell p3).trans p5)).mono ?_;rintro e w1 ⟨rfl,hw1⟩;have BW:=BA.trans (hw1.mono BA.size);have B1:=hb.trans (BW.mono hb.size);have C1:=(Blk.new wr #[.func (.func 113) #[] #[],.slice gp 2 2] 183).l hw1;have P2:=P1.l BW;have X2:=X1.l BW;have Y2:=Y1.l BW;clear hw1 BW BA P1 X1 Y1 x1 xa hb;have c1:=C1.cell;have x2:=X2.cell;rw[hs];go_wp2;go_roundw;case rel=>exact⟨4,by omega,by go_num,HN.out,B1,P2,X2,Y2⟩
     case measure=>simp[intOf]
    ·obtain⟨q,ok,hj,ht,hf⟩:=A2x (ic:=ic) (cc:=cc) (c:=c) (co:=co) HQ.out HIN.out hs;rw[hz]at hj;obtain⟨q0,q1,q2,q3,q4,q5,q6⟩:=q;have HJ:Hid (∀W,Below w w W->Kw 113 #[.agg #[.slice io z ic,.slice co cs.length cc,c]] W (.tuple #[.agg #[q0,q1,q2,q3,q4,q5,q6],.bool ok])):=hj;have HT:Hid _:=ht;have HF:Hid _:=hf;clear hj ht hf;have BA:=Be (yA (wr:Nat) wr) (yB _) (.cells #[.func (.func 113) #[] #[],.slice gp 2 2] 183);go_wp2_with fail;refine(HST.out (.func 113) gp 4 18 _ (Below.trans hb (BA.mono hb.size)) (yF p3 BA.size) ((BA.cell p3).trans p4) ((BA.cell p3).trans p5)).mono ?_;rintro e w1 ⟨rfl,hw1⟩;have BW:=BA.trans (hw1.mono BA.size);have B1:=hb.trans (BW.mono hb.size);have C1:=(Blk.new wr #[.func (.func 113) #[] #[],.slice gp 2 2] 183).l hw1;have P2:=P1.l BW;have X2:=X1.l BW;have Y2:=Y1.l BW;clear hw1 BW BA P1 X1 Y1 x1 xa hb;have c1:=C1.cell;have x2:=X2.cell;rw[hs];go_wp2_with fail;cases ok
     ·
      have HN:Hid (∀j,j<4->Dm cs c (n::r) j=none):=by
       intro j hj;rcases (show j<3∨j=3 by omega) with h|rfl
       ·exact HK.out j h
       ·exact HF.out rfl
      refine(HJ.out w1 B1).mono ?_;rintro e w2 ⟨rfl,hw2⟩;have B2:=B1.trans (hw2.mono B1.size);have P3:=P2.l hw2;have X3:=X2.l hw2;have Y3:=Y2.l hw2;clear hw2 P2 X2 Y2 C1 c1 x2;have y3:=fun o=>(Y3.alloc o).cell;have yf3:=fun o=>(Y3.alloc o).frozen;have BB:∀o,Below w2 w2 (w2.alloc o):=fun o=>Be (yA _ _) (yB _) o;go_wp2;go_roundw;case rel=>exact⟨4,by omega,by go_num,HN.out,(B2.trans ((BB _).mono B2.size)),(P3.l (BB _)),(X3.alloc _),(Y3.alloc _)⟩
      case measure=>simp[intOf]
     ·have HT2:Hid _:=HT.out rfl;clear HT HF;refine(HJ.out w1 B1).mono ?_;rintro e w2 ⟨rfl,hw2⟩;have B2:=B1.trans (hw2.mono B1.size);have P3:=P2.l hw2;have X3:=X2.l hw2;have Y3:=Y2.l hw2;clear hw2 P2 X2 Y2 C1 c1 x2;have y3:=fun o=>(Y3.alloc o).cell;have yf3:=fun o=>(Y3.alloc o).frozen;have BB:∀o,Below w2 w2 (w2.alloc o):=fun o=>Be (yA _ _) (yB _) o;go_wp2_with fail;refine bodyPost_ret (v:=.agg #[q0,q1,q2,q3,q4,q5,q6]) ?_ rfl ⟨?_,?_⟩
      ·simp[results,results41,go_sem,y3]
      ·rw[HHIT.out 3 _ (by omega) HK.out HT2.out];rfl
      ·iterate 7 (refine yP ?_ (by show (w:Nat)<=(w:Nat)+1;omega) _)
       exact B2.trans ((BB _).mono B2.size)
   ·obtain⟨gp,p1,p2,p3,p4,p5⟩:=P1.p4;clear hk hk5;cases hs:stands 4 15 (n::r)
    ·
     have HN:Hid (∀j,j<5->Dm cs c (n::r) j=none):=by
      intro j hj;rcases (show j<4∨j=4 by omega) with h|rfl
      ·exact HK.out j h
      ·exact Ll hs (by simp)
     have BA:=Be (yA (wr:Nat) wr) (yB _) (.cells #[.func (.func 114) #[] #[],.slice gp 2 2] 183);go_wp2_with fail;refine(HST.out (.func 114) gp 4 15 _ (Below.trans hb (BA.mono hb.size)) (yF p3 BA.size) ((BA.cell p3).trans p4) ((BA.cell p3).trans p5)).mono ?_;rintro e w1 ⟨rfl,hw1⟩;have BW:=BA.trans (hw1.mono BA.size);have B1:=hb.trans (BW.mono hb.size);have C1:=(Blk.new wr #[.func (.func 114) #[] #[],.slice gp 2 2] 183).l hw1;have P2:=P1.l BW;have X2:=X1.l BW;have Y2:=Y1.l BW;clear hw1 BW BA P1 X1 Y1 x1 xa hb;have c1:=C1.cell;have x2:=X2.cell;rw[hs];go_wp2;go_roundw;case rel=>exact⟨5,by omega,by go_num,HN.out,B1,P2,X2,Y2⟩
     case measure=>simp[intOf]
    ·obtain⟨q,ok,hj,ht,hf⟩:=A0c (ic:=ic) (cc:=cc) (c:=c) (co:=co) HQ.out HIN.out HCS.out hs;rw[hz]at hj;obtain⟨q0,q1,q2,q3,q4,q5,q6⟩:=q;have HJ:Hid (∀W,Below w w W->Kw 114 #[.agg #[.slice io z ic,.slice co cs.length cc,c]] W (.tuple #[.agg #[q0,q1,q2,q3,q4,q5,q6],.bool ok])):=hj;have HT:Hid _:=ht;have HF:Hid _:=hf;clear hj ht hf;have BA:=Be (yA (wr:Nat) wr) (yB _) (.cells #[.func (.func 114) #[] #[],.slice gp 2 2] 183);go_wp2_with fail;refine(HST.out (.func 114) gp 4 15 _ (Below.trans hb (BA.mono hb.size)) (yF p3 BA.size) ((BA.cell p3).trans p4) ((BA.cell p3).trans p5)).mono ?_;rintro e w1 ⟨rfl,hw1⟩;have BW:=BA.trans (hw1.mono BA.size);have B1:=hb.trans (BW.mono hb.size);have C1:=(Blk.new wr #[.func (.func 114) #[] #[],.slice gp 2 2] 183).l hw1;have P2:=P1.l BW;have X2:=X1.l BW;have Y2:=Y1.l BW;clear hw1 BW BA P1 X1 Y1 x1 xa hb;have c1:=C1.cell;have x2:=X2.cell;rw[hs];go_wp2_with fail;cases ok
     ·
      have HN:Hid (∀j,j<5->Dm cs c (n::r) j=none):=by
       intro j hj;rcases (show j<4∨j=4 by omega) with h|rfl
       ·exact HK.out j h
       ·exact HF.out rfl
      refine(HJ.out w1 B1).mono ?_;rintro e w2 ⟨rfl,hw2⟩;have B2:=B1.trans (hw2.mono B1.size);have P3:=P2.l hw2;have X3:=X2.l hw2;have Y3:=Y2.l hw2;clear hw2 P2 X2 Y2 C1 c1 x2;have y3:=fun o=>(Y3.alloc o).cell;have yf3:=fun o=>(Y3.alloc o).frozen;have BB:∀o,Below w2 w2 (w2.alloc o):=fun o=>Be (yA _ _) (yB _) o;go_wp2;go_roundw;case rel=>exact⟨5,by omega,by go_num,HN.out,(B2.trans ((BB _).mono B2.size)),(P3.l (BB _)),(X3.alloc _),(Y3.alloc _)⟩
      case measure=>simp[intOf]
     ·have HT2:Hid _:=HT.out rfl;clear HT HF;refine(HJ.out w1 B1).mono ?_;rintro e w2 ⟨rfl,hw2⟩;have B2:=B1.trans (hw2.mono B1.size);have P3:=P2.l hw2;have X3:=X2.l hw2;have Y3:=Y2.l hw2;clear hw2 P2 X2 Y2 C1 c1 x2;have y3:=fun o=>(Y3.alloc o).cell;have yf3:=fun o=>(Y3.alloc o).frozen;have BB:∀o,Below w2 w2 (w2.alloc o):=fun o=>Be (yA _ _) (yB _) o;go_wp2_with fail;refine bodyPost_ret (v:=.agg #[q0,q1,q2,q3,q4,q5,q6]) ?_ rfl ⟨?_,?_⟩
      ·simp[results,results41,go_sem,y3]
      ·rw[HHIT.out 4 _ (by omega) HK.out HT2.out];rfl
      ·iterate 7 (refine yP ?_ (by show (w:Nat)<=(w:Nat)+1;omega) _)
       exact B2.trans ((BB _).mono B2.size)
  ·obtain rfl:k=5:=by omega
   obtain⟨b,off,e,_,hbl,q0,q1,q2,q3,q4⟩:=HIN.out.l (A7.o hb) 0 n rfl;subst e;simp only[Nat.zero_mul,Nat.add_zero]at q0 q1 q2 q3 q4;have HR:Hid _:=HMISS.out HK.out;obtain⟨n0,n1,n2,n3,n4⟩:=n;dsimp only at *;have y1:=fun o=>(Y1.alloc o).cell;have yf1:=fun o=>(Y1.alloc o).frozen;clear HST HHIT HMISS HIN HCS HQ HK hz;go_wp2_with fail;refine bodyPost_ret (v:=.agg #[n0,n1,n2,n3,n4,(),()]) ?_ rfl ⟨?_,?_⟩
   ·simp[results,results41,go_sem,y1]
   ·rw[HR.out];rfl
   ·iterate 7 (refine yP ?_ (by show (w:Nat)<=(w:Nat)+1;omega) _)
    exact hb.alloc hb.size _
structure Jd (w2:World) (ps:List Pd) (wr:World) (gs:Nat->Nat) (k:Nat):Prop where
 b2:Below w2 w2 wr
 hq:Blk wr ((w2:Nat)+1) #[.slice (w2:Nat) ps.length ps.length,(Dn ps k:Int)] 38
 own:Own wr (w2:Nat) 72 ps.length
 hdr:∀j p,j<k->ps[j]?=some p->wr.cell? ⟨(w2:Nat),j,none⟩=some (.slice (some ⟨gs j,0,none⟩) p.ins.length p.ins.length)
 up:∀j,j<k->(w2:Nat)+1<gs j/\gs j<(wr:Nat)
 apart:∀i j,i<j->j<k->gs i<gs j
 row:∀j p,j<k->ps[j]?=some p->Own wr (gs j) 79 (p.ins.length*7)/\Hg wr (gs j) 7 Qd.vals (Gl p.consts p.ins (Dn ps j)) p.ins.length
theorem Jd.start (w2:World) (ps:List Pd) (zs:Array Value):Jd w2 ps ((w2.alloc (.cells (madeCells zs ps.length) 72)).alloc (.cells #[.slice (w2:Nat) ps.length ps.length,()] 38)) (fun _=>0) 0:=by refine⟨((yA _ _).alloc (yB _) _).alloc (by simp) _,?_,(Own.made _ _ _ _).l (Be (yA _ _) (yB _) _),fun _ _ h=>absurd h (Nat.not_lt_zero _),fun _ h=>absurd h (Nat.not_lt_zero _),fun _ _ _ h=>absurd h (Nat.not_lt_zero _),fun _ _ h=>absurd h (Nat.not_lt_zero _)⟩;exact Blk.newIn _ _ (by simp)
structure Gm (w2 wr:World) (ps:List Pd) (fc:Array Value) (k:Nat) (p:Pd) (wi:World) (c i:Nat):Prop where
 only:Ej ((w2:Nat)+1) wr wi
 hq:Blk wi ((w2:Nat)+1) #[.slice (w2:Nat) ps.length ps.length,(c:Int)] 38
 pr:Blk wi wr fc 77
 own:Own wi ((wr:Nat)+1) 79 (p.ins.length*7)
 laid:Hg wi ((wr:Nat)+1) 7 Qd.vals (Gl p.consts p.ins (Dn ps k)) i
section
variable {w2 wr wi w':World} {ps:List Pd} {fc:Array Value} {k c i:Nat} {p:Pd} {gs:Nat→Nat}
theorem Gm.start (h:Jd w2 ps wr gs k) (fc:Array Value) (zs:Array Value):Gm w2 wr ps fc k p ((wr.alloc (.cells fc 77)).alloc (.cells (madeCells zs (p.ins.length*7)) 79)) (Dn ps k) 0:=by
 have hb:Below wr wr ((wr.alloc (.cells fc 77)).alloc (.cells (madeCells zs (p.ins.length*7)) 79)):=((yA _ _).alloc (yB _) _).alloc (by simp) _;refine⟨(Ej.refl _ _).below hb,h.hq.l hb,(Blk.new _ _ _).alloc _,?_,Hg.zero _ _ _ _ _⟩;have:=Own.made (wr.alloc (.cells fc 77)) zs (p.ins.length*7) 79
 rwa [nblk_alloc]at this
theorem Gm.b2 (h:Jd w2 ps wr gs k) (x:Gm w2 wr ps fc k p wi c i):Below w2 w2 wi:=
 ⟨x.only.os.trans h.b2.os,x.only.tape.trans h.b2.tape,x.only.output.trans h.b2.output,yI h.b2.size x.only.size,fun b hb=>(x.only.block b (by omega) (yF hb h.b2.size)).trans (h.b2.block b hb)⟩
theorem Gm.l (x:Gm w2 wr ps fc k p wi c i) (hb:Below wi wi w'):Gm w2 wr ps fc k p w' c i:=
 ⟨x.only.below hb,x.hq.l hb,x.pr.l hb,x.own.l hb,x.laid.l hb x.own.lt⟩
theorem Gm.lt (h:Jd w2 ps wr gs k):(w2:Nat)+1<(wr:Nat):=h.hq.lt
theorem Ej.setsNew : ∀(vs:List Value) (o:Nat) {w w':World},Ej g w w'->(w:Nat)<=b->Ej g w (w'.setCells b o vs)
 | [],_,_,_,h,_=>h
 | v::r,o,_,_,h,hb=>Ej.setsNew r (o+1) (h.other hb o v) hb
theorem Blk.setsOther (hn:b≠g):∀(vs:List Value) (o:Nat) {w:World},Blk w b arr t->Blk (w.setCells g o vs) b arr t
 | [],_,_,h=>h
 | v::r,o,_,h=>Blk.setsOther hn r (o+1) (h.setOther (p:=(g,o)) hn v)
theorem Gm.put (h:Jd w2 ps wr gs k) (x:Gm w2 wr ps fc k p wi c i) (hq:(Gl p.consts p.ins (Dn ps k))[i]?=some q):Gm w2 wr ps fc k p (wi.setCells ((wr:Nat)+1) (i*7) q.vals) c (i+1):=by
 have hlt:=Gm.lt h;have hi:i<p.ins.length:=by have:=(yD.1 hq).1;rwa [Qz]at this
 exact⟨Ej.setsNew _ _ x.only (by omega),Blk.setsOther (by omega) _ _ x.hq,Blk.setsOther (by omega) _ _ x.pr,x.own.sets _ _,x.laid.step x.own (by omega) (fun _=>rfl) hq⟩
theorem Gm.count (h:Jd w2 ps wr gs k) (x:Gm w2 wr ps fc k p wi c i) (c':Nat):Gm w2 wr ps fc k p (wi.setCell ((w2:Nat)+1,1) (c':Int)) c' i:=by
 have hlt:=Gm.lt h;refine⟨x.only.set 1 _,?_,x.pr.setOther (by show (wr:Nat)≠(w2:Nat)+1;omega) _,?_,fun j y hj hy a v hv=>?_⟩
 ·simpa using x.hq.set 1 (c':Int)
 ·exact x.own.of_block (yL _ _ _ _ (by show (wr:Nat)+1≠(w2:Nat)+1;omega))
 ·exact(yX (a:=((wr:Nat)+1,j*7+a)) (yL _ _ _ _ (by show (wr:Nat)+1≠(w2:Nat)+1;omega))).trans (x.laid j y hj hy a v hv)
theorem Jd.more (h:Jd w2 ps wr gs k) (hp:ps[k]?=some p) (x:Gm w2 wr ps fc k p wi (Dn ps (k+1)) p.ins.length) :
  Jd w2 ps (wi.setCell ((w2:Nat),k) (.slice (some ⟨(wr:Nat)+1,0,none⟩) p.ins.length p.ins.length)) (fun j=>if j=k then (wr:Nat)+1 else gs j) (k+1):=by
 have hlt:=Gm.lt h;have hk:=(yD.1 hp).1;have hsz:=x.own.lt;have hG:=h.own.of_block (x.only.block _ (by omega) h.own.lt);have hcell:∀b o,b<(wr:Nat)->b≠(w2:Nat)+1->wi.cell? ⟨b,o,none⟩=wr.cell? ⟨b,o,none⟩:=fun b o hb hn=>yX (a:=⟨b,o,none⟩) (x.only.block b hn hb);have hset:∀b o,b≠(w2:Nat)->(wi.setCell ((w2:Nat),k) (.slice (some ⟨(wr:Nat)+1,0,none⟩) p.ins.length p.ins.length)).cell? ⟨b,o,none⟩=wi.cell? ⟨b,o,none⟩:=fun b o hn=>yX (yL _ _ _ _ hn);have hblk:∀b,b≠(w2:Nat)->(wi.setCell ((w2:Nat),k) (.slice (some ⟨(wr:Nat)+1,0,none⟩) p.ins.length p.ins.length)).heap[b]?=wi.heap[b]?:=fun b hn=>yL _ _ _ _ hn;refine⟨(Gm.b2 h x).setCell (by show (w2:Nat)<=(w2:Nat);omega) _,x.hq.setOther (by show (w2:Nat)+1≠(w2:Nat);omega) _,hG.set _ _,?_,?_,?_,?_⟩
 ·intro j q hj hq;by_cases e:j=k
  ·subst e;obtain rfl:=yO (hp.symm.trans hq);rw[if_pos rfl];obtain⟨v,hv⟩:=hG.cell (i:=j) hk;exact World.cell?_setCell_same _ _ _ hv
  ·rw[if_neg e];have:=h.hdr j q (by omega) hq;rw[A9 _ (by omega),hcell _ _ h.own.lt (by omega)];exact this
 ·intro j hj;by_cases e:j=k
  ·subst e;rw[if_pos rfl];exact⟨by omega,by simpa using hsz⟩
  ·rw[if_neg e];have:=h.up j (by omega);exact⟨this.1,by simp;omega⟩
 ·intro a b hab hb;by_cases e:b=k
  ·subst e;rw[if_pos rfl,if_neg (by omega)];have:=(h.up a (by omega)).2;omega
  ·rw[if_neg e,if_neg (by omega)];exact h.apart a b hab (by omega)
 ·intro j q hj hq;by_cases e:j=k
  ·subst e;obtain rfl:=yO (hp.symm.trans hq);rw[if_pos rfl];refine⟨x.own.of_block (hblk _ (by omega)),fun i y hi hy a v hv=>?_⟩;rw[hset _ _ (by omega)];exact x.laid i y hi hy a v hv
  ·rw[if_neg e];obtain⟨h1,h2⟩:=h.row j q (by omega) hq;obtain⟨h3,h4⟩:=h.up j (by omega);refine⟨h1.of_block ((hblk _ (by omega)).trans (x.only.block _ (by omega) h4)),fun i y hi hy a v hv=>?_⟩;rw[hset _ _ (by omega),hcell _ _ h4 (by omega)];exact h2 i y hi hy a v hv
theorem Jd.done (h:Jd w2 ps wr gs ps.length):A1w wr (w2:Nat) gs (Yb ps):=by
 have hget:∀{j:Nat} {qs:List Qd},(Yb ps)[j]?=some qs->∃p,j<ps.length/\ps[j]?=some p/\qs=Gl p.consts p.ins (Dn ps j):=by
  intro j qs hj;have hl:j<ps.length:=by have:=(yD.1 hj).1;rwa [Ka]at this
  obtain⟨p,hp⟩:=A8 hl;exact⟨p,hl,hp,yO (hj.symm.trans (A7i hp))⟩
 refine⟨by rw[Ka];exact h.own,fun j qs hj=>?_,fun j hj=>?_,fun i j hij hj=>?_,fun j qs hj=>?_⟩
 ·obtain⟨p,hl,hp,rfl⟩:=hget hj;rw[Qz];exact h.hdr j p hl hp
 ·rw[Ka]at hj;have:=(h.up j hj).1;omega
 ·rw[Ka]at hj;exact h.apart i j hij hj
 ·obtain⟨p,hl,hp,rfl⟩:=hget hj;rw[Qz];exact h.row j p hl hp
end
end Go.Proofs.YtjbbppblgjhapaaGreatDoor
