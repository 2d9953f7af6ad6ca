import Derived.Test.YtbefeflgjipfhaaGreatDoorF31
set_option maxRecDepth 100000
set_option maxHeartbeats 4000000
namespace Go.Proofs.YtbefeflgjipfhaaGreatDoor
open Go.Deep Go.Proofs.Tryz Go.RowKit
theorem Zw (io co:Option Addr) (ic cc c g:Nat) (n:Nd) (r:List Nd) (cs:List Vd) (w:World) (hq:Lv n r cs) (hin:E5 0 w io (n::r)) (hcs:Jd 0 w co cs) (hp:Nz w g) :
  Kw 117 #[.agg #[.slice io (n::r).length ic,.slice co cs.length cc,.int .i64 c],.slice (some ⟨g,0,none⟩) 5 5] w (Qd.val (Ck cs c (n::r))):=by
 obtain⟨z,hz⟩:∃z,(n::r).length=z:=⟨_,rfl⟩;have HST:Hid (∀f gp x y W,Below w.heap.size w W->gp<W.heap.size->W.cell? ⟨gp,0,none⟩=some (.int .i64 x)->W.cell? ⟨gp,1,none⟩=some (.int .i64 y)->Kw 200 #[.agg #[.func f #[] #[],.slice (some ⟨gp,0,none⟩) 2 2],.agg #[.slice io z ic,.slice co cs.length cc,.int .i64 c]] W (.bool (stands x y (n::r)))):=fun f gp x y W hb h1 h2 h3=>by
  have:=Xd f gp x y io co ic cs.length cc c (n::r) W hq.few h1 h2 h3 (hin.l (Ad.o hb));rw[hz]at this;exact this
 rw[hz];have hzl:z<=1048576:=hz▸hq.few;have hz1:0<z:=by rw[←hz];simp
 have hz0:(0:Int)<z:=by omega
 have hb2:∀o1 o2,Below w.heap.size w ((w.alloc o1).alloc o2):=fun o1 o2=>((yA _ _).alloc (yB _) o1).alloc (by simp) o2;have X0:=(Blk.new w #[.slice io z ic,.slice co cs.length cc,.int .i64 c] 164).alloc (.cells #[.int .i64 0,.int .i64 0,.int .i64 0,.int .i64 0,.int .i64 0,.int .i64 0,.int .i64 0] 161);have Y0:=Blk.newIn (W:=w.alloc (.cells #[.slice io z ic,.slice co cs.length cc,.int .i64 c] 164)) (n:=w.heap.size+1) #[.int .i64 0,.int .i64 0,.int .i64 0,.int .i64 0,.int .i64 0,.int .i64 0,.int .i64 0] 161 (by simp);have HHIT:Hid (∀k q,k<5->(∀j,j<k->Bo cs c (n::r) j=none)->Bo cs c (n::r) k=some q->Ck cs c (n::r)=q):=fun k q h1 h2 h3=>A95 h1 h2 h3;have HMISS:Hid ((∀j,j<5->Bo cs c (n::r) j=none)->Ck cs c (n::r)=Rl n):=A7a;have HIN:Hid (E5 0 w io (n::r)):=hin;have HCS:Hid (Jd 0 w co cs):=hcs;have HQ:Hid (Lv n r cs):=hq;clear hq hin hcs;generalize Ck cs c (n::r)=R at *;(try unfold Kw);go_in;go_wp2;go_loopw [12] (fun y wr=>∃k:Nat,k<=5/\y=.int .i64 k/\Hid (∀j,j<k->Bo cs c (n::r) j=none)/\Below w.heap.size w wr/\Nz wr g/\Blk wr w.heap.size #[.slice io z ic,.slice co cs.length cc,.int .i64 c] 164/\Blk wr (w.heap.size+1) #[.int .i64 0,.int .i64 0,.int .i64 0,.int .i64 0,.int .i64 0,.int .i64 0,.int .i64 0] 161) (fun y _=>5-(intOf y).toNat);case atStart=>exact⟨0,by omega,rfl,fun j h=>absurd h (Nat.not_lt_zero _),hb2 _ _,hp.l (hb2 _ _),X0,Y0⟩
 case round=>
  obtain⟨k,hk,rfl,HK,hb,P1,X1,Y1⟩:=hrel;clear X0 Y0 hb2 hp;have x1:=X1.cell;by_cases hk5:k<5
  ·have xa:=fun o=>(X1.alloc o).cell;rcases (show k=0∨k=1∨k=2∨k=3∨k=4 by omega) with rfl|rfl|rfl|rfl|rfl
   ·obtain⟨gp,p1,p2,p3,p4,p5⟩:=P1.p0;clear hk hk5;cases hs:stands 42 42 (n::r)
    ·
     have HN:Hid (∀j,j<1->Bo cs c (n::r) j=none):=by
      intro j hj;rcases (show j<0∨j=0 by omega) with h|rfl
      ·exact HK.out j h
      ·exact Ii hs (by simp)
     have BA:=Ar (yA wr.heap.size wr) (yB _) (.cells #[.func (.func 196) #[] #[],.slice (some ⟨gp,0,none⟩) 2 2] 280);go_wp2_with fail;refine(HST.out (.func 196) gp 42 42 _ (Below.trans hb (BA.mono hb.size)) (yF p3 BA.size) ((BA.cell (p:=⟨gp,0,none⟩) p3).trans p4) ((BA.cell (p:=⟨gp,1,none⟩) p3).trans p5)).mono ?_;rintro e w1 ⟨rfl,hw1⟩;have BW:=BA.trans (hw1.mono BA.size);have B1:=hb.trans (BW.mono hb.size);have C1:=(Blk.new wr #[.func (.func 196) #[] #[],.slice (some ⟨gp,0,none⟩) 2 2] 280).l hw1;have P2:=P1.l BW;have X2:=X1.l BW;have Y2:=Y1.l BW;clear hw1 BW BA P1 X1 Y1 x1 xa hb;have c1:=C1.cell;have x2:=X2.cell;rw[hs];go_wp2;go_roundw;case rel=>exact⟨1,by omega,by go_num,HN.out,B1,P2,X2,Y2⟩
     case measure=>simp[intOf]
    ·obtain⟨q,ok,hj,ht,hf⟩:=Vr (ic:=ic) (cc:=cc) (c:=c) (co:=co) HQ.out HIN.out hs;rw[hz]at hj;obtain⟨q0,q1,q2,q3,q4,q5,q6⟩:=q;have HJ:Hid (∀W,Below w.heap.size w W->Kw 196 #[.agg #[.slice io z ic,.slice co cs.length cc,.int .i64 c]] W (.tuple #[.agg #[.int .i64 q0,.int .i64 q1,.int .i64 q2,.int .i64 q3,.int .i64 q4,.int .i64 q5,.int .i64 q6],.bool ok])):=hj;have HT:Hid (ok=true->Bo cs c (n::r) 0=some ⟨q0,q1,q2,q3,q4,q5,q6⟩):=ht;have HF:Hid (ok=false->Bo cs c (n::r) 0=none):=hf;clear hj ht hf;have BA:=Ar (yA wr.heap.size wr) (yB _) (.cells #[.func (.func 196) #[] #[],.slice (some ⟨gp,0,none⟩) 2 2] 280);go_wp2_with fail;refine(HST.out (.func 196) gp 42 42 _ (Below.trans hb (BA.mono hb.size)) (yF p3 BA.size) ((BA.cell (p:=⟨gp,0,none⟩) p3).trans p4) ((BA.cell (p:=⟨gp,1,none⟩) p3).trans p5)).mono ?_;rintro e w1 ⟨rfl,hw1⟩;have BW:=BA.trans (hw1.mono BA.size);have B1:=hb.trans (BW.mono hb.size);have C1:=(Blk.new wr #[.func (.func 196) #[] #[],.slice (some ⟨gp,0,none⟩) 2 2] 280).l hw1;have P2:=P1.l BW;have X2:=X1.l BW;have Y2:=Y1.l BW;clear hw1 BW BA P1 X1 Y1 x1 xa hb;have c1:=C1.cell;have x2:=X2.cell;rw[hs];go_wp2_with fail;cases ok
     ·
      have HN:Hid (∀j,j<1->Bo cs c (n::r) j=none):=by
       intro j hj;rcases (show j<0∨j=0 by omega) with h|rfl
       ·exact HK.out j h
       ·exact HF.out rfl
      refine(HJ.out w1 B1).mono ?_;rintro e w2 ⟨rfl,hw2⟩;have B2:=B1.trans (hw2.mono B1.size);have P3:=P2.l hw2;have X3:=X2.l hw2;have Y3:=Y2.l hw2;clear hw2 P2 X2 Y2 C1 c1 x2;have y3:=fun o=>(Y3.alloc o).cell;have yf3:=fun o=>(Y3.alloc o).frozen;have BB:∀o,Below w2.heap.size w2 (w2.alloc o):=fun o=>Ar (yA _ _) (yB _) o;go_wp2;go_roundw;case rel=>exact⟨1,by omega,by go_num,HN.out,(B2.trans ((BB _).mono B2.size)),(P3.l (BB _)),(X3.alloc _),(Y3.alloc _)⟩
      case measure=>simp[intOf]
     ·have HT2:Hid (Bo cs c (n::r) 0=some ⟨q0,q1,q2,q3,q4,q5,q6⟩):=HT.out rfl;clear HT HF;refine(HJ.out w1 B1).mono ?_;rintro e w2 ⟨rfl,hw2⟩;have B2:=B1.trans (hw2.mono B1.size);have P3:=P2.l hw2;have X3:=X2.l hw2;have Y3:=Y2.l hw2;clear hw2 P2 X2 Y2 C1 c1 x2;have y3:=fun o=>(Y3.alloc o).cell;have yf3:=fun o=>(Y3.alloc o).frozen;have BB:∀o,Below w2.heap.size w2 (w2.alloc o):=fun o=>Ar (yA _ _) (yB _) o;go_wp2_with fail;refine bodyPost_ret (v:=.agg #[.int .i64 q0,.int .i64 q1,.int .i64 q2,.int .i64 q3,.int .i64 q4,.int .i64 q5,.int .i64 q6]) ?_ rfl ⟨?_,?_⟩
      ·simp[results,results117,go_sem,y3]
      ·rw[HHIT.out 0 _ (by omega) HK.out HT2.out];rfl
      ·iterate 7 (refine yP ?_ (by show w.heap.size<=w.heap.size+1;omega) _)
       exact B2.trans ((BB _).mono B2.size)
   ·obtain⟨gp,p1,p2,p3,p4,p5⟩:=P1.p1;clear hk hk5;cases hs:stands 18 20 (n::r)
    ·
     have HN:Hid (∀j,j<2->Bo cs c (n::r) j=none):=by
      intro j hj;rcases (show j<1∨j=1 by omega) with h|rfl
      ·exact HK.out j h
      ·exact Ii hs (by simp)
     have BA:=Ar (yA wr.heap.size wr) (yB _) (.cells #[.func (.func 197) #[] #[],.slice (some ⟨gp,0,none⟩) 2 2] 280);go_wp2_with fail;refine(HST.out (.func 197) gp 18 20 _ (Below.trans hb (BA.mono hb.size)) (yF p3 BA.size) ((BA.cell (p:=⟨gp,0,none⟩) p3).trans p4) ((BA.cell (p:=⟨gp,1,none⟩) p3).trans p5)).mono ?_;rintro e w1 ⟨rfl,hw1⟩;have BW:=BA.trans (hw1.mono BA.size);have B1:=hb.trans (BW.mono hb.size);have C1:=(Blk.new wr #[.func (.func 197) #[] #[],.slice (some ⟨gp,0,none⟩) 2 2] 280).l hw1;have P2:=P1.l BW;have X2:=X1.l BW;have Y2:=Y1.l BW;clear hw1 BW BA P1 X1 Y1 x1 xa hb;have c1:=C1.cell;have x2:=X2.cell;rw[hs];go_wp2;go_roundw;case rel=>exact⟨2,by omega,by go_num,HN.out,B1,P2,X2,Y2⟩
     case measure=>simp[intOf]
    ·obtain⟨q,ok,hj,ht,hf⟩:=Vu (ic:=ic) (cc:=cc) (c:=c) (co:=co) HQ.out HIN.out hs;rw[hz]at hj;obtain⟨q0,q1,q2,q3,q4,q5,q6⟩:=q;have HJ:Hid (∀W,Below w.heap.size w W->Kw 197 #[.agg #[.slice io z ic,.slice co cs.length cc,.int .i64 c]] W (.tuple #[.agg #[.int .i64 q0,.int .i64 q1,.int .i64 q2,.int .i64 q3,.int .i64 q4,.int .i64 q5,.int .i64 q6],.bool ok])):=hj;have HT:Hid (ok=true->Bo cs c (n::r) 1=some ⟨q0,q1,q2,q3,q4,q5,q6⟩):=ht;have HF:Hid (ok=false->Bo cs c (n::r) 1=none):=hf;clear hj ht hf;have BA:=Ar (yA wr.heap.size wr) (yB _) (.cells #[.func (.func 197) #[] #[],.slice (some ⟨gp,0,none⟩) 2 2] 280);go_wp2_with fail;refine(HST.out (.func 197) gp 18 20 _ (Below.trans hb (BA.mono hb.size)) (yF p3 BA.size) ((BA.cell (p:=⟨gp,0,none⟩) p3).trans p4) ((BA.cell (p:=⟨gp,1,none⟩) p3).trans p5)).mono ?_;rintro e w1 ⟨rfl,hw1⟩;have BW:=BA.trans (hw1.mono BA.size);have B1:=hb.trans (BW.mono hb.size);have C1:=(Blk.new wr #[.func (.func 197) #[] #[],.slice (some ⟨gp,0,none⟩) 2 2] 280).l hw1;have P2:=P1.l BW;have X2:=X1.l BW;have Y2:=Y1.l BW;clear hw1 BW BA P1 X1 Y1 x1 xa hb;have c1:=C1.cell;have x2:=X2.cell;rw[hs];go_wp2_with fail;cases ok
     ·
      have HN:Hid (∀j,j<2->Bo cs c (n::r) j=none):=by
       intro j hj;rcases (show j<1∨j=1 by omega) with h|rfl
       ·exact HK.out j h
       ·exact HF.out rfl
      refine(HJ.out w1 B1).mono ?_;rintro e w2 ⟨rfl,hw2⟩;have B2:=B1.trans (hw2.mono B1.size);have P3:=P2.l hw2;have X3:=X2.l hw2;have Y3:=Y2.l hw2;clear hw2 P2 X2 Y2 C1 c1 x2;have y3:=fun o=>(Y3.alloc o).cell;have yf3:=fun o=>(Y3.alloc o).frozen;have BB:∀o,Below w2.heap.size w2 (w2.alloc o):=fun o=>Ar (yA _ _) (yB _) o;go_wp2;go_roundw;case rel=>exact⟨2,by omega,by go_num,HN.out,(B2.trans ((BB _).mono B2.size)),(P3.l (BB _)),(X3.alloc _),(Y3.alloc _)⟩
      case measure=>simp[intOf]
     ·have HT2:Hid (Bo cs c (n::r) 1=some ⟨q0,q1,q2,q3,q4,q5,q6⟩):=HT.out rfl;clear HT HF;refine(HJ.out w1 B1).mono ?_;rintro e w2 ⟨rfl,hw2⟩;have B2:=B1.trans (hw2.mono B1.size);have P3:=P2.l hw2;have X3:=X2.l hw2;have Y3:=Y2.l hw2;clear hw2 P2 X2 Y2 C1 c1 x2;have y3:=fun o=>(Y3.alloc o).cell;have yf3:=fun o=>(Y3.alloc o).frozen;have BB:∀o,Below w2.heap.size w2 (w2.alloc o):=fun o=>Ar (yA _ _) (yB _) o;go_wp2_with fail;refine bodyPost_ret (v:=.agg #[.int .i64 q0,.int .i64 q1,.int .i64 q2,.int .i64 q3,.int .i64 q4,.int .i64 q5,.int .i64 q6]) ?_ rfl ⟨?_,?_⟩
      ·simp[results,results117,go_sem,y3]
      ·rw[HHIT.out 1 _ (by omega) HK.out HT2.out];rfl
      ·iterate 7 (refine yP ?_ (by show w.heap.size<=w.heap.size+1;omega) _)
       exact B2.trans ((BB _).mono B2.size)
   ·obtain⟨gp,p1,p2,p3,p4,p5⟩:=P1.p2;clear hk hk5;cases hs:stands 18 21 (n::r)
    ·
     have HN:Hid (∀j,j<3->Bo cs c (n::r) j=none):=by
      intro j hj;rcases (show j<2∨j=2 by omega) with h|rfl
      ·exact HK.out j h
      ·exact Ii hs (by simp)
     have BA:=Ar (yA wr.heap.size wr) (yB _) (.cells #[.func (.func 197) #[] #[],.slice (some ⟨gp,0,none⟩) 2 2] 280);go_wp2_with fail;refine(HST.out (.func 197) gp 18 21 _ (Below.trans hb (BA.mono hb.size)) (yF p3 BA.size) ((BA.cell (p:=⟨gp,0,none⟩) p3).trans p4) ((BA.cell (p:=⟨gp,1,none⟩) p3).trans p5)).mono ?_;rintro e w1 ⟨rfl,hw1⟩;have BW:=BA.trans (hw1.mono BA.size);have B1:=hb.trans (BW.mono hb.size);have C1:=(Blk.new wr #[.func (.func 197) #[] #[],.slice (some ⟨gp,0,none⟩) 2 2] 280).l hw1;have P2:=P1.l BW;have X2:=X1.l BW;have Y2:=Y1.l BW;clear hw1 BW BA P1 X1 Y1 x1 xa hb;have c1:=C1.cell;have x2:=X2.cell;rw[hs];go_wp2;go_roundw;case rel=>exact⟨3,by omega,by go_num,HN.out,B1,P2,X2,Y2⟩
     case measure=>simp[intOf]
    ·obtain⟨q,ok,hj,ht,hf⟩:=Vv (ic:=ic) (cc:=cc) (c:=c) (co:=co) HQ.out HIN.out hs;rw[hz]at hj;obtain⟨q0,q1,q2,q3,q4,q5,q6⟩:=q;have HJ:Hid (∀W,Below w.heap.size w W->Kw 197 #[.agg #[.slice io z ic,.slice co cs.length cc,.int .i64 c]] W (.tuple #[.agg #[.int .i64 q0,.int .i64 q1,.int .i64 q2,.int .i64 q3,.int .i64 q4,.int .i64 q5,.int .i64 q6],.bool ok])):=hj;have HT:Hid (ok=true->Bo cs c (n::r) 2=some ⟨q0,q1,q2,q3,q4,q5,q6⟩):=ht;have HF:Hid (ok=false->Bo cs c (n::r) 2=none):=hf;clear hj ht hf;have BA:=Ar (yA wr.heap.size wr) (yB _) (.cells #[.func (.func 197) #[] #[],.slice (some ⟨gp,0,none⟩) 2 2] 280);go_wp2_with fail;refine(HST.out (.func 197) gp 18 21 _ (Below.trans hb (BA.mono hb.size)) (yF p3 BA.size) ((BA.cell (p:=⟨gp,0,none⟩) p3).trans p4) ((BA.cell (p:=⟨gp,1,none⟩) p3).trans p5)).mono ?_;rintro e w1 ⟨rfl,hw1⟩;have BW:=BA.trans (hw1.mono BA.size);have B1:=hb.trans (BW.mono hb.size);have C1:=(Blk.new wr #[.func (.func 197) #[] #[],.slice (some ⟨gp,0,none⟩) 2 2] 280).l hw1;have P2:=P1.l BW;have X2:=X1.l BW;have Y2:=Y1.l BW;clear hw1 BW BA P1 X1 Y1 x1 xa hb;have c1:=C1.cell;have x2:=X2.cell;rw[hs];go_wp2_with fail;cases ok
     ·
      have HN:Hid (∀j,j<3->Bo cs c (n::r) j=none):=by
       intro j hj;rcases (show j<2∨j=2 by omega) with h|rfl
       ·exact HK.out j h
       ·exact HF.out rfl
      refine(HJ.out w1 B1).mono ?_;rintro e w2 ⟨rfl,hw2⟩;have B2:=B1.trans (hw2.mono B1.size);have P3:=P2.l hw2;have X3:=X2.l hw2;have Y3:=Y2.l hw2;clear hw2 P2 X2 Y2 C1 c1 x2;have y3:=fun o=>(Y3.alloc o).cell;have yf3:=fun o=>(Y3.alloc o).frozen;have BB:∀o,Below w2.heap.size w2 (w2.alloc o):=fun o=>Ar (yA _ _) (yB _) o;go_wp2;go_roundw;case rel=>exact⟨3,by omega,by go_num,HN.out,(B2.trans ((BB _).mono B2.size)),(P3.l (BB _)),(X3.alloc _),(Y3.alloc _)⟩
      case measure=>simp[intOf]
     ·have HT2:Hid (Bo cs c (n::r) 2=some ⟨q0,q1,q2,q3,q4,q5,q6⟩):=HT.out rfl;clear HT HF;refine(HJ.out w1 B1).mono ?_;rintro e w2 ⟨rfl,hw2⟩;have B2:=B1.trans (hw2.mono B1.size);have P3:=P2.l hw2;have X3:=X2.l hw2;have Y3:=Y2.l hw2;clear hw2 P2 X2 Y2 C1 c1 x2;have y3:=fun o=>(Y3.alloc o).cell;have yf3:=fun o=>(Y3.alloc o).frozen;have BB:∀o,Below w2.heap.size w2 (w2.alloc o):=fun o=>Ar (yA _ _) (yB _) o;go_wp2_with fail;refine bodyPost_ret (v:=.agg #[.int .i64 q0,.int .i64 q1,.int .i64 q2,.int .i64 q3,.int .i64 q4,.int .i64 q5,.int .i64 q6]) ?_ rfl ⟨?_,?_⟩
      ·simp[results,results117,go_sem,y3]
      ·rw[HHIT.out 2 _ (by omega) HK.out HT2.out];rfl
      ·iterate 7 (refine yP ?_ (by show w.heap.size<=w.heap.size+1;omega) _)
       exact B2.trans ((BB _).mono B2.size)
   ·obtain⟨gp,p1,p2,p3,p4,p5⟩:=P1.p3;clear hk hk5;cases hs:stands 4 18 (n::r)
    ·
     have HN:Hid (∀j,j<4->Bo cs c (n::r) j=none):=by
      intro j hj;rcases (show j<3∨j=3 by omega) with h|rfl
      ·exact HK.out j h
      ·exact Ii hs (by simp)
     have BA:=Ar (yA wr.heap.size wr) (yB _) (.cells #[.func (.func 198) #[] #[],.slice (some ⟨gp,0,none⟩) 2 2] 280);go_wp2_with fail;refine(HST.out (.func 198) gp 4 18 _ (Below.trans hb (BA.mono hb.size)) (yF p3 BA.size) ((BA.cell (p:=⟨gp,0,none⟩) p3).trans p4) ((BA.cell (p:=⟨gp,1,none⟩) p3).trans p5)).mono ?_;rintro e w1 ⟨rfl,hw1⟩;have BW:=BA.trans (hw1.mono BA.size);have B1:=hb.trans (BW.mono hb.size);have C1:=(Blk.new wr #[.func (.func 198) #[] #[],.slice (some ⟨gp,0,none⟩) 2 2] 280).l hw1;have P2:=P1.l BW;have X2:=X1.l BW;have Y2:=Y1.l BW;clear hw1 BW BA P1 X1 Y1 x1 xa hb;have c1:=C1.cell;have x2:=X2.cell;rw[hs];go_wp2;go_roundw;case rel=>exact⟨4,by omega,by go_num,HN.out,B1,P2,X2,Y2⟩
     case measure=>simp[intOf]
    ·obtain⟨q,ok,hj,ht,hf⟩:=Yq (ic:=ic) (cc:=cc) (c:=c) (co:=co) HQ.out HIN.out hs;rw[hz]at hj;obtain⟨q0,q1,q2,q3,q4,q5,q6⟩:=q;have HJ:Hid (∀W,Below w.heap.size w W->Kw 198 #[.agg #[.slice io z ic,.slice co cs.length cc,.int .i64 c]] W (.tuple #[.agg #[.int .i64 q0,.int .i64 q1,.int .i64 q2,.int .i64 q3,.int .i64 q4,.int .i64 q5,.int .i64 q6],.bool ok])):=hj;have HT:Hid (ok=true->Bo cs c (n::r) 3=some ⟨q0,q1,q2,q3,q4,q5,q6⟩):=ht;have HF:Hid (ok=false->Bo cs c (n::r) 3=none):=hf;clear hj ht hf;have BA:=Ar (yA wr.heap.size wr) (yB _) (.cells #[.func (.func 198) #[] #[],.slice (some ⟨gp,0,none⟩) 2 2] 280);go_wp2_with fail;refine(HST.out (.func 198) gp 4 18 _ (Below.trans hb (BA.mono hb.size)) (yF p3 BA.size) ((BA.cell (p:=⟨gp,0,none⟩) p3).trans p4) ((BA.cell (p:=⟨gp,1,none⟩) p3).trans p5)).mono ?_;rintro e w1 ⟨rfl,hw1⟩;have BW:=BA.trans (hw1.mono BA.size);have B1:=hb.trans (BW.mono hb.size);have C1:=(Blk.new wr #[.func (.func 198) #[] #[],.slice (some ⟨gp,0,none⟩) 2 2] 280).l hw1;have P2:=P1.l BW;have X2:=X1.l BW;have Y2:=Y1.l BW;clear hw1 BW BA P1 X1 Y1 x1 xa hb;have c1:=C1.cell;have x2:=X2.cell;rw[hs];go_wp2_with fail;cases ok
     ·
      have HN:Hid (∀j,j<4->Bo cs c (n::r) j=none):=by
       intro j hj;rcases (show j<3∨j=3 by omega) with h|rfl
       ·exact HK.out j h
       ·exact HF.out rfl
      refine(HJ.out w1 B1).mono ?_;rintro e w2 ⟨rfl,hw2⟩;have B2:=B1.trans (hw2.mono B1.size);have P3:=P2.l hw2;have X3:=X2.l hw2;have Y3:=Y2.l hw2;clear hw2 P2 X2 Y2 C1 c1 x2;have y3:=fun o=>(Y3.alloc o).cell;have yf3:=fun o=>(Y3.alloc o).frozen;have BB:∀o,Below w2.heap.size w2 (w2.alloc o):=fun o=>Ar (yA _ _) (yB _) o;go_wp2;go_roundw;case rel=>exact⟨4,by omega,by go_num,HN.out,(B2.trans ((BB _).mono B2.size)),(P3.l (BB _)),(X3.alloc _),(Y3.alloc _)⟩
      case measure=>simp[intOf]
     ·have HT2:Hid (Bo cs c (n::r) 3=some ⟨q0,q1,q2,q3,q4,q5,q6⟩):=HT.out rfl;clear HT HF;refine(HJ.out w1 B1).mono ?_;rintro e w2 ⟨rfl,hw2⟩;have B2:=B1.trans (hw2.mono B1.size);have P3:=P2.l hw2;have X3:=X2.l hw2;have Y3:=Y2.l hw2;clear hw2 P2 X2 Y2 C1 c1 x2;have y3:=fun o=>(Y3.alloc o).cell;have yf3:=fun o=>(Y3.alloc o).frozen;have BB:∀o,Below w2.heap.size w2 (w2.alloc o):=fun o=>Ar (yA _ _) (yB _) o;go_wp2_with fail;refine bodyPost_ret (v:=.agg #[.int .i64 q0,.int .i64 q1,.int .i64 q2,.int .i64 q3,.int .i64 q4,.int .i64 q5,.int .i64 q6]) ?_ rfl ⟨?_,?_⟩
      ·simp[results,results117,go_sem,y3]
      ·rw[HHIT.out 3 _ (by omega) HK.out HT2.out];rfl
      ·iterate 7 (refine yP ?_ (by show w.heap.size<=w.heap.size+1;omega) _)
       exact B2.trans ((BB _).mono B2.size)
   ·obtain⟨gp,p1,p2,p3,p4,p5⟩:=P1.p4;clear hk hk5;cases hs:stands 4 15 (n::r)
    ·
     have HN:Hid (∀j,j<5->Bo cs c (n::r) j=none):=by
      intro j hj;rcases (show j<4∨j=4 by omega) with h|rfl
      ·exact HK.out j h
      ·exact Ii hs (by simp)
     have BA:=Ar (yA wr.heap.size wr) (yB _) (.cells #[.func (.func 199) #[] #[],.slice (some ⟨gp,0,none⟩) 2 2] 280);go_wp2_with fail;refine(HST.out (.func 199) gp 4 15 _ (Below.trans hb (BA.mono hb.size)) (yF p3 BA.size) ((BA.cell (p:=⟨gp,0,none⟩) p3).trans p4) ((BA.cell (p:=⟨gp,1,none⟩) p3).trans p5)).mono ?_;rintro e w1 ⟨rfl,hw1⟩;have BW:=BA.trans (hw1.mono BA.size);have B1:=hb.trans (BW.mono hb.size);have C1:=(Blk.new wr #[.func (.func 199) #[] #[],.slice (some ⟨gp,0,none⟩) 2 2] 280).l hw1;have P2:=P1.l BW;have X2:=X1.l BW;have Y2:=Y1.l BW;clear hw1 BW BA P1 X1 Y1 x1 xa hb;have c1:=C1.cell;have x2:=X2.cell;rw[hs];go_wp2;go_roundw;case rel=>exact⟨5,by omega,by go_num,HN.out,B1,P2,X2,Y2⟩
     case measure=>simp[intOf]
    ·obtain⟨q,ok,hj,ht,hf⟩:=Vs (ic:=ic) (cc:=cc) (c:=c) (co:=co) HQ.out HIN.out HCS.out hs;rw[hz]at hj;obtain⟨q0,q1,q2,q3,q4,q5,q6⟩:=q;have HJ:Hid (∀W,Below w.heap.size w W->Kw 199 #[.agg #[.slice io z ic,.slice co cs.length cc,.int .i64 c]] W (.tuple #[.agg #[.int .i64 q0,.int .i64 q1,.int .i64 q2,.int .i64 q3,.int .i64 q4,.int .i64 q5,.int .i64 q6],.bool ok])):=hj;have HT:Hid (ok=true->Bo cs c (n::r) 4=some ⟨q0,q1,q2,q3,q4,q5,q6⟩):=ht;have HF:Hid (ok=false->Bo cs c (n::r) 4=none):=hf;clear hj ht hf;have BA:=Ar (yA wr.heap.size wr) (yB _) (.cells #[.func (.func 199) #[] #[],.slice (some ⟨gp,0,none⟩) 2 2] 280);go_wp2_with fail;refine(HST.out (.func 199) gp 4 15 _ (Below.trans hb (BA.mono hb.size)) (yF p3 BA.size) ((BA.cell (p:=⟨gp,0,none⟩) p3).trans p4) ((BA.cell (p:=⟨gp,1,none⟩) p3).trans p5)).mono ?_;rintro e w1 ⟨rfl,hw1⟩;have BW:=BA.trans (hw1.mono BA.size);have B1:=hb.trans (BW.mono hb.size);have C1:=(Blk.new wr #[.func (.func 199) #[] #[],.slice (some ⟨gp,0,none⟩) 2 2] 280).l hw1;have P2:=P1.l BW;have X2:=X1.l BW;have Y2:=Y1.l BW;clear hw1 BW BA P1 X1 Y1 x1 xa hb;have c1:=C1.cell;have x2:=X2.cell;rw[hs];go_wp2_with fail;cases ok
     ·
      have HN:Hid (∀j,j<5->Bo cs c (n::r) j=none):=by
       intro j hj;rcases (show j<4∨j=4 by omega) with h|rfl
       ·exact HK.out j h
       ·exact HF.out rfl
      refine(HJ.out w1 B1).mono ?_;rintro e w2 ⟨rfl,hw2⟩;have B2:=B1.trans (hw2.mono B1.size);have P3:=P2.l hw2;have X3:=X2.l hw2;have Y3:=Y2.l hw2;clear hw2 P2 X2 Y2 C1 c1 x2;have y3:=fun o=>(Y3.alloc o).cell;have yf3:=fun o=>(Y3.alloc o).frozen;have BB:∀o,Below w2.heap.size w2 (w2.alloc o):=fun o=>Ar (yA _ _) (yB _) o;go_wp2;go_roundw;case rel=>exact⟨5,by omega,by go_num,HN.out,(B2.trans ((BB _).mono B2.size)),(P3.l (BB _)),(X3.alloc _),(Y3.alloc _)⟩
      case measure=>simp[intOf]
     ·have HT2:Hid (Bo cs c (n::r) 4=some ⟨q0,q1,q2,q3,q4,q5,q6⟩):=HT.out rfl;clear HT HF;refine(HJ.out w1 B1).mono ?_;rintro e w2 ⟨rfl,hw2⟩;have B2:=B1.trans (hw2.mono B1.size);have P3:=P2.l hw2;have X3:=X2.l hw2;have Y3:=Y2.l hw2;clear hw2 P2 X2 Y2 C1 c1 x2;have y3:=fun o=>(Y3.alloc o).cell;have yf3:=fun o=>(Y3.alloc o).frozen;have BB:∀o,Below w2.heap.size w2 (w2.alloc o):=fun o=>Ar (yA _ _) (yB _) o;go_wp2_with fail;refine bodyPost_ret (v:=.agg #[.int .i64 q0,.int .i64 q1,.int .i64 q2,.int .i64 q3,.int .i64 q4,.int .i64 q5,.int .i64 q6]) ?_ rfl ⟨?_,?_⟩
      ·simp[results,results117,go_sem,y3]
      ·rw[HHIT.out 4 _ (by omega) HK.out HT2.out];rfl
      ·iterate 7 (refine yP ?_ (by show w.heap.size<=w.heap.size+1;omega) _)
       exact B2.trans ((BB _).mono B2.size)
  ·obtain rfl:k=5:=by omega
   obtain⟨b,off,e,_,hbl,q0,q1,q2,q3,q4⟩:=HIN.out.l (Ad.o hb) 0 n rfl;subst e;simp only[Nat.zero_mul,Nat.add_zero]at q0 q1 q2 q3 q4;have HR:Hid (R=Rl n):=HMISS.out HK.out;obtain⟨n0,n1,n2,n3,n4⟩:=n;dsimp only at *;have y1:=fun o=>(Y1.alloc o).cell;have yf1:=fun o=>(Y1.alloc o).frozen;clear HST HHIT HMISS HIN HCS HQ HK hz;go_wp2_with fail;refine bodyPost_ret (v:=.agg #[.int .i64 n0,.int .i64 n1,.int .i64 n2,.int .i64 n3,.int .i64 n4,.int .i64 0,.int .i64 0]) ?_ rfl ⟨?_,?_⟩
   ·simp[results,results117,go_sem,y1]
   ·rw[HR.out];rfl
   ·iterate 7 (refine yP ?_ (by show w.heap.size<=w.heap.size+1;omega) _)
    exact hb.alloc hb.size _
structure Gr (w2:World) (ps:List Pd) (wr:World) (gs:Nat->Nat) (k:Nat):Prop where
 b2:Below w2.heap.size w2 wr
 hq:Blk wr (w2.heap.size+1) #[.slice (some ⟨w2.heap.size,0,none⟩) ps.length ps.length,.int .i64 (Dn ps k:Int)] 104
 own:Own wr w2.heap.size 166 ps.length
 hdr:∀j p,j<k->ps[j]?=some p->wr.cell? ⟨w2.heap.size,j,none⟩=some (.slice (some ⟨gs j,0,none⟩) p.ins.length p.ins.length)
 up:∀j,j<k->w2.heap.size+1<gs j/\gs j<wr.heap.size
 apart:∀i j,i<j->j<k->gs i<gs j
 row:∀j p,j<k->ps[j]?=some p->Own wr (gs j) 161 (p.ins.length*7)/\Lu wr (gs j) 7 Qd.vals (Qa p.consts p.ins (Dn ps j)) p.ins.length
theorem Gr.start (w2:World) (ps:List Pd) (zs:Array Value):Gr w2 ps ((w2.alloc (.cells (madeCells zs ps.length) 166)).alloc (.cells #[.slice (some ⟨w2.heap.size,0,none⟩) ps.length ps.length,.int .i64 0] 104)) (fun _=>0) 0:=by refine⟨((yA _ _).alloc (yB _) _).alloc (by simp) _,?_,(Own.made _ _ _ _).l (Ar (yA _ _) (yB _) _),fun _ _ h=>absurd h (Nat.not_lt_zero _),fun _ h=>absurd h (Nat.not_lt_zero _),fun _ _ _ h=>absurd h (Nat.not_lt_zero _),fun _ _ h=>absurd h (Nat.not_lt_zero _)⟩;exact Blk.newIn _ _ (by simp)
structure Dt (w2 wr:World) (ps:List Pd) (fc:Array Value) (k:Nat) (p:Pd) (wi:World) (c i:Nat):Prop where
 only:Gz (w2.heap.size+1) wr wi
 hq:Blk wi (w2.heap.size+1) #[.slice (some ⟨w2.heap.size,0,none⟩) ps.length ps.length,.int .i64 (c:Int)] 104
 pr:Blk wi wr.heap.size fc 63
 own:Own wi (wr.heap.size+1) 161 (p.ins.length*7)
 laid:Lu wi (wr.heap.size+1) 7 Qd.vals (Qa p.consts p.ins (Dn ps k)) i
section
variable {w2 wr wi w':World} {ps:List Pd} {fc:Array Value} {k c i:Nat} {p:Pd} {gs:Nat→Nat}
theorem Dt.start (h:Gr w2 ps wr gs k) (fc:Array Value) (zs:Array Value):Dt w2 wr ps fc k p ((wr.alloc (.cells fc 63)).alloc (.cells (madeCells zs (p.ins.length*7)) 161)) (Dn ps k) 0:=by
 have hb:Below wr.heap.size wr ((wr.alloc (.cells fc 63)).alloc (.cells (madeCells zs (p.ins.length*7)) 161)):=((yA _ _).alloc (yB _) _).alloc (by simp) _;refine⟨(Gz.refl _ _).below hb,h.hq.l hb,(Blk.new _ _ _).alloc _,?_,Lu.zero _ _ _ _ _⟩;have:=Own.made (wr.alloc (.cells fc 63)) zs (p.ins.length*7) 161
 rwa [nblk_alloc]at this
theorem Dt.b2 (h:Gr w2 ps wr gs k) (x:Dt w2 wr ps fc k p wi c i):Below w2.heap.size w2 wi:=
 ⟨x.only.os.trans h.b2.os,x.only.tape.trans h.b2.tape,x.only.output.trans h.b2.output,yI h.b2.size x.only.size,fun b hb=>(x.only.block b (by omega) (yF hb h.b2.size)).trans (h.b2.block b hb)⟩
theorem Dt.l (x:Dt w2 wr ps fc k p wi c i) (hb:Below wi.heap.size wi w'):Dt w2 wr ps fc k p w' c i:=
 ⟨x.only.below hb,x.hq.l hb,x.pr.l hb,x.own.l hb,x.laid.l hb x.own.lt⟩
theorem Dt.lt (h:Gr w2 ps wr gs k):w2.heap.size+1<wr.heap.size:=h.hq.lt
theorem Gz.setsNew {g b:Nat} : ∀(vs:List Value) (o:Nat) {w w':World},Gz g w w'->w.heap.size<=b->Gz g w (w'.setCells b o vs)
 | [],_,_,_,h,_=>h
 | v::r,o,_,_,h,hb=>Gz.setsNew r (o+1) (h.other hb o v) hb
theorem Blk.setsOther {b g:Nat} {arr:Array Value} {t:TypeId} (hn:b≠g):∀(vs:List Value) (o:Nat) {w:World},Blk w b arr t->Blk (w.setCells g o vs) b arr t
 | [],_,_,h=>h
 | v::r,o,_,h=>Blk.setsOther hn r (o+1) (h.setOther (p:=⟨g,o,none⟩) hn v)
theorem Dt.put (h:Gr w2 ps wr gs k) (x:Dt w2 wr ps fc k p wi c i) {q:Qd} (hq:(Qa p.consts p.ins (Dn ps k))[i]?=some q):Dt w2 wr ps fc k p (wi.setCells (wr.heap.size+1) (i*7) q.vals) c (i+1):=by
 have hlt:=Dt.lt h;have hi:i<p.ins.length:=by have:=(yD.1 hq).1;rwa [Rn]at this
 exact⟨Gz.setsNew _ _ x.only (by omega),Blk.setsOther (by omega) _ _ x.hq,Blk.setsOther (by omega) _ _ x.pr,x.own.sets _ _,x.laid.step x.own (by omega) (fun _=>rfl) hq⟩
theorem Dt.count (h:Gr w2 ps wr gs k) (x:Dt w2 wr ps fc k p wi c i) (c':Nat):Dt w2 wr ps fc k p (wi.setCell ⟨w2.heap.size+1,1,none⟩ (.int .i64 (c':Int))) c' i:=by
 have hlt:=Dt.lt h;refine⟨x.only.set 1 _,?_,x.pr.setOther (by show wr.heap.size≠w2.heap.size+1;omega) _,?_,fun j y hj hy a v hv=>?_⟩
 ·simpa using x.hq.set 1 (.int .i64 (c':Int))
 ·exact x.own.of_block (yL _ _ _ _ (by show wr.heap.size+1≠w2.heap.size+1;omega))
 ·exact(yX (a:=⟨wr.heap.size+1,j*7+a,none⟩) (yL _ _ _ _ (by show wr.heap.size+1≠w2.heap.size+1;omega))).trans (x.laid j y hj hy a v hv)
theorem Gr.more (h:Gr w2 ps wr gs k) (hp:ps[k]?=some p) (x:Dt w2 wr ps fc k p wi (Dn ps (k+1)) p.ins.length) :
  Gr w2 ps (wi.setCell ⟨w2.heap.size,k,none⟩ (.slice (some ⟨wr.heap.size+1,0,none⟩) p.ins.length p.ins.length)) (fun j=>if j=k then wr.heap.size+1 else gs j) (k+1):=by
 have hlt:=Dt.lt h;have hk:=(yD.1 hp).1;have hsz:=x.own.lt;have hG:Own wi w2.heap.size 166 ps.length:=h.own.of_block (x.only.block _ (by omega) h.own.lt);have hcell:∀b o,b<wr.heap.size->b≠w2.heap.size+1->wi.cell? ⟨b,o,none⟩=wr.cell? ⟨b,o,none⟩:=fun b o hb hn=>yX (a:=⟨b,o,none⟩) (x.only.block b hn hb);have hset:∀b o,b≠w2.heap.size->(wi.setCell ⟨w2.heap.size,k,none⟩ (.slice (some ⟨wr.heap.size+1,0,none⟩) p.ins.length p.ins.length)).cell? ⟨b,o,none⟩=wi.cell? ⟨b,o,none⟩:=fun b o hn=>yX (a:=⟨b,o,none⟩) (yL _ _ _ _ hn);have hblk:∀b,b≠w2.heap.size->(wi.setCell ⟨w2.heap.size,k,none⟩ (.slice (some ⟨wr.heap.size+1,0,none⟩) p.ins.length p.ins.length)).heap[b]?=wi.heap[b]?:=fun b hn=>yL _ _ _ _ hn;refine⟨(Dt.b2 h x).setCell (by show w2.heap.size<=w2.heap.size;omega) _,x.hq.setOther (by show w2.heap.size+1≠w2.heap.size;omega) _,hG.set _ _,?_,?_,?_,?_⟩
 ·intro j q hj hq;by_cases e:j=k
  ·subst e;obtain rfl:=yO (hp.symm.trans hq);rw[if_pos rfl];obtain⟨v,hv⟩:=hG.cell (i:=j) hk;exact World.cell?_setCell_same _ _ _ hv
  ·rw[if_neg e];have:=h.hdr j q (by omega) hq;rw[Xq _ (by omega),hcell _ _ h.own.lt (by omega)];exact this
 ·intro j hj;by_cases e:j=k
  ·subst e;rw[if_pos rfl];exact⟨by omega,by simpa using hsz⟩
  ·rw[if_neg e];have:=h.up j (by omega);exact⟨this.1,by simp;omega⟩
 ·intro a b hab hb;by_cases e:b=k
  ·subst e;rw[if_pos rfl,if_neg (by omega)];have:=(h.up a (by omega)).2;omega
  ·rw[if_neg e,if_neg (by omega)];exact h.apart a b hab (by omega)
 ·intro j q hj hq;by_cases e:j=k
  ·subst e;obtain rfl:=yO (hp.symm.trans hq);rw[if_pos rfl];refine⟨x.own.of_block (hblk _ (by omega)),fun i y hi hy a v hv=>?_⟩;rw[hset _ _ (by omega)];exact x.laid i y hi hy a v hv
  ·rw[if_neg e];obtain⟨h1,h2⟩:=h.row j q (by omega) hq;obtain⟨h3,h4⟩:=h.up j (by omega);refine⟨h1.of_block ((hblk _ (by omega)).trans (x.only.block _ (by omega) h4)),fun i y hi hy a v hv=>?_⟩;rw[hset _ _ (by omega),hcell _ _ h4 (by omega)];exact h2 i y hi hy a v hv
theorem Gr.done (h:Gr w2 ps wr gs ps.length):A53 wr w2.heap.size gs (Zu ps):=by
 have hget:∀{j:Nat} {qs:List Qd},(Zu ps)[j]?=some qs->∃p,j<ps.length/\ps[j]?=some p/\qs=Qa p.consts p.ins (Dn ps j):=by
  intro j qs hj;have hl:j<ps.length:=by have:=(yD.1 hj).1;rwa [Nq]at this
  obtain⟨p,hp⟩:=Ah hl;exact⟨p,hl,hp,yO (hj.symm.trans (A8m hp))⟩
 refine⟨by rw[Nq];exact h.own,fun j qs hj=>?_,fun j hj=>?_,fun i j hij hj=>?_,fun j qs hj=>?_⟩
 ·obtain⟨p,hl,hp,rfl⟩:=hget hj;rw[Rn];exact h.hdr j p hl hp
 ·rw[Nq]at hj;have:=(h.up j hj).1;omega
 ·rw[Nq]at hj;exact h.apart i j hij hj
 ·obtain⟨p,hl,hp,rfl⟩:=hget hj;rw[Rn];exact h.row j p hl hp
end
end Go.Proofs.YtbefeflgjipfhaaGreatDoor
