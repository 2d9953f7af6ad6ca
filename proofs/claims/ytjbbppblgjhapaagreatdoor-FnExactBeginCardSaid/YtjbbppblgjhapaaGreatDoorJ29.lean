import Derived.Test.YtjbbppblgjhapaaGreatDoorJ26
set_option maxRecDepth 100000
set_option maxHeartbeats 1000000
namespace Go.Proofs.YtjbbppblgjhapaaGreatDoor
open Go.Deep Go.Proofs.Tryz Go.RowKit
variable{a:Int}{N b g k lo o:Nat}{n:Nd}{α:Type}{v:Value}{w w':World}
theorem Be{w1:World} (h:Below N w w1) (hn:N<=(w1:Nat)) (o:Obj):Below N w (w1.alloc o):=h.alloc hn o
theorem Ah.dropAt{off:Nat} {at1:Nat->Nat->α->Prop} {xs:List α} (h:Ah lo w (some ⟨b,off,none⟩) k at1 xs) (i:Nat):Ah lo w (some ⟨b,off+i*k,none⟩) k at1 (xs.drop i):=by intro j x hx;rw[List.getElem?_drop]at hx;obtain⟨b',off',e,hl,hs,ha⟩:=h (i+j) x hx;simp only[Option.some.injEq,Addr.mk.injEq,and_true]at e;obtain⟨rfl,rfl⟩:=e;refine⟨b,off+i*k,rfl,hl,hs,?_⟩;rw[Nat.add_assoc,←Nat.add_mul];exact ha
def Su (w:World) (b o f:Nat) (x y:Int):Prop:=∃g,w.cell? (b,o)=some (.func (.func f) #[] #[])/\w.cell? (b,o+1)=some (.slice (some ⟨g,0,none⟩) 2 2)/\g<(w:Nat)/\w.cell? ⟨g,0,none⟩=some (x:Value)/\w.cell? ⟨g,1,none⟩=some (y:Value)
theorem Su.l{f:Nat} {x y:Int} (h:Su w b o f x y) (hb:b<(w:Nat)) (hw:Below w w w'):Su w' b o f x y:=by obtain⟨g,h1,h2,h3,h4,h5⟩:=h;exact⟨g,(hw.cell (p:=(b,o)) hb).trans h1,(hw.cell (p:=(b,o+1)) hb).trans h2,yF h3 hw.size,(hw.cell (p:=(g,0)) h3).trans h4,(hw.cell (p:=(g,1)) h3).trans h5⟩
structure Ro (w:World) (g:Nat):Prop where
 lt:g<(w:Nat)
 p0:Su w g 0 111 42 42
 p1:Su w g 2 112 18 20
 p2:Su w g 4 112 18 21
 p3:Su w g 6 113 4 18
 p4:Su w g 8 114 4 15
theorem Ro.l (h:Ro w g) (hw:Below w w w'):Ro w' g:=
 ⟨yF h.lt hw.size,h.p0.l h.lt hw,h.p1.l h.lt hw,h.p2.l h.lt hw,h.p3.l h.lt hw,h.p4.l h.lt hw⟩
theorem J6 (f:Fn) (ao:Option Addr) (n c:Nat) (w:World) :
  Kw 110 #[.func f #[] #[],.slice ao n c] w (.agg #[.func f #[] #[],.slice ao n c]):=by
 unfold Kw;go_in;go_wp2_with fail;refine bodyPost_ret (by simp[results,results110,go_sem]) rfl ⟨rfl,?_⟩;repeat (first|exact yA _ _|refine Below.alloc ?_ (by simp;try omega) _|refine yP ?_ (by simp;try omega) _)
theorem A17 (w:World):Calls prog 40 #[] w fun e w'=>∃g,e=.returned (.slice (some ⟨g,0,none⟩) 5 5)/\Ro w' g/\(w:Nat)<=g/\Below w w w':=by
 go_in;go_wp2_with fail;refine(J6 _ _ _ _ _).mono ?_;rintro e w1 ⟨rfl,hw1⟩;have X0:=(Blk.new w #[(42:Int),(42:Int)] 3).l hw1;have B0:=(Be (yA (w:Nat) w) (yB _) (.cells #[(42:Int),(42:Int)] 3)).trans (hw1.mono (by simp));clear hw1;go_wp2_with fail;refine(J6 _ _ _ _ _).mono ?_;rintro e w2 ⟨rfl,hw2⟩;have X1:=(Blk.new w1 #[(18:Int),(20:Int)] 3).l hw2;have B1:=(Be (yA (w1:Nat) w1) (yB _) (.cells #[(18:Int),(20:Int)] 3)).trans (hw2.mono (by simp));replace X0:=X0.l B1;clear hw2;go_wp2_with fail;refine(J6 _ _ _ _ _).mono ?_;rintro e w3 ⟨rfl,hw3⟩;have X2:=(Blk.new w2 #[(18:Int),(21:Int)] 3).l hw3;have B2:=(Be (yA (w2:Nat) w2) (yB _) (.cells #[(18:Int),(21:Int)] 3)).trans (hw3.mono (by simp));replace X0:=X0.l B2;replace X1:=X1.l B2;clear hw3;go_wp2_with fail;refine(J6 _ _ _ _ _).mono ?_;rintro e w4 ⟨rfl,hw4⟩;have X3:=(Blk.new w3 #[(4:Int),(18:Int)] 3).l hw4;have B3:=(Be (yA (w3:Nat) w3) (yB _) (.cells #[(4:Int),(18:Int)] 3)).trans (hw4.mono (by simp));replace X0:=X0.l B3;replace X1:=X1.l B3;replace X2:=X2.l B3;clear hw4;go_wp2_with fail;refine(J6 _ _ _ _ _).mono ?_;rintro e w5 ⟨rfl,hw5⟩;have X4:=(Blk.new w4 #[(4:Int),(15:Int)] 3).l hw5;have B4:=(Be (yA (w4:Nat) w4) (yB _) (.cells #[(4:Int),(15:Int)] 3)).trans (hw5.mono (by simp));replace X0:=X0.l B4;replace X1:=X1.l B4;replace X2:=X2.l B4;replace X3:=X3.l B4;clear hw5;go_wp2;go_ret;have hz1:=B1.size;have hz2:=B2.size;have hz3:=B3.size;have hz4:=B4.size;have hz0:=B0.size;have BB:=(((B0.trans (B1.mono hz0)).trans (B2.mono (by omega))).trans (B3.mono (by omega))).trans (B4.mono (by omega));have hbn:∀o,Below w5 w5 (w5.alloc o):=fun o=>Be (yA _ _) (yB _) o;have G:=Blk.new w5 #[.func (.func 111) #[] #[],.slice (w:Nat) 2 2,.func (.func 112) #[] #[],.slice (w1:Nat) 2 2,.func (.func 112) #[] #[],.slice (w2:Nat) 2 2,.func (.func 113) #[] #[],.slice (w3:Nat) 2 2,.func (.func 114) #[] #[],.slice (w4:Nat) 2 2] 183;have gc:=G.cell;refine⟨_,rfl,⟨G.lt,?_,?_,?_,?_,?_⟩,by omega,BB.trans ((hbn _).mono (by omega))⟩
 ·exact⟨(w:Nat),(gc 0).trans rfl,(gc 1).trans rfl,(X0.l (hbn _)).lt,((X0.l (hbn _)).cell 0).trans rfl,((X0.l (hbn _)).cell 1).trans rfl⟩
 ·exact⟨(w1:Nat),(gc 2).trans rfl,(gc 3).trans rfl,(X1.l (hbn _)).lt,((X1.l (hbn _)).cell 0).trans rfl,((X1.l (hbn _)).cell 1).trans rfl⟩
 ·exact⟨(w2:Nat),(gc 4).trans rfl,(gc 5).trans rfl,(X2.l (hbn _)).lt,((X2.l (hbn _)).cell 0).trans rfl,((X2.l (hbn _)).cell 1).trans rfl⟩
 ·exact⟨(w3:Nat),(gc 6).trans rfl,(gc 7).trans rfl,(X3.l (hbn _)).lt,((X3.l (hbn _)).cell 0).trans rfl,((X3.l (hbn _)).cell 1).trans rfl⟩
 ·exact⟨(w4:Nat),(gc 8).trans rfl,(gc 9).trans rfl,(X4.l (hbn _)).lt,((X4.l (hbn _)).cell 0).trans rfl,((X4.l (hbn _)).cell 1).trans rfl⟩
def stands (x y:Int):List Nd->Bool
 | n::m::_=>n.op==x&&m.op==y
 | _=>false
theorem Av (hb:b<(w:Nat)) (h:w.cell? (b,o)=some v) (o1 o2:Obj):((w.alloc o1).alloc o2).cell? (b,o)=some v:=
 (Below.cell (p:=(b,o)) (((yA (w:Nat) w).alloc (yB _) o1).alloc (by simp) o2) hb).trans h
theorem A1i (f:Fn) (g:Nat) (x y:Int) (io co:Option Addr) (ic m cc:Nat) (c:Int) (l:List Nd) (w:World) (hl:l.length<=1048576) (hg:g<(w:Nat)) (hx:w.cell? (g,0)=some (x:Value)) (hy:w.cell? (g,1)=some (y:Value)) (hin:Ck 0 w io l) :
  Kw 115 #[.agg #[.func f #[] #[],.slice g 2 2],.agg #[.slice io l.length ic,.slice co m cc,c]] w (.bool (stands x y l)):=by
 have hb2:∀o1 o2,Below w w ((w.alloc o1).alloc o2):=fun o1 o2=>((yA _ _).alloc (yB _) o1).alloc (by simp) o2
 match l with
 | []=>
  clear hx hy hin hg;dsimp only[List.length_nil]at *;unfold Kw;go_in;go_wp2;go_ret;exact⟨rfl,hb2 _ _⟩
 | [n]=>
  clear hx hy hin hg;dsimp only[List.length_nil,List.length_cons]at *;unfold Kw;go_in;go_wp2;go_ret;exact⟨rfl,hb2 _ _⟩
 | n::k::r=>
  obtain⟨b,off,rfl,_,hbl,q0,_⟩:=hin 0 n rfl;obtain⟨b',off',e',_,hbl',r0,_⟩:=hin 1 k rfl;simp only[Option.some.injEq,Addr.mk.injEq,and_true]at e';obtain⟨rfl,rfl⟩:=e';simp only[Nat.zero_mul,Nat.add_zero,Nat.one_mul]at q0 r0;replace q0:=Av hbl q0;replace r0:=Av hbl r0;replace hx:=Av hg hx;replace hy:=Av hg hy;have hz3:2<=(n::k::r).length:=by simp
  generalize (n::k::r).length=z at *;have hz2:¬(z:Int)<2:=by omega
  have k0:(0:Int)<z:=by omega
  have k1:(1:Int)<z:=by omega
  have HS:Hid (stands x y (n::k::r)=(n.op==x&&k.op==y)):=rfl;generalize stands x y (n::k::r)=R at *;obtain⟨n0,n1,n2,n3,n4⟩:=n;obtain⟨m0,m1,m2,m3,m4⟩:=k;dsimp only at *;clear hin hl;by_cases h0:n0=x
  ·have g0:(n0 !=x)=false:=by simpa using h0
   have HS0:Hid (n0==x):=by simpa[Hid]using h0
   clear h0;by_cases h1:m0=y
   ·have g1:(m0 !=y)=false:=by simpa using h1
    have HS1:Hid (m0==y):=by simpa[Hid]using h1
    clear h1;unfold Kw;go_in;go_wp2_with fail;refine wp_loop_rounds 3 ?_;rw[rounds_succ];go_wp2_with fail;rw[rounds_succ];go_wp2_with fail;rw[rounds_succ];go_wp2;go_ret;exact⟨Ab (by rw[HS.out,HS0.out,HS1.out];rfl),hb2 _ _⟩
   ·have g1:(m0 !=y)=true:=by simpa using h1
    have HS1:Hid ((m0==y)=false):=by simpa[Hid]using h1
    clear h1;unfold Kw;go_in;go_wp2_with fail;refine wp_loop_rounds 2 ?_;rw[rounds_succ];go_wp2_with fail;rw[rounds_succ];go_wp2;go_ret;exact⟨Ab (by rw[HS.out,HS1.out];simp),hb2 _ _⟩
  ·have g0:(n0 !=x)=true:=by simpa using h0
   have HS0:Hid ((n0==x)=false):=by simpa[Hid]using h0
   clear h0;unfold Kw;go_in;go_wp2_with fail;refine wp_loop_rounds 1 ?_;rw[rounds_succ];go_wp2;go_ret;exact⟨Ab (by rw[HS.out,HS0.out];simp),hb2 _ _⟩
theorem A8k {l:List Nd} (h:l[k]?=some n):Bi a k (l.drop k)=if n.op=42/\n.a=a+k then Bi a (k+1) (l.drop (k+1))+1 else 0:=by rw[Ao h];rfl
theorem Xr (io co:Option Addr) (ic m cc:Nat) (c:Int) (l:List Nd) (n0:Nd) (w:World) (hl:l.length<=1048576) (hin:Ck 0 w io l) (h0:l[0]?=some n0) (hop:n0.op=42) (hd:∀n∈l,n.op=42->(0<=n.a/\n.a<=250)/\n.b=0/\n.c=0/\n.d=0) :
  Kw 111 #[.agg #[.slice io l.length ic,.slice co m cc,c]] w (.tuple #[Qd.val ⟨46,n0.a,Bi n0.a 0 l,0,0,0,0⟩,.bool (decide (1<Bi n0.a 0 l))]):=by
 have HS:Hid (∀(k:Nat) n,l[k]?=some n->Bi n0.a k (l.drop k)=if n.op=42/\n.a=n0.a+k then Bi n0.a (k+1) (l.drop (k+1))+1 else 0):=fun k n hn=>A8k hn;obtain⟨D,hD⟩:∃D,D=Bi n0.a 0 l:=⟨_,rfl⟩;have hD1:Bi n0.a 1 (l.drop 1)+1=D:=by have:=HS.out 0 n0 h0;rw[if_pos ⟨hop,by simp⟩]at this;rw[hD];exact this.symm
 have HDL:Hid (D<=l.length):=by rw[hD];exact Nr _ _ _
 have HD:Hid _:=hD;rw[←hD];clear hD;have hlt:=(yD.1 h0).1;obtain⟨⟨ha1,ha2⟩,_⟩:=hd n0 (yH h0) hop;have HDR:Hid _:=hd;obtain⟨b,off,rfl,_,hbl,q0,q1,q2,q3,q4⟩:=hin 0 n0 h0;simp only[Nat.zero_mul,Nat.add_zero]at q0 q1 q2 q3 q4;replace q1:=Av hbl q1;have hb2:∀o1 o2,Below w w ((w.alloc o1).alloc o2):=fun o1 o2=>((yA _ _).alloc (yB _) o1).alloc (by simp) o2;have X0:=(Blk.new w #[.slice (some ⟨b,off,none⟩) l.length ic,.slice co m cc,c] 93).alloc (.cells #[(),(),(),(),(),(),()] 79);have Y0:=Blk.new (w.alloc (.cells #[.slice (some ⟨b,off,none⟩) l.length ic,.slice co m cc,c] 93)) #[(),(),(),(),(),(),()] 79;rw[nblk_alloc]at Y0;obtain⟨z0,A,z2,z3,z4⟩:=n0;dsimp only at *;clear hd hop q0 q2 q3 q4 h0;have k0:(0:Int)<l.length:=by omega
 unfold Kw;go_in;go_wp2;go_loopw [5] (fun y wr=>∃k:Nat,1<=k/\k<=l.length/\y=k/\Hid (Bi A k (l.drop k)+k=D)/\Below w w wr/\Blk wr (w:Nat) #[.slice (some ⟨b,off,none⟩) l.length ic,.slice co m cc,c] 93/\Blk wr ((w:Nat)+1) #[(),(),(),(),(),(),()] 79) (fun y _=>l.length-(intOf y).toNat);case atStart=>exact⟨1,by omega,by omega,rfl,hD1,hb2 _ _,X0,Y0⟩
 case round=>
  obtain⟨k,hk1,hk,rfl,HQ,hb,X1,Y1⟩:=hrel;clear X0 Y0 q1 hD1;have x1:=X1.cell;by_cases hlt2:k<l.length
  ·obtain⟨n,hn⟩:=A8 hlt2;obtain⟨b',off',e',_,hbl',r0,r1,r2,r3,r4⟩:=hin.l (A7.o hb) k n hn;simp only[Option.some.injEq,Addr.mk.injEq,and_true]at e';obtain⟨rfl,rfl⟩:=e';have HE:=HS.out k n hn;have HN:=HDR.out n (yH hn);have g0:(k:Int)<l.length:=by omega
   obtain⟨n0',n1,n2,n3,n4⟩:=n;dsimp only at *;by_cases hc:n0'=42/\n1=A+k
   ·have HQ1:Hid (Bi A (k+1) (l.drop (k+1))+(k+1)=D):=by have h1:=HQ.out;rw[HE,if_pos hc]at h1;show _=_;omega
    obtain⟨rfl,rfl⟩:=hc;obtain⟨_,rfl,rfl,rfl⟩:=HN rfl;clear HQ HE HS HN HDR hn;go_wp2;go_roundw;case rel=>exact⟨k+1,by omega,by omega,by go_num,HQ1.out,hb,X1,Y1⟩
    case measure=>simp[intOf];omega
   ·have HQ1:Hid (k=D):=by have h1:=HQ.out;rw[HE,if_neg hc]at h1;show _=_;omega
    have y1:=Y1.cell;have yf:=Y1.frozen;by_cases h42:n0'=42
    ·obtain⟨_,rfl,rfl,rfl⟩:=HN h42;have ga:(n1==A+(k:Int))=false:=by have:¬n1=A+(k:Int):=fun h=>hc ⟨h42,h⟩;simpa using this
     subst h42;clear HQ HE HS HN HDR hn hc;go_wp2_with fail;refine bodyPost_ret (v:=.tuple #[.agg #[(46:Int),A,k,(),(),(),()],.bool (decide (1<(k:Int)))]) ?_ rfl ⟨?_,?_⟩
     ·simp[results,results111,go_sem,y1]
     ·obtain rfl:=HQ1.out;have:decide (1<(k:Int))=decide (1<k):=by rw[decide_eq_decide];omega
      rw[this];rfl
     ·iterate 7 (refine yP ?_ (by simp;try omega) _)
      exact hb
    ·have go:(n0'==42)=false:=by simpa using h42
     clear HQ HE HS HN HDR hn hc h42;go_wp2_with fail;refine bodyPost_ret (v:=.tuple #[.agg #[(46:Int),A,k,(),(),(),()],.bool (decide (1<(k:Int)))]) ?_ rfl ⟨?_,?_⟩
     ·simp[results,results111,go_sem,y1]
     ·obtain rfl:=HQ1.out;have:decide (1<(k:Int))=decide (1<k):=by rw[decide_eq_decide];omega
      rw[this];rfl
     ·iterate 7 (refine yP ?_ (by simp;try omega) _)
      exact hb
  ·have k0:¬(k:Int)<l.length:=by omega
   have HQ1:Hid (k=D):=by have h1:=HQ.out;rw[yQ (by omega)]at h1;simp only[Bi]at h1;show _=_;omega
   have y1:=Y1.cell;have yf:=Y1.frozen;clear HQ HS HDR hlt2;go_wp2_with fail;refine bodyPost_ret (v:=.tuple #[.agg #[(46:Int),A,k,(),(),(),()],.bool (decide (1<(k:Int)))]) ?_ rfl ⟨?_,?_⟩
   ·simp[results,results111,go_sem,y1]
   ·obtain rfl:=HQ1.out;have:decide (1<(k:Int))=decide (1<k):=by rw[decide_eq_decide];omega
    rw[this];rfl
   ·iterate 7 (refine yP ?_ (by simp;try omega) _)
    exact hb
theorem Nt (x r:Int) (hx1 : -9223372036854775808<=x) (hx2:x<=9223372036854775807) (w:World) :
  Kw 200 #[x,r] w (.bool (Bz x==r)):=by
 unfold Kw;go_in;go_wp2_with fail;refine(Mg x 0 hx1 hx2 _).mono ?_;rintro e w1 ⟨rfl,hw1⟩;go_wp2;go_ret;exact⟨rfl,hw1⟩
theorem Lj (x r:Int) (hx1 : -9223372036854775808<=x) (hx2:x<=9223372036854775807) (w:World) :
  Kw 199 #[x,r] w (.bool (decide (x<0)&&(Bz x==r))):=by
 unfold Kw;go_in;go_wp2_with fail;refine(Sk x 0 _).mono ?_;rintro e w1 ⟨rfl,hw1⟩;by_cases h:x<0
 ·go_wp2_with fail;refine(Nt x r hx1 hx2 _).mono ?_;rintro e w2 ⟨rfl,hw2⟩;go_wp2;go_ret;exact⟨Ab (by simp[h]),hw1.trans (hw2.mono hw1.size)⟩
 ·go_wp2;go_ret;exact⟨Ab (by rw[decide_eq_false (by omega)];rfl),hw1⟩
end Go.Proofs.YtjbbppblgjhapaaGreatDoor
