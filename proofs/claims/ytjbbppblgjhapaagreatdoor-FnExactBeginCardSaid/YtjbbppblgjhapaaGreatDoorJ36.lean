import Derived.Test.YtjbbppblgjhapaaGreatDoorJ35
set_option maxRecDepth 100000
set_option maxHeartbeats 4000000
namespace Go.Proofs.YtjbbppblgjhapaaGreatDoor
open Go.Deep Go.Proofs.Tryz Go.RowKit
variable{L:List Nat}{vs:List Value}{b c g i j k lo m n o:Nat}{α:Type}{t:TypeId}{v:Value}{w w' w'':World}
attribute [local go_sem] Ac
theorem A5d (w:World):Kw 65 #[.agg #[(),nS,nS,ByteArray.empty,ByteArray.empty,(),()],.agg #[(),nS,nS,ByteArray.empty,ByteArray.empty,(),()]] w (true):=by have hb2:∀o1 o2,Below w w ((w.alloc o1).alloc o2):=fun o1 o2=>((yA _ _).alloc (yB _) o1).alloc (by simp) o2;unfold Kw;go_in;go_wp2_with fail;refine(A5b none none 0 0 _).mono ?_;rintro e w1 ⟨rfl,rfl⟩;go_wp2_with fail;refine(Xj none none 0 0 _).mono ?_;rintro e w1 ⟨rfl,rfl⟩;go_wp2;go_ret;exact⟨rfl,hb2 _ _⟩
theorem A2k (ao bo:Option Addr) (c d:Nat) (w:World) :
  Calls prog 62 #[.slice ao 0 c,.slice bo 0 d] w fun e w'=>e=.returned (true)/\w'=w:=by
 go_in;go_wp2;go_loop [5] (fun i=>i=()) (fun _=>0);case atStart=>rfl
 case round=> obtain rfl:=hrel;go_wp2;go_ret;exact⟨rfl,rfl⟩
theorem A2m (ao bo:Option Addr) (c d:Nat) (t:Option Tk) (w:World) (ht:Aa2 t) (h1:Tn 0 w ao t) (h2:Tn 0 w bo t) :
  Kw 62 #[.slice ao (tkN t) c,.slice bo (tkN t) d] w (true):=by
 cases t with
 | none=>exact(A2k ao bo c d w).mono fun e w' ⟨h,hw⟩=>⟨h,hw▸yA _ _⟩
 | some t=>
  obtain⟨b1,fc1,g1,ro1,rc1,rfl,k1⟩:=h1;obtain⟨b2,fc2,g2,ro2,rc2,rfl,k2⟩:=h2;exact A2l b1 b2 c d t g1 g2 fc1 fc2 ro1 ro2 rc1 rc2 w ht.1 ht.2.1 ht.2.2 k1 k2
theorem Xi (pace:Int) (co do_ to_ uo:Option Addr) (cc dc tc uc:Nat) (cs:List (Int×Int)) (t:Option Tk) (w:World) (hm:cs.length<=1048576) (ht:Aa2 t) (h1:Hz 0 w co cs) (h2:Hz 0 w do_ cs) (k1:Tn 0 w to_ t) (k2:Tn 0 w uo t) :
  Kw 26 #[.agg (mcs pace co cs.length cc to_ (tkN t) tc),.agg (mcs pace do_ cs.length dc uo (tkN t) uc)] w (true):=by
 have HC:Hid _:=fun W hb=>Zu co do_ cc dc cs W hm (h1.l (A7.o hb)) (h2.l (A7.o hb));have HT:Hid _:=fun W hb=>A2m to_ uo tc uc t W ht (k1.l (A7.o hb)) (k2.l (A7.o hb));clear h1 h2 k1 k2 hm ht;unfold mcs;generalize cs.length=n at *;generalize tkN t=m at *;have hb2:∀o1 o2,Below w w ((w.alloc o1).alloc o2):=fun o1 o2=>((yA _ _).alloc (yB _) o1).alloc (by simp) o2;have X0:=(Blk.new w #[pace,(),(),(),(),nS,.slice co n cc,(),(),.slice to_ m tc,(),false,nS,(),nS,ByteArray.empty,false,(),(),(),(),nS,nS,ByteArray.empty,ByteArray.empty,(),()] 58).alloc (.cells #[pace,(),(),(),(),nS,.slice do_ n dc,(),(),.slice uo m uc,(),false,nS,(),nS,ByteArray.empty,false,(),(),(),(),nS,nS,ByteArray.empty,ByteArray.empty,(),()] 58);have Y0:=Blk.new (w.alloc (.cells #[pace,(),(),(),(),nS,.slice co n cc,(),(),.slice to_ m tc,(),false,nS,(),nS,ByteArray.empty,false,(),(),(),(),nS,nS,ByteArray.empty,ByteArray.empty,(),()] 58)) #[pace,(),(),(),(),nS,.slice do_ n dc,(),(),.slice uo m uc,(),false,nS,(),nS,ByteArray.empty,false,(),(),(),(),nS,nS,ByteArray.empty,ByteArray.empty,(),()] 58;rw[nblk_alloc]at Y0;have B0:=hb2 (.cells #[pace,(),(),(),(),nS,.slice co n cc,(),(),.slice to_ m tc,(),false,nS,(),nS,ByteArray.empty,false,(),(),(),(),nS,nS,ByteArray.empty,ByteArray.empty,(),()] 58) (.cells #[pace,(),(),(),(),nS,.slice do_ n dc,(),(),.slice uo m uc,(),false,nS,(),nS,ByteArray.empty,false,(),(),(),(),nS,nS,ByteArray.empty,ByteArray.empty,(),()] 58);clear hb2;unfold Kw;go_in;have x1:=X0.cell;have y1:=Y0.cell;go_wp2_with fail;refine(A2j none none 0 0 _).mono ?_;rintro e w1 ⟨rfl,rfl⟩;go_wp2_with fail;refine(HC.out _ B0).mono ?_;rintro e w1 ⟨rfl,hw1⟩;have X1:=X0.l hw1;have Y1:=Y0.l hw1;have B1:=B0.trans (hw1.mono B0.size);clear X0 Y0 hw1 x1 y1;have x1:=X1.cell;have y1:=Y1.cell;go_wp2_with fail;refine(HT.out _ B1).mono ?_;rintro e w2 ⟨rfl,hw2⟩;have X2:=X1.l hw2;have Y2:=Y1.l hw2;have B2:=B1.trans (hw2.mono B1.size);clear X1 Y1 hw2 x1 y1;have x1:=X2.cell;have y1:=Y2.cell;go_wp2_with fail;refine(Jh none none 0 0 _).mono ?_;rintro e w3 ⟨rfl,rfl⟩;go_wp2_with fail;refine(A77 0 ByteArray.empty _).mono ?_;rintro e w3 ⟨rfl,hw3⟩;have X3:=X2.l hw3;have Y3:=Y2.l hw3;have B3:=B2.trans (hw3.mono B2.size);clear X2 Y2 hw3 x1 y1;have x1:=X3.cell;have y1:=Y3.cell;go_wp2_with fail;refine(A5d _).mono ?_;rintro e w4 ⟨rfl,hw4⟩;have B4:=B3.trans (hw4.mono B3.size);clear x1 y1;go_wp2;go_ret;exact⟨rfl,B4⟩
structure Chg (L:List Nat) (w w':World):Prop where
 os:w'.os=w.os
 tape:w'.tape=w.tape
 output:w'.output=w.output
 size:(w:Nat)<=(w':Nat)
 block:∀b,b∉L->b<(w:Nat)->w'.heap[b]?=w.heap[b]?
theorem Chg.refl (L:List Nat) (w:World):Chg L w w:=⟨rfl,rfl,rfl,yB _,fun _ _ _=>rfl⟩
theorem Chg.set (h:Chg L w w') (hg:g∈L) (i:Nat) (v:Value):Chg L w (w'.setCell (g,i) v):=
 ⟨h.os,h.tape,h.output,by simpa using h.size,fun b hb hl=>by rw[yL _ _ _ _ (fun (e:b=g)=>hb (e▸hg)),h.block b hb hl]⟩
theorem Chg.below (h:Chg L w w') (hb:Below w' w' w''):Chg L w w'':=
 ⟨hb.os.trans h.os,hb.tape.trans h.tape,hb.output.trans h.output,yI h.size hb.size,fun b hne hl=>(hb.block b (yF hl h.size)).trans (h.block b hne hl)⟩
theorem Chg.trans{M:List Nat} (h:Chg L w w') (k:Chg M w' w'') (hs:∀b∈M,b∈L):Chg L w w'':=
 ⟨k.os.trans h.os,k.tape.trans h.tape,k.output.trans h.output,yI h.size k.size,fun b hb hl=>(k.block b (fun e=>hb (hs b e)) (yF hl h.size)).trans (h.block b hb hl)⟩
theorem Chg.cell (h:Chg L w w') (hb:b∉L) (hc:w.cell? (b,o)=some v):w'.cell? (b,o)=some v:=
 (yX (w:=w) (a:=(b,o)) (h.block b hb (World.block_lt_of_cell? _ _ hc))).trans hc
theorem Chg.own (h:Chg L w w') (hb:b∉L) (ho:Own w b t n):Own w' b t n:=ho.of_block (h.block b hb ho.lt)
theorem Ae.chg (c:Ae w b o vs) (h:Chg L w w') (hb:b∉L):Ae w' b o vs:=fun i v hv=>h.cell hb (c i v hv)
theorem Ae.nil (w:World) (b o:Nat):Ae w b o []:=fun i v h=>by simp at h
theorem Ae.add (c:Ae w b o vs) (h:w.cell? (b,o+vs.length)=some v):Ae w b o (vs++[v]):=fun i u hu=>by
 by_cases hi:i<vs.length
 ·exact c i u (by rwa [List.getElem?_append_left hi]at hu)
 ·rw[List.getElem?_append_right (by omega)]at hu;obtain⟨hk,rfl⟩:=yD.1 hu;simp at hk;obtain rfl:i=vs.length:=by omega
  simpa using h
theorem Ae.put (c:Ae w b 0 vs) (own:Own w b t m) (hi:vs.length=i) (hm:i<m) (v:Value):Ae (w.setCell (b,i) v) b 0 (vs++[v]):=by
 subst hi;refine Ae.add (fun i u hu=>?_) ?_
 ·have hi:=(yD.1 hu).1;rw[A9 v (by omega)];exact c i u hu
 ·rw[yM];obtain⟨u,hu⟩:=own.cell hm;exact World.cell?_setCell_same _ _ _ hu
theorem Fp {l:List α} (h:l.length=n) (x:α):(l++[x]).length=n+1:=by simp[h]
theorem Le {f:α->List Value} (hf:∀x,(f x).length=m) (xs:List α):(xs.flatMap f).length=xs.length*m:=by
 induction xs with
 | nil=>simp
 | cons y ys ih=>rw[List.flatMap_cons,List.length_append,ih,hf,List.length_cons,Nat.succ_mul];omega
theorem Js {f:α->List Value} (hf:∀x,(f x).length=m) {xs:List α} {x:α} (hx:xs[i]?=some x) (hv:(f x)[c]?=some v):(xs.flatMap f)[i*m+c]?=some v:=by
 induction xs generalizing i with
 | nil=>simp at hx
 | cons y ys ih=>
  rw[List.flatMap_cons];cases i with
  | zero=>
   simp at hx;subst hx;have hc:=(yD.1 hv).1;rw[Nat.zero_mul,yM,List.getElem?_append_left hc];exact hv
  | succ i=>
   rw[List.getElem?_append_right (by rw[hf,Nat.succ_mul];omega),hf];rw[show (i+1)*m+c-m=i*m+c by rw[Nat.succ_mul];omega];exact ih (by simpa using hx)
def mV (x:Int):Vd:=⟨x,x+1,floatOfInt .f64 (x+1+1),mt (x+1+1+1).toNat,x+1+1+1+1⟩
def mVs (k n:Nat):List Vd:=(List.range n).map fun i=>mV ((k+i*5:Nat):Int)
theorem A0p (k n:Nat):(mVs k n).length=n:=by simp[mVs]
theorem Aeg (h:j<n):(mVs k n)[j]?=some (mV ((k+j*5:Nat):Int)):=by simp[mVs,h]
theorem Aba (k n:Nat):mVs k (n+1)=mVs k n++[mV ((k+n*5:Nat):Int)]:=by simp[mVs,List.range_succ]
theorem Nw {vs:List Vd} (h:Ae w g 0 (vs.flatMap Vd.vals)) (hl:lo<=g) (hg:vs≠[]->g<(w:Nat)):Ba lo w g vs:=fun i x hx=>by
 refine⟨g,0,rfl,hl,hg (by rintro rfl;simp at hx),?_⟩;have q:∀c v,(Vd.vals x)[c]?=some v->w.cell? ⟨g,0+i*5+c,none⟩=some v:=fun c v hv=>by
  have:=h _ _ (Js (m:=5) (fun _=>rfl) hx hv)
  rwa [←Nat.add_assoc]at this
 exact⟨q 0 _ rfl,q 1 _ rfl,q 2 _ rfl,q 3 _ rfl,q 4 _ rfl⟩
theorem A0z (g n cap k m:Nat) (w:World) (hn:n<=1048576) (hk:k<=1125899906842624) (hm:n*5<=m) (own:Own w g 210 m) :
  Calls prog 71 #[.slice g n cap,k] w fun e w'=>e=.returned ((k+n*5:Nat):Int)/\Own w' g 210 m/\Ae w' g 0 ((mVs k n).flatMap Vd.vals)/\Chg [g] w w':=by
 go_in;go_wp2;go_loopw [1,5] (fun y x wr=>∃j q:Nat,j<=n/\x=j/\y=(q:Int)/\Hid (q=k+j*5)/\q<=1125899920000000/\Own wr g 210 m/\Hid (Ae wr g 0 ((mVs k j).flatMap Vd.vals))/\Chg [g] w wr) (fun _ x _=>n-(intOf x).toNat);case atStart=>exact⟨0,k,yE _,rfl,rfl,by show _=_;omega,by omega,own,Ae.nil _ _ _,Chg.refl _ _⟩
 case round=>
  obtain⟨j,q,hj,rfl,rfl,HQ,hqb,hown,HL,ho⟩:=hrel;by_cases hlt:j<n
  ·have hn2:j*5+5<=m:=by omega
   have hg:g∈[g]:=yT.2 rfl;have HN:Hid (q+5=k+(j+1)*5/\q+5<=1125899920000000):=by have:=HQ.out;exact⟨by omega,by omega⟩
   have HV:Hid ((mVs k (j+1)).flatMap Vd.vals=(mVs k j).flatMap Vd.vals++[.int .i64 q]++[.int .i64 (q+1)]++[.float .f64 (floatOfInt .f64 (q+1+1))]++[.string (mt ((q:Int)+1+1+1).toNat)]++[.int .i64 (q+1+1+1+1)]):=by show _=_;rw[Aba,←HQ.out,List.flatMap_append];simp[Vd.vals,mV]
   have HZ:Hid (((mVs k j).flatMap Vd.vals).length=j*5):=by show _=_;rw[Le (m:=5) (fun _=>rfl),A0p]
   generalize (mVs k j).flatMap Vd.vals=L at *;obtain⟨v0,c0⟩:=hown.cell (i:=j*5) (by omega);obtain⟨v1,c1⟩:=hown.cell (i:=j*5+1) (by omega);obtain⟨v2,c2⟩:=hown.cell (i:=j*5+2) (by omega);have fz:=hown.frozen;go_wp2_with fail;refine(Em _ _ ?_ ?_).mono ?_
   ·omega
   ·omega
   rintro e w3 ⟨rfl,hw3⟩;have z0:=HZ.out;have R3:=((HL.out.put hown z0 (by omega) q).put (hown.set _ _) (Fp z0 _) (by omega) (q+1:Int)).put ((hown.set _ _).set _ _) (Fp (Fp z0 _) _) (by omega) (.float .f64 (floatOfInt .f64 (q+1+1)));have o3:=((hown.set (j*5) q).set (j*5+1) (q+1:Int)).set (j*5+2) (.float .f64 (floatOfInt .f64 (q+1+1)));have C3:=(((ho.set hg (j*5) q).set hg (j*5+1) (q+1:Int)).set hg (j*5+2) (.float .f64 (floatOfInt .f64 (q+1+1)))).below hw3;have R3w:=R3.keep (A7.o (lo:=0) hw3) (yE _) o3.lt;replace o3:=o3.l hw3;have HR:Hid _:=(R3w.put o3 (Fp (Fp (Fp z0 _) _) _) (by omega) (.string (mt ((q:Int)+1+1+1).toNat))).put (o3.set _ _) (Fp (Fp (Fp (Fp z0 _) _) _) _) (by omega) (q+1+1+1+1:Int);clear R3 R3w hw3 c0 c1 c2 fz ho hown HL HZ z0;obtain⟨v3,c3⟩:=o3.cell (i:=j*5+3) (by omega);obtain⟨v4,c4⟩:=o3.cell (i:=j*5+4) (by omega);have fz:=o3.frozen;go_wp2;go_roundw;case rel=>exact⟨j+1,q+5,by omega,by go_num,by congr 1<;>omega,HN.out.1,HN.out.2,(o3.set _ _).set _ _,by show Ae _ _ _ _;rw[HV.out];exact HR.out,(C3.set hg _ _).set hg _ _⟩
   case measure=>simp[intOf];omega
  ·go_wp2;go_ret;obtain rfl:j=n:=by omega
   exact⟨by rw[HQ.out];rfl,hown,HL.out,ho⟩
theorem Y5 (ao:Option Addr) (c:Nat) (k:Int) (w:World):Calls prog 68 #[.slice ao 0 c,k] w fun e w'=>e=.returned k/\w'=w:=by
 go_in;go_wp2;go_loop [1,5] (fun y i=>y=k/\i=()) (fun _ _=>0);case atStart=>exact⟨rfl,rfl⟩
 case round=> obtain⟨rfl,rfl⟩:=hrel;go_wp2;go_ret;exact⟨rfl,rfl⟩
theorem Vj (ao:Option Addr) (c:Nat) (k:Int) (w:World):Calls prog 222 #[.slice ao 0 c,k] w fun e w'=>e=.returned k/\w'=w:=by
 go_in;go_wp2;go_loop [1,5] (fun y i=>y=k/\i=()) (fun _ _=>0);case atStart=>exact⟨rfl,rfl⟩
 case round=> obtain⟨rfl,rfl⟩:=hrel;go_wp2;go_ret;exact⟨rfl,rfl⟩
theorem A0v (ao:Option Addr) (c:Nat) (k:Int) (w:World):Calls prog 146 #[.slice ao 0 c,k] w fun e w'=>e=.returned k/\w'=w:=by
 go_in;go_wp2;go_loop [1,5] (fun y i=>y=k/\i=()) (fun _ _=>0);case atStart=>exact⟨rfl,rfl⟩
 case round=> obtain⟨rfl,rfl⟩:=hrel;go_wp2;go_ret;exact⟨rfl,rfl⟩
theorem Ua (ao:Option Addr) (c:Nat) (k:Int) (w:World):Calls prog 67 #[.slice ao 0 c,k] w fun e w'=>e=.returned k/\w'=w:=by
 go_in;go_wp2;go_loop [1,5] (fun y i=>y=k/\i=()) (fun _ _=>0);case atStart=>exact⟨rfl,rfl⟩
 case round=> obtain⟨rfl,rfl⟩:=hrel;go_wp2;go_ret;exact⟨rfl,rfl⟩
theorem Ew (ao:Option Addr) (c:Nat) (k:Int) (w:World):Calls prog 71 #[.slice ao 0 c,k] w fun e w'=>e=.returned k/\w'=w:=by
 go_in;go_wp2;go_loop [1,5] (fun y i=>y=k/\i=()) (fun _ _=>0);case atStart=>exact⟨rfl,rfl⟩
 case round=> obtain⟨rfl,rfl⟩:=hrel;go_wp2;go_ret;exact⟨rfl,rfl⟩
theorem Y6 (ao:Option Addr) (c:Nat) (k:Int) (w:World):Calls prog 70 #[.slice ao 0 c,k] w fun e w'=>e=.returned k/\w'=w:=by
 go_in;go_wp2;go_loop [1,5] (fun y i=>y=k/\i=()) (fun _ _=>0);case atStart=>exact⟨rfl,rfl⟩
 case round=> obtain⟨rfl,rfl⟩:=hrel;go_wp2;go_ret;exact⟨rfl,rfl⟩
theorem Xl (ao:Option Addr) (c:Nat) (k:Int) (w:World):Calls prog 74 #[.slice ao 0 c,k] w fun e w'=>e=.returned k/\w'=w:=by
 go_in;go_wp2;go_loop [1,5] (fun y i=>y=k/\i=()) (fun _ _=>0);case atStart=>exact⟨rfl,rfl⟩
 case round=> obtain⟨rfl,rfl⟩:=hrel;go_wp2;go_ret;exact⟨rfl,rfl⟩
theorem V9 (ao:Option Addr) (c:Nat) (k:Int) (w:World):Calls prog 224 #[.slice ao 0 c,k] w fun e w'=>e=.returned k/\w'=w:=by
 go_in;go_wp2;go_loop [1,5] (fun y i=>y=k/\i=()) (fun _ _=>0);case atStart=>exact⟨rfl,rfl⟩
 case round=> obtain⟨rfl,rfl⟩:=hrel;go_wp2;go_ret;exact⟨rfl,rfl⟩
theorem A06 (ao:Option Addr) (c:Nat) (k:Int) (w:World):Calls prog 150 #[.slice ao 0 c,k] w fun e w'=>e=.returned k/\w'=w:=by
 go_in;go_wp2;go_loop [1,5] (fun y i=>y=k/\i=()) (fun _ _=>0);case atStart=>exact⟨rfl,rfl⟩
 case round=> obtain⟨rfl,rfl⟩:=hrel;go_wp2;go_ret;exact⟨rfl,rfl⟩
theorem U5 (ao:Option Addr) (c:Nat) (k:Int) (w:World):Calls prog 151 #[.slice ao 0 c,k] w fun e w'=>e=.returned k/\w'=w:=by
 go_in;go_wp2;go_loop [1,5] (fun y i=>y=k/\i=()) (fun _ _=>0);case atStart=>exact⟨rfl,rfl⟩
 case round=> obtain⟨rfl,rfl⟩:=hrel;go_wp2;go_ret;exact⟨rfl,rfl⟩
theorem Gh (ao:Option Addr) (c:Nat) (k:Int) (w:World):Calls prog 77 #[.slice ao 0 c,k] w fun e w'=>e=.returned k/\w'=w:=by
 go_in;go_wp2;go_loop [1,5] (fun y i=>y=k/\i=()) (fun _ _=>0);case atStart=>exact⟨rfl,rfl⟩
 case round=> obtain⟨rfl,rfl⟩:=hrel;go_wp2;go_ret;exact⟨rfl,rfl⟩
theorem Xm (ao:Option Addr) (c:Nat) (k:Int) (w:World):Calls prog 76 #[.slice ao 0 c,k] w fun e w'=>e=.returned k/\w'=w:=by
 go_in;go_wp2;go_loop [1,5] (fun y i=>y=k/\i=()) (fun _ _=>0);case atStart=>exact⟨rfl,rfl⟩
 case round=> obtain⟨rfl,rfl⟩:=hrel;go_wp2;go_ret;exact⟨rfl,rfl⟩
theorem A08 (ao:Option Addr) (n cap k:Nat) (w:World) (hn:n<=1048576) (hk:k<=1125899906842624) (hq:Ba 0 w ao (mVs k n)) :
  Kw 77 #[.slice ao n cap,k] w ((k+n*5:Nat):Int):=by
 unfold Kw;go_in;go_wp2;go_loopw [1,5] (fun y x wr=>∃j q:Nat,j<=n/\x=j/\y=(q:Int)/\Hid (q=k+j*5)/\q<=1125899920000000/\Below w w wr) (fun _ x _=>n-(intOf x).toNat);case atStart=>exact⟨0,k,yE _,rfl,rfl,by show _=_;omega,by omega,yA _ _⟩
 case round=>
  obtain⟨j,q,hj,rfl,rfl,HQ,hqb,hb⟩:=hrel;by_cases hlt:j<n
  ·obtain⟨b,off,rfl,_,hbl,p0,p1,p2,p3,p4⟩:=hq.l (A7.o hb) j _ (Aeg hlt);rw[←HQ.out]at p0 p1 p2 p3 p4;have HN:Hid (q+5=k+(j+1)*5/\q+5<=1125899920000000):=by have:=HQ.out;exact⟨by omega,by omega⟩
   dsimp only[mV]at p0 p1 p2 p3 p4;have fl:=Aao ((q:Int)+1+1);have HMT:Hid (∀W,Kw 117 #[((q:Int)+1+1+1:Int)] W (.string (mt ((q:Int)+1+1+1).toNat))):=fun W=>Em _ W (by omega) (by omega);clear HQ hq;generalize mt ((q:Int)+1+1+1).toNat=S3 at *;go_wp2_with fail;go_region_held3 (fun w'=>w'.cell? (b,off+j*5+3)=some (.string S3)) (go_keep)
    (first|(go_at_call 117;refine(HMT.out _).mono ?_;rintro e w1 ⟨rfl,hw1⟩;have d3:=(hw1.cell (p:=(b,off+j*5+3)) hbl).trans p3;have d4:=(hw1.cell (p:=(b,off+j*5+4)) hbl).trans p4))
   have B1:=hb.drew.trans (hw1.mono hb.size);go_wp2;go_roundw;case rel=>exact⟨j+1,q+5,by omega,by go_num,by congr 1<;>omega,HN.out.1,HN.out.2,B1⟩
   case measure=>simp[intOf];omega
  ·go_wp2;go_ret;obtain rfl:j=n:=by omega
   exact⟨by rw[HQ.out];rfl,hb⟩
def mCs (k n:Nat):List (Int×Int):=(List.range n).map fun i=>(((k+i*2:Nat):Int),((k+i*2:Nat):Int)+1)
def caV (c:Int×Int):List Value:=[.int .i64 c.1,.int .i64 c.2]
theorem Ad4 (k n:Nat):(mCs k n).length=n:=by simp[mCs]
theorem Aec (h:j<n):(mCs k n)[j]?=some (((k+j*2:Nat):Int),((k+j*2:Nat):Int)+1):=by simp[mCs,h]
theorem Ab8 (k n:Nat):mCs k (n+1)=mCs k n++[(((k+n*2:Nat):Int),((k+n*2:Nat):Int)+1)]:=by simp[mCs,List.range_succ]
theorem Aac {vs:List (Int×Int)} (h:Ae w g 0 (vs.flatMap caV)) (hl:lo<=g) (hg:vs≠[]->g<(w:Nat)):Hz lo w g vs:=fun i x hx=>by
 refine⟨g,0,rfl,hl,hg (by rintro rfl;simp at hx),?_⟩;have q:∀c v,(caV x)[c]?=some v->w.cell? ⟨g,0+i*2+c,none⟩=some v:=fun c v hv=>by
  have:=h _ _ (Js (m:=2) (fun _=>rfl) hx hv)
  rwa [←Nat.add_assoc]at this
 exact⟨q 0 _ rfl,q 1 _ rfl⟩
theorem A0q (g n cap k m:Nat) (w:World) (hn:n<=1048576) (hk:k<=1125899906842624) (hm:n*2<=m) (own:Own w g 217 m) :
  Calls prog 69 #[.slice g n cap,k] w fun e w'=>e=.returned ((k+n*2:Nat):Int)/\Ae w' g 0 ((mCs k n).flatMap caV)/\Chg [g] w w':=by
 go_in;go_wp2;go_loopw [1,5] (fun y x wr=>∃j q:Nat,j<=n/\x=j/\y=(q:Int)/\Hid (q=k+j*2)/\q<=1125899920000000/\Own wr g 217 m/\Hid (Ae wr g 0 ((mCs k j).flatMap caV))/\Chg [g] w wr) (fun _ x _=>n-(intOf x).toNat);case atStart=>exact⟨0,k,yE _,rfl,rfl,by show _=_;omega,by omega,own,Ae.nil _ _ _,Chg.refl _ _⟩
 case round=>
  obtain⟨j,q,hj,rfl,rfl,HQ,hqb,hown,HL,ho⟩:=hrel;by_cases hlt:j<n
  ·have hn2:j*2+2<=m:=by omega
   have hg:g∈[g]:=yT.2 rfl;have HN:Hid (q+2=k+(j+1)*2/\q+2<=1125899920000000):=by have:=HQ.out;exact⟨by omega,by omega⟩
   have HV:Hid ((mCs k (j+1)).flatMap caV=(mCs k j).flatMap caV++[.int .i64 q]++[.int .i64 (q+1)]):=by show _=_;rw[Ab8,←HQ.out,List.flatMap_append];simp[caV]
   have HZ:Hid (((mCs k j).flatMap caV).length=j*2):=by show _=_;rw[Le (m:=2) (fun _=>rfl),Ad4]
   have HR:Hid _:=(HL.out.put hown HZ.out (by omega) q).put (hown.set _ _) (Fp HZ.out _) (by omega) (q+1:Int);generalize (mCs k j).flatMap caV=L at *;obtain⟨v0,c0⟩:=hown.cell (i:=j*2) (by omega);obtain⟨v1,c1⟩:=hown.cell (i:=j*2+1) (by omega);have fz:=hown.frozen;go_wp2;go_roundw;case rel=>exact⟨j+1,q+2,by omega,by go_num,by congr 1<;>omega,HN.out.1,HN.out.2,(hown.set _ _).set _ _,by show Ae _ _ _ _;rw[HV.out];exact HR.out,(ho.set hg _ _).set hg _ _⟩
   case measure=>simp[intOf];omega
  ·go_wp2;go_ret;obtain rfl:j=n:=by omega
   exact⟨by rw[HQ.out];rfl,HL.out,ho⟩
theorem A05 (ao:Option Addr) (n cap k:Nat) (w:World) (hn:n<=1048576) (hk:k<=1125899906842624) (hq:Hz 0 w ao (mCs k n)) :
  Kw 75 #[.slice ao n cap,k] w ((k+n*2:Nat):Int):=by
 unfold Kw;go_in;go_wp2;go_loopw [1,5] (fun y x wr=>∃j q:Nat,j<=n/\x=j/\y=(q:Int)/\Hid (q=k+j*2)/\q<=1125899920000000/\Below w w wr) (fun _ x _=>n-(intOf x).toNat);case atStart=>exact⟨0,k,yE _,rfl,rfl,by show _=_;omega,by omega,yA _ _⟩
 case round=>
  obtain⟨j,q,hj,rfl,rfl,HQ,hqb,hb⟩:=hrel;by_cases hlt:j<n
  ·obtain⟨b,off,rfl,_,hbl,p0,p1⟩:=hq.l (A7.o hb) j _ (Aec hlt);rw[←HQ.out]at p0 p1;have HN:Hid (q+2=k+(j+1)*2/\q+2<=1125899920000000):=by have:=HQ.out;exact⟨by omega,by omega⟩
   dsimp only at p0 p1;clear HQ hq;go_wp2;go_roundw;case rel=>exact⟨j+1,q+2,by omega,by go_num,by congr 1<;>omega,HN.out.1,HN.out.2,hb⟩
   case measure=>simp[intOf];omega
  ·go_wp2;go_ret;obtain rfl:j=n:=by omega
   exact⟨by rw[HQ.out];rfl,hb⟩
end Go.Proofs.YtjbbppblgjhapaaGreatDoor
