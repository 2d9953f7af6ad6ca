import Derived.Test.YtjbbppblgjhapaaGreatDoorJ36
set_option maxRecDepth 100000
set_option maxHeartbeats 4000000
namespace Go.Proofs.YtjbbppblgjhapaaGreatDoor
open Go.Deep Go.Proofs.Tryz Go.RowKit
variable{L M:List Nat}{g k:Nat}{ro:Option Addr}{w w':World}
attribute [local go_sem] Ac
structure Rh where
 r:Rg
 io:Option Addr
 ic:Nat
abbrev Rh.vals (x:Rh):List Value:=x.r.cs x.io x.ic
def kl (r:Rg):Nat:=7+r.list.length*5
def kR (k:Nat):List Rg->Nat
 | []=>k
 | x::xs=>kR (k+kl x) xs
def m1 (q:Nat) (r:Rg):Rg:=⟨(q:Int),⟨((q:Int)+1),((q:Int)+1+1),floatOfInt .f64 ((q:Int)+1+1+1),mt ((q:Int)+1+1+1+1).toNat,((q:Int)+1+1+1+1+1)⟩,((q:Int)+1+1+1+1+1+1),mVs (q+7) r.list.length⟩
def mRs (k:Nat):List Rg->List Rg
 | []=>[]
 | x::xs=>m1 k x::mRs (k+kl x) xs
def mH (k:Nat):List Rh->List Rh
 | []=>[]
 | x::xs=>⟨m1 k x.r,x.io,x.ic⟩::mH (k+kl x.r) xs
theorem Aee (k:Nat) (xs:List Rh):(mH k xs).map (·.r)=mRs k (xs.map (·.r)):=by
 induction xs generalizing k with
 | nil=>rfl
 | cons x xs ih=>simp[mH,mRs,ih]
theorem A7c (k:Nat) (xs:List Rg) (x:Rg):kR k (xs++[x])=kR k xs+kl x:=by
 induction xs generalizing k with
 | nil=>rfl
 | cons y ys ih=>exact ih _
theorem Ad5 (k:Nat) (xs:List Rh) (x:Rh):mH k (xs++[x])=mH k xs++[⟨m1 (kR k (xs.map (·.r))) x.r,x.io,x.ic⟩]:=by
 induction xs generalizing k with
 | nil=>rfl
 | cons y ys ih=>simp[mH,kR,ih]
theorem Aed (k:Nat) (xs:List Rh):(mH k xs).length=xs.length:=by
 induction xs generalizing k with
 | nil=>rfl
 | cons y ys ih=>simp[mH,ih]
theorem A7e (k:Nat) (xs:List Rg):(mRs k xs).length=xs.length:=by
 induction xs generalizing k with
 | nil=>rfl
 | cons y ys ih=>simp[mRs,ih]
theorem Aef (k:Nat) (xs:List Rg) (x:Rg) (ys:List Rg):(mRs k (xs++x::ys))[xs.length]?=some (m1 (kR k xs) x):=by
 induction xs generalizing k with
 | nil=>rfl
 | cons y zs ih=>simpa[mRs,kR]using ih _
theorem Yw {xs:List Rg} (h:∀x∈xs,x.list.length<=1048576):kR k xs<=k+xs.length*5242887:=by
 induction xs generalizing k with
 | nil=>simp[kR]
 | cons y ys ih=>
  have h1:=h y (by simp);have h2:=ih (k:=k+kl y) (fun x hx=>h x (by simp[hx]));simp only[kR,List.length_cons];unfold kl at *;omega
theorem Ab9 {A:List Rh} (h:∀x∈A,x.r.list=[]):∀y∈mH k A,y.r.list=[]:=by
 induction A generalizing k with
 | nil=>intro y hy;simp[mH]at hy
 | cons x xs ih=>
  intro y hy;simp only[mH,List.mem_cons]at hy;rcases hy with rfl|hy
  ·simp[m1,h x (by simp),mVs]
  ·exact ih (fun z hz=>h z (by simp[hz])) y hy
theorem Adl {xs:List Rh} (h:Ae w g 0 (xs.flatMap Rh.vals)) (hg:g<(w:Nat)) (hv:∀x∈xs,Ba 0 w x.io x.r.list):Bp 0 w g (xs.map (·.r)):=fun i r hr=>by
 rw[List.getElem?_map]at hr;obtain⟨x,hx,rfl⟩:=Option.map_eq_some_iff.1 hr;refine⟨g,0,rfl,yE _,hg,x.io,x.ic,fun c v hc=>?_,hv x (yH hx)⟩;have:=h _ _ (Js (m:=8) (fun _=>rfl) hx hc)
 rwa [←Nat.add_assoc]at this
theorem Vo (g bl cap k m ml:Nat) (xs:List Rh) (w:World) (hn:xs.length<=1048576) (hk:k<=10000000) (hm:xs.length*8<=m) (hne:bl≠g) (own:Own w g 327 m) (h0:Ae w g 0 (xs.flatMap Rh.vals))
  (hz:∀x∈xs,x.r.list.length<=1048576) (hl:∀x∈xs,x.r.list=[]∨(x.io=some ⟨bl,0,none⟩/\x.r.list.length*5<=ml/\Own w bl 210 ml)) (hu:∀A x B,xs=A++x::B->x.r.list≠[]->∀y∈A,y.r.list=[]) :
  Calls prog 221 #[.slice (some ⟨g,0,none⟩) xs.length cap,.int .i64 k] w fun e w'=>e=.returned (.int .i64 (kR k (xs.map (·.r)):Int))/\Own w' g 327 m/\Ae w' g 0 ((mH k xs).flatMap Rh.vals)/\(∀y∈mH k xs,y.r.list=[]∨(y.io=some ⟨bl,0,none⟩/\Ae w' bl 0 (y.r.list.flatMap Vd.vals)))/\Chg [g,bl] w w':=by
 have HKL:Hid (∀A x B,xs=A++x::B->kR k (A.map (·.r))<=1125899900000000):=fun A x B e=>by
  have:=Yw (k:=k) (xs:=A.map (·.r)) (fun r hr=>by obtain⟨y,hy,rfl⟩:=List.mem_map.1 hr;exact hz y (by rw[e];simp[hy]));have hA:A.length<=1048576:=by have:=congrArg List.length e;simp at this;omega
  simp at this;omega
 go_in;go_wp2;go_loopw [1,5] (fun y x wr=>∃(A B:List Rh) (j q:Nat),Hid (xs=A++B)/\Hid (j=A.length)/\j<=xs.length/\x=.int .i64 j/\y=.int .i64 (q:Int)/\Hid (q=kR k (A.map (·.r)))/\Own wr g 327 m/\Hid (Ae wr g 0 ((mH k A).flatMap Rh.vals))/\Hid (∀i v,j*8<=i->(xs.flatMap Rh.vals)[i]?=some v->wr.cell? ⟨g,i,none⟩=some v)/\Hid (∀x∈B,x.r.list=[]∨(x.io=some ⟨bl,0,none⟩/\x.r.list.length*5<=ml/\Own wr bl 210 ml))/\Hid (∀y∈mH k A,y.r.list=[]∨(y.io=some ⟨bl,0,none⟩/\Ae wr bl 0 (y.r.list.flatMap Vd.vals)))/\Chg [g,bl] w wr) (fun _ x _=>xs.length-(intOf x).toNat);case atStart=>exact⟨[],xs,0,k,rfl,rfl,yE _,rfl,rfl,rfl,own,Ae.nil _ _ _,fun i v _ hv=>by have:=h0 i v hv;rwa [yM]at this,hl,(fun y (hy:y∈[])=>absurd hy (by simp):∀y∈mH k [],_),Chg.refl _ _⟩
 case round=>
  obtain⟨A,B,j,q,HX,HJ,hj,rfl,rfl,HQ,hown,HR,HC,HB,HD,ho⟩:=hrel;clear h0 hl own;by_cases hlt:j<xs.length
  ·obtain⟨x,B',HBx⟩:∃x B',Hid (B=x::B'):=by
    cases B with
    | nil=>have:=HX.out;have:=HJ.out;simp_all
    | cons x B'=>exact⟨x,B',rfl⟩
   have hqb:q<=1125899900000000:=by rw[HQ.out];exact HKL.out A x B' (by rw[←HBx.out];exact HX.out)
   have hjm:j*8+8<=m:=by omega
   have hg:g∈[g,bl]:=by simp
   have hx_:xs[j]?=some x:=by rw[HX.out,HBx.out,HJ.out];simp
   have hzx:=hz x (yH hx_);have HXx:=HB.out x (by rw[HBx.out];simp);have c7:wr.cell? (g,j*8+7)=some (.slice x.io x.r.list.length x.ic):=HC.out _ _ (by omega) (Js (m:=8) (fun _=>rfl) hx_ rfl);have z0:((mH k A).flatMap Rh.vals).length=j*8:=by rw[Le (m:=8) (fun _=>rfl),Aed,HJ.out]
   have HS:Hid (mH k (A++[x])=mH k A++[⟨m1 q x.r,x.io,x.ic⟩]):=by show _=_;rw[Ad5,HQ.out]
   have HK2:Hid (kR k ((A++[x]).map (·.r))=q+kl x.r):=by show _=_;rw[List.map_append,List.map_cons,List.map_nil,A7c,HQ.out]
   obtain⟨v0,c0⟩:=hown.cell (i:=j*8) (by omega);obtain⟨v1,c1⟩:=hown.cell (i:=j*8+1) (by omega);obtain⟨v2,c2⟩:=hown.cell (i:=j*8+2) (by omega);obtain⟨v3,c3⟩:=hown.cell (i:=j*8+3) (by omega);have fz:=hown.frozen;have R4:=((((HR.out.put hown z0 (by omega) (q:Int)).put (hown.set _ _) (Fp z0 _) (by omega) (q+1:Int)).put ((hown.set _ _).set _ _) (Fp (Fp z0 _) _) (by omega) (q+1+1:Int)).put (((hown.set _ _).set _ _).set _ _) (Fp (Fp (Fp z0 _) _) _) (by omega) (.float .f64 (floatOfInt .f64 (q+1+1+1))));have o4:=((((hown.set (j*8) (q:Int)).set (j*8+1) (q+1:Int)).set (j*8+2) (q+1+1:Int)).set (j*8+3) (.float .f64 (floatOfInt .f64 (q+1+1+1))));have C4:=((((ho.set hg (j*8) (q:Int)).set hg (j*8+1) (q+1:Int)).set hg (j*8+2) (q+1+1:Int)).set hg (j*8+3) (.float .f64 (floatOfInt .f64 (q+1+1+1))));have HZ:Hid _:=z0;clear z0;obtain⟨L,HLe⟩:∃L,Hid ((mH k A).flatMap Rh.vals=L):=⟨_,rfl⟩;rw[HLe.out]at R4 HR HZ;go_wp2_with fail;refine(Em _ _ ?_ ?_).mono ?_
   ·omega
   ·omega
   rintro e w3 ⟨rfl,hw3⟩;replace R4:=R4.keep (A7.o (lo:=0) hw3) (yE _) o4.lt;have c7w:=(hw3.cell (p:=(g,j*8+7)) o4.lt).trans (show _=some (Value.slice x.io x.r.list.length x.ic) by rw[A9 _ (by omega),A9 _ (by omega),A9 _ (by omega),A9 _ (by omega)];exact c7);replace o4:=o4.l hw3;replace C4:=C4.below hw3;have G4:=(((((Chg.refl [g] wr).set (yT.2 rfl) (j*8) (q:Int)).set (yT.2 rfl) (j*8+1) (q+1:Int)).set (yT.2 rfl) (j*8+2) (q+1+1:Int)).set (yT.2 rfl) (j*8+3) (.float .f64 (floatOfInt .f64 (q+1+1+1)))).below hw3;have HC4:Hid (∀i v,(j+1)*8<=i->(xs.flatMap Rh.vals)[i]?=some v->w3.cell? ⟨g,i,none⟩=some v):=fun i v hi hv=>by
    have h:=HC.out i v (by omega) hv;refine(hw3.cell (by simpa using hown.lt)).trans ?_;rw[A9 _ (by omega),A9 _ (by omega),A9 _ (by omega),A9 _ (by omega)];exact h
   clear hw3 c0 c1 c2 c3 c7 fz HR ho HC;obtain⟨v4,c4⟩:=o4.cell (i:=j*8+4) (by omega);obtain⟨v5,c5⟩:=o4.cell (i:=j*8+5) (by omega);obtain⟨v6,c6⟩:=o4.cell (i:=j*8+6) (by omega);have fz:=o4.frozen;have z0:=HZ.out;have R7:=(((R4.put o4 (Fp (Fp (Fp (Fp z0 _) _) _) _) (by omega) (.string (mt ((q:Int)+1+1+1+1).toNat))).put (o4.set _ _) (Fp (Fp (Fp (Fp (Fp z0 _) _) _) _) _) (by omega) (q+1+1+1+1+1:Int)).put ((o4.set _ _).set _ _) (Fp (Fp (Fp (Fp (Fp (Fp z0 _) _) _) _) _) _) (by omega) (q+1+1+1+1+1+1:Int));have o7:=(((o4.set (j*8+4) (.string (mt ((q:Int)+1+1+1+1).toNat))).set (j*8+5) (q+1+1+1+1+1:Int)).set (j*8+6) (q+1+1+1+1+1+1:Int));have C7:=(((C4.set hg (j*8+4) (.string (mt ((q:Int)+1+1+1+1).toNat))).set hg (j*8+5) (q+1+1+1+1+1:Int)).set hg (j*8+6) (q+1+1+1+1+1+1:Int));have G7:=((G4.set (yT.2 rfl) (j*8+4) (.string (mt ((q:Int)+1+1+1+1).toNat))).set (yT.2 rfl) (j*8+5) (q+1+1+1+1+1:Int)).set (yT.2 rfl) (j*8+6) (q+1+1+1+1+1+1:Int);have c77:(((w3.setCell ⟨g,j*8+4,none⟩ (.string (mt ((q:Int)+1+1+1+1).toNat))).setCell ⟨g,j*8+5,none⟩ (.int .i64 (q+1+1+1+1+1))).setCell ⟨g,j*8+6,none⟩ (.int .i64 (q+1+1+1+1+1+1))).cell? ⟨g,j*8+7,none⟩=some (Value.slice x.io x.r.list.length x.ic):=by rw[A9 _ (by omega),A9 _ (by omega),A9 _ (by omega)];exact c7w
   have R8:=R7.add (by rw[yM,(Fp (Fp (Fp (Fp (Fp (Fp (Fp z0 _) _) _) _) _) _) _)];exact c77);have HC7:Hid (∀i v,(j+1)*8<=i->(xs.flatMap Rh.vals)[i]?=some v->(((w3.setCell ⟨g,j*8+4,none⟩ (.string (mt ((q:Int)+1+1+1+1).toNat))).setCell ⟨g,j*8+5,none⟩ (.int .i64 (q+1+1+1+1+1))).setCell ⟨g,j*8+6,none⟩ (.int .i64 (q+1+1+1+1+1+1))).cell? ⟨g,i,none⟩=some v):=fun i v hi hv=>by
    rw[A9 _ (by omega),A9 _ (by omega),A9 _ (by omega)];exact HC4.out i v hi hv
   clear R7 c77 z0;obtain⟨w7,hw7⟩:∃w7,w7=((w3.setCell ⟨g,j*8+4,none⟩ (.string (mt ((q:Int)+1+1+1+1).toNat))).setCell ⟨g,j*8+5,none⟩ (.int .i64 (q+1+1+1+1+1))).setCell ⟨g,j*8+6,none⟩ (.int .i64 (q+1+1+1+1+1+1)):=⟨_,rfl⟩;rw[←hw7]at R8 o7 C7 G7 HC7;have hbg:bl∉[g]:=by simpa using hne
   have HB7:Hid (∀x∈B',x.r.list=[]∨(x.io=some ⟨bl,0,none⟩/\x.r.list.length*5<=ml/\Own w7 bl 210 ml)):=fun y hy=>by
    rcases HB.out y (by rw[HBx.out];simp[hy]) with h|⟨h1,h2,h3⟩
    ·exact .inl h
    ·exact .inr ⟨h1,h2,G7.own hbg h3⟩
   have HD7:Hid (∀y∈mH k A,y.r.list=[]∨(y.io=some ⟨bl,0,none⟩/\Ae w7 bl 0 (y.r.list.flatMap Vd.vals))):=fun y hy=>by
    rcases HD.out y hy with h|⟨h1,h2⟩
    ·exact .inl h
    ·exact .inr ⟨h1,h2.chg G7 hbg⟩
   have HP:Hid (xs=(A++[x])++B'/\j+1=(A++[x]).length):=⟨by rw[HX.out,HBx.out];simp,by rw[HJ.out];simp⟩;have HL8:Hid ((mH k (A++[x])).flatMap Rh.vals=(L:List Value)++[.int .i64 (q:Int)]++[.int .i64 (q+1)]++[.int .i64 (q+1+1)]++[.float .f64 (floatOfInt .f64 (q+1+1+1))]++[.string (mt ((q:Int)+1+1+1+1).toNat)]++[.int .i64 (q+1+1+1+1+1)]++[.int .i64 (q+1+1+1+1+1+1)]++[.slice x.io x.r.list.length x.ic]):=by show _=_;rw[HS.out,List.flatMap_append,HLe.out];simp[Rh.vals,Rg.cs,m1,A0p]
   have HU:=hu A x B' (by rw[HX.out,HBx.out]);have HDn:Hid (x.r.list=[]->∀W:World,(∀y∈mH k A,y.r.list=[]∨(y.io=some ⟨bl,0,none⟩/\Ae W bl 0 (y.r.list.flatMap Vd.vals)))->∀y∈mH k (A++[x]),y.r.list=[]∨(y.io=some ⟨bl,0,none⟩/\Ae W bl 0 (y.r.list.flatMap Vd.vals))):=fun hnil W h y hy=>by
    rw[HS.out,yZ,yT]at hy;rcases hy with hy|rfl
    ·exact h y hy
    ·exact .inl (by simp[m1,hnil,mVs])
   have HW:Hid (w7=_):=hw7;have HR8:Hid _:=R8;have HO7:Hid (Own w7 g 327 m):=o7;have HC7c:Hid _:=C7;have HG7:Hid _:=G7;have hkl:kl x.r=7+x.r.list.length*5:=rfl;clear hw7 R8 o7 C7 G7 C4 G4 R4 HC4 HB HD;by_cases hx0:x.r.list=[];rotate_left;obtain⟨hio,hlen,hownl⟩:=HXx.resolve_left hx0;rotate_left;have hnil:=hx0
   ·have e0:x.r.list.length=0:=by rw[hnil];rfl
    have HKE:Hid ((q:Int)+1+1+1+1+1+1+1=((q+kl x.r:Nat):Int)):=by show _=_;rw[hkl,e0];omega
    rw[e0]at c7w;go_wp2_with fail;refine(Ew _ _ _ _).mono ?_;rintro e w8 ⟨rfl,rfl⟩;go_wp2;go_roundw;case rel=> have hw7:=HW.out;subst hw7;exact⟨A++[x],B',j+1,q+kl x.r,HP.out.1,HP.out.2,by omega,by go_num,by rw[←HKE.out],HK2.out.symm,HO7.out,by show Ae _ _ _ _;rw[HL8.out];exact HR8.out,HC7.out,HB7.out,HDn.out hnil _ HD7.out,HC7c.out⟩
    case measure=>simp[intOf];omega
   ·have e7:((q+7:Nat):Int)=(q:Int)+1+1+1+1+1+1+1:=by omega
    have HVM:Hid _:=fun W ho=>by
     have h:=A0z bl x.r.list.length x.ic (q+7) ml W hzx (by omega) hlen ho;rw[e7]at h;exact h
    have HKE:Hid (((q+7+x.r.list.length*5:Nat):Int)=((q+kl x.r:Nat):Int)):=by show _=_;rw[hkl];omega
    have HOL:Hid (Own w7 bl 210 ml):=HG7.out.own hbg hownl;have HIO:Hid _:=hio;have gb:g∉[bl]:=by simpa using Ne.symm hne
    rw[hio]at c7w;clear e7 hownl hio hkl HDn;go_wp2_with fail;refine(HVM.out _ ?_).mono ?_
    ·have h:=HOL.out;rw[HW.out]at h;exact h
    rintro e w8 ⟨rfl,ho8,hr8,hc8⟩;have hw7:=HW.out;subst hw7;have HO8:Hid (Own w8 g 327 m):=hc8.own gb HO7.out;have HR9:Hid (Ae w8 g 0 ((L:List Value)++[.int .i64 (q:Int)]++[.int .i64 (q+1)]++[.int .i64 (q+1+1)]++[.float .f64 (floatOfInt .f64 (q+1+1+1))]++[.string (mt ((q:Int)+1+1+1+1).toNat)]++[.int .i64 (q+1+1+1+1+1)]++[.int .i64 (q+1+1+1+1+1+1)]++[.slice x.io x.r.list.length x.ic])):=Ae.chg HR8.out hc8 gb;have HC8:Hid _:=fun i v hi hv=>hc8.cell gb (HC7.out i v hi hv);have HC9:Hid _:=HC7c.out.trans hc8 (by simp);have HB8:Hid (∀x∈B',x.r.list=[]∨(x.io=some ⟨bl,0,none⟩/\x.r.list.length*5<=ml/\Own w8 bl 210 ml)):=fun y hy=>(HB7.out y hy).imp_right fun ⟨h1,h2,_⟩=>⟨h1,h2,ho8⟩;have HD8:Hid (∀y∈mH k (A++[x]),y.r.list=[]∨(y.io=some ⟨bl,0,none⟩/\Ae w8 bl 0 (y.r.list.flatMap Vd.vals))):=fun y hy=>by
     rw[HS.out,yZ,yT]at hy;rcases hy with hy|rfl
     ·exact .inl (Ab9 (HU hx0) y hy)
     ·exact .inr ⟨HIO.out,hr8⟩
    clear hc8 hr8 ho8 HW HR8 HO7 HC7c HC7 HB7 HD7 HOL HG7 HVM c7w;go_wp2;go_roundw;case rel=>exact⟨A++[x],B',j+1,q+kl x.r,HP.out.1,HP.out.2,by omega,by go_num,by first|exact congrArg _ HKE.out|(congr 1),HK2.out.symm,HO8.out,by show Ae _ _ _ _;rw[HL8.out];exact HR9.out,HC8.out,HB8.out,HD8.out,HC9.out⟩
    case measure=>simp[intOf];omega
  ·go_wp2;go_ret;obtain rfl:B=[]:=by
    have h1:=HX.out;have h2:=HJ.out;cases B with
    | nil=>rfl
    | cons x B'=>have:=congrArg List.length h1;simp at this;omega
   have hA:xs=A:=by have:=HX.out;simpa using this
   subst hA;exact⟨by rw[HQ.out];rfl,hown,HR.out,HD.out,ho⟩
theorem A5l (ao:Option Addr) (cap k:Nat) (xs:List Rg) (w:World) (hn:xs.length<=1048576) (hk:k<=10000000) (hz:∀x∈xs,x.list.length<=1048576) (hq:Bp 0 w ao (mRs k xs)) :
  Kw 223 #[.slice ao xs.length cap,k] w (kR k xs:Int):=by
 have HKL:Hid (∀A x B,xs=A++x::B->kR k A<=1125899900000000):=fun A x B e=>by
  have:=Yw (k:=k) (xs:=A) (fun y hy=>hz y (by rw[e];simp[hy]));have hA:A.length<=1048576:=by have:=congrArg List.length e;simp at this;omega
  omega
 unfold Kw;go_in;go_wp2;go_loopw [1,5] (fun y x wr=>∃(A B:List Rg) (j q:Nat),Hid (xs=A++B)/\Hid (j=A.length)/\j<=xs.length/\x=j/\y=(q:Int)/\Hid (q=kR k A)/\Below w w wr) (fun _ x _=>xs.length-(intOf x).toNat);case atStart=>exact⟨[],xs,0,k,rfl,rfl,yE _,rfl,rfl,rfl,yA _ _⟩
 case round=>
  obtain⟨A,B,j,q,HX,HJ,hj,rfl,rfl,HQ,hb⟩:=hrel;by_cases hlt:j<xs.length
  ·obtain⟨x,B',HBx⟩:∃x B',Hid (B=x::B'):=by
    cases B with
    | nil=>have:=HX.out;have:=HJ.out;simp_all
    | cons x B'=>exact⟨x,B',rfl⟩
   have hXB:xs=A++x::B':=by rw[←HBx.out];exact HX.out
   have hqb:q<=1125899900000000:=by rw[HQ.out];exact HKL.out A x B' hXB
   have hzx:=hz x (by rw[hXB];simp);have hat:(mRs k xs)[j]?=some (m1 q x):=by rw[HJ.out,HQ.out,hXB];exact Aef k A x B'
   obtain⟨b,off,rfl,_,hbl,io,ic,n1,z1⟩:=hq.l (A7.o hb) j _ hat;have p0:=n1 0 _ rfl;have p1:=n1 1 _ rfl;have p2:=n1 2 _ rfl;have p3:=n1 3 _ rfl;have p4:=n1 4 _ rfl;have p5:=n1 5 _ rfl;have p6:=n1 6 _ rfl;have p7:=n1 7 _ rfl;dsimp only[m1]at p0 p1 p2 p3 p4 p5 p6 p7 z1;rw[A0p]at p7;rw[Nat.add_zero]at p0;have fl:=Aao ((q:Int)+1+1+1);have e7:((q+7:Nat):Int)=(q:Int)+1+1+1+1+1+1+1:=by omega
   have HMT:Hid (∀W,Kw 117 #[((q:Int)+1+1+1+1:Int)] W (.string (mt ((q:Int)+1+1+1+1).toNat))):=fun W=>Em _ W (by omega) (by omega);have HVM:Hid _:=fun W hb=>by
    have h:=A08 io x.list.length ic (q+7) W hzx (by omega) (z1.l (A7.o hb));rw[e7]at h;exact h
   have HP:Hid (xs=(A++[x])++B'/\j+1=(A++[x]).length):=⟨by rw[hXB];simp,by rw[HJ.out];simp⟩;have HK2:Hid (q+7+x.list.length*5=kR k (A++[x])):=by show _=_;rw[A7c,HQ.out,kl];omega
   have k1:¬((q+7+x.list.length*5:Nat):Int)<0:=by omega
   generalize mt ((q:Int)+1+1+1+1).toNat=S3 at *;clear HQ hq hz hat hXB n1 z1 e7;go_wp2_with fail;go_region_held3 (fun w'=>w'.cell? (b,off+j*8+1+3)=some (.string S3)) (go_keep)
    (first|(go_at_call 117;refine(HMT.out _).mono ?_;rintro e w1 ⟨rfl,hw1⟩;have d4:=(hw1.cell (p:=(b,off+j*8+1+3)) hbl).trans p4;have d5:=(hw1.cell (p:=(b,off+j*8+5)) hbl).trans p5;have d6:=(hw1.cell (p:=(b,off+j*8+6)) hbl).trans p6;have d7:=(hw1.cell (p:=(b,off+j*8+7)) hbl).trans p7))
   have B1:=(yA (wr:Nat) wr).drew.trans (hw1.mono (yB _));go_wp2_with fail;refine(HVM.out _ B1).mono ?_;rintro e w2 ⟨rfl,hw2⟩;have B2:=hb.trans ((B1.trans (hw2.mono B1.size)).mono hb.size);clear d4 d5 d6 d7 p0 p1 p2 p3 p4 p5 p6 p7;go_wp2;go_roundw;case rel=>exact⟨A++[x],B',j+1,q+7+x.list.length*5,HP.out.1,HP.out.2,by omega,by go_num,rfl,HK2.out,B2⟩
   case measure=>simp[intOf];omega
  ·go_wp2;go_ret;obtain rfl:B=[]:=by
    have h1:=HX.out;have h2:=HJ.out;cases B with
    | nil=>rfl
    | cons x B'=>have:=congrArg List.length h1;simp at this;omega
   have hA:xs=A:=by have:=HX.out;simpa using this
   subst hA;exact⟨by rw[HQ.out];rfl,hb⟩
def RM (w:World) (ro:Option Addr) (M:List Nat) (xs:List Rh):Prop:=
 xs.length<=1048576/\(∀x∈xs,x.r.list.length<=1048576)/\(xs=[]∨∃br m,ro=some ⟨br,0,none⟩/\xs.length*8<=m/\Own w br 327 m/\Ae w br 0 (xs.flatMap Rh.vals)/\
  ((M=[br]/\∀x∈xs,x.r.list=[])∨∃bl ml,M=[br,bl]/\bl≠br/\(∀x∈xs,x.r.list=[]∨(x.io=some ⟨bl,0,none⟩/\x.r.list.length*5<=ml/\Own w bl 210 ml))/\∀A x B,xs=A++x::B->x.r.list≠[]->∀y∈A,y.r.list=[]))
def RMd (w:World) (ro:Option Addr) (M:List Nat) (k:Nat) (xs:List Rh):Prop:=
 xs=[]∨∃br bl,ro=some ⟨br,0,none⟩/\br∈M/\br<w.heap.size/\Ae w br 0 ((mH k xs).flatMap Rh.vals)/\∀y∈mH k xs,y.r.list=[]∨(y.io=some ⟨bl,0,none⟩/\bl∈M/\Ae w bl 0 (y.r.list.flatMap Vd.vals))
theorem RM.chg {xs:List Rh} (h:RM w ro M xs) (c:Chg L w w') (hd:∀b∈M,b∉L):RM w' ro M xs:=by
 obtain⟨h1,h2,h3⟩:=h;refine⟨h1,h2,h3.imp_right ?_⟩;rintro⟨br,m,e1,e2,e3,e4,e5⟩;have hbr:br∈M:=by rcases e5 with ⟨rfl,_⟩|⟨bl,ml,rfl,_⟩<;>simp
 refine⟨br,m,e1,e2,c.own (hd _ hbr) e3,Ae.chg e4 c (hd _ hbr),e5.imp_right ?_⟩;rintro⟨bl,ml,rfl,e6,e7,e8⟩;exact⟨bl,ml,rfl,e6,fun x hx=>(e7 x hx).imp_right fun ⟨a,b,d⟩=>⟨a,b,c.own (hd _ (by simp)) d⟩,e8⟩
theorem RMd.chg {xs:List Rh} (h:RMd w ro M k xs) (c:Chg L w w') (hd:∀b∈M,b∉L):RMd w' ro M k xs:=by refine h.imp_right ?_;rintro⟨br,bl,e1,e2,e3,e4,e5⟩;exact⟨br,bl,e1,e2,yF e3 c.size,Ae.chg e4 c (hd _ e2),fun y hy=>(e5 y hy).imp_right fun ⟨a,b,d⟩=>⟨a,b,Ae.chg d c (hd _ b)⟩⟩
theorem RMd.regs {xs:List Rh} (h:RMd w ro M k xs):Bp 0 w ro (mRs k (xs.map (·.r))):=by
 rcases h with rfl|⟨br,bl,rfl,_,e3,e4,e5⟩
 ·intro i x hx;simp[mRs]at hx
 ·rw[←Aee];refine Adl e4 e3 fun y hy=>?_;rcases e5 y hy with h|⟨h1,_,h2⟩
  ·rw[h];intro i x hx;simp at hx
  ·rw[h1];refine Nw h2 (yE _) fun hne=>?_;obtain⟨v,hv⟩:=List.exists_mem_of_ne_nil _ hne;obtain⟨i,hi⟩:=List.getElem?_of_mem hv;exact World.block_lt_of_cell? _ _ (h2 _ _ (Js (m:=5) (fun _=>rfl) hi (c:=0) rfl))
theorem Chg.drop{b:Nat} (h:Chg [g,b] w w') (hb:(w:Nat)<=b):Chg [g] w w':=⟨h.os,h.tape,h.output,h.size,fun x hx hl=>h.block x (by simp at hx ⊢;exact⟨hx,by omega⟩) hl⟩
theorem A0w (ao:Option Addr) (c:Nat) (k:Int) (w:World):Calls prog 221 #[.slice ao 0 c,k] w fun e w'=>e=.returned k/\w'=w:=by
 go_in;go_wp2;go_loop [1,5] (fun y i=>y=k/\i=()) (fun _ _=>0);case atStart=>exact⟨rfl,rfl⟩
 case round=> obtain⟨rfl,rfl⟩:=hrel;go_wp2;go_ret;exact⟨rfl,rfl⟩
theorem A61 (ro:Option Addr) (cap k:Nat) (M:List Nat) (xs:List Rh) (w:World) (hk:k<=10000000) (h:RM w ro M xs) :
  Calls prog 221 #[.slice ro xs.length cap,k] w fun e w'=>e=.returned (kR k (xs.map (·.r)):Int)/\RMd w' ro M k xs/\Chg M w w':=by
 obtain⟨h1,h2,h3⟩:=h;rcases h3 with rfl|⟨br,m,rfl,e2,e3,e4,⟨rfl,e5⟩|⟨bl,ml,rfl,e6,e7,e8⟩⟩
 ·exact(A0w ro cap k w).mono fun e w' ⟨a,b⟩=>⟨a,.inl rfl,b▸Chg.refl _ _⟩
 ·have hlt:=e3.lt;refine(Vo br ((w:Nat)+br+1) cap k m 0 xs w h1 hk e2 (by omega) e3 e4 h2 (fun x hx=>.inl (e5 x hx)) (fun A x B e hx=>absurd (e5 x (by rw[e];simp)) hx)).mono fun e w' ⟨a,b,c,d,f⟩=>⟨a,.inr ⟨br,br,rfl,by simp,yF hlt f.size,c,fun y hy=>.inl (Ab9 e5 y hy)⟩,f.drop (by omega)⟩
 ·have hlt:=e3.lt;exact(Vo br bl cap k m ml xs w h1 hk e2 e6 e3 e4 h2 e7 e8).mono fun e w' ⟨a,b,c,d,f⟩=>⟨a,.inr ⟨br,bl,rfl,by simp,yF hlt f.size,c,fun y hy=>(d y hy).imp_right fun ⟨p,q⟩=>⟨p,by simp,q⟩⟩,f⟩
end Go.Proofs.YtjbbppblgjhapaaGreatDoor
