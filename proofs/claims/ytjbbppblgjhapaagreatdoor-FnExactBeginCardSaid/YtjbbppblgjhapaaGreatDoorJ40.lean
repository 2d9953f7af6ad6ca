import Derived.Test.YtjbbppblgjhapaaGreatDoorJ39
set_option maxRecDepth 100000
set_option maxHeartbeats 8000000
namespace Go.Proofs.YtjbbppblgjhapaaGreatDoor
open Go.Deep Go.Proofs.Tryz Go.RowKit
attribute [local go_sem] Ac
def kT (k:Nat) (rs:List Rg):Nat:=kR (k+6+9) rs+5
def mTk (k:Nat) (rs:List Rg):Tk:=⟨(k:Int),⟨(k:Int)+1,(k:Int)+1+1,floatOfInt .f64 ((k:Int)+1+1+1),mt ((k:Int)+1+1+1+1).toNat,(k:Int)+1+1+1+1+1⟩,((kT k rs:Nat):Int),(((kT k rs:Nat):Int)+1)%3==0,mFr (k+6) rs⟩
structure TM (w:World) (g m bf fc mf:Nat) (ro:Option Addr) (rc:Nat) (M:List Nat) (xs:List Rh):Prop where
 hm:10<=m
 own:Own w g 223 m
 c6:w.cell? (g,6)=some (.slice bf 1 fc)
 c9:w.cell? (g,9)=some (.slice none 0 0)
 hmf:18<=mf
 ownf:Own w bf 231 mf
 f4:w.cell? (bf,4)=some (.slice none 0 0)
 f10:w.cell? (bf,10)=some (.slice ro xs.length rc)
 f11:w.cell? (bf,11)=some (.slice none 0 0)
 f15:w.cell? (bf,15)=some (.slice none 0 0)
 rm:RM w ro M xs
 gf:g≠bf
 gM:g∉M
 fM:bf∉M
structure TMd (w:World) (g bf fc:Nat) (ro:Option Addr) (rc:Nat) (M:List Nat) (k:Nat) (xs:List Rh):Prop where
 lt:g<(w:Nat)
 row:Ae w g 0 ((mTk k (xs.map (·.r))).cs bf fc)
 ltf:bf<(w:Nat)
 rowf:Ae w bf 0 ((mFr (k+6) (xs.map (·.r))).cs ro rc)
 rm:RMd w ro M (k+6+9) xs
theorem Y7 (g m bf fc mf:Nat) (ro:Option Addr) (rc:Nat) (M:List Nat) (xs:List Rh) (cap k:Nat) (w:World) (hk:k<=8000000) (hT:TM w g m bf fc mf ro rc M xs) :
  Calls prog 70 #[.slice g 1 cap,k] w fun e w'=>e=.returned ((kT k (xs.map (·.r))+2:Nat):Int)/\TMd w' g bf fc ro rc M k xs/\Chg (g::bf::M) w w':=by
 obtain⟨hm,own,c6,c9,hmf,ownf,f4,f10,f11,f15,hR,gf,gM,fM⟩:=hT;have hkK:=Yw (k:=k+6+9) (xs:=xs.map (·.r)) (fun r hr=>by obtain⟨y,hy,rfl⟩:=List.mem_map.1 hr;exact hR.2.1 y hy);have hxl:=hR.1;obtain⟨K,HK⟩:∃K,Hid (kT k (xs.map (·.r))=K):=⟨_,rfl⟩;have HCS:Hid ((mTk k (xs.map (·.r))).cs (some ⟨bf,0,none⟩) fc=[.int .i64 ((k:Int)),.int .i64 ((k:Int)+1),.int .i64 ((k:Int)+1+1),.float .f64 (floatOfInt .f64 ((k:Int)+1+1+1)),.string (mt ((k:Int)+1+1+1+1).toNat),.int .i64 ((k:Int)+1+1+1+1+1),.slice (some ⟨bf,0,none⟩) 1 fc,.int .i64 ((K:Int)),.bool (((K:Int)+1)%3==0),.slice none 0 0]):=by show _=_;simp[mTk,HK.out]
 rw[List.length_map]at hkK;have hKb:K<=1125899900000000:=by rw[←HK.out];unfold kT;omega
 rw[HK.out];have e6:((k+6:Nat):Int)=(k:Int)+1+1+1+1+1+1:=by omega
 have HFM:Hid (∀W,Chg [g] w W->Calls prog 145 #[.slice bf 1 fc,((k:Int)+1+1+1+1+1+1:Int)] W fun e w'=>e=.returned (K:Int)/\Ae w' bf 0 ((mFr (k+6) (xs.map (·.r))).cs ro rc)/\bf<w'.heap.size/\RMd w' ro M (k+6+9) xs/\Chg (bf::M) W w'):=fun W h=>by
  have bg:bf∉[g]:=by simpa using Ne.symm gf
  have h:=Vk bf fc (k+6) mf ro rc M xs W (by omega) hmf (h.own bg ownf) fM (h.cell bg f4) (h.cell bg f10) (h.cell bg f11) (h.cell bg f15) (hR.chg h fun b hb e=>gM (by simp at e;exact e▸hb));rw[e6]at h;rw[←HK.out];exact h
 have gL:g∉bf::M:=by simp;exact⟨gf,gM⟩
 clear e6 hkK f4 f10 f11 f15 hR ownf;go_in;go_wp2;go_loopw [1,5] (fun y x wr=>(x=()/\y=k/\wr=w)∨(x=(1:Int)/\y=((K+2:Nat):Int)/\Hid (TMd wr g bf fc ro rc M k xs/\Chg (g::bf::M) w wr))) (fun _ x _=>1-(intOf x).toNat);case atStart=>exact .inl ⟨rfl,rfl,rfl⟩
 case round=>
  rcases hrel with ⟨rfl,rfl,rfl⟩|⟨rfl,rfl,H⟩
  ·have hg:g∈[g]:=yT.2 rfl;have HR4:Hid (Ae ((((wr.setCell ⟨g,0,none⟩ (.int .i64 ((k:Int)))).setCell ⟨g,1,none⟩ (.int .i64 ((k:Int)+1))).setCell ⟨g,2,none⟩ (.int .i64 ((k:Int)+1+1))).setCell ⟨g,3,none⟩ (.float .f64 (floatOfInt .f64 ((k:Int)+1+1+1)))) g 0 [.int .i64 ((k:Int)),.int .i64 ((k:Int)+1),.int .i64 ((k:Int)+1+1),.float .f64 (floatOfInt .f64 ((k:Int)+1+1+1))]):=(((((Ae.nil wr g 0).put own (i:=0) rfl (by omega) (.int .i64 ((k:Int)))).put (own.set _ _) (i:=1) rfl (by omega) (.int .i64 ((k:Int)+1))).put ((own.set _ _).set _ _) (i:=2) rfl (by omega) (.int .i64 ((k:Int)+1+1))).put (((own.set _ _).set _ _).set _ _) (i:=3) rfl (by omega) (.float .f64 (floatOfInt .f64 ((k:Int)+1+1+1))));have HO4:Hid (Own ((((wr.setCell ⟨g,0,none⟩ (.int .i64 ((k:Int)))).setCell ⟨g,1,none⟩ (.int .i64 ((k:Int)+1))).setCell ⟨g,2,none⟩ (.int .i64 ((k:Int)+1+1))).setCell ⟨g,3,none⟩ (.float .f64 (floatOfInt .f64 ((k:Int)+1+1+1)))) g 223 m):=((((own.set 0 (.int .i64 ((k:Int)))).set 1 (.int .i64 ((k:Int)+1))).set 2 (.int .i64 ((k:Int)+1+1))).set 3 (.float .f64 (floatOfInt .f64 ((k:Int)+1+1+1))));have HC4:Hid _:=(((((Chg.refl [g] wr).set hg 0 ((k:Int):Int)).set hg 1 ((k:Int)+1:Int)).set hg 2 ((k:Int)+1+1:Int)).set hg 3 (.float .f64 (floatOfInt .f64 ((k:Int)+1+1+1))));have HX6:Hid (((((wr.setCell ⟨g,0,none⟩ (.int .i64 ((k:Int)))).setCell ⟨g,1,none⟩ (.int .i64 ((k:Int)+1))).setCell ⟨g,2,none⟩ (.int .i64 ((k:Int)+1+1))).setCell ⟨g,3,none⟩ (.float .f64 (floatOfInt .f64 ((k:Int)+1+1+1)))).cell? ⟨g,6,none⟩=some (.slice (some ⟨bf,0,none⟩) 1 fc)):=show ((((wr.setCell ⟨g,0,none⟩ (.int .i64 ((k:Int)))).setCell ⟨g,1,none⟩ (.int .i64 ((k:Int)+1))).setCell ⟨g,2,none⟩ (.int .i64 ((k:Int)+1+1))).setCell ⟨g,3,none⟩ (.float .f64 (floatOfInt .f64 ((k:Int)+1+1+1)))).cell? ⟨g,6,none⟩=some (.slice (some ⟨bf,0,none⟩) 1 fc) by rw[A9 _ (by decide),A9 _ (by decide),A9 _ (by decide),A9 _ (by decide)];exact c6
   have HX9:Hid (((((wr.setCell ⟨g,0,none⟩ (.int .i64 ((k:Int)))).setCell ⟨g,1,none⟩ (.int .i64 ((k:Int)+1))).setCell ⟨g,2,none⟩ (.int .i64 ((k:Int)+1+1))).setCell ⟨g,3,none⟩ (.float .f64 (floatOfInt .f64 ((k:Int)+1+1+1)))).cell? ⟨g,9,none⟩=some (.slice none 0 0)):=show ((((wr.setCell ⟨g,0,none⟩ (.int .i64 ((k:Int)))).setCell ⟨g,1,none⟩ (.int .i64 ((k:Int)+1))).setCell ⟨g,2,none⟩ (.int .i64 ((k:Int)+1+1))).setCell ⟨g,3,none⟩ (.float .f64 (floatOfInt .f64 ((k:Int)+1+1+1)))).cell? ⟨g,9,none⟩=some (.slice none 0 0) by rw[A9 _ (by decide),A9 _ (by decide),A9 _ (by decide),A9 _ (by decide)];exact c9
   obtain⟨v0,c0⟩:=own.cell (i:=0) (by omega);obtain⟨v1,c1⟩:=own.cell (i:=1) (by omega);obtain⟨v2,c2⟩:=own.cell (i:=2) (by omega);obtain⟨v3,c3⟩:=own.cell (i:=3) (by omega);have fz:=own.frozen;go_wp2_with fail;refine(Em _ _ ?_ ?_).mono ?_
   ·omega
   ·omega
   rintro e w1 ⟨rfl,hw1⟩;have o1:=HO4.out.l hw1;have hlg:=HO4.out.lt;have R4:Ae w1 g 0 [((k:Int):Int),((k:Int)+1:Int),((k:Int)+1+1:Int),.float .f64 (floatOfInt .f64 ((k:Int)+1+1+1))]:=Ae.keep HR4.out (A7.o (lo:=0) hw1) (yE _) hlg;have C4:=HC4.out.below hw1;have c6w:=(hw1.cell hlg).trans HX6.out;have c9w:=(hw1.cell hlg).trans HX9.out;have R6:Ae ((w1.setCell (g,4) (.string (mt ((k:Int)+1+1+1+1).toNat))).setCell (g,5) ((k:Int)+1+1+1+1+1:Int)) g 0 [((k:Int):Int),((k:Int)+1:Int),((k:Int)+1+1:Int),.float .f64 (floatOfInt .f64 ((k:Int)+1+1+1)),.string (mt ((k:Int)+1+1+1+1).toNat),((k:Int)+1+1+1+1+1:Int)]:=((R4.put o1 (i:=4) rfl (by omega) (.string (mt ((k:Int)+1+1+1+1).toNat))).put (o1.set _ _) (i:=5) rfl (by omega) ((k:Int)+1+1+1+1+1:Int));have HR7:Hid (Ae ((w1.setCell ⟨g,4,none⟩ (.string (mt ((k:Int)+1+1+1+1).toNat))).setCell ⟨g,5,none⟩ (.int .i64 ((k:Int)+1+1+1+1+1))) g 0 [.int .i64 ((k:Int)),.int .i64 ((k:Int)+1),.int .i64 ((k:Int)+1+1),.float .f64 (floatOfInt .f64 ((k:Int)+1+1+1)),.string (mt ((k:Int)+1+1+1+1).toNat),.int .i64 ((k:Int)+1+1+1+1+1),.slice (some ⟨bf,0,none⟩) 1 fc]):=Ae.add R6 (show ((w1.setCell ⟨g,4,none⟩ (.string (mt ((k:Int)+1+1+1+1).toNat))).setCell ⟨g,5,none⟩ (.int .i64 ((k:Int)+1+1+1+1+1))).cell? ⟨g,6,none⟩=some (.slice (some ⟨bf,0,none⟩) 1 fc) by rw[A9 _ (by decide),A9 _ (by decide)];exact c6w);have HO6:Hid (Own ((w1.setCell (g,4) (.string (mt ((k:Int)+1+1+1+1).toNat))).setCell (g,5) ((k:Int)+1+1+1+1+1:Int)) g 223 m):=((o1.set 4 (.string (mt ((k:Int)+1+1+1+1).toNat))).set 5 ((k:Int)+1+1+1+1+1:Int));have HC6:Hid _:=((C4.set hg 4 (.string (mt ((k:Int)+1+1+1+1).toNat))).set hg 5 ((k:Int)+1+1+1+1+1:Int));have HY9:Hid (((w1.setCell ⟨g,4,none⟩ (.string (mt ((k:Int)+1+1+1+1).toNat))).setCell ⟨g,5,none⟩ (.int .i64 ((k:Int)+1+1+1+1+1))).cell? ⟨g,9,none⟩=some (.slice none 0 0)):=show ((w1.setCell ⟨g,4,none⟩ (.string (mt ((k:Int)+1+1+1+1).toNat))).setCell ⟨g,5,none⟩ (.int .i64 ((k:Int)+1+1+1+1+1))).cell? ⟨g,9,none⟩=some (.slice none 0 0) by rw[A9 _ (by decide),A9 _ (by decide)];exact c9w
   clear hw1 c0 c1 c2 c3 fz own HR4 HO4 HC4 HX6 HX9 R4 R6 C4 c6 c9 hlg;obtain⟨v4,c4⟩:=o1.cell (i:=4) (by omega);obtain⟨v5,c5⟩:=o1.cell (i:=5) (by omega);have fz:=o1.frozen;go_wp2_with fail;refine(HFM.out _ HC6.out).mono ?_;rintro e w2 ⟨rfl,hr2,hl2,hd2,hc2⟩;have o2:=hc2.own gL HO6.out;have R7:=Ae.chg HR7.out hc2 gL;have c9v:=hc2.cell gL HY9.out;have C2:=((Chg.refl (g::bf::M) wr).trans HC6.out (by simp)).trans hc2 (by simp +contextual);have R9:Ae ((w2.setCell (g,7) ((K:Int):Int)).setCell (g,8) (.bool (((K:Int)+1)%3==0))) g 0 [((k:Int):Int),((k:Int)+1:Int),((k:Int)+1+1:Int),.float .f64 (floatOfInt .f64 ((k:Int)+1+1+1)),.string (mt ((k:Int)+1+1+1+1).toNat),((k:Int)+1+1+1+1+1:Int),.slice bf 1 fc,((K:Int):Int),.bool (((K:Int)+1)%3==0)]:=((R7.put o2 (i:=7) rfl (by omega) ((K:Int):Int)).put (o2.set _ _) (i:=8) rfl (by omega) (.bool (((K:Int)+1)%3==0)));have HR10:Hid (Ae ((w2.setCell ⟨g,7,none⟩ (.int .i64 ((K:Int)))).setCell ⟨g,8,none⟩ (.bool (((K:Int)+1)%3==0))) g 0 [.int .i64 ((k:Int)),.int .i64 ((k:Int)+1),.int .i64 ((k:Int)+1+1),.float .f64 (floatOfInt .f64 ((k:Int)+1+1+1)),.string (mt ((k:Int)+1+1+1+1).toNat),.int .i64 ((k:Int)+1+1+1+1+1),.slice (some ⟨bf,0,none⟩) 1 fc,.int .i64 ((K:Int)),.bool (((K:Int)+1)%3==0),.slice none 0 0]):=Ae.add R9 (show ((w2.setCell ⟨g,7,none⟩ (.int .i64 ((K:Int)))).setCell ⟨g,8,none⟩ (.bool (((K:Int)+1)%3==0))).cell? ⟨g,9,none⟩=some (.slice none 0 0) by rw[A9 _ (by decide),A9 _ (by decide)];exact c9v);have HO9:Hid (Own ((w2.setCell (g,7) ((K:Int):Int)).setCell (g,8) (.bool (((K:Int)+1)%3==0))) g 223 m):=((o2.set 7 ((K:Int):Int)).set 8 (.bool (((K:Int)+1)%3==0)));have HC9:Hid _:=(((Chg.refl [g] w2).set hg 7 ((K:Int):Int)).set hg 8 (.bool (((K:Int)+1)%3==0)));have bg:bf∉[g]:=by simpa using Ne.symm gf
   have hMg:∀b∈M,b∉[g]:=fun b hb e=>gM (by simp at e;exact e▸hb);have HF:Hid (TMd ((w2.setCell ⟨g,7,none⟩ (.int .i64 ((K:Int)))).setCell ⟨g,8,none⟩ (.bool (((K:Int)+1)%3==0))) g bf fc ro rc M k xs/\Chg (g::bf::M) wr ((w2.setCell ⟨g,7,none⟩ (.int .i64 ((K:Int)))).setCell ⟨g,8,none⟩ (.bool (((K:Int)+1)%3==0)))):=⟨⟨HO9.out.lt,by rw[HCS.out];exact HR10.out,yF hl2 HC9.out.size,Ae.chg hr2 HC9.out bg,hd2.chg HC9.out hMg⟩,C2.trans HC9.out (by simp)⟩;clear hr2 hd2 hc2 C2 R7 R9 HR10 HO9 HC9 HR7 HO6 HC6 HY9 c4 c5 fz o1;obtain⟨v7,c7⟩:=o2.cell (i:=7) (by omega);obtain⟨v8,c8⟩:=o2.cell (i:=8) (by omega);have fz:=o2.frozen;go_wp2_with fail;refine(Ew _ _ _ _).mono ?_;rintro e w3 ⟨rfl,rfl⟩;go_wp2;go_roundw;case rel=>exact .inr ⟨by go_num,by congr 1<;>omega,HF.out⟩
   case measure=>simp[intOf]
  ·go_wp2;go_ret;exact⟨rfl,H.out⟩
theorem Xn (g bf fc:Nat) (ro:Option Addr) (rc:Nat) (xs:List Rh) (cap k:Nat) (w:World) (hk:k<=8000000) (hn:xs.length<=1048576) (hz:∀x∈xs,x.r.list.length<=1048576) (lt:g<(w:Nat)) (hrow:Ae w g 0 ((mTk k (xs.map (·.r))).cs bf fc)) (ltf:bf<(w:Nat)) (hrowf:Ae w bf 0 ((mFr (k+6) (xs.map (·.r))).cs ro rc)) (hq:Bp 0 w ro (mRs (k+6+9) (xs.map (·.r)))) :
  Kw 76 #[.slice g 1 cap,k] w ((kT k (xs.map (·.r))+2:Nat):Int):=by
 have hz2:∀r∈xs.map (·.r),r.list.length<=1048576:=fun r hr=>by obtain⟨y,hy,rfl⟩:=List.mem_map.1 hr;exact hz y hy
 have hkK:=Yw (k:=k+6+9) (xs:=xs.map (·.r)) hz2;obtain⟨K,HK⟩:∃K,Hid (kT k (xs.map (·.r))=K):=⟨_,rfl⟩;have HCS:Hid ((mTk k (xs.map (·.r))).cs (some ⟨bf,0,none⟩) fc=[.int .i64 ((k:Int)),.int .i64 ((k:Int)+1),.int .i64 ((k:Int)+1+1),.float .f64 (floatOfInt .f64 ((k:Int)+1+1+1)),.string (mt ((k:Int)+1+1+1+1).toNat),.int .i64 ((k:Int)+1+1+1+1+1),.slice (some ⟨bf,0,none⟩) 1 fc,.int .i64 ((K:Int)),.bool (((K:Int)+1)%3==0),.slice none 0 0]):=by show _=_;simp[mTk,HK.out]
 rw[HCS.out]at hrow;rw[List.length_map]at hkK;have hKb:K<=1125899900000000:=by rw[←HK.out];unfold kT;omega
 rw[HK.out];have e6:((k+6:Nat):Int)=(k:Int)+1+1+1+1+1+1:=by omega
 have HFM:Hid (∀W,Below w w W->Kw 149 #[.slice bf 1 fc,((k:Int)+1+1+1+1+1+1:Int)] W (K:Int)):=fun W h=>by
  have h:=Va bf fc (k+6) ro rc (xs.map (·.r)) W (by omega) (by rw[List.length_map];exact hn) hz2 (yF ltf h.size) (hrowf.keep (A7.o (lo:=0) h) (yE _) ltf) (hq.l (A7.o h));rw[e6]at h;rw[←HK.out];exact h
 have HMT:Hid (∀W,Kw 117 #[((k:Int)+1+1+1+1:Int)] W (.string (mt ((k:Int)+1+1+1+1).toNat))):=fun W=>Em _ W (by omega) (by omega);have k1:¬(K:Int)<0:=by omega
 have fl:=Aao ((k:Int)+1+1+1);have p0:w.cell? (g,0)=some (.int .i64 ((k:Int))):=by have h:=hrow 0 _ rfl;rwa [yM]at h
 have p1:w.cell? (g,1)=some (.int .i64 ((k:Int)+1)):=by have h:=hrow 1 _ rfl;rwa [yM]at h
 have p2:w.cell? (g,2)=some (.int .i64 ((k:Int)+1+1)):=by have h:=hrow 2 _ rfl;rwa [yM]at h
 have p3:w.cell? (g,3)=some (.float .f64 (floatOfInt .f64 ((k:Int)+1+1+1))):=by have h:=hrow 3 _ rfl;rwa [yM]at h
 have p4:w.cell? (g,4)=some (.string (mt ((k:Int)+1+1+1+1).toNat)):=by have h:=hrow 4 _ rfl;rwa [yM]at h
 have p5:w.cell? (g,5)=some (.int .i64 ((k:Int)+1+1+1+1+1)):=by have h:=hrow 5 _ rfl;rwa [yM]at h
 have p6:w.cell? (g,6)=some (.slice bf 1 fc):=by have h:=hrow 6 _ rfl;rwa [yM]at h
 have p7:w.cell? (g,7)=some (.int .i64 ((K:Int))):=by have h:=hrow 7 _ rfl;rwa [yM]at h
 have p8:w.cell? (g,8)=some (.bool (((K:Int)+1)%3==0)):=by have h:=hrow 8 _ rfl;rwa [yM]at h
 have p9:w.cell? (g,9)=some (.slice none 0 0):=by have h:=hrow 9 _ rfl;rwa [yM]at h
 generalize mt ((k:Int)+1+1+1+1).toNat=S3 at *;clear e6 hkK hrow hq hz HCS hrowf hz2;unfold Kw;go_in;go_wp2;go_loopw [1,5] (fun y x wr=>(x=()/\y=k/\wr=w)∨(x=(1:Int)/\y=((K+2:Nat):Int)/\Below w w wr)) (fun _ x _=>1-(intOf x).toNat);case atStart=>exact .inl ⟨rfl,rfl,rfl⟩
 case round=>
  rcases hrel with ⟨rfl,rfl,rfl⟩|⟨rfl,rfl,H⟩
  ·go_wp2_with fail;go_region_held3 (fun w'=>w'.cell? ⟨g,4,none⟩=some (.string S3)) (go_keep)
    (first|(go_at_call 117;refine(HMT.out _).mono ?_;rintro e w2 ⟨rfl,hw2⟩;have f4:=(hw2.cell (p:=⟨g,4,none⟩) lt).trans p4;have f5:=(hw2.cell (p:=⟨g,5,none⟩) lt).trans p5;have f6:=(hw2.cell (p:=⟨g,6,none⟩) lt).trans p6;have f7:=(hw2.cell (p:=⟨g,7,none⟩) lt).trans p7;have f8:=(hw2.cell (p:=⟨g,8,none⟩) lt).trans p8;have f9:=(hw2.cell (p:=⟨g,9,none⟩) lt).trans p9))
   have B1:=(yA (wr:Nat) wr).drew.trans (hw2.mono (yB _));have lt2:=yF lt B1.size;clear p0 p1 p2 p3 p4 p5 p6 p7 p8 p9;go_wp2_with fail;refine(HFM.out _ B1).mono ?_;rintro e w3 ⟨rfl,hw3⟩;have d7:=(hw3.cell lt2).trans f7;have d8:=(hw3.cell lt2).trans f8;have d9:=(hw3.cell lt2).trans f9;have B2:=B1.trans (hw3.mono B1.size);clear f4 f5 f6 f7 f8 f9 hw2 hw3;have k2:¬((K:Int)+1+1:Int)<0:=by omega
   go_wp2_with fail;refine(Gh _ _ _ _).mono ?_;rintro e w3 ⟨rfl,rfl⟩;go_wp2;go_roundw;case rel=>exact .inr ⟨by go_num,by congr 1<;>omega,B2⟩
   case measure=>simp[intOf]
  ·go_wp2;go_ret;exact⟨rfl,H⟩
theorem A94 (k:Int) (w:World):Kw 72 #[.agg #[(),nS,ByteArray.empty],k] w k:=by have hb1:∀o,Below w w (w.alloc o):=fun o=>(yA _ _).alloc (yB _) o;unfold Kw;go_in;go_wp2_with fail;refine(Ew none 0 k _).mono ?_;rintro e w1 ⟨rfl,rfl⟩;go_wp2;go_ret;exact⟨rfl,hb1 _⟩
theorem A0x (k:Int) (w:World):Kw 73 #[.agg #[(),nS,nS,ByteArray.empty,ByteArray.empty,(),()],k] w k:=by have hb1:∀o,Below w w (w.alloc o):=fun o=>(yA _ _).alloc (yB _) o;unfold Kw;go_in;go_wp2_with fail;refine(A0v none 0 k _).mono ?_;rintro e w1 ⟨rfl,rfl⟩;go_wp2_with fail;refine(Ua none 0 k _).mono ?_;rintro e w1 ⟨rfl,rfl⟩;go_wp2;go_ret;exact⟨rfl,hb1 _⟩
theorem A8u (k:Int) (w:World) (hk:0<=k):Kw 78 #[.agg #[(),nS,ByteArray.empty],k] w k:=by
 have hb1:∀o,Below w w (w.alloc o):=fun o=>(yA _ _).alloc (yB _) o;have kn:¬k<0:=by omega
 unfold Kw;go_in;go_wp2_with fail;refine(Gh none 0 k _).mono ?_;rintro e w1 ⟨rfl,rfl⟩;go_wp2;go_ret;exact⟨rfl,hb1 _⟩
theorem A07 (k:Int) (w:World) (hk:0<=k):Kw 79 #[.agg #[(),nS,nS,ByteArray.empty,ByteArray.empty,(),()],k] w k:=by
 have hb1:∀o,Below w w (w.alloc o):=fun o=>(yA _ _).alloc (yB _) o;have kn:¬k<0:=by omega
 unfold Kw;go_in;go_wp2_with fail;refine(A06 none 0 k _).mono ?_;rintro e w1 ⟨rfl,rfl⟩;go_wp2_with fail;refine(U5 none 0 k _).mono ?_;rintro e w1 ⟨rfl,rfl⟩;go_wp2;go_ret;exact⟨rfl,hb1 _⟩
def CM (w:World) (co:Option Addr) (L:List Nat) (n:Nat):Prop:=n=0∨∃bc m,co=some ⟨bc,0,none⟩/\L=[bc]/\n*2<=m/\Own w bc 217 m
def CMd (w:World) (co:Option Addr) (L:List Nat) (k n:Nat):Prop:=n=0∨∃bc,co=some ⟨bc,0,none⟩/\bc∈L/\bc<(w:Nat)/\Ae w bc 0 ((mCs k n).flatMap caV)
theorem CM.chg {w w':World} {co:Option Addr} {L M:List Nat} {n:Nat} (h:CM w co L n) (c:Chg M w w') (hd:∀b∈L,b∉M):CM w' co L n:=
 h.imp_right fun ⟨bc,m,e1,e2,e3,e4⟩=>⟨bc,m,e1,e2,e3,c.own (hd _ (by simp[e2])) e4⟩
theorem CMd.chg {w w':World} {co:Option Addr} {L M:List Nat} {k n:Nat} (h:CMd w co L k n) (c:Chg M w w') (hd:∀b∈L,b∉M):CMd w' co L k n:=
 h.imp_right fun ⟨bc,e1,e2,e3,e4⟩=>⟨bc,e1,e2,yF e3 c.size,Ae.chg e4 c (hd _ e2)⟩
theorem CMd.at {w:World} {co:Option Addr} {L:List Nat} {k n:Nat} (h:CMd w co L k n):Hz 0 w co (mCs k n):=by
 rcases h with rfl|⟨bc,rfl,_,e3,e4⟩
 ·intro i x hx;simp[mCs]at hx
 ·exact Aac e4 (yE _) fun _=>e3
theorem Vi (ao:Option Addr) (c:Nat) (k:Int) (w:World):Calls prog 69 #[.slice ao 0 c,k] w fun e w'=>e=.returned k/\w'=w:=by
 go_in;go_wp2;go_loop [1,5] (fun y i=>y=k/\i=()) (fun _ _=>0);case atStart=>exact⟨rfl,rfl⟩
 case round=> obtain⟨rfl,rfl⟩:=hrel;go_wp2;go_ret;exact⟨rfl,rfl⟩
theorem A0r (co:Option Addr) (cap n:Nat) (L:List Nat) (w:World) (hn:n<=1048576) (h:CM w co L n) :
  Calls prog 69 #[.slice co n cap,(1:Int)] w fun e w'=>e=.returned ((1+n*2:Nat):Int)/\CMd w' co L 1 n/\Chg L w w':=by
 rcases h with rfl|⟨bc,m,rfl,rfl,e3,e4⟩
 ·exact(Vi co cap 1 w).mono fun e w' ⟨a,b⟩=>⟨a,.inl rfl,b▸Chg.refl _ _⟩
 ·have hl:=e4.lt;exact(A0q bc n cap 1 m w hn (by omega) e3 e4).mono fun e w' ⟨a,b,c⟩=>⟨a,.inr ⟨bc,rfl,by simp,yF hl c.size,b⟩,c⟩
def TsM (w:World) (to_:Option Addr) (L:List Nat):Option (List Rh)->Prop
 | none=>True
 | some xs=>∃g m bf fc mf ro rc M,to_=some ⟨g,0,none⟩/\L=g::bf::M/\TM w g m bf fc mf ro rc M xs
def TsMd (w:World) (to_:Option Addr) (L:List Nat) (k:Nat):Option (List Rh)->Prop
 | none=>True
 | some xs=>∃g bf fc ro rc M,to_=some ⟨g,0,none⟩/\L=g::bf::M/\TMd w g bf fc ro rc M k xs
def xN:Option (List Rh)->Nat
 | none=>0
 | some _=>1
def kX (k:Nat):Option (List Rh)->Nat
 | none=>k
 | some xs=>kT k (xs.map (·.r))+2
def XOk:Option (List Rh)->Prop
 | none=>True
 | some xs=>xs.length<=1048576/\∀x∈xs,x.r.list.length<=1048576
theorem TM.chg {w w':World} {g m bf fc mf:Nat} {ro:Option Addr} {rc:Nat} {M L:List Nat} {xs:List Rh} (h:TM w g m bf fc mf ro rc M xs) (c:Chg L w w') (hd:∀b∈g::bf::M,b∉L):TM w' g m bf fc mf ro rc M xs:=by have h1:=hd g (by simp);have h2:=hd bf (by simp);exact⟨h.hm,c.own h1 h.own,c.cell h1 h.c6,c.cell h1 h.c9,h.hmf,c.own h2 h.ownf,c.cell h2 h.f4,c.cell h2 h.f10,c.cell h2 h.f11,c.cell h2 h.f15,h.rm.chg c fun b hb=>hd b (by simp[hb]),h.gf,h.gM,h.fM⟩
theorem TsM.chg {w w':World} {to_:Option Addr} {L M:List Nat} {x:Option (List Rh)} (h:TsM w to_ L x) (c:Chg M w w') (hd:∀b∈L,b∉M):TsM w' to_ L x:=by
 cases x with
 | none=>trivial
 | some xs=>obtain⟨g,m,bf,fc,mf,ro,rc,N,e1,rfl,e3⟩:=h;exact⟨g,m,bf,fc,mf,ro,rc,N,e1,rfl,e3.chg c hd⟩
theorem A3j (to_:Option Addr) (cap k:Nat) (L:List Nat) (x:Option (List Rh)) (w:World) (hk:k<=8000000) (h:TsM w to_ L x) :
  Calls prog 70 #[.slice to_ (xN x) cap,k] w fun e w'=>e=.returned (kX k x:Int)/\TsMd w' to_ L k x/\Chg L w w':=by
 cases x with
 | none=>exact(Y6 to_ cap k w).mono fun e w' ⟨a,b⟩=>⟨a,trivial,b▸Chg.refl _ _⟩
 | some xs=>
  obtain⟨g,m,bf,fc,mf,ro,rc,N,rfl,rfl,e3⟩:=h;exact(Y7 g m bf fc mf ro rc N xs cap k w hk e3).mono fun e w' ⟨a,b,c⟩=>⟨a,⟨g,bf,fc,ro,rc,N,rfl,rfl,b⟩,c⟩
def Xc (w:World) (to_:Option Addr) (k:Nat):Option (List Rh)->Prop
 | none=>True
 | some xs=>∃g bf fc ro rc,to_=some ⟨g,0,none⟩/\g<(w:Nat)/\Ae w g 0 ((mTk k (xs.map (·.r))).cs (some ⟨bf,0,none⟩) fc)/\bf<(w:Nat)/\Ae w bf 0 ((mFr (k+6) (xs.map (·.r))).cs ro rc)/\Bp 0 w ro (mRs (k+6+9) (xs.map (·.r)))
theorem TsMd.hd {w:World} {to_:Option Addr} {L:List Nat} {k:Nat} {x:Option (List Rh)} (h:TsMd w to_ L k x):Xc w to_ k x:=by
 cases x with
 | none=>trivial
 | some xs=>obtain⟨g,bf,fc,ro,rc,M,e1,_,e2⟩:=h;exact⟨g,bf,fc,ro,rc,e1,e2.lt,e2.row,e2.ltf,e2.rowf,e2.rm.regs⟩
theorem Xc.l {w w':World} {to_:Option Addr} {k:Nat} {x:Option (List Rh)} (h:Xc w to_ k x) (hb:Below w w w'):Xc w' to_ k x:=by
 cases x with
 | none=>trivial
 | some xs=>
  obtain⟨g,bf,fc,ro,rc,e1,e2,e3,e4,e5,e6⟩:=h;exact⟨g,bf,fc,ro,rc,e1,yF e2 hb.size,e3.keep (A7.o (lo:=0) hb) (yE _) e2,yF e4 hb.size,e5.keep (A7.o (lo:=0) hb) (yE _) e4,e6.l (A7.o hb)⟩
theorem A2v (to_:Option Addr) (cap k:Nat) (x:Option (List Rh)) (w:World) (hk:k<=8000000) (hx:XOk x) (h:Xc w to_ k x) :
  Kw 76 #[.slice to_ (xN x) cap,k] w (kX k x:Int):=by
 cases x with
 | none=>exact(Xm to_ cap k w).mono fun e w' ⟨a,b⟩=>⟨a,b▸yA _ _⟩
 | some xs=>
  obtain⟨g,bf,fc,ro,rc,rfl,e2,e3,e4,e5,e6⟩:=h;exact Xn g bf fc ro rc xs cap k w hk hx.1 hx.2 e2 e3 e4 e5 e6
theorem Xz (pace:Int) (co to_:Option Addr) (n cc tc:Nat) (Lc Lt:List Nat) (x:Option (List Rh)) (w:World) (hn:n<=1048576) (hlo:∀b∈Lc++Lt,b<(w:Nat)) (hd:∀b∈Lt,b∉Lc) (hC:CM w co Lc n) (hT:TsM w to_ Lt x) :
  Calls prog 29 #[.agg (mcs pace co n cc to_ (xN x) tc),(1:Int)] w fun e w'=>e=.returned (kX (1+n*2) x:Int)/\Hz 0 w' co (mCs 1 n)/\Xc w' to_ (1+n*2) x/\Chg (Lc++Lt) w w':=by
 have hb1:∀o,Below w w (w.alloc o):=fun o=>(yA _ _).alloc (yB _) o;have gB:=fun o L=>(Chg.refl L w).below (hb1 o);unfold mcs;obtain⟨m,hm⟩:∃m,m=xN x:=⟨_,rfl⟩;obtain⟨K,hK⟩:∃K,K=kX (1+n*2) x:=⟨_,rfl⟩;have HMC:Hid _:=fun W h=>A0r co cc n Lc W hn h;have HMT:Hid (∀W,TsM W to_ Lt x->Calls prog 70 #[.slice to_ m tc,((1+n*2:Nat):Int)] W fun e w'=>e=.returned (K:Int)/\TsMd w' to_ Lt (1+n*2) x/\Chg Lt W w'):=fun W h=>by rw[hm,hK];exact A3j to_ tc (1+n*2) Lt x W (by omega) h
 rw[←hm,←hK];have X0:=Blk.new w #[pace,(),(),(),(),nS,.slice co n cc,(),(),.slice to_ m tc,(),false,nS,(),nS,ByteArray.empty,false,(),(),(),(),nS,nS,ByteArray.empty,ByteArray.empty,(),()] 58;have HX:Hid (∀o,CM (w.alloc o) co Lc n/\TsM (w.alloc o) to_ Lt x):=fun o=>⟨hC.chg (gB o []) (by simp),hT.chg (gB o []) (by simp)⟩;clear hm hK hC hT;go_in;have x0:=X0.cell;go_wp2_with fail;refine(Y5 none 0 _ _).mono ?_;rintro e w1 ⟨rfl,rfl⟩;go_wp2_with fail;refine(HMC.out _ (HX.out _).1).mono ?_;rintro e w1 ⟨rfl,hd1,hc1⟩;have nc:(w:Nat)∉Lc:=fun h=>Nat.lt_irrefl _ (hlo _ (by simp[h]));have nt:(w:Nat)∉Lt:=fun h=>Nat.lt_irrefl _ (hlo _ (by simp[h]));have X1:Blk w1 w _ 58:=(hc1.block _ nc X0.lt).trans X0;have T1:=(HX.out (.cells #[pace,(),(),(),(),nS,.slice co n cc,(),(),.slice to_ m tc,(),false,nS,(),nS,ByteArray.empty,false,(),(),(),(),nS,nS,ByteArray.empty,ByteArray.empty,(),()] 58)).2.chg hc1 hd;have HCa:Hid _:=(gB (.cells #[pace,(),(),(),(),nS,.slice co n cc,(),(),.slice to_ m tc,(),false,nS,(),nS,ByteArray.empty,false,(),(),(),(),nS,nS,ByteArray.empty,ByteArray.empty,(),()] 58) (Lc++Lt)).trans hc1 (by simp +contextual);have HD1:Hid (CMd w1 co Lc 1 n):=hd1;clear hc1 hd1 X0 x0 HX;have x1:=X1.cell;go_wp2_with fail;refine(HMT.out _ T1).mono ?_;rintro e w2 ⟨rfl,hd2,hc2⟩;have X2:Blk w2 w _ 58:=(hc2.block _ nt X1.lt).trans X1;have HD2:Hid (Hz 0 w2 co (mCs 1 n)):=(HD1.out.chg hc2 (fun b hb h=>hd b h hb)).at;have HT2:Hid (Xc w2 to_ (1+n*2) x):=hd2.hd;have HC2:Hid _:=HCa.out.trans hc2 (by simp +contextual);clear hc2 hd2 X1 x1 HCa HD1 T1;have x2:=X2.cell;go_wp2_with fail;refine(Ew none 0 _ _).mono ?_;rintro e w2 ⟨rfl,rfl⟩;go_wp2_with fail;refine(A94 _ _).mono ?_;rintro e w3 ⟨rfl,hw3⟩;have X3:=X2.l hw3;have HC3:Hid _:=HC2.out.below hw3;have HD3:Hid (Hz 0 w3 co (mCs 1 n)):=HD2.out.l (A7.o hw3);have HT3:Hid (Xc w3 to_ (1+n*2) x):=HT2.out.l hw3;clear hw3 X2 x2 HC2 HD2 HT2;have x3:=X3.cell;go_wp2_with fail;refine(A0x _ _).mono ?_;rintro e w4 ⟨rfl,hw4⟩;clear x3;go_wp2;go_ret;exact⟨rfl,HD3.out.l (A7.o hw4),HT3.out.l hw4,HC3.out.below hw4⟩
theorem Xk (pace:Int) (co to_:Option Addr) (n cc tc:Nat) (x:Option (List Rh)) (w:World) (hn:n<=1048576) (hx:XOk x) (hC:Hz 0 w co (mCs 1 n)) (hT:Xc w to_ (1+n*2) x) :
  Kw 30 #[.agg (mcs pace co n cc to_ (xN x) tc),(1:Int)] w (kX (1+n*2) x:Int):=by
 unfold mcs;obtain⟨m,hm⟩:∃m,m=xN x:=⟨_,rfl⟩;obtain⟨K,hK⟩:∃K,K=kX (1+n*2) x:=⟨_,rfl⟩;have HMC:Hid (∀W,Below w w W->Kw 75 #[.slice co n cc,(1:Int)] W ((1+n*2:Nat):Int)):=fun W h=>A05 co n cc 1 W hn (by omega) (hC.l (A7.o h));have HMT:Hid (∀W,Below w w W->Kw 76 #[.slice to_ m tc,((1+n*2:Nat):Int)] W (K:Int)):=fun W h=>by rw[hm,hK];exact A2v to_ tc (1+n*2) x W (by omega) hx (hT.l h)
 rw[←hm,←hK];have X0:=Blk.new w #[pace,(),(),(),(),nS,.slice co n cc,(),(),.slice to_ m tc,(),false,nS,(),nS,ByteArray.empty,false,(),(),(),(),nS,nS,ByteArray.empty,ByteArray.empty,(),()] 58;have B0:=Af (yA (w:Nat) w) (.cells #[pace,(),(),(),(),nS,.slice co n cc,(),(),.slice to_ m tc,(),false,nS,(),nS,ByteArray.empty,false,(),(),(),(),nS,nS,ByteArray.empty,ByteArray.empty,(),()] 58);have k1:¬((1+n*2:Nat):Int)<0:=by omega
 have k2:¬(K:Int)<0:=by omega
 clear hm hK hC hT hx;unfold Kw;go_in;have x0:=X0.cell;go_wp2_with fail;refine(Xl none 0 _ _).mono ?_;rintro e w1 ⟨rfl,rfl⟩;go_wp2_with fail;refine(HMC.out _ B0).mono ?_;rintro e w1 ⟨rfl,hw1⟩;have X1:=X0.l hw1;have B1:=B0.trans (hw1.mono B0.size);clear hw1 X0 x0 B0;have x1:=X1.cell;go_wp2_with fail;refine(HMT.out _ B1).mono ?_;rintro e w2 ⟨rfl,hw2⟩;have X2:=X1.l hw2;have B2:=B1.trans (hw2.mono B1.size);clear hw2 X1 x1 B1;have x2:=X2.cell;go_wp2_with fail;refine(Gh none 0 _ _).mono ?_;rintro e w2 ⟨rfl,rfl⟩;go_wp2_with fail;refine(A8u _ _ (by omega)).mono ?_;rintro e w3 ⟨rfl,hw3⟩;have X3:=X2.l hw3;have B3:=B2.trans (hw3.mono B2.size);clear hw3 X2 x2 B2;have x3:=X3.cell;go_wp2_with fail;refine(A07 _ _ (by omega)).mono ?_;rintro e w4 ⟨rfl,hw4⟩;have B4:=B3.trans (hw4.mono B3.size);clear x3;go_wp2;go_ret;exact⟨rfl,B4⟩
structure Elt (t e:TypeId) (z:Value) (size bytes:Nat):Prop where
 ht:prog.underlying t=some (.slice e)
 hi:(prog.info? e).map (fun i=>(i.zero,i.size,i.bytes))=some (some z,size,bytes)
 hz:z.cells.size=size
 h0:0<size
theorem A8n:Elt 51 210 (.agg #[(),(),.float .f64 0,ByteArray.empty,()]) 5 48:=⟨underlying51,by kernel_rfl,rfl,by decide⟩
theorem Ae.news {w:World} {B:Nat} {news:List Value} (h:Ae w B 0 news):∀j u,news[j]?=some u->w.cell? ((⟨B,0,none⟩:Addr).add j)=some u:=fun j u hj=>by
 have:=h j u hj;rw[Addr.add_lit];exact this
variable {t e:TypeId} {z:Value} {size bytes:Nat} {w:World} {ops:Array Oper} {o:Oper} {a:Act} {Q:Exit→Act→World→Prop}
theorem Adn (I:Elt t e z size bytes) {K:Act->World->Prop} {E:Prop} (hgd:o.guard=none) (s x:Operand) (ho:o.op=.call {callee:=.builtin .append,args:=#[s,x],argTypes:=#[t,t]})
  (base:Nat) (v:Value) (n:Nat) (xs news:List Value) (B:Nat) (hs:a.eval s=v) (hown:w.ownsRow base e size v n xs) (hx:a.eval x=.slice B 1 1) (hB:Ae w B 0 news) (hl:news.length=size) (h1:∀u∈news,u.oneCell'=true)
  (hn:n<=1048576) (hby:bytes<=1024) (hbase:base<=(w:Nat))
  (h:∀v' w',w'.ownsRow base e size v' (n+1) (xs++news)->w.grownBy w' v.ownBlock->(v'.ownBlock=v.ownBlock∨v'.ownBlock=some (w:Nat))->K (a.put o.dst v') w') :
  if Region.wanted o (yielded ops a.tmps)=true then Oper.wp prog o a w K Q else E:=by
 have hw:Region.wanted o (yielded ops a.tmps)=true:=by simp[Region.wanted,hgd]
 rw[if_pos hw];obtain⟨i0,hi,hz0,hz1,hz2⟩:=info_parts I.hi;have hby2:(n+1)*bytes<=1048577*1024:=Nat.mul_le_mul (by omega) hby;obtain⟨v',w',hr,h2,h3,h4,h5⟩:=run_append_own_at (P:=prog) w base t o.type e i0 z size bytes I.ht hi hz0 hz1 hz2 I.hz I.h0 v n xs hown ⟨B,0,none⟩ 1 1 news (by omega) hB.news h1 (by unfold maxLen;omega) (by omega) hbase;unfold Oper.wp execOp;simp only[ho,resolve,invoke,builtin,Sem.run_bind,Sem.run_pure,Result.andThen_ok,List.map_toArray,List.map_cons,List.map_nil,hs,hx,hr];exact h v' w' h2 h3 h5
theorem Ir (I:Elt t e z size bytes) {rest:List Oper} (hgd:o.guard=none) (s x:Operand) (ho:o.op=.call {callee:=.builtin .append,args:=#[s,x],argTypes:=#[t,t]})
  (base:Nat) (v:Value) (n:Nat) (xs news:List Value) (B:Nat) (hs:a.eval s=v) (hown:w.ownsRow base e size v n xs) (hx:a.eval x=.slice B 1 1) (hB:Ae w B 0 news) (hl:news.length=size) (h1:∀u∈news,u.oneCell'=true)
  (hn:n<=1048576) (hby:bytes<=1024) (hbase:base<=(w:Nat))
  (h:∀v' w',w'.ownsRow base e size v' (n+1) (xs++news)->w.grownBy w' v.ownBlock->(v'.ownBlock=v.ownBlock∨v'.ownBlock=some (w:Nat))->wpList prog ops Q rest (a.put o.dst v') w'):wpList prog ops Q (o::rest) a w:=by
 obtain⟨i0,hi,hz0,hz1,hz2⟩:=info_parts I.hi;have hby2:(n+1)*bytes<=1048577*1024:=Nat.mul_le_mul (by omega) hby;exact wpList_append_own_at w hgd s x t ho base e i0 z size bytes I.ht hi hz0 hz1 hz2 I.hz I.h0 v n xs hs hown ⟨B,0,none⟩ 1 1 news hx (by omega) hB.news h1 (by unfold maxLen;omega) (by omega) hbase fun v' w' h2 h3 _ h5=>h v' w' h2 h3 h5
theorem Br {w:World} {base e size n:Nat} {v:Value} {xs:List Value} (h:w.ownsRow base e size v n xs):(v=.slice none 0 0/\n=0/\xs=[])∨∃g cap,v=.slice (some ⟨g,0,none⟩) n cap/\base<=g/\Own w g e (cap*size)/\n*size<=cap*size/\Ae w g 0 xs:=by
 obtain⟨h1,⟨rfl,rfl⟩|⟨g,cap,cur,rfl,h3,h4,h5,_,h6,h7⟩⟩:=h
 ·exact .inl ⟨rfl,rfl,by simpa using h1⟩
 ·refine .inr ⟨g,cap,rfl,h3,⟨cur,h4,h6⟩,Nat.mul_le_mul_right _ h5,fun i u hu=>?_⟩;rw[yM];have hi:i<n*size:=by have:=(yD.1 hu).1;omega
  rw[←h7,List.getElem?_take_of_lt hi,Array.getElem?_toList]at hu;simpa[World.cell?,h4]using hu
theorem A9s {lo:Nat} {w:World} {b o:Nat} {vs:List Vd} (h:Ba lo w (some ⟨b,o,none⟩) vs):∀j u,(vs.flatMap Vd.vals)[j]?=some u->w.cell? ((⟨b,o,none⟩:Addr).add j)=some u:=fun j u hj=>by
 rw[Addr.add_lit]
 induction vs generalizing o j with
 | nil=>simp at hj
 | cons x xs ih=>
  have h0:=h 0 x rfl;rw[List.flatMap_cons]at hj;by_cases hlt:j<5
  ·rw[List.getElem?_append_left (by simpa[Vd.vals]using hlt)]at hj;obtain⟨b',o',e,_,_,q0,q1,q2,q3,q4⟩:=h0;obtain⟨rfl,rfl⟩:b=b'/\o=o':=by injection e with e;injection e with e1 e2;exact⟨e1,e2⟩
   match j,hlt,hj with
   | 0,_,hj=>simp[Vd.vals]at hj;rw[←hj];simpa using q0
   | 1,_,hj=>simp[Vd.vals]at hj;rw[←hj];simpa using q1
   | 2,_,hj=>simp[Vd.vals]at hj;rw[←hj];simpa using q2
   | 3,_,hj=>simp[Vd.vals]at hj;rw[←hj];simpa using q3
   | 4,_,hj=>simp[Vd.vals]at hj;rw[←hj];simpa using q4
  ·rw[List.getElem?_append_right (by simp[Vd.vals];omega)]at hj;have:=ih (fun i y hy=>by
    obtain⟨b',o',e,p1,p2,p3⟩:=h (i+1) y (by simpa using hy);obtain⟨rfl,rfl⟩:b=b'/\o=o':=by injection e with e;injection e with e1 e2;exact⟨e1,e2⟩
    exact⟨b,o+5,rfl,p1,p2,by rw[show o+5+i*5=o+(i+1)*5 by omega];exact p3⟩) (j-5) (by simpa[Vd.vals]using hj)
   rw[show o+5+(j-5)=o+j by omega]at this;exact this
theorem Ace {vs:List Vd} : ∀u∈vs.flatMap Vd.vals,u.oneCell'=true:=fun u hu=>by
 obtain⟨x,_,hx⟩:=List.mem_flatMap.1 hu;simp[Vd.vals]at hx;rcases hx with rfl|rfl|rfl|rfl|rfl<;>rfl
theorem Uv (w:World):Calls prog 266 #[nS] w fun e w'=>e=.returned nS/\w'=w:=by go_in;go_wp2;go_ret;exact⟨rfl,rfl⟩
theorem Uu (b o cap:Nat) (vs:List Vd) (w:World) (hn:vs.length<=1048576) (h:Ba 0 w (some ⟨b,o,none⟩) vs) :
  Calls prog 266 #[.slice (some ⟨b,o,none⟩) vs.length cap] w fun e w'=>∃v,e=.returned v/\w'.ownsRow (w:Nat) 210 5 v vs.length (vs.flatMap Vd.vals)/\Below w w w':=by
 obtain⟨i0,hi,hz0,hz1,hz2⟩:=info_parts A8n.hi;have HC:Hid _:=A9s h;have HL:Hid ((vs.flatMap Vd.vals).length=vs.length*5):=Le (f:=Vd.vals) (m:=5) (fun _=>rfl) vs;have HO:Hid (∀u∈vs.flatMap Vd.vals,u.oneCell'=true):=Ace;generalize vs.flatMap Vd.vals=L at *;generalize vs.length=n at *;clear h;go_in;go_wp2_with (at_builtin;refine wpList_append_own_at _ rfl _ _ 51 rfl (w:Nat) 210 i0 _ 5 48 A8n.ht hi hz0 hz1 hz2 rfl (by decide) _ 0 [] rfl (yU _ _ _ _) ⟨b,o,none⟩ n cap L rfl HL.out HC.out HO.out ?qc4 ?qc5 (yB _) ?_);case qc4=>unfold maxLen;omega
 case qc5=>omega
 intro v' w1 hown hgrow _ _;replace hown:w1.ownsRow (w:Nat) 210 5 v' n L:=by simpa using hown
 have B1:=(yA _ w).grown hgrow (yB _) (by intro k hk;simp[Value.ownBlock]at hk);obtain⟨vo,vc,rfl⟩:=Aa hown;go_wp2;go_ret;exact⟨_,rfl,hown,B1⟩
theorem Xg (w:World):Calls prog 267 #[nS] w fun e w'=>e=.returned nS/\w'=w:=by go_in;go_wp2;go_ret;exact⟨rfl,rfl⟩
theorem Xh (w:World):Calls prog 268 #[nS] w fun e w'=>e=.returned nS/\w'=w:=by go_in;go_wp2;go_ret;exact⟨rfl,rfl⟩
theorem Yi (s:ByteArray) (w:World):Kw 135 #[s] w (.agg #[(4:Int),(),.float .f64 0,s,()]):=by unfold Kw;go_in;go_wp2_with fail;refine bodyPost_ret (by simp[results,results135,go_sem]) rfl ⟨rfl,?_⟩;repeat (first|exact yA _ _|refine Below.alloc ?_ (by simp;try omega) _|refine yP ?_ (by simp;try omega) _)
theorem A55 {W:World} {b:Nat} {arr:Array Value} (h:∀o,W.cell? ⟨b,o,none⟩=arr[o]?) {i:Nat} {v:Value} (hv:arr[i]?=some v):∀o,(W.setCell (b,i) v).cell? ⟨b,o,none⟩=arr[o]?:=fun o=>by
 by_cases e:i=o
 ·subst e;rw[World.cell?_setCell_same _ _ _ ((h i).trans hv),hv]
 ·rw[A9 v e];exact h o
theorem Gg (w:World):Kw 209 #[.agg #[(),nS,nS,ByteArray.empty,ByteArray.empty,(),()]] w (.agg #[(),nS,nS,ByteArray.empty,ByteArray.empty,(),()]):=by
 have X0:=(Blk.new w #[(),nS,nS,ByteArray.empty,ByteArray.empty,(),()] 56).alloc (.cells #[(),nS,nS,ByteArray.empty,ByteArray.empty,(),()] 56);unfold Kw;go_in;have x0:=X0.cell;have xf:=X0.frozen;go_wp2_with fail;go_region_held3 (fun w'=>(∀o,w'.cell? ⟨w.heap.size,o,none⟩=#[Value.int .i64 0,.slice none 0 0,.slice none 0 0,.string ByteArray.empty,.string ByteArray.empty,.int .i64 0,.int .i64 0][o]?)) (first|go_keep|exact A55 (by assumption) rfl)
  (first|(go_at_call 267;refine(Xg _).mono ?_;rintro e w1 ⟨rfl,rfl⟩)|(go_at_call 268;refine(Xh _).mono ?_;rintro e w1 ⟨rfl,rfl⟩))
 go_wp2_with fail;refine bodyPost_ret (by simp[results,results209,go_sem]) rfl ⟨rfl,?_⟩;repeat (first|exact yA _ _|refine Below.alloc ?_ (by simp;try omega) _|refine yP ?_ (by simp;try omega) _|refine Below.drew ?_)
theorem Blk.nh {W:World} {n:Nat} (arr:Array Value) (t:TypeId) (h:(W:Nat)=n):Blk (W.alloc (.cells arr t)) n arr t:=h▸Blk.new W arr t
theorem Blk.there {w:World} {b:Nat} {arr:Array Value} {t:TypeId} (h:Blk w b arr t):w.there b 0 arr.size:=fun j hj=>⟨by rw[yM,h.cell];simp[hj],by rw[yM];exact h.frozen j⟩
theorem Own.there {w:World} {g:Nat} {t:TypeId} {m:Nat} (h:Own w g t m):w.there g 0 m:=fun j hj=>⟨by rw[yM];obtain⟨v,hv⟩:=h.cell hj;rw[hv];rfl,by rw[yM];exact h.frozen j⟩
theorem Fv {f:Func} {tmps:Array Value} {w:World} {k:Nat} {ty:TypeId} {b:Nat} {cs:List Value} {d:TypeDesc} (hf:f.results=#[.cell k ty]) (hk:tmps.getD k undef=.pointer (some ⟨b,0,none⟩)) (hc:w.rangeAt b 0 cs)
  (hu:prog.underlying ty=some d) (hd:d.isRow=true) (hi:(prog.info? ty).map (·.size)=some cs.length):(results f tmps).run prog w=.ok (.agg cs.toArray) w:=by
 unfold results;rw[hf];have h1:=run_loadVar_mid w b 0 ty cs d hc hu hd hi;rw[show (#[ResultVar.cell k ty]:Array ResultVar)=[ResultVar.cell k ty].toArray from rfl];simp only[List.mapM_toArray,List.mapM_cons,List.mapM_nil,hk,asAddr];simp[h1]
theorem Acu {vs:List (Int×Int)} : ∀u∈vs.flatMap caV,u.oneCell'=true:=fun u hu=>by
 obtain⟨x,_,hx⟩:=List.mem_flatMap.1 hu;simp[caV]at hx;rcases hx with rfl|rfl<;>rfl
theorem eltC:Elt 49 217 (.agg #[(),()]) 2 16:=⟨underlying49,by kernel_rfl,rfl,by decide⟩
theorem Tt (b cap:Nat) (vs:List (Int×Int)) (w:World) (hn:vs.length<=1048576) (h:Ae w b 0 (vs.flatMap caV)) :
  Calls prog 211 #[.slice b vs.length cap] w fun e w'=>∃v,e=.returned v/\w'.ownsRow (w:Nat) 217 2 v vs.length (vs.flatMap caV)/\Below w w w':=by
 obtain⟨i0,hi,hz0,hz1,hz2⟩:=info_parts eltC.hi;have HC:Hid _:=Ae.news h;have HL:Hid ((vs.flatMap caV).length=vs.length*2):=Le (f:=caV) (m:=2) (fun _=>rfl) vs;have HO:Hid (∀u∈vs.flatMap caV,u.oneCell'=true):=Acu;generalize vs.flatMap caV=L at *;generalize vs.length=n at *;clear h;go_in;go_wp2_with (at_builtin;refine wpList_append_own_at _ rfl _ _ 49 rfl (w:Nat) 217 i0 _ 2 16 eltC.ht hi hz0 hz1 hz2 rfl (by decide) _ 0 [] rfl (yU _ _ _ _) ⟨b,0,none⟩ n cap L rfl HL.out HC.out HO.out ?qc4 ?qc5 (yB _) ?_);case qc4=>unfold maxLen;omega
 case qc5=>omega
 intro v' w1 hown hgrow _ _;replace hown:w1.ownsRow (w:Nat) 217 2 v' n L:=by simpa using hown
 have B1:=(yA _ w).grown hgrow (yB _) (by intro k hk;simp[Value.ownBlock]at hk);obtain⟨vo,vc,rfl⟩:=Aa hown;go_wp2;go_ret;exact⟨_,rfl,hown,B1⟩
section
variable {ops:Array Oper} {rest:List Oper} {Q:Exit→Act→World→Prop} {a:Act} {w:World} {oi:Oper}
theorem rgL {id:Nat} {l:List Oper} (h:wpList prog l.toArray Q l a w):(Code.region id l.toArray false).wp prog Q a w:=wp_region_list h
theorem plF (hgd:oi.guard=none) (h:∃v,(execOp a.eval oi).run prog w=.ok (.value v) w/\wpList prog ops Q rest (a.put oi.dst v) w):wpList prog ops Q (oi::rest) a w:=by obtain⟨v,h1,h2⟩:=h;refine wpList_plain hgd fun K hK=>?_;unfold Oper.wp;rw[h1];exact hK _ _ h2
theorem plS (hgd:oi.guard=none) (h:∃w',(execOp a.eval oi).run prog w=.ok .skip w'/\wpList prog ops Q rest (a.put oi.dst undef) w'):wpList prog ops Q (oi::rest) a w:=by obtain⟨w',h1,h2⟩:=h;refine wpList_plain hgd fun K hK=>?_;unfold Oper.wp;rw[h1];exact hK _ _ h2
end
theorem Dk {W:World} {op:Oper} {a:Act} {ty:TypeId} {x y:Operand} {b o:Nat} {cells:Array Value} (ht:W.there b o cells.size) (hi:(prog.info? ty).map (·.size)=some cells.size) (h1:cells.all (·.oneCell')=true) (ho:op.op=.store ty x y) (hx:a.eval x=.pointer (some ⟨b,o,none⟩)) (hy:a.eval y=.agg cells) :
  (execOp a.eval op).run prog W=.ok .skip (W.setCells b o cells.toList):=by
 unfold execOp;simp only[ho,hx,hy,Instr.storeAt,Instr.sureAddr,Sem.run_bind,Sem.run_pure,Result.andThen_ok,run_storeVar_mid W b o ty cells ht hi h1]
end Go.Proofs.YtjbbppblgjhapaaGreatDoor
