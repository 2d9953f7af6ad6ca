import Derived.Test.YtjbbppblgjhapaaGreatDoorJ38
set_option maxRecDepth 100000
set_option maxHeartbeats 8000000
namespace Go.Proofs.YtjbbppblgjhapaaGreatDoor
open Go.Deep Go.Proofs.Tryz Go.RowKit
attribute [local go_sem] Ac
theorem Va (b cap k:Nat) (ro:Option Addr) (rc:Nat) (rs:List Rg) (w:World) (hk:k<=9000000) (hn:rs.length<=1048576) (hz:∀x∈rs,x.list.length<=1048576) (hb:b<(w:Nat)) (hc:Ae w b 0 ((mFr k rs).cs ro rc)) (hq:Bp 0 w ro (mRs (k+9) rs)) :
  Kw 149 #[.slice b 1 cap,k] w ((kR (k+9) rs+5:Nat):Int):=by
 have hkK:=Yw (k:=k+9) (xs:=rs) hz;obtain⟨K,HK⟩:∃K,Hid (kR (k+9) rs=K):=⟨_,rfl⟩;have HCS:Hid ((mFr k rs).cs ro rc=[.int .i64 ((k:Int)),.int .i64 ((k:Int)+1),.int .i64 ((k:Int)+1+1),.bool (((k:Int)+1+1+1)%3==0),.slice none 0 0,.int .i64 ((k:Int)+1+1+1+1),.int .i64 ((k:Int)+1+1+1+1+1),.int .i64 ((k:Int)+1+1+1+1+1+1),.int .i64 ((k:Int)+1+1+1+1+1+1+1),.int .i64 ((k:Int)+1+1+1+1+1+1+1+1),.slice ro rs.length rc,.slice none 0 0,.bool (((K:Int))%3==0),.bool (((K:Int)+1)%3==0),.int .i64 ((K:Int)+1+1),.slice none 0 0,.string (mt ((K:Int)+1+1+1).toNat),.int .i64 ((K:Int)+1+1+1+1)]):=by show _=_;simp[mFr,A7e,HK.out]
 rw[HCS.out]at hc;rw[HK.out]at hkK;rw[HK.out];have hKb:K<=1125899900000000:=by omega
 have e9:((k+9:Nat):Int)=(k:Int)+1+1+1+1+1+1+1+1+1:=by omega
 have HRM:Hid _:=fun W h=>by
  have h:=A5l ro rc (k+9) rs W hn (by omega) hz (hq.l (A7.o h));rw[e9,HK.out]at h;exact h
 have HMT:Hid (∀W,Kw 117 #[((K:Int)+1+1+1:Int)] W (.string (mt ((K:Int)+1+1+1).toNat))):=fun W=>Em _ W (by omega) (by omega);have k1:¬(K:Int)<0:=by omega
 have p0:w.cell? (b,0)=some (.int .i64 ((k:Int))):=by have h:=hc 0 _ rfl;rwa [yM]at h
 have p1:w.cell? (b,1)=some (.int .i64 ((k:Int)+1)):=by have h:=hc 1 _ rfl;rwa [yM]at h
 have p2:w.cell? (b,2)=some (.int .i64 ((k:Int)+1+1)):=by have h:=hc 2 _ rfl;rwa [yM]at h
 have p3:w.cell? (b,3)=some (.bool (((k:Int)+1+1+1)%3==0)):=by have h:=hc 3 _ rfl;rwa [yM]at h
 have p4:w.cell? (b,4)=some (.slice none 0 0):=by have h:=hc 4 _ rfl;rwa [yM]at h
 have p5:w.cell? (b,5)=some (.int .i64 ((k:Int)+1+1+1+1)):=by have h:=hc 5 _ rfl;rwa [yM]at h
 have p6:w.cell? (b,6)=some (.int .i64 ((k:Int)+1+1+1+1+1)):=by have h:=hc 6 _ rfl;rwa [yM]at h
 have p7:w.cell? (b,7)=some (.int .i64 ((k:Int)+1+1+1+1+1+1)):=by have h:=hc 7 _ rfl;rwa [yM]at h
 have p8:w.cell? (b,8)=some (.int .i64 ((k:Int)+1+1+1+1+1+1+1)):=by have h:=hc 8 _ rfl;rwa [yM]at h
 have p9:w.cell? (b,9)=some (.int .i64 ((k:Int)+1+1+1+1+1+1+1+1)):=by have h:=hc 9 _ rfl;rwa [yM]at h
 have p10:w.cell? (b,10)=some (.slice ro rs.length rc):=by have h:=hc 10 _ rfl;rwa [yM]at h
 have p11:w.cell? (b,11)=some (.slice none 0 0):=by have h:=hc 11 _ rfl;rwa [yM]at h
 have p12:w.cell? (b,12)=some (.bool (((K:Int))%3==0)):=by have h:=hc 12 _ rfl;rwa [yM]at h
 have p13:w.cell? (b,13)=some (.bool (((K:Int)+1)%3==0)):=by have h:=hc 13 _ rfl;rwa [yM]at h
 have p14:w.cell? (b,14)=some (.int .i64 ((K:Int)+1+1)):=by have h:=hc 14 _ rfl;rwa [yM]at h
 have p15:w.cell? (b,15)=some (.slice none 0 0):=by have h:=hc 15 _ rfl;rwa [yM]at h
 have p16:w.cell? (b,16)=some (.string (mt ((K:Int)+1+1+1).toNat)):=by have h:=hc 16 _ rfl;rwa [yM]at h
 have p17:w.cell? (b,17)=some (.int .i64 ((K:Int)+1+1+1+1)):=by have h:=hc 17 _ rfl;rwa [yM]at h
 generalize mt ((K:Int)+1+1+1).toNat=S3 at *;clear e9 hkK hc hq hz HCS;unfold Kw;go_in;go_wp2;go_loopw [1,5] (fun y x wr=>(x=()/\y=k/\wr=w)∨(x=(1:Int)/\y=((K+5:Nat):Int)/\Below w w wr)) (fun _ x _=>1-(intOf x).toNat);case atStart=>exact .inl ⟨rfl,rfl,rfl⟩
 case round=>
  rcases hrel with ⟨rfl,rfl,rfl⟩|⟨rfl,rfl,H⟩
  ·go_wp2_with fail;refine(Gh _ _ _ _).mono ?_;rintro e wr ⟨rfl,rfl⟩;have k4:¬((k:Int)+1+1+1+1:Int)<0:=by omega
   go_wp2_with fail;refine(HRM.out _ (yA _ _)).mono ?_;rintro e w1 ⟨rfl,hw1⟩;have d11:=(hw1.cell hb).trans p11;have d12:=(hw1.cell hb).trans p12;have d13:=(hw1.cell hb).trans p13;have d14:=(hw1.cell hb).trans p14;have d15:=(hw1.cell hb).trans p15;have d16:=(hw1.cell hb).trans p16;have d17:=(hw1.cell hb).trans p17;have hb1:=yF hb hw1.size;clear p0 p1 p2 p3 p4 p5 p6 p7 p8 p9 p10 p11 p12 p13 p14 p15 p16 p17;go_wp2_with fail;refine(V9 _ _ _ _).mono ?_;rintro e w1 ⟨rfl,rfl⟩;go_wp2_with fail;refine(Gh _ _ _ _).mono ?_;rintro e w1 ⟨rfl,rfl⟩;have k2:¬((K:Int)+1+1+1:Int)<0:=by omega
   go_wp2_with fail;go_region_held3 (fun w'=>w'.cell? ⟨b,16,none⟩=some (.string S3)) (go_keep)
    (first|(go_at_call 117;refine(HMT.out _).mono ?_;rintro e w2 ⟨rfl,hw2⟩;have f16:=(hw2.cell (p:=⟨b,16,none⟩) hb1).trans d16;have f17:=(hw2.cell (p:=⟨b,17,none⟩) hb1).trans d17))
   have B1:=(yA (w1:Nat) w1).drew.trans (hw2.mono (yB _));have B2:=hw1.trans (B1.mono hw1.size);clear d11 d12 d13 d14 d15 d16 d17 hw2;go_wp2;go_roundw;case rel=>exact .inr ⟨by go_num,by congr 1<;>omega,B2⟩
   case measure=>simp[intOf]
  ·go_wp2;go_ret;exact⟨rfl,H⟩
end Go.Proofs.YtjbbppblgjhapaaGreatDoor
