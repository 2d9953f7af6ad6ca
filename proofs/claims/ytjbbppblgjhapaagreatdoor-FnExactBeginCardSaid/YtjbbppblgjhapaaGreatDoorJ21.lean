import Derived.Test.YtjbbppblgjhapaaGreatDoorJ18
set_option maxRecDepth 100000
set_option maxHeartbeats 8000000
namespace Go.Proofs.YtjbbppblgjhapaaGreatDoor
open Go.Deep Go.Proofs.Tryz Go.RowKit
variable{ps:List Pd}{cap:Nat}{ao:Option Addr}{w:World}
attribute [local go_sem] Ac
def Ha (ps:List Pd) (i:Nat):Prop:=
 Kv ps=true/\(1<=i->Ag Ea 0 ps=none)/\(2<=i->Ag Du 0 ps=none)/\(3<=i->Ag Dv 0 ps=none)/\(4<=i->Ag (Lv ps.length) 0 ps=none)
def Sn (f:Nat) (g:Nat->Pd->Option Nat) (ao:Option Addr) (cap:Nat) (ps:List Pd) (w:World):Prop:=
 ∀(k:Nat) (p:Pd) (W:World),ps[k]?=some p->Below w w W->Calls prog f #[.agg #[.slice ao ps.length cap],k] W fun e w'=>
  ∃at_:Int,e=.returned (.tuple #[at_,.bool (g k p).isNone])/\(∀j,g k p=some j->at_=j)/\Below W W w'
theorem A60 (hfi:Kh ps) (hl:ps.length<=1048576) (hv:Ad 0 w ao ps):Sn 96 Ea ao cap ps w:=by
 intro k p W hk hb;refine(Xe ao cap ps k p W hk (hfi.few p (yH hk)) hl (hv.l (A7.o hb))).mono ?_;rintro e w' ⟨rfl,hw⟩;refine⟨0,?_,?_,hw⟩
 ·unfold Ea;cases Ja p k<;>rfl
 ·intro j hj;unfold Ea at hj;split at hj<;>simp at hj;omega
theorem Yy {o:Option Nat} : ∃at_:Int,Aa6 o=.tuple #[at_,.bool o.isNone]/\∀j,o=some j->at_=j:=by
 cases o with
 | none=>exact⟨0,rfl,fun j h=>by cases h⟩
 | some i=>exact⟨i,rfl,fun j h=>by cases h;rfl⟩
theorem A0o (hfi:Kh ps) (hv:Ad 0 w ao ps):Sn 97 Du ao cap ps w:=by intro k p W hk hb;refine(Tp ao cap ps k p W hk (hfi.few p (yH hk)) (hfi.flts p (yH hk)) (hv.l (A7.o hb))).mono ?_;rintro e w' ⟨rfl,hw⟩;obtain⟨a,h1,h2⟩:=@Yy (Du k p);exact⟨a,by rw[←h1];rfl,h2,hw⟩
theorem A3g (hfi:Kh ps) (hr:∀p∈ps,0<=p.regs/\p.regs<=250) (hv:Ad 0 w ao ps):Sn 98 Dv ao cap ps w:=by intro k p W hk hb;refine(Ur ao cap ps k p W hk (hfi.few p (yH hk)) (hr p (yH hk)) (hv.l (A7.o hb))).mono ?_;rintro e w' ⟨rfl,hw⟩;obtain⟨a,h1,h2⟩:=@Yy (Dv k p);exact⟨a,by rw[←h1];rfl,h2,hw⟩
theorem A91 (hfi:Kh ps) (hl:ps.length<=1048576) (hr:∀p∈ps,0<=p.regs/\p.regs<=250) (hF:Hm w) (hv:Ad 0 w ao ps):Sn 99 (Lv ps.length) ao cap ps w:=by intro k p W hk hb;refine(Ml ao cap ps k p W hk (hfi.few p (yH hk)) hl (hfi.nds p (yH hk)) (hr p (yH hk)) (hF.l hb) (hv.l (A7.o hb))).mono ?_;rintro e w' ⟨⟨a,rfl,h2⟩,hw⟩;exact⟨a,rfl,h2,hw⟩
theorem Us (ao:Option Addr) (cap:Nat) (ps:List Pd) (w:World) (hfi:Kh ps) (hF:Hm w) (hv:Ad 0 w ao ps) :
  Kw 36 #[.agg #[.slice ao ps.length cap]] w (Jr (Bu ps)):=by
 have hl:ps.length<=1048576:=by have:=hfi.bulk;unfold Dj at this;omega
 have hb2:∀o1 o2,Below w w ((w.alloc o1).alloc o2):=fun o1 o2=>((yA _ _).alloc (yB _) o1).alloc (by simp) o2;have C0:=(Blk.new w #[.slice ao ps.length cap] 31).alloc (.cells #[(),(),()] 27);have R0:=Blk.new (w.alloc (.cells #[.slice ao ps.length cap] 31)) #[(),(),()] 27;rw[nblk_alloc]at R0;unfold Kw;go_in;go_wp2_with fail;refine(A1g ao cap ps _ hfi.bulk (hv.l (A7.o (hb2 _ _)))).mono ?_;rintro e w1 ⟨rfl,hw1⟩;have B1:=(hb2 _ _).trans (hw1.mono (by simp;omega));have C1:=C0.l hw1;have R1:=R0.l hw1;clear C0 R0 hw1;cases hsz:Kv ps
 ·have HV:Hid (Bu ps=(1,0,0)):=by show _=_;unfold Bu;rw[hsz];rfl
  have c1:=R1.cell;have f1:=R1.frozen;clear hv hF hfi;go_wp2_with fail;refine bodyPost_ret (v:=.agg #[(1:Int),(),()]) ?_ rfl ⟨?_,?_⟩
  ·simp[results,results36,go_sem,c1]
  ·rw[HV.out];rfl
  ·iterate 3 (refine yP ?_ (by simp;try omega) _)
   exact B1
 ·have HP:Hid (Ha ps 0):=⟨hsz,by omega,by omega,by omega,by omega⟩;have hszl:1<=ps.length:=by unfold Kv at hsz;simp[inR]at hsz;omega
  have c1:=C1.cell 0;clear hsz;have B2:=B1.alloc B1.size (.cells #[.func (.func 96) #[] #[],.func (.func 97) #[] #[],.func (.func 98) #[] #[],.func (.func 99) #[] #[]] 163);have C2:=C1.alloc (.cells #[.func (.func 96) #[] #[],.func (.func 97) #[] #[],.func (.func 98) #[] #[],.func (.func 99) #[] #[]] 163);have R2:=R1.alloc (.cells #[.func (.func 96) #[] #[],.func (.func 97) #[] #[],.func (.func 98) #[] #[],.func (.func 99) #[] #[]] 163);have F2:=Blk.new w1 #[.func (.func 96) #[] #[],.func (.func 97) #[] #[],.func (.func 98) #[] #[],.func (.func 99) #[] #[]] 163;have hFB:=R1.lt;clear B1 C1 R1;go_wp2_with fail;clear c1;generalize hg:(w1:Nat)=FB at *;clear hg;go_loopw [16] (fun y wr=>∃i:Nat,i<=4/\y=i/\Hid (Ha ps i)/\Below w w wr/\Blk wr (w:Nat) #[.slice ao ps.length cap] 31/\Blk wr ((w:Nat)+1) #[(),(),()] 27/\Blk wr FB #[.func (.func 96) #[] #[],.func (.func 97) #[] #[],.func (.func 98) #[] #[],.func (.func 99) #[] #[]] 163) (fun y _=>4-(intOf y).toNat);case atStart=>exact⟨0,by omega,rfl,HP,B2,C2,R2,F2⟩
  case round=>
   obtain⟨i,hi,rfl,HPi,hb,C3,R3,F3⟩:=hrel;clear B2 C2 R2 F2 HP;rcases (by omega:i=0∨i=1∨i=2∨i=3∨i=4) with rfl|rfl|rfl|rfl|rfl
   ·have c3:=C3.cell 0;have f3:=F3.cell;have HK:Hid (Sn 96 Ea ao cap ps w):=A60 hfi hl hv;go_wp2_with fail;clear c3 f3;go_loopw [24] (fun y wi=>∃k:Nat,k<=ps.length/\y=k/\Hid (Ag Ea k (ps.drop k)=Ag Ea 0 ps)/\Below w w wi/\Blk wi (w:Nat) #[.slice ao ps.length cap] 31/\Blk wi ((w:Nat)+1) #[(),(),()] 27/\Blk wi FB #[.func (.func 96) #[] #[],.func (.func 97) #[] #[],.func (.func 98) #[] #[],.func (.func 99) #[] #[]] 163) (fun y _=>ps.length-(intOf y).toNat);case atStart=>exact⟨0,yE _,rfl,rfl,hb,C3,R3,F3⟩
    case round=>
     obtain⟨k,hk,rfl,HQ,hb4,C4,R4,F4⟩:=hrel;clear hb C3 R3 F3;by_cases hkl:k<ps.length
     ·obtain⟨p,hpk⟩:=A8 hkl;have HD:Hid (Ag Ea 0 ps=_):=HQ.out.symm.trans (Fb hpk);have c4:=C4.cell 0;go_wp2_with fail;refine(HK.out k p _ hpk hb4).mono ?_;rintro e w5 ⟨at_,rfl,hat,hw5⟩;have B5:=hb4.trans (hw5.mono hb4.size);have C5:=C4.l hw5;have R5:=R4.l hw5;have F5:=F4.l hw5;clear c4 C4 R4 F4 hw5 hb4;cases ho:(Ea) k p with
      | some j=>
       obtain rfl:=hat j ho;have HV:Hid (Bu ps=(2,(k:Int),(j:Int))):=by have h1:=HD.out;rw[ho]at h1;have h2:=HPi.out;unfold Ha at h2;show _=_;unfold Bu;rw[h2.1,h1];rfl
       clear ho hat HK HPi HQ HD;have c5:=R5.cell;have g5:=R5.frozen;rw[Option.isNone_some];go_wp2_with fail;refine bodyPost_ret (v:=.agg #[(2:Int),k,j]) ?_ rfl ⟨?_,?_⟩
       ·simp[results,results36,go_sem,c5]
       ·rw[HV.out];rfl
       ·iterate 3 (refine yP ?_ (by simp;try omega) _)
        exact B5
      | none=>
       have HN:Hid (Ag Ea (k+1) (ps.drop (k+1))=Ag Ea 0 ps):=by have h1:=HD.out;rw[ho]at h1;exact h1.symm
       clear ho hat HQ HD;rw[Option.isNone_none];go_wp2;go_roundw;case rel=>first|exact⟨k+1,by omega,by go_num,HN.out,B5,C5,R5,F5⟩|((repeat apply Exists.intro);exact⟨⟨k+1,by omega,by go_num,HN.out,B5,C5,R5,F5⟩,rfl⟩)
       case measure=>simp[intOf];omega
     ·have HN:Ag Ea 0 ps=none:=by have h1:=HQ.out;rw[yQ (by omega)]at h1;exact h1.symm
      have HP2:Hid (Ha ps 1):=by have h2:=HPi.out;unfold Ha at h2;exact⟨h2.1,fun _=>HN,fun h=>by omega,fun h=>by omega,fun h=>by omega⟩
      clear HN HQ HK;go_wp2;go_roundw;case rel=>exact⟨1,by omega,rfl,HP2,hb4,C4,R4,F4⟩
      case measure=>simp[intOf]
   ·have c3:=C3.cell 0;have f3:=F3.cell;have HK:Hid (Sn 97 Du ao cap ps w):=A0o hfi hv;go_wp2_with fail;clear c3 f3;go_loopw [24] (fun y wi=>∃k:Nat,k<=ps.length/\y=k/\Hid (Ag Du k (ps.drop k)=Ag Du 0 ps)/\Below w w wi/\Blk wi (w:Nat) #[.slice ao ps.length cap] 31/\Blk wi ((w:Nat)+1) #[(),(),()] 27/\Blk wi FB #[.func (.func 96) #[] #[],.func (.func 97) #[] #[],.func (.func 98) #[] #[],.func (.func 99) #[] #[]] 163) (fun y _=>ps.length-(intOf y).toNat);case atStart=>exact⟨0,yE _,rfl,rfl,hb,C3,R3,F3⟩
    case round=>
     obtain⟨k,hk,rfl,HQ,hb4,C4,R4,F4⟩:=hrel;clear hb C3 R3 F3;by_cases hkl:k<ps.length
     ·obtain⟨p,hpk⟩:=A8 hkl;have HD:Hid (Ag Du 0 ps=_):=HQ.out.symm.trans (Fb hpk);have c4:=C4.cell 0;go_wp2_with fail;refine(HK.out k p _ hpk hb4).mono ?_;rintro e w5 ⟨at_,rfl,hat,hw5⟩;have B5:=hb4.trans (hw5.mono hb4.size);have C5:=C4.l hw5;have R5:=R4.l hw5;have F5:=F4.l hw5;clear c4 C4 R4 F4 hw5 hb4;cases ho:(Du) k p with
      | some j=>
       obtain rfl:=hat j ho;have HV:Hid (Bu ps=(3,(k:Int),(j:Int))):=by have h1:=HD.out;rw[ho]at h1;have h2:=HPi.out;unfold Ha at h2;show _=_;unfold Bu;rw[h2.1,h2.2.1 (by omega),h1];rfl
       clear ho hat HK HPi HQ HD;have c5:=R5.cell;have g5:=R5.frozen;rw[Option.isNone_some];go_wp2_with fail;refine bodyPost_ret (v:=.agg #[(3:Int),k,j]) ?_ rfl ⟨?_,?_⟩
       ·simp[results,results36,go_sem,c5]
       ·rw[HV.out];rfl
       ·iterate 3 (refine yP ?_ (by simp;try omega) _)
        exact B5
      | none=>
       have HN:Hid (Ag Du (k+1) (ps.drop (k+1))=Ag Du 0 ps):=by have h1:=HD.out;rw[ho]at h1;exact h1.symm
       clear ho hat HQ HD;rw[Option.isNone_none];go_wp2;go_roundw;case rel=>first|exact⟨k+1,by omega,by go_num,HN.out,B5,C5,R5,F5⟩|((repeat apply Exists.intro);exact⟨⟨k+1,by omega,by go_num,HN.out,B5,C5,R5,F5⟩,rfl⟩)
       case measure=>simp[intOf];omega
     ·have HN:Ag Du 0 ps=none:=by have h1:=HQ.out;rw[yQ (by omega)]at h1;exact h1.symm
      have HP2:Hid (Ha ps 2):=by have h2:=HPi.out;unfold Ha at h2;exact⟨h2.1,fun _=>h2.2.1 (by omega),fun _=>HN,fun h=>by omega,fun h=>by omega⟩
      clear HN HQ HK;go_wp2;go_roundw;case rel=>exact⟨2,by omega,rfl,HP2,hb4,C4,R4,F4⟩
      case measure=>simp[intOf]
   ·have c3:=C3.cell 0;have f3:=F3.cell;have HK:Hid (Sn 98 Dv ao cap ps w):=A3g hfi (Gc (HPi.out.2.1 (by omega))) hv;go_wp2_with fail;clear c3 f3;go_loopw [24] (fun y wi=>∃k:Nat,k<=ps.length/\y=k/\Hid (Ag Dv k (ps.drop k)=Ag Dv 0 ps)/\Below w w wi/\Blk wi (w:Nat) #[.slice ao ps.length cap] 31/\Blk wi ((w:Nat)+1) #[(),(),()] 27/\Blk wi FB #[.func (.func 96) #[] #[],.func (.func 97) #[] #[],.func (.func 98) #[] #[],.func (.func 99) #[] #[]] 163) (fun y _=>ps.length-(intOf y).toNat);case atStart=>exact⟨0,yE _,rfl,rfl,hb,C3,R3,F3⟩
    case round=>
     obtain⟨k,hk,rfl,HQ,hb4,C4,R4,F4⟩:=hrel;clear hb C3 R3 F3;by_cases hkl:k<ps.length
     ·obtain⟨p,hpk⟩:=A8 hkl;have HD:Hid (Ag Dv 0 ps=_):=HQ.out.symm.trans (Fb hpk);have c4:=C4.cell 0;go_wp2_with fail;refine(HK.out k p _ hpk hb4).mono ?_;rintro e w5 ⟨at_,rfl,hat,hw5⟩;have B5:=hb4.trans (hw5.mono hb4.size);have C5:=C4.l hw5;have R5:=R4.l hw5;have F5:=F4.l hw5;clear c4 C4 R4 F4 hw5 hb4;cases ho:(Dv) k p with
      | some j=>
       obtain rfl:=hat j ho;have HV:Hid (Bu ps=(4,(k:Int),(j:Int))):=by have h1:=HD.out;rw[ho]at h1;have h2:=HPi.out;unfold Ha at h2;show _=_;unfold Bu;rw[h2.1,h2.2.1 (by omega),h2.2.2.1 (by omega),h1];rfl
       clear ho hat HK HPi HQ HD;have c5:=R5.cell;have g5:=R5.frozen;rw[Option.isNone_some];go_wp2_with fail;refine bodyPost_ret (v:=.agg #[(4:Int),k,j]) ?_ rfl ⟨?_,?_⟩
       ·simp[results,results36,go_sem,c5]
       ·rw[HV.out];rfl
       ·iterate 3 (refine yP ?_ (by simp;try omega) _)
        exact B5
      | none=>
       have HN:Hid (Ag Dv (k+1) (ps.drop (k+1))=Ag Dv 0 ps):=by have h1:=HD.out;rw[ho]at h1;exact h1.symm
       clear ho hat HQ HD;rw[Option.isNone_none];go_wp2;go_roundw;case rel=>first|exact⟨k+1,by omega,by go_num,HN.out,B5,C5,R5,F5⟩|((repeat apply Exists.intro);exact⟨⟨k+1,by omega,by go_num,HN.out,B5,C5,R5,F5⟩,rfl⟩)
       case measure=>simp[intOf];omega
     ·have HN:Ag Dv 0 ps=none:=by have h1:=HQ.out;rw[yQ (by omega)]at h1;exact h1.symm
      have HP2:Hid (Ha ps 3):=by have h2:=HPi.out;unfold Ha at h2;exact⟨h2.1,fun _=>h2.2.1 (by omega),fun _=>h2.2.2.1 (by omega),fun _=>HN,fun h=>by omega⟩
      clear HN HQ HK;go_wp2;go_roundw;case rel=>exact⟨3,by omega,rfl,HP2,hb4,C4,R4,F4⟩
      case measure=>simp[intOf]
   ·have c3:=C3.cell 0;have f3:=F3.cell;have HK:Hid (Sn 99 (Lv ps.length) ao cap ps w):=A91 hfi hl (Gc (HPi.out.2.1 (by omega))) hF hv;go_wp2_with fail;clear c3 f3;go_loopw [24] (fun y wi=>∃k:Nat,k<=ps.length/\y=k/\Hid (Ag (Lv ps.length) k (ps.drop k)=Ag (Lv ps.length) 0 ps)/\Below w w wi/\Blk wi (w:Nat) #[.slice ao ps.length cap] 31/\Blk wi ((w:Nat)+1) #[(),(),()] 27/\Blk wi FB #[.func (.func 96) #[] #[],.func (.func 97) #[] #[],.func (.func 98) #[] #[],.func (.func 99) #[] #[]] 163) (fun y _=>ps.length-(intOf y).toNat);case atStart=>exact⟨0,yE _,rfl,rfl,hb,C3,R3,F3⟩
    case round=>
     obtain⟨k,hk,rfl,HQ,hb4,C4,R4,F4⟩:=hrel;clear hb C3 R3 F3;by_cases hkl:k<ps.length
     ·obtain⟨p,hpk⟩:=A8 hkl;have HD:Hid (Ag (Lv ps.length) 0 ps=_):=HQ.out.symm.trans (Fb hpk);have c4:=C4.cell 0;go_wp2_with fail;refine(HK.out k p _ hpk hb4).mono ?_;rintro e w5 ⟨at_,rfl,hat,hw5⟩;have B5:=hb4.trans (hw5.mono hb4.size);have C5:=C4.l hw5;have R5:=R4.l hw5;have F5:=F4.l hw5;clear c4 C4 R4 F4 hw5 hb4;cases ho:((Lv ps.length)) k p with
      | some j=>
       obtain rfl:=hat j ho;have HV:Hid (Bu ps=(5,(k:Int),(j:Int))):=by have h1:=HD.out;rw[ho]at h1;have h2:=HPi.out;unfold Ha at h2;show _=_;unfold Bu;rw[h2.1,h2.2.1 (by omega),h2.2.2.1 (by omega),h2.2.2.2.1 (by omega),h1];rfl
       clear ho hat HK HPi HQ HD;have c5:=R5.cell;have g5:=R5.frozen;rw[Option.isNone_some];go_wp2_with fail;refine bodyPost_ret (v:=.agg #[(5:Int),k,j]) ?_ rfl ⟨?_,?_⟩
       ·simp[results,results36,go_sem,c5]
       ·rw[HV.out];rfl
       ·iterate 3 (refine yP ?_ (by simp;try omega) _)
        exact B5
      | none=>
       have HN:Hid (Ag (Lv ps.length) (k+1) (ps.drop (k+1))=Ag (Lv ps.length) 0 ps):=by have h1:=HD.out;rw[ho]at h1;exact h1.symm
       clear ho hat HQ HD;rw[Option.isNone_none];go_wp2;go_roundw;case rel=>first|exact⟨k+1,by omega,by go_num,HN.out,B5,C5,R5,F5⟩|((repeat apply Exists.intro);exact⟨⟨k+1,by omega,by go_num,HN.out,B5,C5,R5,F5⟩,rfl⟩)
       case measure=>simp[intOf];omega
     ·have HN:Ag (Lv ps.length) 0 ps=none:=by have h1:=HQ.out;rw[yQ (by omega)]at h1;exact h1.symm
      have HP2:Hid (Ha ps 4):=by have h2:=HPi.out;unfold Ha at h2;exact⟨h2.1,fun _=>h2.2.1 (by omega),fun _=>h2.2.2.1 (by omega),fun _=>h2.2.2.2.1 (by omega),fun _=>HN⟩
      clear HN HQ HK;go_wp2;go_roundw;case rel=>exact⟨4,by omega,rfl,HP2,hb4,C4,R4,F4⟩
      case measure=>simp[intOf]
   ·have c3:=C3.cell 0;have HV:Hid (Bu ps=Gq ps):=by have h2:=HPi.out;unfold Ha at h2;show _=_;unfold Bu;rw[h2.1,h2.2.1 (by omega),h2.2.2.1 (by omega),h2.2.2.2.1 (by omega),h2.2.2.2.2 (by omega)];rfl
    have hrr:=Gc (HPi.out.2.1 (by omega));have hff:=V7 (HPi.out.2.2.2.2 (by omega));have HM:Hid _:=Tq ao cap ps wr hszl hl hfi.few hrr hff (hv.l (A7.o hb));clear hrr hff;go_wp2_with fail;refine Calls.mono (Hid.out HM) ?_;rintro e w5 ⟨rfl,hw5⟩;have B5:=hb.trans (hw5.mono hb.size);have R5:=R3.l hw5;have c5:=R5.cell;have g5:=R5.frozen;obtain⟨s1,s2,s3,hs⟩:∃s1 s2 s3,Gq ps=(s1,s2,s3):=⟨_,_,_,rfl⟩;have HS:Hid _:=HV.out.trans hs;rw[hs];clear HM HV HPi c3 C3 R3 F3 hw5 hs;unfold Jr;go_wp2_with fail;refine bodyPost_ret (v:=.agg #[s1,s2,s3]) ?_ rfl ⟨?_,?_⟩
    ·simp[results,results36,go_sem,c5]
    ·rw[HS.out];rfl
    ·iterate 3 (refine yP ?_ (by simp;try omega) _)
     exact B5
def Eo (ps:List Pd):Int×Int×Int:=
 if Kv ps then
  match Ag Ea 0 ps with
  | some (p,i)=>(2,p,i)
  | none=>match Ag Du 0 ps with
   | some (p,i)=>(3,p,i)
   | none=>match Ag Dv 0 ps with
    | some (p,i)=>(4,p,i)
    | none=>match Ag (Nz ps.length) 0 ps with
     | some (p,i)=>(5,p,i)
     | none=>(0,0,0)
 else (1,0,0)
theorem A38 (ao:Option Addr) (cap:Nat) (ps:List Pd) (w:World) (hfi:Kh ps) (hv:Ad 0 w ao ps) :
  Kw 82 #[.agg #[.slice ao ps.length cap]] w (Jr (Eo ps)):=by
 have hl:ps.length<=1048576:=by have:=hfi.bulk;unfold Dj at this;omega
 have hsum:E5 Fa ps<=1048576:=by have:=hfi.bulk;unfold Dj at this;omega
 have hb2:∀o1 o2,Below w w ((w.alloc o1).alloc o2):=fun o1 o2=>((yA _ _).alloc (yB _) o1).alloc (by simp) o2;have C0:=(Blk.new w #[.slice ao ps.length cap] 31).alloc (.cells #[(),(),()] 27);have R0:=Blk.new (w.alloc (.cells #[.slice ao ps.length cap] 31)) #[(),(),()] 27;rw[nblk_alloc]at R0;unfold Kw;go_in;go_wp2;go_loopw [3,20] (fun s y wr=>∃k:Nat,k<=ps.length/\y=k/\s=.int .i64 (E5 (fun p=>p.ins.length) (ps.take k):Nat)/\Below w w wr/\Blk wr (w:Nat) #[.slice ao ps.length cap] 31/\Blk wr ((w:Nat)+1) #[(),(),()] 27) (fun _ y _=>ps.length-(intOf y).toNat);case atStart=>exact⟨0,yE _,rfl,rfl,hb2 _ _,C0,R0⟩
 case round=>
  obtain⟨k,hk,rfl,rfl,hb,C1,R1⟩:=hrel;clear C0 R0;by_cases hkl:k<ps.length
  ·obtain⟨p,hpk⟩:=A8 hkl;obtain⟨b,off,rfl,_,hbl,h,⟨p0,p1,p2,p3,p4,p5,p6,p7,p8⟩,_⟩:=hv.l (A7.o hb) k p hpk;have HT:Hid _:=Sz hpk;have h1:=Ji ps k;have h2:=Ji ps (k+1);rw[HT.out]at h2;have hba:=fun o=>hb.alloc hb.size o;have CA:Hid _:=fun o=>C1.alloc o;have RA:Hid (∀o,Blk (wr.alloc o) ((w:Nat)+1) _ _):=fun o=>R1.alloc o;generalize hq:E5 (fun p=>p.ins.length) (ps.take k)=q at *;clear hv hq hfi;go_wp2;go_roundw;case rel=>exact⟨k+1,by omega,by go_num,by rw[HT.out];go_num,hba _,CA.out _,RA.out _⟩
   case measure=>simp[intOf];omega
  ·have hall:ps.take k=ps:=List.take_of_length_le (by omega);rw[hall];have E0:Hid (Kv ps=(inR ps.length 1 200&&decide (((E5 (fun p=>p.ins.length) ps:Nat):Int)<=6000))):=rfl;have hle:=Ji ps ps.length;rw[List.take_length]at hle;have c1:=C1.cell 0;have r1:=R1.cell;have f1:=R1.frozen;generalize E5 (fun p=>p.ins.length) ps=q at *;clear hall;by_cases hsz:Kv ps=true
   ·have hsz2:(1<=ps.length/\ps.length<=200)/\(q:Int)<=6000:=by rw[E0.out]at hsz;simp[inR]at hsz;omega
    obtain⟨⟨l1,l2⟩,l3⟩:=hsz2;have k0:((ps.length:Int)==0)=false:=beq_eq_false_iff_ne.2 (by omega);have HS:Hid _:=hsz;clear hsz E0;go_wp2_with fail;clear c1 r1 f1;go_loopw [48] (fun y wi=>∃k:Nat,k<=ps.length/\y=k/\Hid (Ag Ea k (ps.drop k)=Ag Ea 0 ps)/\Below w w wi/\Blk wi (w:Nat) #[.slice ao ps.length cap] 31/\Blk wi ((w:Nat)+1) #[(),(),()] 27) (fun y _=>ps.length-(intOf y).toNat);case atStart=>exact⟨0,yE _,rfl,rfl,hb,C1,R1⟩
    case round=>
     obtain⟨k2,hk2,rfl,HQ,hb3,C3,R3⟩:=hrel;clear hb C1 R1;by_cases hkl2:k2<ps.length
     ·obtain⟨p,hpk⟩:=A8 hkl2;have HD:Hid (Ag Ea 0 ps=_):=HQ.out.symm.trans (Fb hpk);have c3:=C3.cell 0;have HC:Hid _:=A0j ao cap ps k2 p wr hpk (hfi.few p (yH hpk)) hl (hv.l (A7.o hb3));go_wp2_with fail;refine Calls.mono (Hid.out HC) ?_;rintro e w5 ⟨rfl,hw5⟩;have B5:=hb3.trans (hw5.mono hb3.size);have C5:=C3.l hw5;have R5:=R3.l hw5;clear c3 C3 R3 hw5 hb3 HC;cases ho:Ja p k2
      ·have HV:Hid (Eo ps=(2,(k2:Int),0)):=by have h1:=HD.out;unfold Ea at h1;rw[ho]at h1;show _=_;unfold Eo;rw[HS.out];unfold Ea;rw[h1];rfl
       go_wp2_with fail;refine(Bv 2 k2 0 _).mono ?_;rintro e w9 ⟨rfl,hw9⟩;have B9:=B5.trans (hw9.mono B5.size);have r9:=(R5.l hw9).cell;have f9:=(R5.l hw9).frozen;go_wp2_with fail;refine bodyPost_ret (v:=.agg #[(2:Int),k2,()]) ?_ rfl ⟨?_,?_⟩
       ·simp[results,results82,go_sem,r9]
       ·rw[HV.out];rfl
       ·iterate 3 (refine yP ?_ (by simp;try omega) _)
        exact B9
      ·have HN:Hid (Ag Ea (k2+1) (ps.drop (k2+1))=Ag Ea 0 ps):=by
        have h1:=HD.out;have h2:Ea k2 p=none:=by unfold Ea;rw[ho];rfl
        rw[h2]at h1;exact h1.symm
       clear HQ HD ho;go_wp2;go_roundw;case rel=>first|exact⟨k2+1,by omega,by go_num,HN.out,B5,C5,R5⟩|((repeat apply Exists.intro);exact⟨⟨k2+1,by omega,by go_num,HN.out,B5,C5,R5⟩,rfl⟩)
       case measure=>simp[intOf];omega
     ·have HH:Hid (Ag Ea 0 ps=none):=by have h1:=HQ.out;rw[yQ (by omega)]at h1;exact h1.symm
      clear HQ;have c3:=C3.cell 0;go_wp2_with fail;clear c3;go_loopw [61] (fun y wi=>∃k:Nat,k<=ps.length/\y=k/\Hid (Ag Du k (ps.drop k)=Ag Du 0 ps)/\Below w w wi/\Blk wi (w:Nat) #[.slice ao ps.length cap] 31/\Blk wi ((w:Nat)+1) #[(),(),()] 27) (fun y _=>ps.length-(intOf y).toNat);case atStart=>exact⟨0,yE _,rfl,rfl,hb3,C3,R3⟩
      case round=>
       obtain⟨k3,hk3,rfl,HQ,hb4,C4,R4⟩:=hrel;clear hb3 C3 R3;by_cases hkl3:k3<ps.length
       ·obtain⟨p,hpk⟩:=A8 hkl3;have HD:Hid (Ag Du 0 ps=_):=HQ.out.symm.trans (Fb hpk);obtain⟨b,off,e0,_,hbl,h,n0,pin⟩:=hv k3 p hpk;obtain⟨p0,p1,p2,p3,p4,p5,p6,p7,p8⟩:=n0.l hb4 hbl;have hz1:=hfi.few p (yH hpk);have hz2:=hz1.consts;have hfl:=hfi.flts p (yH hpk);have Bw:=hb4.alloc hb4.size (.cells #[p.name,p.line,p.params,.bool p.rest,p.regs,.slice h.uo p.ups.length h.uc,.slice h.co p.consts.length h.cc,.slice h.io p.ins.length h.ic,.slice h.no p.named.length h.nc] 77);have C5:=C4.alloc (.cells #[p.name,p.line,p.params,.bool p.rest,p.regs,.slice h.uo p.ups.length h.uc,.slice h.co p.consts.length h.cc,.slice h.io p.ins.length h.ic,.slice h.no p.named.length h.nc] 77);have R5:=R4.alloc (.cells #[p.name,p.line,p.params,.bool p.rest,p.regs,.slice h.uo p.ups.length h.uc,.slice h.co p.consts.length h.cc,.slice h.io p.ins.length h.ic,.slice h.no p.named.length h.nc] 77);clear C4 R4 HQ;have hao:=e0;clear e0;subst hao;go_wp2_with fail;clear p0 p1 p2 p3 p4 p5 p6 p7 p8 hb4 n0;have hcs:=pin.consts;clear pin;go_loopw [69] (fun y wi=>∃j:Nat,j<=p.consts.length/\y=j/\Hid (Ak Ii j (p.consts.drop j)=Ak Ii 0 p.consts)/\Below w w wi/\Blk wi (w:Nat) #[.slice (some ⟨b,off,none⟩) ps.length cap] 31/\Blk wi ((w:Nat)+1) #[(),(),()] 27) (fun y _=>p.consts.length-(intOf y).toNat);case atStart=>exact⟨0,yE _,rfl,rfl,Bw,C5,R5⟩
        case round=>
         obtain⟨j,hj,rfl,HQj,hb6,C6,R6⟩:=hrel;clear Bw C5 R5;by_cases hjl:j<p.consts.length
         ·obtain⟨v,hvj⟩:=A8 hjl;obtain⟨b',off',e',_,hbl',q0,q1,q2,q3,q4⟩:=hcs.l (A7.o hb6) j v hvj;have HE:Hid (Ak Ii 0 p.consts=if Jq v then Ak Ii (j+1) (p.consts.drop (j+1)) else some j):=HQj.out.symm.trans (Fy hvj);have HM:Hid _:=hfl v (yH hvj);have hba:=fun o=>hb6.alloc hb6.size o;have RA:Hid _:=fun o=>R6.alloc o;have CA:Hid _:=fun o=>C6.alloc o;clear hcs HQj hvj C6 R6 hfl;have hco:=e';clear e';obtain⟨uo,uc,co,cc,io,ic,no,nc⟩:=h;dsimp only at *;subst hco;go_wp2_with fail;refine(Xu v HM.out _).mono ?_;rintro e w7 ⟨rfl,hw7⟩;have B7:=(hba _).trans (hw7.mono (hba _).size);have R7:=(RA.out _).l hw7;have C7:=(CA.out _).l hw7;clear q0 q1 q2 q3 q4 hba RA CA hw7 hb6;generalize Jq v=cb at *;cases cb
          ·have HV:Hid (Eo ps=(3,(k3:Int),(j:Int))):=by
            have h1:=HD.out;have h2:Du k3 p=some j:=by unfold Du;rw[HE.out];rfl
            rw[h2]at h1;show _=_;unfold Eo;rw[HS.out,HH.out,h1];rfl
           go_wp2_with fail;refine(Bv 3 k3 j _).mono ?_;rintro e w9 ⟨rfl,hw9⟩;have B9:=B7.trans (hw9.mono B7.size);have r9:=(R7.l hw9).cell;have f9:=(R7.l hw9).frozen;go_wp2_with fail;refine bodyPost_ret (v:=.agg #[(3:Int),k3,j]) ?_ rfl ⟨?_,?_⟩
           ·simp[results,results82,go_sem,r9]
           ·rw[HV.out];rfl
           ·iterate 3 (refine yP ?_ (by simp;try omega) _)
            exact B9
          ·go_wp2;go_roundw;case rel=>first|exact⟨j+1,by omega,by go_num,by show _=_;rw[HE.out];rfl,B7,C7,R7⟩|((repeat apply Exists.intro);exact⟨⟨j+1,by omega,by go_num,by show _=_;rw[HE.out];rfl,B7,C7,R7⟩,rfl⟩)
           case measure=>simp[intOf];omega
         ·have HN:Hid (Ag Du (k3+1) (ps.drop (k3+1))=Ag Du 0 ps):=by have h1:=HD.out;have h3:=HQj.out;rw[yQ (by omega)]at h3;have h2:Du k3 p=none:=h3.symm;rw[h2]at h1;exact h1.symm
          clear HQj HD;go_wp2;go_roundw;case rel=>first|exact⟨k3+1,by omega,by go_num,HN.out,hb6,C6,R6⟩|((repeat apply Exists.intro);exact⟨⟨k3+1,by omega,by go_num,HN.out,hb6,C6,R6⟩,rfl⟩)
          case measure=>simp[intOf];omega
       ·have HC3:Hid (Ag Du 0 ps=none):=by have h1:=HQ.out;rw[yQ (by omega)]at h1;exact h1.symm
        clear HQ;have c4:=C4.cell 0;go_wp2_with fail;clear c4;have HRg:Hid _:=Gc HH.out;go_loopw [85] (fun y wi=>∃k:Nat,k<=ps.length/\y=k/\Hid (Ag Dv k (ps.drop k)=Ag Dv 0 ps)/\Below w w wi/\Blk wi (w:Nat) #[.slice ao ps.length cap] 31/\Blk wi ((w:Nat)+1) #[(),(),()] 27) (fun y _=>ps.length-(intOf y).toNat);case atStart=>exact⟨0,yE _,rfl,rfl,hb4,C4,R4⟩
        case round=>
         obtain⟨k4,hk4,rfl,HQ,hb5,C5,R5⟩:=hrel;clear hb4 C4 R4;by_cases hkl4:k4<ps.length
         ·obtain⟨p,hpk⟩:=A8 hkl4;have HD:Hid (Ag Dv 0 ps=_):=HQ.out.symm.trans (Fb hpk);obtain⟨b,off,e0,_,hbl,h,n0,pin⟩:=hv k4 p hpk;obtain⟨p0,p1,p2,p3,p4,p5,p6,p7,p8⟩:=n0.l hb5 hbl;have hz1:=hfi.few p (yH hpk);have hz2:=hz1.named;have hrg:=HRg.out p (yH hpk);have Bw:=hb5.alloc hb5.size (.cells #[p.name,p.line,p.params,.bool p.rest,p.regs,.slice h.uo p.ups.length h.uc,.slice h.co p.consts.length h.cc,.slice h.io p.ins.length h.ic,.slice h.no p.named.length h.nc] 77);have C6:=C5.alloc (.cells #[p.name,p.line,p.params,.bool p.rest,p.regs,.slice h.uo p.ups.length h.uc,.slice h.co p.consts.length h.cc,.slice h.io p.ins.length h.ic,.slice h.no p.named.length h.nc] 77);have R6:=R5.alloc (.cells #[p.name,p.line,p.params,.bool p.rest,p.regs,.slice h.uo p.ups.length h.uc,.slice h.co p.consts.length h.cc,.slice h.io p.ins.length h.ic,.slice h.no p.named.length h.nc] 77);have P6:=Blk.new wr #[p.name,p.line,p.params,.bool p.rest,p.regs,.slice h.uo p.ups.length h.uc,.slice h.co p.consts.length h.cc,.slice h.io p.ins.length h.ic,.slice h.no p.named.length h.nc] 77;clear C5 R5 HQ;have hao:=e0;clear e0;subst hao;go_wp2_with fail;clear p0 p1 p2 p3 p4 p5 p6 p7 p8 hb5 n0;generalize hPB:(wr:Nat)=PB at *;clear hPB;go_loopw [93] (fun y wi=>∃j:Nat,j<=p.named.length/\y=j/\Hid (Ak (Io p) j (p.named.drop j)=Ak (Io p) 0 p.named)/\Below w w wi/\Blk wi (w:Nat) #[.slice (some ⟨b,off,none⟩) ps.length cap] 31/\Blk wi ((w:Nat)+1) #[(),(),()] 27/\Blk wi PB #[p.name,p.line,p.params,.bool p.rest,p.regs,.slice h.uo p.ups.length h.uc,.slice h.co p.consts.length h.cc,.slice h.io p.ins.length h.ic,.slice h.no p.named.length h.nc] 77) (fun y _=>p.named.length-(intOf y).toNat);case atStart=>exact⟨0,yE _,rfl,rfl,Bw,C6,R6,P6⟩
          case round=>
           obtain⟨j,hj,rfl,HQj,hb7,C7,R7,P7⟩:=hrel;clear Bw C6 R6 P6;by_cases hjl:j<p.named.length
           ·obtain⟨m,hmj⟩:=A8 hjl;have HE:Hid _:=HQj.out.symm.trans (Fy hmj);have c7:=P7.cell;have HC:Hid _:=Xv p h j m wr hmj hz1 hrg (pin.l (A7.o hb7));clear HQj;go_wp2_with fail;refine Calls.mono (Hid.out HC) ?_;rintro e w8 ⟨rfl,hw8⟩;have B8:=hb7.trans (hw8.mono hb7.size);have C8:=C7.l hw8;have R8:=R7.l hw8;have P8:=P7.l hw8;clear HC c7 C7 R7 P7 hw8 hb7;generalize Io p j m=cb at *;cases cb
            ·have HV:Hid (Eo ps=(4,(k4:Int),(j:Int))):=by
              have h1:=HD.out;have h2:Dv k4 p=some j:=by unfold Dv;rw[HE.out];rfl
              rw[h2]at h1;show _=_;unfold Eo;rw[HS.out,HH.out,HC3.out,h1];rfl
             go_wp2_with fail;refine(Bv 4 k4 j _).mono ?_;rintro e w9 ⟨rfl,hw9⟩;have B9:=B8.trans (hw9.mono B8.size);have r9:=(R8.l hw9).cell;have f9:=(R8.l hw9).frozen;go_wp2_with fail;refine bodyPost_ret (v:=.agg #[(4:Int),k4,j]) ?_ rfl ⟨?_,?_⟩
             ·simp[results,results82,go_sem,r9]
             ·rw[HV.out];rfl
             ·iterate 3 (refine yP ?_ (by simp;try omega) _)
              exact B9
            ·go_wp2;go_roundw;case rel=>first|exact⟨j+1,by omega,by go_num,by show _=_;rw[HE.out];rfl,B8,C8,R8,P8⟩|((repeat apply Exists.intro);exact⟨⟨j+1,by omega,by go_num,by show _=_;rw[HE.out];rfl,B8,C8,R8,P8⟩,rfl⟩)
             case measure=>simp[intOf];omega
           ·have HN:Hid (Ag Dv (k4+1) (ps.drop (k4+1))=Ag Dv 0 ps):=by have h1:=HD.out;have h3:=HQj.out;rw[yQ (by omega)]at h3;have h2:Dv k4 p=none:=h3.symm;rw[h2]at h1;exact h1.symm
            clear HQj HD;go_wp2;go_roundw;case rel=>first|exact⟨k4+1,by omega,by go_num,HN.out,hb7,C7,R7⟩|((repeat apply Exists.intro);exact⟨⟨k4+1,by omega,by go_num,HN.out,hb7,C7,R7⟩,rfl⟩)
            case measure=>simp[intOf];omega
         ·have HC4:Hid (Ag Dv 0 ps=none):=by have h1:=HQ.out;rw[yQ (by omega)]at h1;exact h1.symm
          clear HQ;have c5:=C5.cell 0;go_wp2_with fail;clear c5;go_loopw [108] (fun y wi=>∃k:Nat,k<=ps.length/\y=k/\Hid (Ag (Nz ps.length) k (ps.drop k)=Ag (Nz ps.length) 0 ps)/\Below w w wi/\Blk wi (w:Nat) #[.slice ao ps.length cap] 31/\Blk wi ((w:Nat)+1) #[(),(),()] 27) (fun y _=>ps.length-(intOf y).toNat);case atStart=>exact⟨0,yE _,rfl,rfl,hb5,C5,R5⟩
          case round=>
           obtain⟨k5,hk5,rfl,HQ,hb6,C6,R6⟩:=hrel;clear hb5 C5 R5;by_cases hkl5:k5<ps.length
           ·obtain⟨p,hpk⟩:=A8 hkl5;have HD:Hid (Ag (Nz ps.length) 0 ps=_):=HQ.out.symm.trans (Fb hpk);obtain⟨b,off,e0,_,hbl,h,n0,pin⟩:=hv k5 p hpk;obtain⟨p0,p1,p2,p3,p4,p5,p6,p7,p8⟩:=n0.l hb6 hbl;have hz1:=hfi.few p (yH hpk);have hz2:=hz1.ins;have hrg:=HRg.out p (yH hpk);have Bw:=hb6.alloc hb6.size (.cells #[p.name,p.line,p.params,.bool p.rest,p.regs,.slice h.uo p.ups.length h.uc,.slice h.co p.consts.length h.cc,.slice h.io p.ins.length h.ic,.slice h.no p.named.length h.nc] 77);have C7:=C6.alloc (.cells #[p.name,p.line,p.params,.bool p.rest,p.regs,.slice h.uo p.ups.length h.uc,.slice h.co p.consts.length h.cc,.slice h.io p.ins.length h.ic,.slice h.no p.named.length h.nc] 77);have R7:=R6.alloc (.cells #[p.name,p.line,p.params,.bool p.rest,p.regs,.slice h.uo p.ups.length h.uc,.slice h.co p.consts.length h.cc,.slice h.io p.ins.length h.ic,.slice h.no p.named.length h.nc] 77);clear C6 R6 HQ;have hao:=e0;clear e0;subst hao;by_cases hi0:p.ins.length=0
            ·have i0:((p.ins.length:Int)==0)=true:=beq_iff_eq.2 (by omega);have HV:Hid (Eo ps=(5,(k5:Int),0)):=by
              have h1:=HD.out;have h2:Nz ps.length k5 p=some 0:=by unfold Nz;rw[if_pos hi0]
              rw[h2]at h1;show _=_;unfold Eo;rw[HS.out,HH.out,HC3.out,HC4.out,h1];rfl
             clear hi0;go_wp2_with fail;refine(Bv 5 k5 0 _).mono ?_;rintro e w9 ⟨rfl,hw9⟩;have B9:=Bw.trans (hw9.mono Bw.size);have r9:=(R7.l hw9).cell;have f9:=(R7.l hw9).frozen;go_wp2_with fail;refine bodyPost_ret (v:=.agg #[(5:Int),k5,()]) ?_ rfl ⟨?_,?_⟩
             ·simp[results,results82,go_sem,r9]
             ·rw[HV.out];rfl
             ·iterate 3 (refine yP ?_ (by simp;try omega) _)
              exact B9
            ·have i0:((p.ins.length:Int)==0)=false:=beq_eq_false_iff_ne.2 (by omega);have HI0:Hid (¬p.ins.length=0):=hi0;clear hi0;go_wp2_with fail;clear p0 p1 p2 p3 p4 p5 p6 p7 p8 hb6 n0;generalize hPB:(wr:Nat)=PB at *;clear hPB;go_loopw [122] (fun y wi=>∃j:Nat,j<=p.ins.length/\y=j/\Hid (Ak (U8 ps.length p) j (p.ins.drop j)=Ak (U8 ps.length p) 0 p.ins)/\Below w w wi/\Blk wi (w:Nat) #[.slice (some ⟨b,off,none⟩) ps.length cap] 31/\Blk wi ((w:Nat)+1) #[(),(),()] 27) (fun y _=>p.ins.length-(intOf y).toNat);case atStart=>exact⟨0,yE _,rfl,rfl,Bw,C7,R7⟩
             case round=>
              obtain⟨j,hj,rfl,HQj,hb8,C8,R8⟩:=hrel;clear Bw C7 R7;by_cases hjl:j<p.ins.length
              ·obtain⟨n,hnj⟩:=A8 hjl;have HE:Hid _:=HQj.out.symm.trans (Fy hnj);have c8:=C8.cell 0;have HC:Hid _:=A37 (some ⟨b,off,none⟩) cap ps k5 p j n wr hpk hnj hz1 hl hrg (hv.l (A7.o hb8));clear HQj;go_wp2_with fail;refine Calls.mono (Hid.out HC) ?_;rintro e w9 ⟨rfl,hw9⟩;have B8:=hb8.trans (hw9.mono hb8.size);have C9:=C8.l hw9;have R9:=R8.l hw9;clear HC c8 C8 R8 hw9 hb8;generalize U8 ps.length p j n=cb at *;cases cb
               ·have HV:Hid (Eo ps=(5,(k5:Int),(j:Int))):=by
                 have h1:=HD.out;have h2:Nz ps.length k5 p=some j:=by unfold Nz;rw[if_neg HI0.out,HE.out];rfl
                 rw[h2]at h1;show _=_;unfold Eo;rw[HS.out,HH.out,HC3.out,HC4.out,h1];rfl
                go_wp2_with fail;refine(Bv 5 k5 j _).mono ?_;rintro e w9 ⟨rfl,hw9⟩;have B9:=B8.trans (hw9.mono B8.size);have r9:=(R9.l hw9).cell;have f9:=(R9.l hw9).frozen;go_wp2_with fail;refine bodyPost_ret (v:=.agg #[(5:Int),k5,j]) ?_ rfl ⟨?_,?_⟩
                ·simp[results,results82,go_sem,r9]
                ·rw[HV.out];rfl
                ·iterate 3 (refine yP ?_ (by simp;try omega) _)
                 exact B9
               ·go_wp2;go_roundw;case rel=>first|exact⟨j+1,by omega,by go_num,by show _=_;rw[HE.out];rfl,B8,C9,R9⟩|((repeat apply Exists.intro);exact⟨⟨j+1,by omega,by go_num,by show _=_;rw[HE.out];rfl,B8,C9,R9⟩,rfl⟩)
                case measure=>simp[intOf];omega
              ·have HN:Hid (Ag (Nz ps.length) (k5+1) (ps.drop (k5+1))=Ag (Nz ps.length) 0 ps):=by
                have h1:=HD.out;have h3:=HQj.out;rw[yQ (by omega)]at h3;have h2:Nz ps.length k5 p=none:=by unfold Nz;rw[if_neg HI0.out];exact h3.symm
                rw[h2]at h1;exact h1.symm
               clear HQj HD;go_wp2;go_roundw;case rel=>first|exact⟨k5+1,by omega,by go_num,HN.out,hb8,C8,R8⟩|((repeat apply Exists.intro);exact⟨⟨k5+1,by omega,by go_num,HN.out,hb8,C8,R8⟩,rfl⟩)
               case measure=>simp[intOf];omega
           ·have HC5:Hid (Ag (Nz ps.length) 0 ps=none):=by have h1:=HQ.out;rw[yQ (by omega)]at h1;exact h1.symm
            have HV:Hid (Eo ps=(0,0,0)):=by show _=_;unfold Eo;rw[HS.out,HH.out,HC3.out,HC4.out,HC5.out];rfl
            clear HQ;have r6:=R6.cell;have f6:=R6.frozen;go_wp2_with fail;refine bodyPost_ret (v:=.agg #[(),(),()]) ?_ rfl ⟨?_,?_⟩
            ·simp[results,results82,go_sem,r6]
            ·rw[HV.out];rfl
            ·iterate 3 (refine yP ?_ (by simp;try omega) _)
             exact hb6
   ·have HV:Hid (Eo ps=(1,0,0)):=by show _=_;unfold Eo;rw[if_neg hsz]
    have hsz2:ps.length=0∨(1<=ps.length/\200<ps.length)∨((1<=ps.length/\ps.length<=200)/\6000<(q:Int)):=by rw[E0.out]at hsz;simp[inR]at hsz;omega
    clear hsz E0 hv hfi;rcases hsz2 with h0|⟨g1,g2⟩|⟨⟨g1,g2⟩,g3⟩
    ·have k0:((ps.length:Int)==0)=true:=beq_iff_eq.2 (by omega);go_wp2_with fail;refine(Bv 1 0 0 _).mono ?_;rintro e w9 ⟨rfl,hw9⟩;have B9:=hb.trans (hw9.mono hb.size);have r9:=(R1.l hw9).cell;have f9:=(R1.l hw9).frozen;go_wp2_with fail;refine bodyPost_ret (v:=.agg #[(1:Int),(),()]) ?_ rfl ⟨?_,?_⟩
     ·simp[results,results82,go_sem,r9]
     ·rw[HV.out];rfl
     ·iterate 3 (refine yP ?_ (by simp;try omega) _)
      exact B9
    ·have k0:((ps.length:Int)==0)=false:=beq_eq_false_iff_ne.2 (by omega);go_wp2_with fail;refine(Bv 1 0 0 _).mono ?_;rintro e w9 ⟨rfl,hw9⟩;have B9:=hb.trans (hw9.mono hb.size);have r9:=(R1.l hw9).cell;have f9:=(R1.l hw9).frozen;go_wp2_with fail;refine bodyPost_ret (v:=.agg #[(1:Int),(),()]) ?_ rfl ⟨?_,?_⟩
     ·simp[results,results82,go_sem,r9]
     ·rw[HV.out];rfl
     ·iterate 3 (refine yP ?_ (by simp;try omega) _)
      exact B9
    ·have k0:((ps.length:Int)==0)=false:=beq_eq_false_iff_ne.2 (by omega);go_wp2_with fail;refine(Bv 1 0 0 _).mono ?_;rintro e w9 ⟨rfl,hw9⟩;have B9:=hb.trans (hw9.mono hb.size);have r9:=(R1.l hw9).cell;have f9:=(R1.l hw9).frozen;go_wp2_with fail;refine bodyPost_ret (v:=.agg #[(1:Int),(),()]) ?_ rfl ⟨?_,?_⟩
     ·simp[results,results82,go_sem,r9]
     ·rw[HV.out];rfl
     ·iterate 3 (refine yP ?_ (by simp;try omega) _)
      exact B9
theorem A16 (ps:List Pd):(if (Eo ps).1=0 then Gq ps else Eo ps)=Bu ps:=by
 unfold Eo Bu;rw[Qn (fun k p=>A7b ps.length k p)];split
 ·cases Ag Ea 0 ps with
  | some x=>rfl
  | none=>
   cases Ag Du 0 ps with
   | some x=>rfl
   | none=>
    cases Ag Dv 0 ps with
    | some x=>rfl
    | none=>
     cases Ag (Lv ps.length) 0 ps with
     | some x=>rfl
     | none=>rfl
 ·rfl
theorem Ue {ps:List Pd} (h:(Eo ps).1=0):1<=ps.length/\Ag Ea 0 ps=none/\A9y ps:=by
 unfold Eo at h;split at h
 ·rename_i hs;cases h1:Ag Ea 0 ps with
  | some x=>rw[h1]at h;cases h
  | none=>
   rw[h1]at h;cases h2:Ag Du 0 ps with
   | some x=>rw[h2]at h;cases h
   | none=>
    rw[h2]at h;cases h3:Ag Dv 0 ps with
    | some x=>rw[h3]at h;cases h
    | none=>
     rw[h3]at h;cases h4:Ag (Nz ps.length) 0 ps with
     | some x=>rw[h4]at h;cases h
     | none=>
      refine⟨?_,rfl,?_⟩
      ·unfold Kv at hs;simp[inR]at hs;omega
      ·rw[Qn (fun k p=>A7b ps.length k p)]at h4;exact V7 h4
 ·cases h
theorem Ui (ao:Option Addr) (cap:Nat) (ps:List Pd) (w:World) (hfi:Kh ps) (hv:Ad 0 w ao ps) :
  Kw 33 #[.agg #[.slice ao ps.length cap]] w (Jr (Bu ps)):=by
 have hl:ps.length<=1048576:=by have:=hfi.bulk;unfold Dj at this;omega
 have hmk:=Bj 141 4 _ 1 1 underlying141 Tryz.info_bool .i64 .i64 ps.length (by omega) (by omega);simp only[Nat.mul_one]at hmk;have hb2:∀o1 o2,Below w w ((w.alloc o1).alloc o2):=fun o1 o2=>((yA _ _).alloc (yB _) o1).alloc (by simp) o2;have C0:=(Blk.new w #[.slice ao ps.length cap] 31).alloc (.cells #[(),(),()] 27);have R0:=Blk.new (w.alloc (.cells #[.slice ao ps.length cap] 31)) #[(),(),()] 27;rw[nblk_alloc]at R0;unfold Kw;go_in;go_wp2_with fail;refine(A38 ao cap ps _ hfi (hv.l (A7.o (hb2 _ _)))).mono ?_;rintro e w1 ⟨rfl,hw1⟩;have B1:=(hb2 _ _).trans (hw1.mono (by simp;omega));have C1:=C0.l hw1;have R1:=R0.l hw1;clear C0 R0 hw1;have HV0:Hid _:=A16 ps;have HP0:Hid _:=@Ue ps;unfold Jr;generalize Eo ps=pf at *;obtain⟨fc,fp,fa⟩:=pf;dsimp only at *;have c1:=C1.cell 0;have r1:=R1.cell;have f1:=R1.frozen;by_cases hfc:fc=0
 ·subst hfc;obtain⟨hl1,hh,hfn⟩:=HP0.out rfl;have HV1:Hid (Bu ps=Gq ps):=HV0.out.symm;have hr:=Gc hh;have hz:=hfi.few;clear HP0 HV0 hh hfi;have C2:=(C1.alloc (.cells #[(),fp,fa] 27)).alloc (.cells (madeCells #[false] ps.length) 4);have R2:=(R1.alloc (.cells #[(),fp,fa] 27)).alloc (.cells (madeCells #[false] ps.length) 4);have M2:=J3 (w1.alloc (.cells #[(),fp,fa] 27)) ps.length;rw[nblk_alloc]at M2;have B2:=(B1.alloc B1.size (.cells #[(),fp,fa] 27)).alloc (by have:=B1.size;simp;omega) (.cells (madeCells #[false] ps.length) 4);have hMB:(w:Nat)+1<(w1:Nat)+1:=by have:=R1.lt;omega
  have cA:=(C1.alloc (.cells #[(),fp,fa] 27)).cell 0;have cB:=C2.cell 0;go_wp2_with fail;clear hmk c1 r1 f1 C1 R1 cA cB;generalize (w1:Nat)+1=MB at *;go_loopw [23] (fun y wr=>∃(k:Nat) (m:List Bool),k<=ps.length/\y=k/\m.length=ps.length/\Hid (J4 ps k (ps.drop k) m=J4 ps 0 ps (List.replicate ps.length false))/\Below w w wr/\Blk wr (w:Nat) #[.slice ao ps.length cap] 31/\Blk wr ((w:Nat)+1) #[(),(),()] 27/\Blk wr MB (Cc m) 4) (fun y _=>ps.length-(intOf y).toNat);case atStart=>exact⟨0,_,yE _,rfl,by simp,rfl,B2,C2,R2,M2⟩
  case round=>
   obtain⟨k,m,hk,rfl,hml,HQ,hb,C1,R1,M1⟩:=hrel;clear C2 R2 M2 B2;by_cases hkl:k<ps.length
   ·obtain⟨p,hpk⟩:=A8 hkl;have HD:Hid (J4 ps 0 ps (List.replicate ps.length false)=_):=HQ.out.symm.trans (Vr hpk m);obtain⟨b,off,e0,_,hbl,h,n0,pin⟩:=hv k p hpk;obtain⟨p0,p1,p2,p3,p4,p5,p6,p7,p8⟩:=n0.l hb hbl;subst e0;have hba:=fun o=>hb.alloc hb.size o;have C2:=C1.alloc (.cells #[p.name,p.line,p.params,.bool p.rest,p.regs,.slice h.uo p.ups.length h.uc,.slice h.co p.consts.length h.cc,.slice h.io p.ins.length h.ic,.slice h.no p.named.length h.nc] 77);have R2:=R1.alloc (.cells #[p.name,p.line,p.params,.bool p.rest,p.regs,.slice h.uo p.ups.length h.uc,.slice h.co p.consts.length h.cc,.slice h.io p.ins.length h.ic,.slice h.no p.named.length h.nc] 77);have M2:=M1.alloc (.cells #[p.name,p.line,p.params,.bool p.rest,p.regs,.slice h.uo p.ups.length h.uc,.slice h.co p.consts.length h.cc,.slice h.io p.ins.length h.ic,.slice h.no p.named.length h.nc] 77);have hins:=(hz p (yH hpk)).ins;have hPB1:=M1.lt;have Bw:=hba (.cells #[p.name,p.line,p.params,.bool p.rest,p.regs,.slice h.uo p.ups.length h.uc,.slice h.co p.consts.length h.cc,.slice h.io p.ins.length h.ic,.slice h.no p.named.length h.nc] 77);clear C1 R1 M1 HQ hba;have HM:Hid _:=hml;clear hml;go_wp2_with fail;clear p0 p1 p2 p3 p4 p5 p6 p7 p8 hb;generalize hPB:(wr:Nat)=PB at *;clear hPB;go_loopw [31] (fun y wi=>∃(j:Nat) (m':List Bool),j<=p.ins.length/\y=j/\Hid (m'.length=ps.length)/\Hid (Eg ps k p j (p.ins.drop j) m'=Eg ps k p 0 p.ins m)/\Below w w wi/\Blk wi (w:Nat) #[.slice (some ⟨b,off,none⟩) ps.length cap] 31/\Blk wi ((w:Nat)+1) #[(),(),()] 27/\Blk wi MB (Cc m') 4) (fun y _=>p.ins.length-(intOf y).toNat);case atStart=>exact⟨0,m,yE _,rfl,HM,rfl,Bw,C2,R2,M2⟩
    case round=>
     obtain⟨j,m',hj,rfl,HM',HQ',hb',C3,R3,M3⟩:=hrel;clear C2 R2 M2 Bw;by_cases hjl:j<p.ins.length
     ·obtain⟨n,hnj⟩:=A8 hjl;obtain⟨b',off',e',_,hbl',q0,q1,q2,q3,q4⟩:=pin.ins.l (A7.o hb') j n hnj;have HE:Hid (Eg ps k p 0 p.ins m=_):=HQ'.out.symm.trans (Vs hnj m');have hba:=fun o=>hb'.alloc hb'.size o;have CA:Hid (∀o,Blk (wr.alloc o) (w:Nat) _ _):=fun o=>C3.alloc o;have RA:Hid (∀o,Blk (wr.alloc o) ((w:Nat)+1) _ _):=fun o=>R3.alloc o;have MA:Hid (∀o,Blk (wr.alloc o) MB _ _):=fun o=>M3.alloc o;have hio:=e';by_cases hop:n.op=11
      ·obtain⟨hn1,hn2⟩:=hfn p (yH hpk) n (yH hnj) hop;obtain⟨op,a1,b1,c1,d1⟩:=n;dsimp only at *;subst hop;obtain⟨bN,rfl⟩:=yN hn1;obtain⟨q,hq⟩:=A8 (l:=ps) (k:=bN) (by omega);have hmb:bN<m'.length:=by rw[HM'.out];omega
       have HFn:Hid (Kr ps k p m' ⟨11,a1,bN,c1,d1⟩=(decide ((bN:Int)<=k)||(m'.getD bN false||!Mm p q.ups))):=by show _=_;unfold Kr;simp[hq]
       have HE2:Hid (Eg ps k p 0 p.ins m=if Kr ps k p m' ⟨11,a1,bN,c1,d1⟩ then (some j,m') else Eg ps k p (j+1) (p.ins.drop (j+1)) (m'.set bN true)):=by show _=_;rw[HE.out];rfl
       have hz1:=hz p (yH hpk);have hzq:=hz q (yH hq);have hr1:=hr p (yH hpk);have HUP:Hid (∀W,Below w w W->_):=fun W hW=>A3a (some ⟨b,off,none⟩) cap ps k bN p q W hpk hq hz1 hzq hr1 (hv.l (A7.o hW));clear HE HQ' pin n0 e' hv hfn hz hr hnj hpk hq;generalize hmbv:m'.getD bN false=mb at *;obtain⟨uo,uc,co,cc,io,ic,no,nc⟩:=h;dsimp only at *;subst hio;have hfault:Kr ps k p m' ⟨11,a1,bN,c1,d1⟩=true->Bu ps=(6,(k:Int),(j:Int)):=by intro hbad;rw[HV1.out];refine Tf (m:=m') ?_;rw[HD.out,HE2.out,if_pos hbad]
       have HFa:Hid _:=hfault;clear hfault;have N4:=Blk.new wr #[(11:Int),a1,bN,c1,d1] 81;have M4:=MA.out (.cells #[(11:Int),a1,bN,c1,d1] 81);have C4:=CA.out (.cells #[(11:Int),a1,bN,c1,d1] 81);have R4:=RA.out (.cells #[(11:Int),a1,bN,c1,d1] 81);have B4:=hba (.cells #[(11:Int),a1,bN,c1,d1] 81);have cm4:=(M4.cell bN).trans ((Bo hmb).trans (by rw[hmbv]));have cC:=C4.cell 0;clear hmbv CA RA MA hba C3 R3 M3 hb';by_cases g1:(bN:Int)<=k
       ·have HV:Hid _:=HFa.out (by rw[HFn.out,decide_eq_true g1];rfl);clear HFa HFn HUP;go_wp2_with fail;refine(Bv 6 k j _).mono ?_;rintro e w9 ⟨rfl,hw9⟩;have B9:=B4.trans (hw9.mono B4.size);have r9:=(R4.l hw9).cell;have f9:=(R4.l hw9).frozen;go_wp2_with fail;refine bodyPost_ret (v:=.agg #[(6:Int),k,j]) ?_ rfl ⟨?_,?_⟩
        ·simp[results,results33,go_sem,r9]
        ·rw[HV.out];rfl
        ·iterate 3 (refine yP ?_ (by simp;try omega) _)
         exact B9
       ·have g1':=decide_eq_false g1;have gn:decide (bN<=k)=false:=decide_eq_false (by omega);have gl:k<bN:=by omega
        have gi:(k:Int)<bN:=by omega
        clear g1;cases mb
        rotate_left
        ·have HV:Hid _:=HFa.out (by rw[HFn.out,g1'];rfl);clear HFa HFn HUP;go_wp2_with fail;refine(Bv 6 k j _).mono ?_;rintro e w9 ⟨rfl,hw9⟩;have B9:=B4.trans (hw9.mono B4.size);have r9:=(R4.l hw9).cell;have f9:=(R4.l hw9).frozen;go_wp2_with fail;refine bodyPost_ret (v:=.agg #[(6:Int),k,j]) ?_ rfl ⟨?_,?_⟩
         ·simp[results,results33,go_sem,r9]
         ·rw[HV.out];rfl
         ·iterate 3 (refine yP ?_ (by simp;try omega) _)
          exact B9
        ·have HFn2:Hid (Kr ps k p m' ⟨11,a1,bN,c1,d1⟩ = !Mm p q.ups):=by show _=_;rw[HFn.out,g1'];rfl
         clear HFn;go_wp2_with fail;refine(HUP.out _ B4).mono ?_;rintro e w5 ⟨rfl,hw5⟩;have B5:=B4.trans (hw5.mono B4.size);have M5:=M4.l hw5;have C5:=C4.l hw5;have R5:=R4.l hw5;have N5:=N4.l hw5;clear N4 M4 C4 R4 B4 cm4 hw5 cC HUP;generalize Mm p q.ups=ub at *;cases ub
         ·have HV:Hid _:=HFa.out (by rw[HFn2.out];rfl);clear HFa HFn2;go_wp2_with fail;refine(Bv 6 k j _).mono ?_;rintro e w9 ⟨rfl,hw9⟩;have B9:=B5.trans (hw9.mono B5.size);have r9:=(R5.l hw9).cell;have f9:=(R5.l hw9).frozen;go_wp2_with fail;refine bodyPost_ret (v:=.agg #[(6:Int),k,j]) ?_ rfl ⟨?_,?_⟩
          ·simp[results,results33,go_sem,r9]
          ·rw[HV.out];rfl
          ·iterate 3 (refine yP ?_ (by simp;try omega) _)
           exact B9
         ·have HE3:Hid (Eg ps k p 0 p.ins m=Eg ps k p (j+1) (p.ins.drop (j+1)) (m'.set bN true)):=by show _=_;rw[HE2.out,HFn2.out];rfl
          clear HFa HFn2 HE2;have n5:=N5.cell;have m5:=(M5.cell bN).trans (Bo hmb);have f5:=M5.frozen;have Q1:=B5.setCell (p:=(MB,bN)) (by show (w:Nat)<=MB;omega) (true);have Q2:=C5.setOther (p:=(MB,bN)) (by show (w:Nat)≠MB;omega) (true);have Q3:=R5.setOther (p:=(MB,bN)) (by show (w:Nat)+1≠MB;omega) (true);have Q4:=M5.set bN (true);rw[E8]at Q4;have HL:Hid ((m'.set bN true).length=ps.length):=by show _=_;rw[List.length_set];exact HM'.out
          clear N5 M5 C5 R5 B5;go_wp2;go_roundw;case rel=>exact⟨j+1,m'.set bN true,by omega,by go_num,HL,HE3.out.symm,Q1,Q2,Q3,Q4⟩
          case measure=>simp[intOf];omega
      ·have ho:(n.op !=11)=true:=by simpa using hop
       have HE2:Hid (Eg ps k p 0 p.ins m=Eg ps k p (j+1) (p.ins.drop (j+1)) m'):=by show _=_;rw[HE.out,if_neg (by simpa using hop)]
       clear HE hop;clear C3 R3 M3 pin n0 e';obtain⟨uo,uc,co,cc,io,ic,no,nc⟩:=h;dsimp only at *;subst hio;go_wp2;go_roundw;case rel=>exact⟨j+1,m',by omega,by go_num,HM',HE2.out.symm,hba _,CA.out _,RA.out _,MA.out _⟩
       case measure=>simp[intOf];omega
     ·have HI:Hid (Eg ps k p 0 p.ins m=(none,m')):=by have h1:=HQ'.out;rw[yQ (by omega)]at h1;exact h1.symm
      go_wp2;go_roundw;case rel=>exact⟨k+1,m',by omega,by go_num,HM'.out,by show _=_;rw[HD.out,HI.out],hb',C3,R3,M3⟩
      case measure=>simp[intOf];omega
   ·have HN:Hid (J4 ps 0 ps (List.replicate ps.length false)=(none,m)):=by have h2:=HQ.out;rw[yQ (by omega)]at h2;exact h2.symm
    clear HQ;go_wp2_with fail;have HVm:Hid (Bu ps=if 0<=Cn false (m.set 0 true) 0 then (7,Cn false (m.set 0 true) 0,0) else (0,0,0)):=by show _=_;rw[HV1.out];unfold Gq;rw[HN.out]
    have HSt:Hid (Cn false ((m.set 0 true).drop 1) 1=Cn false (m.set 0 true) 0):=by
     show _=_;cases m with
     | nil=>simp at hml;omega
     | cons x r=>rfl
    have hml2:(m.set 0 true).length=ps.length:=by rw[List.length_set];exact hml
    clear HN HV1 hv hz hr hfn;go_loopw [9] (fun y wr=>∃k:Nat,1<=k/\k<=ps.length/\y=k/\Hid (Cn false ((m.set 0 true).drop k) k=Cn false (m.set 0 true) 0)/\Below w w wr/\Blk wr (w:Nat) #[.slice ao ps.length cap] 31/\Blk wr ((w:Nat)+1) #[(),(),()] 27/\Blk wr MB (Cc m) 4) (fun y _=>ps.length-(intOf y).toNat);case atStart=>exact⟨1,yB _,hl1,rfl,HSt,hb,C1,R1,M1⟩
    case round=>
     obtain⟨k,hk1,hk,rfl,HQ,hb',C3,R3,M3⟩:=hrel;clear C1 R1 M1 hb HSt;have c3:=C3.cell 0;by_cases hkl:k<ps.length
     ·have HD:Hid _:=HQ.out.symm.trans (Oi (by omega));have hg:(m.set 0 true).getD k false=m.getD k false:=by simp[List.getD,List.getElem?_set];split<;>first|omega|rfl
      rw[hg]at HD;have m3:=(M3.cell k).trans (Bo (by omega));generalize m.getD k false=mb at *;clear HQ hg;cases mb
      ·have HV:Hid (Bu ps=(7,(k:Int),0)):=by show _=_;rw[HVm.out,HD.out];simp
       go_wp2_with fail;refine(Bv 7 k 0 _).mono ?_;rintro e w9 ⟨rfl,hw9⟩;have B9:=hb'.trans (hw9.mono hb'.size);have r9:=(R3.l hw9).cell;have f9:=(R3.l hw9).frozen;go_wp2_with fail;refine bodyPost_ret (v:=.agg #[(7:Int),k,()]) ?_ rfl ⟨?_,?_⟩
       ·simp[results,results33,go_sem,r9]
       ·rw[HV.out];rfl
       ·iterate 3 (refine yP ?_ (by simp;try omega) _)
        exact B9
      ·have HN:Hid (Cn false ((m.set 0 true).drop (k+1)) (k+1)=Cn false (m.set 0 true) 0):=by show _=_;rw[HD.out];simp
       go_wp2;go_roundw;case rel=>exact⟨k+1,by omega,by omega,by go_num,HN.out,hb',C3,R3,M3⟩
       case measure=>simp[intOf];omega
     ·have HV:Hid (Bu ps=(0,0,0)):=by have h1:=HQ.out;rw[yQ (by omega)]at h1;show _=_;rw[HVm.out,←h1];rfl
      have r9:=R3.cell;have f9:=R3.frozen;go_wp2_with fail;refine bodyPost_ret (v:=.agg #[(),(),()]) ?_ rfl ⟨?_,?_⟩
      ·simp[results,results33,go_sem,r9]
      ·rw[HV.out];rfl
      ·iterate 3 (refine yP ?_ (by simp;try omega) _)
       exact hb'
 ·have hfc2:(fc !=0)=true:=by simpa using hfc
  have HV1:Hid (Bu ps=(fc,fp,fa)):=by have:=HV0.out;rw[if_neg hfc]at this;exact this.symm
  clear HP0 HV0 hfc;have B9:=B1.alloc B1.size (.cells #[fc,fp,fa] 27);have R9:=R1.alloc (.cells #[fc,fp,fa] 27);have r9:=R9.cell;have f9:=R9.frozen;go_wp2_with fail;refine bodyPost_ret (v:=.agg #[fc,fp,fa]) ?_ rfl ⟨?_,?_⟩
  ·simp[results,results33,go_sem,r9]
  ·rw[HV1.out];rfl
  ·iterate 3 (refine yP ?_ (by simp;try omega) _)
   exact B9
end Go.Proofs.YtjbbppblgjhapaaGreatDoor
