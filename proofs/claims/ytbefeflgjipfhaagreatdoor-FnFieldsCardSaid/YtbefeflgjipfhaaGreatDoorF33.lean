import Derived.Test.YtbefeflgjipfhaaGreatDoorF31
set_option maxRecDepth 100000
set_option maxHeartbeats 8000000
namespace Go.Proofs.YtbefeflgjipfhaaGreatDoor
open Go.Deep Go.Proofs.Tryz Go.RowKit
variable{ps:List Pd}{cap:Nat}{ao:Option Addr}{w:World}
def Eu (ps:List Pd) (i:Nat):Prop:=
 Nt ps=true/\(1<=i->Av Fq 0 ps=none)/\(2<=i->Av Fw 0 ps=none)/\(3<=i->Av G6 0 ps=none)/\(4<=i->Av (Kc ps.length) 0 ps=none)
def Pb (f:Nat) (g:Nat->Pd->Option Nat) (ao:Option Addr) (cap:Nat) (ps:List Pd) (w:World):Prop:=
 ∀(k:Nat) (p:Pd) (W:World),ps[k]?=some p->Below w.heap.size w W->Calls prog f #[.agg #[.slice ao ps.length cap],.int .i64 k] W fun e w'=>
  ∃at_:Int,e=.returned (.tuple #[.int .i64 at_,.bool (g k p).isNone])/\(∀j,g k p=some j->at_=j)/\Below W.heap.size W w'
theorem A16 (hfi:Pm ps) (hl:ps.length<=1048576) (hv:Az 0 w ao ps):Pb 253 Fq ao cap ps w:=by
 intro k p W hk hb;refine(Sg ao cap ps k p W hk (hfi.few p (yH hk)) hl (hv.l (Ad.o hb))).mono ?_;rintro e w' ⟨rfl,hw⟩;refine⟨0,?_,?_,hw⟩
 ·unfold Fq;cases Jl p k<;>rfl
 ·intro j hj;unfold Fq at hj;split at hj<;>simp at hj;omega
theorem Ue {o:Option Nat} : ∃at_:Int,A58 o=.tuple #[.int .i64 at_,.bool o.isNone]/\∀j,o=some j->at_=j:=by
 cases o with
 | none=>exact⟨0,rfl,fun j h=>by cases h⟩
 | some i=>exact⟨i,rfl,fun j h=>by cases h;rfl⟩
theorem Wh (hfi:Pm ps) (hv:Az 0 w ao ps):Pb 254 Fw ao cap ps w:=by intro k p W hk hb;refine(Pp ao cap ps k p W hk (hfi.few p (yH hk)) (hfi.flts p (yH hk)) (hv.l (Ad.o hb))).mono ?_;rintro e w' ⟨rfl,hw⟩;obtain⟨a,h1,h2⟩:=@Ue (Fw k p);exact⟨a,by rw[←h1];rfl,h2,hw⟩
theorem Yw (hfi:Pm ps) (hr:∀p∈ps,0<=p.regs/\p.regs<=250) (hv:Az 0 w ao ps):Pb 255 G6 ao cap ps w:=by intro k p W hk hb;refine(Qj ao cap ps k p W hk (hfi.few p (yH hk)) (hr p (yH hk)) (hv.l (Ad.o hb))).mono ?_;rintro e w' ⟨rfl,hw⟩;obtain⟨a,h1,h2⟩:=@Ue (G6 k p);exact⟨a,by rw[←h1];rfl,h2,hw⟩
theorem A41 (hfi:Pm ps) (hl:ps.length<=1048576) (hr:∀p∈ps,0<=p.regs/\p.regs<=250) (hF:Ep w) (hv:Az 0 w ao ps):Pb 256 (Kc ps.length) ao cap ps w:=by intro k p W hk hb;refine(Ja ao cap ps k p W hk (hfi.few p (yH hk)) hl (hfi.nds p (yH hk)) (hr p (yH hk)) (hF.l hb) (hv.l (Ad.o hb))).mono ?_;rintro e w' ⟨⟨a,rfl,h2⟩,hw⟩;exact⟨a,rfl,h2,hw⟩
theorem Ql (ao:Option Addr) (cap:Nat) (ps:List Pd) (w:World) (hfi:Pm ps) (hF:Ep w) (hv:Az 0 w ao ps) :
  Kw 193 #[.agg #[.slice ao ps.length cap]] w (Oi (Ce ps)):=by
 have hl:ps.length<=1048576:=by have:=hfi.bulk;unfold Jf at this;omega
 have hb2:∀o1 o2,Below w.heap.size w ((w.alloc o1).alloc o2):=fun o1 o2=>((yA _ _).alloc (yB _) o1).alloc (by simp) o2;have C0:=(Blk.new w #[.slice ao ps.length cap] 26).alloc (.cells #[.int .i64 0,.int .i64 0,.int .i64 0] 155);have R0:=Blk.new (w.alloc (.cells #[.slice ao ps.length cap] 26)) #[.int .i64 0,.int .i64 0,.int .i64 0] 155;rw[nblk_alloc]at R0;(try unfold Kw);go_in;go_wp2_with fail;refine(Xc ao cap ps _ hfi.bulk (hv.l (Ad.o (hb2 _ _)))).mono ?_;rintro e w1 ⟨rfl,hw1⟩;have B1:=(hb2 _ _).trans (hw1.mono (by simp;omega));have C1:=C0.l hw1;have R1:=R0.l hw1;clear C0 R0 hw1;cases hsz:Nt ps
 ·have HV:Hid (Ce ps=(1,0,0)):=by show _=_;unfold Ce;rw[hsz];rfl
  have c1:=R1.cell;have f1:=R1.frozen;clear hv hF hfi;go_wp2_with fail;refine bodyPost_ret (v:=.agg #[.int .i64 1,.int .i64 0,.int .i64 0]) ?_ rfl ⟨?_,?_⟩
  ·simp[results,results193,go_sem,c1]
  ·rw[HV.out];rfl
  ·iterate 3 (refine yP ?_ (by simp;try omega) _)
   exact B1
 ·have HP:Hid (Eu ps 0):=⟨hsz,by omega,by omega,by omega,by omega⟩;have hszl:1<=ps.length:=by unfold Nt at hsz;simp[inR]at hsz;omega
  have c1:=C1.cell 0;clear hsz;have B2:=B1.alloc B1.size (.cells #[.func (.func 253) #[] #[],.func (.func 254) #[] #[],.func (.func 255) #[] #[],.func (.func 256) #[] #[]] 334);have C2:=C1.alloc (.cells #[.func (.func 253) #[] #[],.func (.func 254) #[] #[],.func (.func 255) #[] #[],.func (.func 256) #[] #[]] 334);have R2:=R1.alloc (.cells #[.func (.func 253) #[] #[],.func (.func 254) #[] #[],.func (.func 255) #[] #[],.func (.func 256) #[] #[]] 334);have F2:=Blk.new w1 #[.func (.func 253) #[] #[],.func (.func 254) #[] #[],.func (.func 255) #[] #[],.func (.func 256) #[] #[]] 334;have hFB:w.heap.size+1<w1.heap.size:=R1.lt;clear B1 C1 R1;go_wp2_with fail;clear c1;generalize hg:w1.heap.size=FB at *;clear hg;go_loopw [16] (fun y wr=>∃i:Nat,i<=4/\y=.int .i64 i/\Hid (Eu ps i)/\Below w.heap.size w wr/\Blk wr w.heap.size #[.slice ao ps.length cap] 26/\Blk wr (w.heap.size+1) #[.int .i64 0,.int .i64 0,.int .i64 0] 155/\Blk wr FB #[.func (.func 253) #[] #[],.func (.func 254) #[] #[],.func (.func 255) #[] #[],.func (.func 256) #[] #[]] 334) (fun y _=>4-(intOf y).toNat);case atStart=>exact⟨0,by omega,rfl,HP,B2,C2,R2,F2⟩
  case round=>
   obtain⟨i,hi,rfl,HPi,hb,C3,R3,F3⟩:=hrel;clear B2 C2 R2 F2 HP;rcases (by omega:i=0∨i=1∨i=2∨i=3∨i=4) with rfl|rfl|rfl|rfl|rfl
   ·have c3:=C3.cell 0;have f3:=F3.cell;have HK:Hid (Pb 253 Fq ao cap ps w):=A16 hfi hl hv;go_wp2_with fail;clear c3 f3;go_loopw [24] (fun y wi=>∃k:Nat,k<=ps.length/\y=.int .i64 k/\Hid (Av Fq k (ps.drop k)=Av Fq 0 ps)/\Below w.heap.size w wi/\Blk wi w.heap.size #[.slice ao ps.length cap] 26/\Blk wi (w.heap.size+1) #[.int .i64 0,.int .i64 0,.int .i64 0] 155/\Blk wi FB #[.func (.func 253) #[] #[],.func (.func 254) #[] #[],.func (.func 255) #[] #[],.func (.func 256) #[] #[]] 334) (fun y _=>ps.length-(intOf y).toNat);case atStart=>exact⟨0,yE _,rfl,rfl,hb,C3,R3,F3⟩
    case round=>
     obtain⟨k,hk,rfl,HQ,hb4,C4,R4,F4⟩:=hrel;clear hb C3 R3 F3;by_cases hkl:k<ps.length
     ·obtain⟨p,hpk⟩:=Ah hkl;have HD:Hid (Av Fq 0 ps=_):=HQ.out.symm.trans (Hr hpk);have c4:=C4.cell 0;go_wp2_with fail;refine(HK.out k p _ hpk hb4).mono ?_;rintro e w5 ⟨at_,rfl,hat,hw5⟩;have B5:=hb4.trans (hw5.mono hb4.size);have C5:=C4.l hw5;have R5:=R4.l hw5;have F5:=F4.l hw5;clear c4 C4 R4 F4 hw5 hb4;cases ho:(Fq) k p with
      | some j=>
       obtain rfl:=hat j ho;have HV:Hid (Ce ps=(2,(k:Int),(j:Int))):=by have h1:=HD.out;rw[ho]at h1;have h2:=HPi.out;unfold Eu at h2;show _=_;unfold Ce;rw[h2.1,h1];rfl
       clear ho hat HK HPi HQ HD;have c5:=R5.cell;have g5:=R5.frozen;rw[Option.isNone_some];go_wp2_with fail;refine bodyPost_ret (v:=.agg #[.int .i64 2,.int .i64 k,.int .i64 j]) ?_ rfl ⟨?_,?_⟩
       ·simp[results,results193,go_sem,c5]
       ·rw[HV.out];rfl
       ·iterate 3 (refine yP ?_ (by simp;try omega) _)
        exact B5
      | none=>
       have HN:Hid (Av Fq (k+1) (ps.drop (k+1))=Av Fq 0 ps):=by have h1:=HD.out;rw[ho]at h1;exact h1.symm
       clear ho hat HQ HD;rw[Option.isNone_none];go_wp2;go_roundw;case rel=>first|exact⟨k+1,by omega,by go_num,HN.out,B5,C5,R5,F5⟩|((repeat apply Exists.intro);exact⟨⟨k+1,by omega,by go_num,HN.out,B5,C5,R5,F5⟩,rfl⟩)
       case measure=>simp[intOf];omega
     ·have HN:Av Fq 0 ps=none:=by have h1:=HQ.out;rw[yQ (by omega)]at h1;exact h1.symm
      have HP2:Hid (Eu ps 1):=by have h2:=HPi.out;unfold Eu at h2;exact⟨h2.1,fun _=>HN,fun h=>by omega,fun h=>by omega,fun h=>by omega⟩
      clear HN HQ HK;go_wp2;go_roundw;case rel=>exact⟨1,by omega,rfl,HP2,hb4,C4,R4,F4⟩
      case measure=>simp[intOf]
   ·have c3:=C3.cell 0;have f3:=F3.cell;have HK:Hid (Pb 254 Fw ao cap ps w):=Wh hfi hv;go_wp2_with fail;clear c3 f3;go_loopw [24] (fun y wi=>∃k:Nat,k<=ps.length/\y=.int .i64 k/\Hid (Av Fw k (ps.drop k)=Av Fw 0 ps)/\Below w.heap.size w wi/\Blk wi w.heap.size #[.slice ao ps.length cap] 26/\Blk wi (w.heap.size+1) #[.int .i64 0,.int .i64 0,.int .i64 0] 155/\Blk wi FB #[.func (.func 253) #[] #[],.func (.func 254) #[] #[],.func (.func 255) #[] #[],.func (.func 256) #[] #[]] 334) (fun y _=>ps.length-(intOf y).toNat);case atStart=>exact⟨0,yE _,rfl,rfl,hb,C3,R3,F3⟩
    case round=>
     obtain⟨k,hk,rfl,HQ,hb4,C4,R4,F4⟩:=hrel;clear hb C3 R3 F3;by_cases hkl:k<ps.length
     ·obtain⟨p,hpk⟩:=Ah hkl;have HD:Hid (Av Fw 0 ps=_):=HQ.out.symm.trans (Hr hpk);have c4:=C4.cell 0;go_wp2_with fail;refine(HK.out k p _ hpk hb4).mono ?_;rintro e w5 ⟨at_,rfl,hat,hw5⟩;have B5:=hb4.trans (hw5.mono hb4.size);have C5:=C4.l hw5;have R5:=R4.l hw5;have F5:=F4.l hw5;clear c4 C4 R4 F4 hw5 hb4;cases ho:(Fw) k p with
      | some j=>
       obtain rfl:=hat j ho;have HV:Hid (Ce ps=(3,(k:Int),(j:Int))):=by have h1:=HD.out;rw[ho]at h1;have h2:=HPi.out;unfold Eu at h2;show _=_;unfold Ce;rw[h2.1,h2.2.1 (by omega),h1];rfl
       clear ho hat HK HPi HQ HD;have c5:=R5.cell;have g5:=R5.frozen;rw[Option.isNone_some];go_wp2_with fail;refine bodyPost_ret (v:=.agg #[.int .i64 3,.int .i64 k,.int .i64 j]) ?_ rfl ⟨?_,?_⟩
       ·simp[results,results193,go_sem,c5]
       ·rw[HV.out];rfl
       ·iterate 3 (refine yP ?_ (by simp;try omega) _)
        exact B5
      | none=>
       have HN:Hid (Av Fw (k+1) (ps.drop (k+1))=Av Fw 0 ps):=by have h1:=HD.out;rw[ho]at h1;exact h1.symm
       clear ho hat HQ HD;rw[Option.isNone_none];go_wp2;go_roundw;case rel=>first|exact⟨k+1,by omega,by go_num,HN.out,B5,C5,R5,F5⟩|((repeat apply Exists.intro);exact⟨⟨k+1,by omega,by go_num,HN.out,B5,C5,R5,F5⟩,rfl⟩)
       case measure=>simp[intOf];omega
     ·have HN:Av Fw 0 ps=none:=by have h1:=HQ.out;rw[yQ (by omega)]at h1;exact h1.symm
      have HP2:Hid (Eu ps 2):=by have h2:=HPi.out;unfold Eu at h2;exact⟨h2.1,fun _=>h2.2.1 (by omega),fun _=>HN,fun h=>by omega,fun h=>by omega⟩
      clear HN HQ HK;go_wp2;go_roundw;case rel=>exact⟨2,by omega,rfl,HP2,hb4,C4,R4,F4⟩
      case measure=>simp[intOf]
   ·have c3:=C3.cell 0;have f3:=F3.cell;have HK:Hid (Pb 255 G6 ao cap ps w):=Yw hfi (Gc (HPi.out.2.1 (by omega))) hv;go_wp2_with fail;clear c3 f3;go_loopw [24] (fun y wi=>∃k:Nat,k<=ps.length/\y=.int .i64 k/\Hid (Av G6 k (ps.drop k)=Av G6 0 ps)/\Below w.heap.size w wi/\Blk wi w.heap.size #[.slice ao ps.length cap] 26/\Blk wi (w.heap.size+1) #[.int .i64 0,.int .i64 0,.int .i64 0] 155/\Blk wi FB #[.func (.func 253) #[] #[],.func (.func 254) #[] #[],.func (.func 255) #[] #[],.func (.func 256) #[] #[]] 334) (fun y _=>ps.length-(intOf y).toNat);case atStart=>exact⟨0,yE _,rfl,rfl,hb,C3,R3,F3⟩
    case round=>
     obtain⟨k,hk,rfl,HQ,hb4,C4,R4,F4⟩:=hrel;clear hb C3 R3 F3;by_cases hkl:k<ps.length
     ·obtain⟨p,hpk⟩:=Ah hkl;have HD:Hid (Av G6 0 ps=_):=HQ.out.symm.trans (Hr hpk);have c4:=C4.cell 0;go_wp2_with fail;refine(HK.out k p _ hpk hb4).mono ?_;rintro e w5 ⟨at_,rfl,hat,hw5⟩;have B5:=hb4.trans (hw5.mono hb4.size);have C5:=C4.l hw5;have R5:=R4.l hw5;have F5:=F4.l hw5;clear c4 C4 R4 F4 hw5 hb4;cases ho:(G6) k p with
      | some j=>
       obtain rfl:=hat j ho;have HV:Hid (Ce ps=(4,(k:Int),(j:Int))):=by have h1:=HD.out;rw[ho]at h1;have h2:=HPi.out;unfold Eu at h2;show _=_;unfold Ce;rw[h2.1,h2.2.1 (by omega),h2.2.2.1 (by omega),h1];rfl
       clear ho hat HK HPi HQ HD;have c5:=R5.cell;have g5:=R5.frozen;rw[Option.isNone_some];go_wp2_with fail;refine bodyPost_ret (v:=.agg #[.int .i64 4,.int .i64 k,.int .i64 j]) ?_ rfl ⟨?_,?_⟩
       ·simp[results,results193,go_sem,c5]
       ·rw[HV.out];rfl
       ·iterate 3 (refine yP ?_ (by simp;try omega) _)
        exact B5
      | none=>
       have HN:Hid (Av G6 (k+1) (ps.drop (k+1))=Av G6 0 ps):=by have h1:=HD.out;rw[ho]at h1;exact h1.symm
       clear ho hat HQ HD;rw[Option.isNone_none];go_wp2;go_roundw;case rel=>first|exact⟨k+1,by omega,by go_num,HN.out,B5,C5,R5,F5⟩|((repeat apply Exists.intro);exact⟨⟨k+1,by omega,by go_num,HN.out,B5,C5,R5,F5⟩,rfl⟩)
       case measure=>simp[intOf];omega
     ·have HN:Av G6 0 ps=none:=by have h1:=HQ.out;rw[yQ (by omega)]at h1;exact h1.symm
      have HP2:Hid (Eu ps 3):=by have h2:=HPi.out;unfold Eu at h2;exact⟨h2.1,fun _=>h2.2.1 (by omega),fun _=>h2.2.2.1 (by omega),fun _=>HN,fun h=>by omega⟩
      clear HN HQ HK;go_wp2;go_roundw;case rel=>exact⟨3,by omega,rfl,HP2,hb4,C4,R4,F4⟩
      case measure=>simp[intOf]
   ·have c3:=C3.cell 0;have f3:=F3.cell;have HK:Hid (Pb 256 (Kc ps.length) ao cap ps w):=A41 hfi hl (Gc (HPi.out.2.1 (by omega))) hF hv;go_wp2_with fail;clear c3 f3;go_loopw [24] (fun y wi=>∃k:Nat,k<=ps.length/\y=.int .i64 k/\Hid (Av (Kc ps.length) k (ps.drop k)=Av (Kc ps.length) 0 ps)/\Below w.heap.size w wi/\Blk wi w.heap.size #[.slice ao ps.length cap] 26/\Blk wi (w.heap.size+1) #[.int .i64 0,.int .i64 0,.int .i64 0] 155/\Blk wi FB #[.func (.func 253) #[] #[],.func (.func 254) #[] #[],.func (.func 255) #[] #[],.func (.func 256) #[] #[]] 334) (fun y _=>ps.length-(intOf y).toNat);case atStart=>exact⟨0,yE _,rfl,rfl,hb,C3,R3,F3⟩
    case round=>
     obtain⟨k,hk,rfl,HQ,hb4,C4,R4,F4⟩:=hrel;clear hb C3 R3 F3;by_cases hkl:k<ps.length
     ·obtain⟨p,hpk⟩:=Ah hkl;have HD:Hid (Av (Kc ps.length) 0 ps=_):=HQ.out.symm.trans (Hr hpk);have c4:=C4.cell 0;go_wp2_with fail;refine(HK.out k p _ hpk hb4).mono ?_;rintro e w5 ⟨at_,rfl,hat,hw5⟩;have B5:=hb4.trans (hw5.mono hb4.size);have C5:=C4.l hw5;have R5:=R4.l hw5;have F5:=F4.l hw5;clear c4 C4 R4 F4 hw5 hb4;cases ho:((Kc ps.length)) k p with
      | some j=>
       obtain rfl:=hat j ho;have HV:Hid (Ce ps=(5,(k:Int),(j:Int))):=by have h1:=HD.out;rw[ho]at h1;have h2:=HPi.out;unfold Eu at h2;show _=_;unfold Ce;rw[h2.1,h2.2.1 (by omega),h2.2.2.1 (by omega),h2.2.2.2.1 (by omega),h1];rfl
       clear ho hat HK HPi HQ HD;have c5:=R5.cell;have g5:=R5.frozen;rw[Option.isNone_some];go_wp2_with fail;refine bodyPost_ret (v:=.agg #[.int .i64 5,.int .i64 k,.int .i64 j]) ?_ rfl ⟨?_,?_⟩
       ·simp[results,results193,go_sem,c5]
       ·rw[HV.out];rfl
       ·iterate 3 (refine yP ?_ (by simp;try omega) _)
        exact B5
      | none=>
       have HN:Hid (Av (Kc ps.length) (k+1) (ps.drop (k+1))=Av (Kc ps.length) 0 ps):=by have h1:=HD.out;rw[ho]at h1;exact h1.symm
       clear ho hat HQ HD;rw[Option.isNone_none];go_wp2;go_roundw;case rel=>first|exact⟨k+1,by omega,by go_num,HN.out,B5,C5,R5,F5⟩|((repeat apply Exists.intro);exact⟨⟨k+1,by omega,by go_num,HN.out,B5,C5,R5,F5⟩,rfl⟩)
       case measure=>simp[intOf];omega
     ·have HN:Av (Kc ps.length) 0 ps=none:=by have h1:=HQ.out;rw[yQ (by omega)]at h1;exact h1.symm
      have HP2:Hid (Eu ps 4):=by have h2:=HPi.out;unfold Eu at h2;exact⟨h2.1,fun _=>h2.2.1 (by omega),fun _=>h2.2.2.1 (by omega),fun _=>h2.2.2.2.1 (by omega),fun _=>HN⟩
      clear HN HQ HK;go_wp2;go_roundw;case rel=>exact⟨4,by omega,rfl,HP2,hb4,C4,R4,F4⟩
      case measure=>simp[intOf]
   ·have c3:=C3.cell 0;have HV:Hid (Ce ps=Eh ps):=by have h2:=HPi.out;unfold Eu at h2;show _=_;unfold Ce;rw[h2.1,h2.2.1 (by omega),h2.2.2.1 (by omega),h2.2.2.2.1 (by omega),h2.2.2.2.2 (by omega)];rfl
    have hrr:=Gc (HPi.out.2.1 (by omega));have hff:=A0v (HPi.out.2.2.2.2 (by omega));have HM:Hid _:=Pq ao cap ps wr hszl hl hfi.few hrr hff (hv.l (Ad.o hb));clear hrr hff;go_wp2_with fail;refine Calls.mono (Hid.out HM) ?_;rintro e w5 ⟨rfl,hw5⟩;have B5:=hb.trans (hw5.mono hb.size);have R5:=R3.l hw5;have c5:=R5.cell;have g5:=R5.frozen;obtain⟨s1,s2,s3,hs⟩:∃s1 s2 s3,Eh ps=(s1,s2,s3):=⟨_,_,_,rfl⟩;have HS:Hid (Ce ps=(s1,s2,s3)):=HV.out.trans hs;rw[hs];clear HM HV HPi c3 C3 R3 F3 hw5 hs;unfold Oi;go_wp2_with fail;refine bodyPost_ret (v:=.agg #[.int .i64 s1,.int .i64 s2,.int .i64 s3]) ?_ rfl ⟨?_,?_⟩
    ·simp[results,results193,go_sem,c5]
    ·rw[HS.out];rfl
    ·iterate 3 (refine yP ?_ (by simp;try omega) _)
     exact B5
end Go.Proofs.YtbefeflgjipfhaaGreatDoor
