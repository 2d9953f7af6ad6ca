import Derived.Test.YtaakadmnhpboiaaGreatDoorM40
import Derived.Test.YtaakadmnhpboiaaGreatDoorM45
import Derived.Test.YtaakadmnhpboiaaGreatDoorM04
import Derived.Test.YtaakadmnhpboiaaGreatDoorM10
import Derived.Test.YtaakadmnhpboiaaGreatDoorM03
import Derived.Deep.Slices
import Derived.Laws.EntriesVeiled
import Derived.ProofKit
namespace Go.Proofs.YtaakadmnhpboiaaGreatDoor
open Go.RowKit Go.Deep
attribute [local go_sem] run_store_float
def partsF (ps:List Pd):Int × Int × Int:=
 if sizeB ps then
  match firstP headP 0 ps with
  | some (p,i)=>(2,p,i)
  | none=>match firstP constP 0 ps with
   | some (p,i)=>(3,p,i)
   | none=>match firstP namedP 0 ps with
    | some (p,i)=>(4,p,i)
    | none=>match firstP (insQ ps.length) 0 ps with
     | some (p,i)=>(5,p,i)
     | none=>(0,0,0)
 else (1,0,0)
set_option maxRecDepth 100000 in
set_option maxHeartbeats 8000000 in
theorem l3parts_any (ao:Option Addr) (cap:Nat) (ps:List Pd) (w:World) (hfi:Fine ps) (hv:ProtosAt 0 w ao ps) :
  Calls Tryz.prog 42 #[.agg #[.slice ao ps.length cap]] w fun e w'=>e=.returned (faultV (partsF ps))∧Below w.heap.size w w':=by
 have hl:ps.length≤1048576:=by have:=hfi.bulk;unfold bulkPs at this;omega
 have hsum:sumL bulkP ps≤1048576:=by have:=hfi.bulk;unfold bulkPs at this;omega
 have hb2:∀o1 o2,Below w.heap.size w ((w.alloc o1).alloc o2):=fun o1 o2=>((Below.refl _ _).alloc (Nat.le_refl _) o1).alloc (by simp) o2
 have C0:=(Blk.new w #[.slice ao ps.length cap] 31).alloc (.cells #[.int .i64 0,.int .i64 0,.int .i64 0] 27)
 have R0:=Blk.new (w.alloc (.cells #[.slice ao ps.length cap] 31)) #[.int .i64 0,.int .i64 0,.int .i64 0] 27
 rw [nblk_alloc] at R0
 go_enter Tryz.func42,Tryz.ntmps42
 go_wp2_with fail
 go_loopw [3,20] (fun s y wr=>∃k:Nat,k≤ps.length∧y=.int .i64 k∧s=.int .i64 (sumL (fun p=>p.ins.length) (ps.take k):Nat)∧Below w.heap.size w wr∧Blk wr w.heap.size #[.slice ao ps.length cap] 31∧Blk wr (w.heap.size+1) #[.int .i64 0,.int .i64 0,.int .i64 0] 27) (fun _ y _=>ps.length - (intOf y).toNat)
 case atStart=>exact ⟨0,Nat.zero_le _,rfl,rfl,hb2 _ _,C0,R0⟩
 case round=>
  obtain⟨k,hk,rfl,rfl,hb,C1,R1⟩:=hrel
  clear C0 R0
  by_cases hkl:k<ps.length
  ·obtain⟨p,hpk⟩:=some_of_lt hkl
   obtain⟨b,off,rfl,_,hbl,h,⟨p0,p1,p2,p3,p4,p5,p6,p7,p8⟩,_⟩:=hv.later (Keeps.of_below hb) k p hpk
   have HT:Hid _:=insSum_take hpk
   have h1:=sumIns_le ps k
   have h2:=sumIns_le ps (k+1)
   rw [HT.out] at h2
   have hba:∀o,Below w.heap.size w (wr.alloc o):=fun o=>hb.alloc hb.size o
   have CA:Hid (∀o,Blk (wr.alloc o) w.heap.size #[.slice (some ⟨b,off,none⟩) ps.length cap] 31):=fun o=>C1.alloc o
   have RA:Hid (∀o,Blk (wr.alloc o) (w.heap.size+1) _ _):=fun o=>R1.alloc o
   generalize hq:sumL (fun p=>p.ins.length) (ps.take k)=q at *
   clear hv hq hfi
   go_wp2_with fail
   go_roundw
   case rel=>exact ⟨k+1,by omega,by go_num,by rw [HT.out];go_num,hba _,CA.out _,RA.out _⟩
   case measure=>simp [intOf];omega
  ·have hall:ps.take k=ps:=List.take_of_length_le (by omega)
   rw [hall]
   have E0:Hid (sizeB ps=(inR ps.length 1 200 && decide (((sumL (fun p=>p.ins.length) ps:Nat):Int)≤6000))):=rfl
   have hle:=sumIns_le ps ps.length
   rw [List.take_length] at hle
   have c1:=C1.cell 0
   have r1:=R1.cell
   have f1:=R1.frozen
   generalize sumL (fun p=>p.ins.length) ps=q at *
   clear hall
   by_cases hsz:sizeB ps=true
   ·have hsz2:(1≤ps.length∧ps.length≤200)∧(q:Int)≤6000:=by rw [E0.out] at hsz;simp [inR] at hsz;omega
    obtain⟨⟨l1,l2⟩,l3⟩:=hsz2
    have k0:((ps.length:Int) == 0)=false:=beq_eq_false_iff_ne.2 (by omega)
    have HS:Hid (sizeB ps=true):=hsz
    clear hsz E0
    go_wp2_with fail
    clear c1 r1 f1
    go_loopw [48] (fun y wi=>∃k:Nat,k≤ps.length∧y=.int .i64 k∧Hid (firstP headP k (ps.drop k)=firstP headP 0 ps)∧Below w.heap.size w wi∧Blk wi w.heap.size #[.slice ao ps.length cap] 31∧Blk wi (w.heap.size+1) #[.int .i64 0,.int .i64 0,.int .i64 0] 27) (fun y _=>ps.length - (intOf y).toNat)
    case atStart=>exact ⟨0,Nat.zero_le _,rfl,rfl,hb,C1,R1⟩
    case round=>
     obtain⟨k2,hk2,rfl,HQ,hb3,C3,R3⟩:=hrel
     clear hb C1 R1
     by_cases hkl2:k2<ps.length
     ·obtain⟨p,hpk⟩:=some_of_lt hkl2
      have HD:Hid (firstP headP 0 ps=_):=HQ.out.symm.trans (firstP_drop hpk)
      have c3:=C3.cell 0
      have HC:Hid _:=l3headOk_any ao cap ps k2 p wr hpk (hfi.few p (List.mem_of_getElem? hpk)) hl (hv.later (Keeps.of_below hb3))
      go_wp2_with fail
      refine Calls.mono (Hid.out HC) ?_
      rintro e w5 ⟨rfl,hw5⟩
      have B5:=hb3.trans (hw5.mono hb3.size)
      have C5:=C3.later hw5
      have R5:=R3.later hw5
      clear c3 C3 R3 hw5 hb3 HC
      cases ho:headOk p k2
      ·have HV:Hid (partsF ps=(2,(k2:Int),0)):=by
        have h1:=HD.out
        unfold headP at h1
        rw [ho] at h1
        show _=_
        unfold partsF
        rw [HS.out]
        unfold headP
        rw [h1]
        rfl
       go_wp2_with fail
       refine (l3fault_any 2 k2 0 _).mono ?_
       rintro e w9 ⟨rfl,hw9⟩
       have B9:=B5.trans (hw9.mono B5.size)
       have r9:=(R5.later hw9).cell
       have f9:=(R5.later hw9).frozen
       go_wp2_with fail
       refine bodyPost_ret (v:=.agg #[.int .i64 2,.int .i64 k2,.int .i64 0]) ?_ rfl ⟨?_,?_⟩
       ·simp [results,Tryz.results42,go_sem,r9]
       ·rw [HV.out];rfl
       ·iterate 3 (refine Below.setCell ?_ (by simp;try omega) _)
        exact B9
      ·have HN:Hid (firstP headP (k2+1) (ps.drop (k2+1))=firstP headP 0 ps):=by
        have h1:=HD.out
        have h2:headP k2 p=none:=by unfold headP;rw [ho];rfl
        rw [h2] at h1
        exact h1.symm
       clear HQ HD ho
       go_wp2_with fail
       go_roundw
       case rel=>first | exact ⟨k2+1,by omega,by go_num,HN.out,B5,C5,R5⟩ | ((repeat apply Exists.intro);exact ⟨⟨k2+1,by omega,by go_num,HN.out,B5,C5,R5⟩,rfl⟩)
       case measure=>simp [intOf];omega
     ·have HH:Hid (firstP headP 0 ps=none):=by
       have h1:=HQ.out
       rw [List.drop_of_length_le (by omega)] at h1
       exact h1.symm
      clear HQ
      have c3:=C3.cell 0
      go_wp2_with fail
      clear c3
      go_loopw [61] (fun y wi=>∃k:Nat,k≤ps.length∧y=.int .i64 k∧Hid (firstP constP k (ps.drop k)=firstP constP 0 ps)∧Below w.heap.size w wi∧Blk wi w.heap.size #[.slice ao ps.length cap] 31∧Blk wi (w.heap.size+1) #[.int .i64 0,.int .i64 0,.int .i64 0] 27) (fun y _=>ps.length - (intOf y).toNat)
      case atStart=>exact ⟨0,Nat.zero_le _,rfl,rfl,hb3,C3,R3⟩
      case round=>
       obtain⟨k3,hk3,rfl,HQ,hb4,C4,R4⟩:=hrel
       clear hb3 C3 R3
       by_cases hkl3:k3<ps.length
       ·obtain⟨p,hpk⟩:=some_of_lt hkl3
        have HD:Hid (firstP constP 0 ps=_):=HQ.out.symm.trans (firstP_drop hpk)
        obtain⟨b,off,e0,_,hbl,h,n0,pin⟩:=hv k3 p hpk
        obtain⟨p0,p1,p2,p3,p4,p5,p6,p7,p8⟩:=n0.later hb4 hbl
        have hz1:=hfi.few p (List.mem_of_getElem? hpk)
        have hz2:=hz1.consts
        have hfl:=hfi.flts p (List.mem_of_getElem? hpk)
        have Bw:=hb4.alloc hb4.size (.cells #[.string p.name,.int .i64 p.line,.int .i64 p.params,.bool p.rest,.int .i64 p.regs,.slice h.uo p.ups.length h.uc,.slice h.co p.consts.length h.cc,.slice h.io p.ins.length h.ic,.slice h.no p.named.length h.nc] 57)
        have C5:=C4.alloc (.cells #[.string p.name,.int .i64 p.line,.int .i64 p.params,.bool p.rest,.int .i64 p.regs,.slice h.uo p.ups.length h.uc,.slice h.co p.consts.length h.cc,.slice h.io p.ins.length h.ic,.slice h.no p.named.length h.nc] 57)
        have R5:=R4.alloc (.cells #[.string p.name,.int .i64 p.line,.int .i64 p.params,.bool p.rest,.int .i64 p.regs,.slice h.uo p.ups.length h.uc,.slice h.co p.consts.length h.cc,.slice h.io p.ins.length h.ic,.slice h.no p.named.length h.nc] 57)
        clear C4 R4 HQ
        have hao:ao=some ⟨b,off,none⟩:=e0
        clear e0
        subst hao
        go_wp2_with fail
        clear p0 p1 p2 p3 p4 p5 p6 p7 p8 hb4 n0
        have hcs:=pin.consts
        clear pin
        go_loopw [69] (fun y wi=>∃j:Nat,j≤p.consts.length∧y=.int .i64 j∧Hid (firstBad constG j (p.consts.drop j)=firstBad constG 0 p.consts)∧Below w.heap.size w wi∧Blk wi w.heap.size #[.slice (some ⟨b,off,none⟩) ps.length cap] 31∧Blk wi (w.heap.size+1) #[.int .i64 0,.int .i64 0,.int .i64 0] 27) (fun y _=>p.consts.length - (intOf y).toNat)
        case atStart=>exact ⟨0,Nat.zero_le _,rfl,rfl,Bw,C5,R5⟩
        case round=>
         obtain⟨j,hj,rfl,HQj,hb6,C6,R6⟩:=hrel
         clear Bw C5 R5
         by_cases hjl:j<p.consts.length
         ·obtain⟨v,hvj⟩:=some_of_lt hjl
          obtain⟨b',off',e',_,hbl',q0,q1,q2,q3,q4⟩:=hcs.later (Keeps.of_below hb6) j v hvj
          have HE:Hid (firstBad constG 0 p.consts=if constB v then firstBad constG (j+1) (p.consts.drop (j+1)) else some j):=HQj.out.symm.trans (firstBad_drop hvj)
          have HM:Hid (v.flt<18446744073709551616):=hfl v (List.mem_of_getElem? hvj)
          have hba:∀o,Below w.heap.size w (wr.alloc o):=fun o=>hb6.alloc hb6.size o
          have RA:Hid (∀o,Blk (wr.alloc o) (w.heap.size+1) #[.int .i64 0,.int .i64 0,.int .i64 0] 27):=fun o=>R6.alloc o
          have CA:Hid (∀o,Blk (wr.alloc o) w.heap.size #[.slice (some ⟨b,off,none⟩) ps.length cap] 31):=fun o=>C6.alloc o
          clear hcs HQj hvj C6 R6 hfl
          have hco:h.co=some ⟨b',off',none⟩:=e'
          clear e'
          obtain⟨uo,uc,co,cc,io,ic,no,nc⟩:=h
          dsimp only at *
          subst hco
          go_wp2_with fail
          refine (l3constOk_any v HM.out _).mono ?_
          rintro e w7 ⟨rfl,hw7⟩
          have B7:=(hba _).trans (hw7.mono (hba _).size)
          have R7:=(RA.out _).later hw7
          have C7:=(CA.out _).later hw7
          clear q0 q1 q2 q3 q4 hba RA CA hw7 hb6
          generalize constB v=cb at *
          cases cb
          ·have HV:Hid (partsF ps=(3,(k3:Int),(j:Int))):=by
            have h1:=HD.out
            have h2:constP k3 p=some j:=by unfold constP;rw [HE.out];rfl
            rw [h2] at h1
            show _=_
            unfold partsF
            rw [HS.out,HH.out,h1]
            rfl
           go_wp2_with fail
           refine (l3fault_any 3 k3 j _).mono ?_
           rintro e w9 ⟨rfl,hw9⟩
           have B9:=B7.trans (hw9.mono B7.size)
           have r9:=(R7.later hw9).cell
           have f9:=(R7.later hw9).frozen
           go_wp2_with fail
           refine bodyPost_ret (v:=.agg #[.int .i64 3,.int .i64 k3,.int .i64 j]) ?_ rfl ⟨?_,?_⟩
           ·simp [results,Tryz.results42,go_sem,r9]
           ·rw [HV.out];rfl
           ·iterate 3 (refine Below.setCell ?_ (by simp;try omega) _)
            exact B9
          ·go_wp2_with fail
           go_roundw
           case rel=>first | exact ⟨j+1,by omega,by go_num,by show _=_;rw [HE.out];rfl,B7,C7,R7⟩ | ((repeat apply Exists.intro);exact ⟨⟨j+1,by omega,by go_num,by show _=_;rw [HE.out];rfl,B7,C7,R7⟩,rfl⟩)
           case measure=>simp [intOf];omega
         ·have HN:Hid (firstP constP (k3+1) (ps.drop (k3+1))=firstP constP 0 ps):=by
           have h1:=HD.out
           have h3:=HQj.out
           rw [List.drop_of_length_le (by omega)] at h3
           have h2:constP k3 p=none:=h3.symm
           rw [h2] at h1
           exact h1.symm
          clear HQj HD
          go_wp2_with fail
          go_roundw
          case rel=>first | exact ⟨k3+1,by omega,by go_num,HN.out,hb6,C6,R6⟩ | ((repeat apply Exists.intro);exact ⟨⟨k3+1,by omega,by go_num,HN.out,hb6,C6,R6⟩,rfl⟩)
          case measure=>simp [intOf];omega
       ·have HC3:Hid (firstP constP 0 ps=none):=by
         have h1:=HQ.out
         rw [List.drop_of_length_le (by omega)] at h1
         exact h1.symm
        clear HQ
        have c4:=C4.cell 0
        go_wp2_with fail
        clear c4
        have HRg:Hid (∀p ∈ ps,0≤p.regs∧p.regs≤250):=regs_of_heads HH.out
        go_loopw [85] (fun y wi=>∃k:Nat,k≤ps.length∧y=.int .i64 k∧Hid (firstP namedP k (ps.drop k)=firstP namedP 0 ps)∧Below w.heap.size w wi∧Blk wi w.heap.size #[.slice ao ps.length cap] 31∧Blk wi (w.heap.size+1) #[.int .i64 0,.int .i64 0,.int .i64 0] 27) (fun y _=>ps.length - (intOf y).toNat)
        case atStart=>exact ⟨0,Nat.zero_le _,rfl,rfl,hb4,C4,R4⟩
        case round=>
         obtain⟨k4,hk4,rfl,HQ,hb5,C5,R5⟩:=hrel
         clear hb4 C4 R4
         by_cases hkl4:k4<ps.length
         ·obtain⟨p,hpk⟩:=some_of_lt hkl4
          have HD:Hid (firstP namedP 0 ps=_):=HQ.out.symm.trans (firstP_drop hpk)
          obtain⟨b,off,e0,_,hbl,h,n0,pin⟩:=hv k4 p hpk
          obtain⟨p0,p1,p2,p3,p4,p5,p6,p7,p8⟩:=n0.later hb5 hbl
          have hz1:=hfi.few p (List.mem_of_getElem? hpk)
          have hz2:=hz1.named
          have hrg:=HRg.out p (List.mem_of_getElem? hpk)
          have Bw:=hb5.alloc hb5.size (.cells #[.string p.name,.int .i64 p.line,.int .i64 p.params,.bool p.rest,.int .i64 p.regs,.slice h.uo p.ups.length h.uc,.slice h.co p.consts.length h.cc,.slice h.io p.ins.length h.ic,.slice h.no p.named.length h.nc] 57)
          have C6:=C5.alloc (.cells #[.string p.name,.int .i64 p.line,.int .i64 p.params,.bool p.rest,.int .i64 p.regs,.slice h.uo p.ups.length h.uc,.slice h.co p.consts.length h.cc,.slice h.io p.ins.length h.ic,.slice h.no p.named.length h.nc] 57)
          have R6:=R5.alloc (.cells #[.string p.name,.int .i64 p.line,.int .i64 p.params,.bool p.rest,.int .i64 p.regs,.slice h.uo p.ups.length h.uc,.slice h.co p.consts.length h.cc,.slice h.io p.ins.length h.ic,.slice h.no p.named.length h.nc] 57)
          have P6:=Blk.new wr #[.string p.name,.int .i64 p.line,.int .i64 p.params,.bool p.rest,.int .i64 p.regs,.slice h.uo p.ups.length h.uc,.slice h.co p.consts.length h.cc,.slice h.io p.ins.length h.ic,.slice h.no p.named.length h.nc] 57
          clear C5 R5 HQ
          have hao:ao=some ⟨b,off,none⟩:=e0
          clear e0
          subst hao
          go_wp2_with fail
          clear p0 p1 p2 p3 p4 p5 p6 p7 p8 hb5 n0
          generalize hPB:wr.heap.size=PB at *
          clear hPB
          go_loopw [93] (fun y wi=>∃j:Nat,j≤p.named.length∧y=.int .i64 j∧Hid (firstBad (namedB p) j (p.named.drop j)=firstBad (namedB p) 0 p.named)∧Below w.heap.size w wi∧Blk wi w.heap.size #[.slice (some ⟨b,off,none⟩) ps.length cap] 31∧Blk wi (w.heap.size+1) #[.int .i64 0,.int .i64 0,.int .i64 0] 27∧Blk wi PB #[.string p.name,.int .i64 p.line,.int .i64 p.params,.bool p.rest,.int .i64 p.regs,.slice h.uo p.ups.length h.uc,.slice h.co p.consts.length h.cc,.slice h.io p.ins.length h.ic,.slice h.no p.named.length h.nc] 57) (fun y _=>p.named.length - (intOf y).toNat)
          case atStart=>exact ⟨0,Nat.zero_le _,rfl,rfl,Bw,C6,R6,P6⟩
          case round=>
           obtain⟨j,hj,rfl,HQj,hb7,C7,R7,P7⟩:=hrel
           clear Bw C6 R6 P6
           by_cases hjl:j<p.named.length
           ·obtain⟨m,hmj⟩:=some_of_lt hjl
            have HE:Hid (firstBad (namedB p) 0 p.named=if namedB p j m then firstBad (namedB p) (j+1) (p.named.drop (j+1)) else some j):=HQj.out.symm.trans (firstBad_drop hmj)
            have c7:=P7.cell
            have HC:Hid _:=l3namedOk_any p h j m wr hmj hz1 hrg (pin.later (Keeps.of_below hb7))
            clear HQj
            go_wp2_with fail
            refine Calls.mono (Hid.out HC) ?_
            rintro e w8 ⟨rfl,hw8⟩
            have B8:=hb7.trans (hw8.mono hb7.size)
            have C8:=C7.later hw8
            have R8:=R7.later hw8
            have P8:=P7.later hw8
            clear HC c7 C7 R7 P7 hw8 hb7
            generalize namedB p j m=cb at *
            cases cb
            ·have HV:Hid (partsF ps=(4,(k4:Int),(j:Int))):=by
              have h1:=HD.out
              have h2:namedP k4 p=some j:=by unfold namedP;rw [HE.out];rfl
              rw [h2] at h1
              show _=_
              unfold partsF
              rw [HS.out,HH.out,HC3.out,h1]
              rfl
             go_wp2_with fail
             refine (l3fault_any 4 k4 j _).mono ?_
             rintro e w9 ⟨rfl,hw9⟩
             have B9:=B8.trans (hw9.mono B8.size)
             have r9:=(R8.later hw9).cell
             have f9:=(R8.later hw9).frozen
             go_wp2_with fail
             refine bodyPost_ret (v:=.agg #[.int .i64 4,.int .i64 k4,.int .i64 j]) ?_ rfl ⟨?_,?_⟩
             ·simp [results,Tryz.results42,go_sem,r9]
             ·rw [HV.out];rfl
             ·iterate 3 (refine Below.setCell ?_ (by simp;try omega) _)
              exact B9
            ·go_wp2_with fail
             go_roundw
             case rel=>first | exact ⟨j+1,by omega,by go_num,by show _=_;rw [HE.out];rfl,B8,C8,R8,P8⟩ | ((repeat apply Exists.intro);exact ⟨⟨j+1,by omega,by go_num,by show _=_;rw [HE.out];rfl,B8,C8,R8,P8⟩,rfl⟩)
             case measure=>simp [intOf];omega
           ·have HN:Hid (firstP namedP (k4+1) (ps.drop (k4+1))=firstP namedP 0 ps):=by
             have h1:=HD.out
             have h3:=HQj.out
             rw [List.drop_of_length_le (by omega)] at h3
             have h2:namedP k4 p=none:=h3.symm
             rw [h2] at h1
             exact h1.symm
            clear HQj HD
            go_wp2_with fail
            go_roundw
            case rel=>first | exact ⟨k4+1,by omega,by go_num,HN.out,hb7,C7,R7⟩ | ((repeat apply Exists.intro);exact ⟨⟨k4+1,by omega,by go_num,HN.out,hb7,C7,R7⟩,rfl⟩)
            case measure=>simp [intOf];omega
         ·have HC4:Hid (firstP namedP 0 ps=none):=by
           have h1:=HQ.out
           rw [List.drop_of_length_le (by omega)] at h1
           exact h1.symm
          clear HQ
          have c5:=C5.cell 0
          go_wp2_with fail
          clear c5
          go_loopw [108] (fun y wi=>∃k:Nat,k≤ps.length∧y=.int .i64 k∧Hid (firstP (insQ ps.length) k (ps.drop k)=firstP (insQ ps.length) 0 ps)∧Below w.heap.size w wi∧Blk wi w.heap.size #[.slice ao ps.length cap] 31∧Blk wi (w.heap.size+1) #[.int .i64 0,.int .i64 0,.int .i64 0] 27) (fun y _=>ps.length - (intOf y).toNat)
          case atStart=>exact ⟨0,Nat.zero_le _,rfl,rfl,hb5,C5,R5⟩
          case round=>
           obtain⟨k5,hk5,rfl,HQ,hb6,C6,R6⟩:=hrel
           clear hb5 C5 R5
           by_cases hkl5:k5<ps.length
           ·obtain⟨p,hpk⟩:=some_of_lt hkl5
            have HD:Hid (firstP (insQ ps.length) 0 ps=_):=HQ.out.symm.trans (firstP_drop hpk)
            obtain⟨b,off,e0,_,hbl,h,n0,pin⟩:=hv k5 p hpk
            obtain⟨p0,p1,p2,p3,p4,p5,p6,p7,p8⟩:=n0.later hb6 hbl
            have hz1:=hfi.few p (List.mem_of_getElem? hpk)
            have hz2:=hz1.ins
            have hrg:=HRg.out p (List.mem_of_getElem? hpk)
            have Bw:=hb6.alloc hb6.size (.cells #[.string p.name,.int .i64 p.line,.int .i64 p.params,.bool p.rest,.int .i64 p.regs,.slice h.uo p.ups.length h.uc,.slice h.co p.consts.length h.cc,.slice h.io p.ins.length h.ic,.slice h.no p.named.length h.nc] 57)
            have C7:=C6.alloc (.cells #[.string p.name,.int .i64 p.line,.int .i64 p.params,.bool p.rest,.int .i64 p.regs,.slice h.uo p.ups.length h.uc,.slice h.co p.consts.length h.cc,.slice h.io p.ins.length h.ic,.slice h.no p.named.length h.nc] 57)
            have R7:=R6.alloc (.cells #[.string p.name,.int .i64 p.line,.int .i64 p.params,.bool p.rest,.int .i64 p.regs,.slice h.uo p.ups.length h.uc,.slice h.co p.consts.length h.cc,.slice h.io p.ins.length h.ic,.slice h.no p.named.length h.nc] 57)
            clear C6 R6 HQ
            have hao:ao=some ⟨b,off,none⟩:=e0
            clear e0
            subst hao
            by_cases hi0:p.ins.length=0
            ·have i0:((p.ins.length:Int) == 0)=true:=beq_iff_eq.2 (by omega)
             have HV:Hid (partsF ps=(5,(k5:Int),0)):=by
              have h1:=HD.out
              have h2:insQ ps.length k5 p=some 0:=by unfold insQ;rw [if_pos hi0]
              rw [h2] at h1
              show _=_
              unfold partsF
              rw [HS.out,HH.out,HC3.out,HC4.out,h1]
              rfl
             clear hi0
             go_wp2_with fail
             refine (l3fault_any 5 k5 0 _).mono ?_
             rintro e w9 ⟨rfl,hw9⟩
             have B9:=Bw.trans (hw9.mono Bw.size)
             have r9:=(R7.later hw9).cell
             have f9:=(R7.later hw9).frozen
             go_wp2_with fail
             refine bodyPost_ret (v:=.agg #[.int .i64 5,.int .i64 k5,.int .i64 0]) ?_ rfl ⟨?_,?_⟩
             ·simp [results,Tryz.results42,go_sem,r9]
             ·rw [HV.out];rfl
             ·iterate 3 (refine Below.setCell ?_ (by simp;try omega) _)
              exact B9
            ·have i0:((p.ins.length:Int) == 0)=false:=beq_eq_false_iff_ne.2 (by omega)
             have HI0:Hid (¬p.ins.length=0):=hi0
             clear hi0
             go_wp2_with fail
             clear p0 p1 p2 p3 p4 p5 p6 p7 p8 hb6 n0
             generalize hPB:wr.heap.size=PB at *
             clear hPB
             go_loopw [122] (fun y wi=>∃j:Nat,j≤p.ins.length∧y=.int .i64 j∧Hid (firstBad (insB ps.length p) j (p.ins.drop j)=firstBad (insB ps.length p) 0 p.ins)∧Below w.heap.size w wi∧Blk wi w.heap.size #[.slice (some ⟨b,off,none⟩) ps.length cap] 31∧Blk wi (w.heap.size+1) #[.int .i64 0,.int .i64 0,.int .i64 0] 27) (fun y _=>p.ins.length - (intOf y).toNat)
             case atStart=>exact ⟨0,Nat.zero_le _,rfl,rfl,Bw,C7,R7⟩
             case round=>
              obtain⟨j,hj,rfl,HQj,hb8,C8,R8⟩:=hrel
              clear Bw C7 R7
              by_cases hjl:j<p.ins.length
              ·obtain⟨n,hnj⟩:=some_of_lt hjl
               have HE:Hid (firstBad (insB ps.length p) 0 p.ins=if insB ps.length p j n then firstBad (insB ps.length p) (j+1) (p.ins.drop (j+1)) else some j):=HQj.out.symm.trans (firstBad_drop hnj)
               have c8:=C8.cell 0
               have HC:Hid _:=l3insOk_any (some ⟨b,off,none⟩) cap ps k5 p j n wr hpk hnj hz1 hl hrg (hv.later (Keeps.of_below hb8))
               clear HQj
               go_wp2_with fail
               refine Calls.mono (Hid.out HC) ?_
               rintro e w9 ⟨rfl,hw9⟩
               have B8:=hb8.trans (hw9.mono hb8.size)
               have C9:=C8.later hw9
               have R9:=R8.later hw9
               clear HC c8 C8 R8 hw9 hb8
               generalize insB ps.length p j n=cb at *
               cases cb
               ·have HV:Hid (partsF ps=(5,(k5:Int),(j:Int))):=by
                 have h1:=HD.out
                 have h2:insQ ps.length k5 p=some j:=by unfold insQ;rw [if_neg HI0.out,HE.out];rfl
                 rw [h2] at h1
                 show _=_
                 unfold partsF
                 rw [HS.out,HH.out,HC3.out,HC4.out,h1]
                 rfl
                go_wp2_with fail
                refine (l3fault_any 5 k5 j _).mono ?_
                rintro e w9 ⟨rfl,hw9⟩
                have B9:=B8.trans (hw9.mono B8.size)
                have r9:=(R9.later hw9).cell
                have f9:=(R9.later hw9).frozen
                go_wp2_with fail
                refine bodyPost_ret (v:=.agg #[.int .i64 5,.int .i64 k5,.int .i64 j]) ?_ rfl ⟨?_,?_⟩
                ·simp [results,Tryz.results42,go_sem,r9]
                ·rw [HV.out];rfl
                ·iterate 3 (refine Below.setCell ?_ (by simp;try omega) _)
                 exact B9
               ·go_wp2_with fail
                go_roundw
                case rel=>first | exact ⟨j+1,by omega,by go_num,by show _=_;rw [HE.out];rfl,B8,C9,R9⟩ | ((repeat apply Exists.intro);exact ⟨⟨j+1,by omega,by go_num,by show _=_;rw [HE.out];rfl,B8,C9,R9⟩,rfl⟩)
                case measure=>simp [intOf];omega
              ·have HN:Hid (firstP (insQ ps.length) (k5+1) (ps.drop (k5+1))=firstP (insQ ps.length) 0 ps):=by
                have h1:=HD.out
                have h3:=HQj.out
                rw [List.drop_of_length_le (by omega)] at h3
                have h2:insQ ps.length k5 p=none:=by unfold insQ;rw [if_neg HI0.out];exact h3.symm
                rw [h2] at h1
                exact h1.symm
               clear HQj HD
               go_wp2_with fail
               go_roundw
               case rel=>first | exact ⟨k5+1,by omega,by go_num,HN.out,hb8,C8,R8⟩ | ((repeat apply Exists.intro);exact ⟨⟨k5+1,by omega,by go_num,HN.out,hb8,C8,R8⟩,rfl⟩)
               case measure=>simp [intOf];omega
           ·have HC5:Hid (firstP (insQ ps.length) 0 ps=none):=by
             have h1:=HQ.out
             rw [List.drop_of_length_le (by omega)] at h1
             exact h1.symm
            have HV:Hid (partsF ps=(0,0,0)):=by
             show _=_
             unfold partsF
             rw [HS.out,HH.out,HC3.out,HC4.out,HC5.out]
             rfl
            clear HQ
            have r6:=R6.cell
            have f6:=R6.frozen
            go_wp2_with fail
            refine bodyPost_ret (v:=.agg #[.int .i64 0,.int .i64 0,.int .i64 0]) ?_ rfl ⟨?_,?_⟩
            ·simp [results,Tryz.results42,go_sem,r6]
            ·rw [HV.out];rfl
            ·iterate 3 (refine Below.setCell ?_ (by simp;try omega) _)
             exact hb6
   ·have HV:Hid (partsF ps=(1,0,0)):=by show _=_;unfold partsF;rw [if_neg hsz]
    have hsz2:ps.length=0∨(1≤ps.length∧200<ps.length)∨((1≤ps.length∧ps.length≤200)∧6000<(q:Int)):=by rw [E0.out] at hsz;simp [inR] at hsz;omega
    clear hsz E0 hv hfi
    rcases hsz2 with h0 | ⟨g1,g2⟩ | ⟨⟨g1,g2⟩,g3⟩
    ·have k0:((ps.length:Int) == 0)=true:=beq_iff_eq.2 (by omega)
     go_wp2_with fail
     refine (l3fault_any 1 0 0 _).mono ?_
     rintro e w9 ⟨rfl,hw9⟩
     have B9:=hb.trans (hw9.mono hb.size)
     have r9:=(R1.later hw9).cell
     have f9:=(R1.later hw9).frozen
     go_wp2_with fail
     refine bodyPost_ret (v:=.agg #[.int .i64 1,.int .i64 0,.int .i64 0]) ?_ rfl ⟨?_,?_⟩
     ·simp [results,Tryz.results42,go_sem,r9]
     ·rw [HV.out];rfl
     ·iterate 3 (refine Below.setCell ?_ (by simp;try omega) _)
      exact B9
    ·have k0:((ps.length:Int) == 0)=false:=beq_eq_false_iff_ne.2 (by omega)
     go_wp2_with fail
     refine (l3fault_any 1 0 0 _).mono ?_
     rintro e w9 ⟨rfl,hw9⟩
     have B9:=hb.trans (hw9.mono hb.size)
     have r9:=(R1.later hw9).cell
     have f9:=(R1.later hw9).frozen
     go_wp2_with fail
     refine bodyPost_ret (v:=.agg #[.int .i64 1,.int .i64 0,.int .i64 0]) ?_ rfl ⟨?_,?_⟩
     ·simp [results,Tryz.results42,go_sem,r9]
     ·rw [HV.out];rfl
     ·iterate 3 (refine Below.setCell ?_ (by simp;try omega) _)
      exact B9
    ·have k0:((ps.length:Int) == 0)=false:=beq_eq_false_iff_ne.2 (by omega)
     go_wp2_with fail
     refine (l3fault_any 1 0 0 _).mono ?_
     rintro e w9 ⟨rfl,hw9⟩
     have B9:=hb.trans (hw9.mono hb.size)
     have r9:=(R1.later hw9).cell
     have f9:=(R1.later hw9).frozen
     go_wp2_with fail
     refine bodyPost_ret (v:=.agg #[.int .i64 1,.int .i64 0,.int .i64 0]) ?_ rfl ⟨?_,?_⟩
     ·simp [results,Tryz.results42,go_sem,r9]
     ·rw [HV.out];rfl
     ·iterate 3 (refine Below.setCell ?_ (by simp;try omega) _)
      exact B9
end Go.Proofs.YtaakadmnhpboiaaGreatDoor
namespace Go.Proofs.YtaakadmnhpboiaaGreatDoor
open Go.RowKit Go.Deep
theorem partsF_shape (ps:List Pd):(if (partsF ps).1=0 then mkFault ps else partsF ps)=shapeF ps:=by
 unfold partsF shapeF
 rw [firstP_congr (fun k p=>insQ_eq ps.length k p)]
 split
 ·cases firstP headP 0 ps with
  | some x=>rfl
  | none=>
   cases firstP constP 0 ps with
   | some x=>rfl
   | none=>
    cases firstP namedP 0 ps with
    | some x=>rfl
    | none=>
     cases firstP (insP ps.length) 0 ps with
     | some x=>rfl
     | none=>rfl
 ·rfl
theorem passed_of_parts {ps:List Pd} (h:(partsF ps).1=0):1≤ps.length∧firstP headP 0 ps=none∧FnsOk ps:=by
 unfold partsF at h
 split at h
 ·rename_i hs
  cases h1:firstP headP 0 ps with
  | some x=>rw [h1] at h;cases h
  | none=>
   rw [h1] at h
   cases h2:firstP constP 0 ps with
   | some x=>rw [h2] at h;cases h
   | none=>
    rw [h2] at h
    cases h3:firstP namedP 0 ps with
    | some x=>rw [h3] at h;cases h
    | none=>
     rw [h3] at h
     cases h4:firstP (insQ ps.length) 0 ps with
     | some x=>rw [h4] at h;cases h
     | none=>
      refine⟨?_,rfl,?_⟩
      ·unfold sizeB at hs;simp [inR] at hs;omega
      ·rw [firstP_congr (fun k p=>insQ_eq ps.length k p)] at h4
       exact fns_of_ins h4
 ·cases h
set_option maxRecDepth 100000 in
set_option maxHeartbeats 8000000 in
theorem CheckShape_any (ao:Option Addr) (cap:Nat) (ps:List Pd) (w:World) (hfi:Fine ps) (hv:ProtosAt 0 w ao ps) :
  Calls Tryz.prog 21 #[.agg #[.slice ao ps.length cap]] w fun e w'=>e=.returned (faultV (shapeF ps))∧Below w.heap.size w w':=by
 have hl:ps.length≤1048576:=by have:=hfi.bulk;unfold bulkPs at this;omega
 have hmk:=run_make_k (P:=Tryz.prog) 91 4 _ 1 1 Tryz.underlying91 Tryz.info_bool .i64 .i64 ps.length (by omega) (by omega)
 simp only [Nat.mul_one] at hmk
 have hb2:∀o1 o2,Below w.heap.size w ((w.alloc o1).alloc o2):=fun o1 o2=>((Below.refl _ _).alloc (Nat.le_refl _) o1).alloc (by simp) o2
 have C0:=(Blk.new w #[.slice ao ps.length cap] 31).alloc (.cells #[.int .i64 0,.int .i64 0,.int .i64 0] 27)
 have R0:=Blk.new (w.alloc (.cells #[.slice ao ps.length cap] 31)) #[.int .i64 0,.int .i64 0,.int .i64 0] 27
 rw [nblk_alloc] at R0
 go_enter Tryz.func21,Tryz.ntmps21
 go_wp2_with fail
 refine (l3parts_any ao cap ps _ hfi (hv.later (Keeps.of_below (hb2 _ _)))).mono ?_
 rintro e w1 ⟨rfl,hw1⟩
 have B1:=(hb2 _ _).trans (hw1.mono (by simp;omega))
 have C1:=C0.later hw1
 have R1:=R0.later hw1
 clear C0 R0 hw1
 have HV0:Hid _:=partsF_shape ps
 have HP0:Hid _:=@passed_of_parts ps
 unfold faultV
 generalize partsF ps=pf at *
 obtain⟨fc,fp,fa⟩:=pf
 dsimp only at *
 have c1:=C1.cell 0
 have r1:=R1.cell
 have f1:=R1.frozen
 by_cases hfc:fc=0
 ·subst hfc
  obtain⟨hl1,hh,hfn⟩:=HP0.out rfl
  have HV1:Hid (shapeF ps=mkFault ps):=HV0.out.symm
  have hr:=regs_of_heads hh
  have hz:=hfi.few
  clear HP0 HV0 hh hfi
  have C2:=(C1.alloc (.cells #[.int .i64 0,.int .i64 fp,.int .i64 fa] 27)).alloc (.cells (madeCells #[.bool false] ps.length) 4)
  have R2:=(R1.alloc (.cells #[.int .i64 0,.int .i64 fp,.int .i64 fa] 27)).alloc (.cells (madeCells #[.bool false] ps.length) 4)
  have M2:=made_blk (w1.alloc (.cells #[.int .i64 0,.int .i64 fp,.int .i64 fa] 27)) ps.length
  rw [nblk_alloc] at M2
  have B2:=(B1.alloc B1.size (.cells #[.int .i64 0,.int .i64 fp,.int .i64 fa] 27)).alloc (by have:=B1.size;simp;omega) (.cells (madeCells #[.bool false] ps.length) 4)
  have hMB:w.heap.size+1<w1.heap.size+1:=by have:=R1.lt;omega
  have cA:=(C1.alloc (.cells #[.int .i64 0,.int .i64 fp,.int .i64 fa] 27)).cell 0
  have cB:=C2.cell 0
  go_wp2_with fail
  clear hmk c1 r1 f1 C1 R1 cA cB
  generalize w1.heap.size+1=MB at *
  go_loopw [23] (fun y wr=>∃(k:Nat) (m:List Bool),k≤ps.length∧y=.int .i64 k∧m.length=ps.length∧Hid (mkAll ps k (ps.drop k) m=mkAll ps 0 ps (List.replicate ps.length false))∧Below w.heap.size w wr∧Blk wr w.heap.size #[.slice ao ps.length cap] 31∧Blk wr (w.heap.size+1) #[.int .i64 0,.int .i64 0,.int .i64 0] 27∧Blk wr MB (boolArr m) 4) (fun y _=>ps.length - (intOf y).toNat)
  case atStart=>exact ⟨0,_,Nat.zero_le _,rfl,by simp,rfl,B2,C2,R2,M2⟩
  case round=>
   obtain⟨k,m,hk,rfl,hml,HQ,hb,C1,R1,M1⟩:=hrel
   clear C2 R2 M2 B2
   by_cases hkl:k<ps.length
   ·obtain⟨p,hpk⟩:=some_of_lt hkl
    have HD:Hid (mkAll ps 0 ps (List.replicate ps.length false)=_):=HQ.out.symm.trans (mkAll_drop hpk m)
    obtain⟨b,off,e0,_,hbl,h,n0,pin⟩:=hv k p hpk
    obtain⟨p0,p1,p2,p3,p4,p5,p6,p7,p8⟩:=n0.later hb hbl
    subst e0
    have hba:∀o,Below w.heap.size w (wr.alloc o):=fun o=>hb.alloc hb.size o
    have C2:=C1.alloc (.cells #[.string p.name,.int .i64 p.line,.int .i64 p.params,.bool p.rest,.int .i64 p.regs,.slice h.uo p.ups.length h.uc,.slice h.co p.consts.length h.cc,.slice h.io p.ins.length h.ic,.slice h.no p.named.length h.nc] 57)
    have R2:=R1.alloc (.cells #[.string p.name,.int .i64 p.line,.int .i64 p.params,.bool p.rest,.int .i64 p.regs,.slice h.uo p.ups.length h.uc,.slice h.co p.consts.length h.cc,.slice h.io p.ins.length h.ic,.slice h.no p.named.length h.nc] 57)
    have M2:=M1.alloc (.cells #[.string p.name,.int .i64 p.line,.int .i64 p.params,.bool p.rest,.int .i64 p.regs,.slice h.uo p.ups.length h.uc,.slice h.co p.consts.length h.cc,.slice h.io p.ins.length h.ic,.slice h.no p.named.length h.nc] 57)
    have hins:p.ins.length≤1048576:=(hz p (List.mem_of_getElem? hpk)).ins
    have hPB1:=M1.lt
    have Bw:=hba (.cells #[.string p.name,.int .i64 p.line,.int .i64 p.params,.bool p.rest,.int .i64 p.regs,.slice h.uo p.ups.length h.uc,.slice h.co p.consts.length h.cc,.slice h.io p.ins.length h.ic,.slice h.no p.named.length h.nc] 57)
    clear C1 R1 M1 HQ hba
    have HM:Hid (m.length=ps.length):=hml
    clear hml
    go_wp2_with fail
    clear p0 p1 p2 p3 p4 p5 p6 p7 p8 hb
    generalize hPB:wr.heap.size=PB at *
    clear hPB
    go_loopw [31] (fun y wi=>∃(j:Nat) (m':List Bool),j≤p.ins.length∧y=.int .i64 j∧Hid (m'.length=ps.length)∧Hid (mkIns ps k p j (p.ins.drop j) m'=mkIns ps k p 0 p.ins m)∧Below w.heap.size w wi∧Blk wi w.heap.size #[.slice (some ⟨b,off,none⟩) ps.length cap] 31∧Blk wi (w.heap.size+1) #[.int .i64 0,.int .i64 0,.int .i64 0] 27∧Blk wi MB (boolArr m') 4) (fun y _=>p.ins.length - (intOf y).toNat)
    case atStart=>exact ⟨0,m,Nat.zero_le _,rfl,HM,rfl,Bw,C2,R2,M2⟩
    case round=>
     obtain⟨j,m',hj,rfl,HM',HQ',hb',C3,R3,M3⟩:=hrel
     clear C2 R2 M2 Bw
     by_cases hjl:j<p.ins.length
     ·obtain⟨n,hnj⟩:=some_of_lt hjl
      obtain⟨b',off',e',_,hbl',q0,q1,q2,q3,q4⟩:=pin.ins.later (Keeps.of_below hb') j n hnj
      have HE:Hid (mkIns ps k p 0 p.ins m=_):=HQ'.out.symm.trans (mkIns_drop hnj m')
      have hba:∀o,Below w.heap.size w (wr.alloc o):=fun o=>hb'.alloc hb'.size o
      have CA:Hid (∀o,Blk (wr.alloc o) w.heap.size _ _):=fun o=>C3.alloc o
      have RA:Hid (∀o,Blk (wr.alloc o) (w.heap.size+1) _ _):=fun o=>R3.alloc o
      have MA:Hid (∀o,Blk (wr.alloc o) MB _ _):=fun o=>M3.alloc o
      have hio:h.io=some ⟨b',off',none⟩:=e'
      by_cases hop:n.op=11
      ·obtain⟨hn1,hn2⟩:=hfn p (List.mem_of_getElem? hpk) n (List.mem_of_getElem? hnj) hop
       obtain⟨op,a1,b1,c1,d1⟩:=n
       dsimp only at *
       subst hop
       obtain⟨bN,rfl⟩:=Int.eq_ofNat_of_zero_le hn1
       obtain⟨q,hq⟩:=some_of_lt (l:=ps) (k:=bN) (by omega)
       have hmb:bN<m'.length:=by rw [HM'.out];omega
       have HFn:Hid (fnBad ps k p m' ⟨11,a1,bN,c1,d1⟩=(decide ((bN:Int)≤k) || (m'.getD bN false || !upsB p q.ups))):=by
        show _=_
        unfold fnBad
        simp [hq]
       have HE2:Hid (mkIns ps k p 0 p.ins m=if fnBad ps k p m' ⟨11,a1,bN,c1,d1⟩ then (some j,m') else mkIns ps k p (j+1) (p.ins.drop (j+1)) (m'.set bN true)):=by
        show _=_
        rw [HE.out]
        rfl
       have hz1:=hz p (List.mem_of_getElem? hpk)
       have hzq:=hz q (List.mem_of_getElem? hq)
       have hr1:=hr p (List.mem_of_getElem? hpk)
       have HUP:Hid (∀W,Below w.heap.size w W→_):=fun W hW=>l3upsOk_any (some ⟨b,off,none⟩) cap ps k bN p q W hpk hq hz1 hzq hr1 (hv.later (Keeps.of_below hW))
       clear HE HQ' pin n0 e' hv hfn hz hr hnj hpk hq
       generalize hmbv:m'.getD bN false=mb at *
       obtain⟨uo,uc,co,cc,io,ic,no,nc⟩:=h
       dsimp only at *
       subst hio
       have hfault:fnBad ps k p m' ⟨11,a1,bN,c1,d1⟩=true→shapeF ps=(6,(k:Int),(j:Int)):=by
        intro hbad
        rw [HV1.out]
        refine mkFault_six (m:=m') ?_
        rw [HD.out,HE2.out,if_pos hbad]
       have HFa:Hid _:=hfault
       clear hfault
       have N4:=Blk.new wr #[.int .i64 11,.int .i64 a1,.int .i64 bN,.int .i64 c1,.int .i64 d1] 93
       have M4:=MA.out (.cells #[.int .i64 11,.int .i64 a1,.int .i64 bN,.int .i64 c1,.int .i64 d1] 93)
       have C4:=CA.out (.cells #[.int .i64 11,.int .i64 a1,.int .i64 bN,.int .i64 c1,.int .i64 d1] 93)
       have R4:=RA.out (.cells #[.int .i64 11,.int .i64 a1,.int .i64 bN,.int .i64 c1,.int .i64 d1] 93)
       have B4:=hba (.cells #[.int .i64 11,.int .i64 a1,.int .i64 bN,.int .i64 c1,.int .i64 d1] 93)
       have cm4:(wr.alloc (.cells #[.int .i64 11,.int .i64 a1,.int .i64 bN,.int .i64 c1,.int .i64 d1] 93)).cell? ⟨MB,bN,none⟩=some (.bool mb):=(M4.cell bN).trans ((boolArr_get hmb).trans (by rw [hmbv]))
       have cC:=C4.cell 0
       clear hmbv CA RA MA hba C3 R3 M3 hb'
       by_cases g1:(bN:Int)≤k
       ·have HV:Hid (shapeF ps=(6,(k:Int),(j:Int))):=HFa.out (by rw [HFn.out,decide_eq_true g1];rfl)
        clear HFa HFn HUP
        go_wp2_with fail
        refine (l3fault_any 6 k j _).mono ?_
        rintro e w9 ⟨rfl,hw9⟩
        have B9:=B4.trans (hw9.mono B4.size)
        have r9:=(R4.later hw9).cell
        have f9:=(R4.later hw9).frozen
        go_wp2_with fail
        refine bodyPost_ret (v:=.agg #[.int .i64 6,.int .i64 k,.int .i64 j]) ?_ rfl ⟨?_,?_⟩
        ·simp [results,Tryz.results21,go_sem,r9]
        ·rw [HV.out];rfl
        ·iterate 3 (refine Below.setCell ?_ (by simp;try omega) _)
         exact B9
       ·have g1':decide ((bN:Int)≤k)=false:=decide_eq_false g1
        have gn:decide (bN≤k)=false:=decide_eq_false (by omega)
        have gl:k<bN:=by omega
        have gi:(k:Int)<bN:=by omega
        clear g1
        cases mb
        rotate_left
        ·have HV:Hid (shapeF ps=(6,(k:Int),(j:Int))):=HFa.out (by rw [HFn.out,g1'];rfl)
         clear HFa HFn HUP
         go_wp2_with fail
         refine (l3fault_any 6 k j _).mono ?_
         rintro e w9 ⟨rfl,hw9⟩
         have B9:=B4.trans (hw9.mono B4.size)
         have r9:=(R4.later hw9).cell
         have f9:=(R4.later hw9).frozen
         go_wp2_with fail
         refine bodyPost_ret (v:=.agg #[.int .i64 6,.int .i64 k,.int .i64 j]) ?_ rfl ⟨?_,?_⟩
         ·simp [results,Tryz.results21,go_sem,r9]
         ·rw [HV.out];rfl
         ·iterate 3 (refine Below.setCell ?_ (by simp;try omega) _)
          exact B9
        ·have HFn2:Hid (fnBad ps k p m' ⟨11,a1,bN,c1,d1⟩ = !upsB p q.ups):=by show _=_;rw [HFn.out,g1'];rfl
         clear HFn
         go_wp2_with fail
         refine (HUP.out _ B4).mono ?_
         rintro e w5 ⟨rfl,hw5⟩
         have B5:=B4.trans (hw5.mono B4.size)
         have M5:=M4.later hw5
         have C5:=C4.later hw5
         have R5:=R4.later hw5
         have N5:=N4.later hw5
         clear N4 M4 C4 R4 B4 cm4 hw5 cC HUP
         generalize upsB p q.ups=ub at *
         cases ub
         ·have HV:Hid (shapeF ps=(6,(k:Int),(j:Int))):=HFa.out (by rw [HFn2.out];rfl)
          clear HFa HFn2
          go_wp2_with fail
          refine (l3fault_any 6 k j _).mono ?_
          rintro e w9 ⟨rfl,hw9⟩
          have B9:=B5.trans (hw9.mono B5.size)
          have r9:=(R5.later hw9).cell
          have f9:=(R5.later hw9).frozen
          go_wp2_with fail
          refine bodyPost_ret (v:=.agg #[.int .i64 6,.int .i64 k,.int .i64 j]) ?_ rfl ⟨?_,?_⟩
          ·simp [results,Tryz.results21,go_sem,r9]
          ·rw [HV.out];rfl
          ·iterate 3 (refine Below.setCell ?_ (by simp;try omega) _)
           exact B9
         ·have HE3:Hid (mkIns ps k p 0 p.ins m=mkIns ps k p (j+1) (p.ins.drop (j+1)) (m'.set bN true)):=by
           show _=_
           rw [HE2.out,HFn2.out]
           rfl
          clear HFa HFn2 HE2
          have n5:=N5.cell
          have m5:=(M5.cell bN).trans (boolArr_get hmb)
          have f5:=M5.frozen
          have Q1:=B5.setCell (p:=⟨MB,bN,none⟩) (by show w.heap.size≤MB;omega) (.bool true)
          have Q2:=C5.setOther (p:=⟨MB,bN,none⟩) (by show w.heap.size≠MB;omega) (.bool true)
          have Q3:=R5.setOther (p:=⟨MB,bN,none⟩) (by show w.heap.size+1≠MB;omega) (.bool true)
          have Q4:=M5.set bN (.bool true)
          rw [boolArr_set] at Q4
          have HL:Hid ((m'.set bN true).length=ps.length):=by show _=_;rw [List.length_set];exact HM'.out
          clear N5 M5 C5 R5 B5
          go_wp2_with fail
          go_roundw
          case rel=>exact ⟨j+1,m'.set bN true,by omega,by go_num,HL,HE3.out.symm,Q1,Q2,Q3,Q4⟩
          case measure=>simp [intOf];omega
      ·have ho:(n.op != 11)=true:=by simpa using hop
       have HE2:Hid (mkIns ps k p 0 p.ins m=mkIns ps k p (j+1) (p.ins.drop (j+1)) m'):=by
        show _=_
        rw [HE.out,if_neg (by simpa using hop)]
       clear HE hop
       clear C3 R3 M3 pin n0 e'
       obtain⟨uo,uc,co,cc,io,ic,no,nc⟩:=h
       dsimp only at *
       subst hio
       go_wp2_with fail
       go_roundw
       case rel=>exact ⟨j+1,m',by omega,by go_num,HM',HE2.out.symm,hba _,CA.out _,RA.out _,MA.out _⟩
       case measure=>simp [intOf];omega
     ·have HI:Hid (mkIns ps k p 0 p.ins m=(none,m')):=by
       have h1:=HQ'.out
       rw [List.drop_of_length_le (by omega)] at h1
       exact h1.symm
      go_wp2_with fail
      go_roundw
      case rel=>exact ⟨k+1,m',by omega,by go_num,HM'.out,by show _=_;rw [HD.out,HI.out],hb',C3,R3,M3⟩
      case measure=>simp [intOf];omega
   ·have HN:Hid (mkAll ps 0 ps (List.replicate ps.length false)=(none,m)):=by
     have h2:=HQ.out
     rw [List.drop_of_length_le (by omega)] at h2
     exact h2.symm
    clear HQ
    go_wp2_with fail
    have HVm:Hid (shapeF ps=if 0≤firstIdx false (m.set 0 true) 0 then (7,firstIdx false (m.set 0 true) 0,0) else (0,0,0)):=by
     show _=_
     rw [HV1.out]
     unfold mkFault
     rw [HN.out]
    have HSt:Hid (firstIdx false ((m.set 0 true).drop 1) 1=firstIdx false (m.set 0 true) 0):=by
     show _=_
     cases m with
     | nil=>simp at hml;omega
     | cons x r=>rfl
    have hml2:(m.set 0 true).length=ps.length:=by rw [List.length_set];exact hml
    clear HN HV1 hv hz hr hfn
    go_loopw [9] (fun y wr=>∃k:Nat,1≤k∧k≤ps.length∧y=.int .i64 k∧Hid (firstIdx false ((m.set 0 true).drop k) k=firstIdx false (m.set 0 true) 0)∧Below w.heap.size w wr∧Blk wr w.heap.size #[.slice ao ps.length cap] 31∧Blk wr (w.heap.size+1) #[.int .i64 0,.int .i64 0,.int .i64 0] 27∧Blk wr MB (boolArr m) 4) (fun y _=>ps.length - (intOf y).toNat)
    case atStart=>exact ⟨1,Nat.le_refl _,hl1,rfl,HSt,hb,C1,R1,M1⟩
    case round=>
     obtain⟨k,hk1,hk,rfl,HQ,hb',C3,R3,M3⟩:=hrel
     clear C1 R1 M1 hb HSt
     have c3:=C3.cell 0
     by_cases hkl:k<ps.length
     ·have HD:Hid (firstIdx false (m.set 0 true) 0=if (m.set 0 true).getD k false=false then (k:Int) else firstIdx false ((m.set 0 true).drop (k+1)) (k+1)):=HQ.out.symm.trans (firstIdx_drop (by omega))
      have hg:(m.set 0 true).getD k false=m.getD k false:=by
       simp [List.getD,List.getElem?_set]
       split <;> first | omega | rfl
      rw [hg] at HD
      have m3:=(M3.cell k).trans (boolArr_get (by omega))
      generalize m.getD k false=mb at *
      clear HQ hg
      cases mb
      ·have HV:Hid (shapeF ps=(7,(k:Int),0)):=by
        show _=_
        rw [HVm.out,HD.out]
        simp
       go_wp2_with fail
       refine (l3fault_any 7 k 0 _).mono ?_
       rintro e w9 ⟨rfl,hw9⟩
       have B9:=hb'.trans (hw9.mono hb'.size)
       have r9:=(R3.later hw9).cell
       have f9:=(R3.later hw9).frozen
       go_wp2_with fail
       refine bodyPost_ret (v:=.agg #[.int .i64 7,.int .i64 k,.int .i64 0]) ?_ rfl ⟨?_,?_⟩
       ·simp [results,Tryz.results21,go_sem,r9]
       ·rw [HV.out];rfl
       ·iterate 3 (refine Below.setCell ?_ (by simp;try omega) _)
        exact B9
      ·have HN:Hid (firstIdx false ((m.set 0 true).drop (k+1)) (k+1)=firstIdx false (m.set 0 true) 0):=by
        show _=_
        rw [HD.out]
        simp
       go_wp2_with fail
       go_roundw
       case rel=>exact ⟨k+1,by omega,by omega,by go_num,HN.out,hb',C3,R3,M3⟩
       case measure=>simp [intOf];omega
     ·have HV:Hid (shapeF ps=(0,0,0)):=by
       have h1:=HQ.out
       rw [List.drop_of_length_le (by omega)] at h1
       show _=_
       rw [HVm.out,←h1]
       rfl
      have r9:=R3.cell
      have f9:=R3.frozen
      go_wp2_with fail
      refine bodyPost_ret (v:=.agg #[.int .i64 0,.int .i64 0,.int .i64 0]) ?_ rfl ⟨?_,?_⟩
      ·simp [results,Tryz.results21,go_sem,r9]
      ·rw [HV.out];rfl
      ·iterate 3 (refine Below.setCell ?_ (by simp;try omega) _)
       exact hb'
 ·have hfc2:(fc != 0)=true:=by simpa using hfc
  have HV1:Hid (shapeF ps=(fc,fp,fa)):=by
   have:=HV0.out
   rw [if_neg hfc] at this
   exact this.symm
  clear HP0 HV0 hfc
  have B9:=B1.alloc B1.size (.cells #[.int .i64 fc,.int .i64 fp,.int .i64 fa] 27)
  have R9:=R1.alloc (.cells #[.int .i64 fc,.int .i64 fp,.int .i64 fa] 27)
  have r9:=R9.cell
  have f9:=R9.frozen
  go_wp2_with fail
  refine bodyPost_ret (v:=.agg #[.int .i64 fc,.int .i64 fp,.int .i64 fa]) ?_ rfl ⟨?_,?_⟩
  ·simp [results,Tryz.results21,go_sem,r9]
  ·rw [HV1.out];rfl
  ·iterate 3 (refine Below.setCell ?_ (by simp;try omega) _)
   exact B9
set_option maxRecDepth 100000 in
set_option maxHeartbeats 8000000 in
theorem specCheckCode_any (ao:Option Addr) (cap:Nat) (ps:List Pd) (w:World) (hfi:Fine ps) (hv:ProtosAt 0 w ao ps) :
  Calls Tryz.prog 7 #[.agg #[.slice ao ps.length cap]] w fun e w'=>e=.returned (faultV (checkF ps))∧Below w.heap.size w w':=by
 have hl:ps.length≤1048576:=by have:=hfi.bulk;unfold bulkPs at this;omega
 have C0:=(Blk.new w #[.slice ao ps.length cap] 31).alloc (.cells #[.int .i64 0,.int .i64 0,.int .i64 0] 27)
 have R0:=Blk.new (w.alloc (.cells #[.slice ao ps.length cap] 31)) #[.int .i64 0,.int .i64 0,.int .i64 0] 27
 have B0:Below w.heap.size w ((w.alloc (.cells #[.slice ao ps.length cap] 31)).alloc (.cells #[.int .i64 0,.int .i64 0,.int .i64 0] 27)):=((Below.refl _ _).alloc (Nat.le_refl _) _).alloc (by simp) _
 simp only [nblk_alloc] at R0
 have HFI:Hid _:=hfi
 have HV:Hid (ProtosAt 0 w ao ps):=hv
 have HCK:Hid (checkF ps=if (shapeF ps).1=0 then verL ps 0 ps else shapeF ps):=rfl
 have HSH:Hid (∀W,Below w.heap.size w W→Calls Tryz.prog 21 #[.agg #[.slice ao ps.length cap]] W fun e w'=>e=.returned (.agg #[.int .i64 (shapeF ps).1,.int .i64 (shapeF ps).2.1,.int .i64 (shapeF ps).2.2])∧Below W.heap.size W w'):=fun W hb=>CheckShape_any ao cap ps W HFI.out (HV.out.later (Keeps.of_below hb))
 obtain⟨⟨s0,s1,s2⟩,hs⟩:∃s,s=shapeF ps:=⟨_,rfl⟩
 have HS:Hid _:=hs
 rw [←hs] at HSH HCK
 dsimp only at HSH HCK
 clear hs hfi hv
 go_enter Tryz.func7,Tryz.ntmps7
 have c0:=C0.cell 0
 go_wp2_with fail
 clear c0
 generalize (w.alloc (.cells #[.slice ao ps.length cap] 31)).alloc (.cells #[.int .i64 0,.int .i64 0,.int .i64 0] 27)=w0 at *
 refine (HSH.out w0 B0).mono ?_
 rintro e w1 ⟨rfl,hw1⟩
 have C1:=C0.later hw1
 have R1:=R0.later hw1
 have B1:=B0.trans (hw1.mono B0.size)
 clear C0 R0 B0 hw1 HSH
 have A1:=fun o=>(Below.refl w1.heap.size w1).alloc (Nat.le_refl _) o
 have X1:=Blk.new w1 #[.int .i64 s0,.int .i64 s1,.int .i64 s2] 27
 by_cases h0:s0=0
 ·subst h0
  have HCK2:Hid (checkF ps=verL ps 0 ps):=by have:=HCK.out;rw [if_pos rfl] at this;exact this
  have HFT:Hid (∀p ∈ ps,Fits ps p):=shape_fits (by have:=HS.out;rw [←this])
  have C2:=C1.later (A1 (.cells #[.int .i64 0,.int .i64 s1,.int .i64 s2] 27))
  have R2:=R1.later (A1 (.cells #[.int .i64 0,.int .i64 s1,.int .i64 s2] 27))
  have B2:=B1.trans ((A1 (.cells #[.int .i64 0,.int .i64 s1,.int .i64 s2] 27)).mono B1.size)
  have c2:=C2.cell 0
  clear HCK HS C1 R1 B1 A1
  go_wp2_with fail
  generalize w1.alloc (.cells #[.int .i64 0,.int .i64 s1,.int .i64 s2] 27)=w2 at *
  clear c2 X1
  go_loopg [16] (ps.length+1) (fun g y wr=>∃k:Nat,k≤ps.length∧y=.int .i64 k∧Hid (verL ps k (ps.drop k)=verL ps 0 ps)∧Hid (ps.length+1 - k≤g)∧Below w.heap.size w wr∧Blk wr w.heap.size #[.slice ao ps.length cap] 31∧Blk wr (w.heap.size+1) #[.int .i64 0,.int .i64 0,.int .i64 0] 27)
  case atStart=>exact ⟨0,Nat.zero_le _,rfl,rfl,Nat.le_refl _,B2,C2,R2⟩
  case round=>
   obtain⟨k,hk,rfl,HQ,HG,B3,C3,R3⟩:=hrel
   clear B2 C2 R2
   by_cases hkl:k<ps.length
   ·obtain⟨p,hp⟩:=some_of_lt hkl
    have HF:Hid (Fits ps p):=HFT.out p (List.mem_of_getElem? hp)
    have HQ2:Hid (verL ps 0 ps=if (verF ps p k).1=0 then verL ps (k+1) (ps.drop (k+1)) else verF ps p k):=HQ.out.symm.trans (verL_drop hp)
    have HG2:Hid (ps.length+1 - (k+1)≤gk - 1∧gk - 1<gk):=by have:=HG.out;show _∧_;omega
    have HWK:Hid (∀_:Unit,_):=fun _=>l3walk_any ao cap ps k p wr hp HF.out.fit HF.out.few hl HF.out.ups (fnUps_few HFI.out.few) (HV.out.later (Keeps.of_below B3))
    have c3:=C3.cell 0
    have k1:(k:Int)<ps.length:=by omega
    clear hp HQ HG
    go_wp2_with fail
    refine (HWK.out ()).mono ?_
    unfold WkPost faultV
    rintro e w4 ⟨⟨v,rfl⟩,hw4⟩
    have C4:=C3.later hw4
    have R4:=R3.later hw4
    have B4:=B3.trans (hw4.mono B3.size)
    obtain⟨⟨f0,f1,f2⟩,hf⟩:∃f,f=verF ps p k:=⟨_,rfl⟩
    rw [←hf] at HQ2 ⊢
    dsimp only at HQ2 ⊢
    clear hf HWK C3 R3 B3 hw4 c3
    have X4:=Blk.new w4 #[.int .i64 f0,.int .i64 f1,.int .i64 f2] 27
    have A4:=(Below.refl w4.heap.size w4).alloc (Nat.le_refl _) (.cells #[.int .i64 f0,.int .i64 f1,.int .i64 f2] 27)
    have C5:=C4.later A4
    have R5:=R4.later A4
    have B5:=B4.trans (A4.mono B4.size)
    by_cases hf0:f0=0
    ·subst hf0
     have HQ3:Hid (verL ps (k+1) (ps.drop (k+1))=verL ps 0 ps):=by have:=HQ2.out;rw [if_pos rfl] at this;exact this.symm
     clear HQ2
     go_wp2_with fail
     go_roundg (gk - 1)
     case measure=>exact HG2.out.2
     case rel=>exact ⟨k+1,by omega,by go_num,HQ3.out,HG2.out.1,B5,C5,R5⟩
    ·have HQ3:Hid (checkF ps=(f0,f1,f2)):=by have:=HQ2.out;rw [if_neg hf0] at this;exact HCK2.out.trans this
     have kf:(f0 != 0)=true:=by simpa using hf0
     have r5:=R5.cell
     have z5:=R5.frozen
     have hne:¬w4.heap.size=w.heap.size+1:=by have:=R4.lt;omega
     clear HQ2 hf0
     go_wp2_with fail
     refine bodyPost_ret (v:=.agg #[.int .i64 f0,.int .i64 f1,.int .i64 f2]) ?_ rfl ⟨?_,?_⟩
     ·simp [results,Tryz.results7,go_sem,r5]
     ·rw [HQ3.out];rfl
     ·iterate 3 (refine Below.setCell ?_ (by simp) _)
      exact B5
   ·obtain rfl:k=ps.length:=by omega
    have HQ3:Hid (checkF ps=(0,0,0)):=by
     show _=_
     rw [HCK2.out,←HQ.out,List.drop_length]
     rfl
    have r3:=R3.cell
    have z3:=R3.frozen
    have k1:¬(ps.length:Int)<ps.length:=by omega
    clear HQ HG
    go_wp2_with fail
    refine bodyPost_ret (v:=.agg #[.int .i64 0,.int .i64 0,.int .i64 0]) ?_ rfl ⟨?_,?_⟩
    ·simp [results,Tryz.results7,go_sem,r3]
    ·rw [HQ3.out];rfl
    ·iterate 3 (refine Below.setCell ?_ (by simp) _)
     exact B3
 ·have HCK2:Hid (checkF ps=(s0,s1,s2)):=by have:=HCK.out;rw [if_neg h0] at this;exact this
  have kf:(s0 != 0)=true:=by simpa using h0
  have R2:=R1.later (A1 (.cells #[.int .i64 s0,.int .i64 s1,.int .i64 s2] 27))
  have B2:=B1.trans ((A1 (.cells #[.int .i64 s0,.int .i64 s1,.int .i64 s2] 27)).mono B1.size)
  have r2:=R2.cell
  have z2:=R2.frozen
  have hne:¬w1.heap.size=w.heap.size+1:=by have:=R1.lt;omega
  clear HCK HS h0 A1
  go_wp2_with fail
  refine bodyPost_ret (v:=.agg #[.int .i64 s0,.int .i64 s1,.int .i64 s2]) ?_ rfl ⟨?_,?_⟩
  ·simp [results,Tryz.results7,go_sem,r2]
  ·rw [HCK2.out];rfl
  ·iterate 3 (refine Below.setCell ?_ (by simp) _)
   exact B2
end Go.Proofs.YtaakadmnhpboiaaGreatDoor
namespace Go.Proofs.YtaakadmnhpboiaaGreatDoor
open Go.ChangeShapes Go.WideShapes Go.ChangeAt Go.RowKit Go.Deep
theorem cells1_int:Tryz.prog.cellsOf 3=1:=by kernel_rfl
theorem cells1_int64:Tryz.prog.cellsOf 2=1:=by kernel_rfl
theorem cells1_bool:Tryz.prog.cellsOf 4=1:=by kernel_rfl
theorem cells1_float64:Tryz.prog.cellsOf 151=1:=by kernel_rfl
theorem cells1_string:Tryz.prog.cellsOf 9=1:=by kernel_rfl
theorem wf_int {x:Int} (h:(Lit.int .i64 x).wf=true):I64 x:=by
 simp only [Lit.wf,Bool.and_eq_true,decide_eq_true_eq] at h
 rw [show IntKind.i64.min = -9223372036854775808 by decide,show IntKind.i64.max=9223372036854775807 by decide] at h
 exact h
theorem wf_flt {x:Nat} (h:(Lit.float .f64 x).wf=true):x<18446744073709551616:=by
 simpa [Lit.wf] using h
section
variable {H : Type} {enc : TypeId × Value → H} {W : World}
theorem trod_flt {P:Program} {base:Nat} {spare:Nat→Bool} {held:Bool} {fuel:Nat} {t:TypeId} {cs:List Value} {x:DataW H × List MemPlace} {k:FloatKind} (ht:P.underlying t=some (.float k)) (h:DataW.trod enc P W base spare held fuel t cs=some x):∃n,cs=[.float k n]∧(Lit.float k n).wf=true:=by
 cases fuel with
 | zero=>simp [DataW.trod] at h
 | succ n=>
  unfold DataW.trod at h
  rw [ht] at h
  split at h <;> simp_all
theorem rows_of {α:Type} [Inhabited α] {t e:TypeId} {k fuel:Nat} {v:Value} {y:DataW H × List MemPlace} (ht:Tryz.prog.underlying t=some (.slice e)) (hk:Tryz.prog.cellsOf e=k) (hk0:0<k) (R:Nat→Nat→α→Prop) (G:α→Prop)
  (one:∀(n b o:Nat) (cs':List Value) (y:DataW H × List MemPlace),cs'.length=k→(∀i,i<k→W.cell? ⟨b,o+i,none⟩=cs'[i]?)→DataW.trod enc Tryz.prog W 0 (fun _=>true) true n e cs'=some y→∃x,R b o x∧G x)
  (h:DataW.trod enc Tryz.prog W 0 (fun _=>true) true fuel t [v]=some y) :
  ∃(ao:Option Addr) (cap:Nat) (xs:List α),v=.slice ao xs.length cap∧xs.length≤9223372036854775807∧(∀x ∈ xs,G x)∧AllAt 0 W ao k R xs:=by
 rcases open_slice ht h with ⟨hcs,_⟩ | ⟨a,len,cap,m,n,D,Pl,hcs,_,hl,hm,hmm,_,hel⟩
 ·simp at hcs
  exact⟨none,0,[],hcs,by simp,by simp,fun i x hx=>by simp at hx⟩
 ·simp only [List.cons.injEq,and_true] at hcs
  simp only [if_true] at hmm
  have hm2:cap≤9223372036854775807:=hm
  obtain⟨b,off,spot⟩:=a
  by_cases h0:len=0
  ·subst h0
   exact⟨some ⟨b,off,spot⟩,cap,[],hcs,by simp,by simp,fun i x hx=>by simp at hx⟩
  ·have hsp:spot=none:=by
    obtain⟨cs',hc,_⟩:=hel 0 (by omega)
    rw [hk] at hc
    obtain⟨_,hlen,hget⟩:=World.cells?_some hc
    have h2:=hget 0 hk0
    rw [List.getElem?_eq_getElem (by omega)] at h2
    simpa [Addr.add] using World.cell?_spot h2
   subst hsp
   have each:∀i,i<len→∃x:α,(R b (off+i * k) x∧G x)∧b<W.heap.size:=by
    intro i hi
    obtain⟨cs',hc,ht⟩:=hel i (by omega)
    rw [hk] at hc
    have hbl:=World.cells?_block hc hk0
    obtain⟨_,hlen,hget⟩:=World.cells?_some hc
    obtain⟨x,hx⟩:=one n b (off+i * k) cs' _ hlen (fun j hj=>by have h3:=hget j hj;rw [add_plain,add_plain] at h3;exact h3) ht
    rw [add_plain] at hbl
    exact⟨x,hx,hbl⟩
   obtain⟨f,hf⟩:=choose_lt each
   refine⟨some ⟨b,off,none⟩,cap,(List.range len).map f,by simpa using hcs,by simp;omega,?_,?_⟩
   ·intro x hx
    simp only [List.mem_map,List.mem_range] at hx
    obtain⟨i,hi,rfl⟩:=hx
    exact (hf i hi).1.2
   ·intro i x hx
    rw [List.getElem?_map] at hx
    obtain⟨j,hj,rfl⟩:=Option.map_eq_some_iff.1 hx
    obtain⟨hi,rfl⟩:=List.getElem?_eq_some_iff.1 hj
    simp only [List.length_range] at hi
    simp only [List.getElem_range]
    exact⟨b,off,rfl,Nat.zero_le _,(hf i hi).2,(hf i hi).1.1⟩
instance:Inhabited Ud:=⟨⟨false,0⟩⟩
theorem cells_up:Tryz.prog.cellsOf 211=2:=by kernel_rfl
set_option maxRecDepth 100000 in
theorem one_up (n b o:Nat) (cs':List Value) (y:DataW H × List MemPlace) (hl:cs'.length=2) (hc:∀i,i<2→W.cell? ⟨b,o+i,none⟩=cs'[i]?) (h:DataW.trod enc Tryz.prog W 0 (fun _=>true) true n 211 cs'=some y):∃x:Ud,UpAt W b o x∧(True):=by
 obtain⟨xs,n,_,hx,_,hlen,hfld⟩:=DataW.trod_struct Tryz.underlying211 h
 match cs',hl with
 | [x0,x1],_=>
  simp only [List.size_toArray,List.length_cons,List.length_nil] at hlen
  have f0:=hfld 0 _ rfl
  have f1:=hfld 1 _ rfl
  simp [cells1_bool] at f0
  simp [cells1_int] at f1
  rw [List.getElem?_eq_getElem (by omega)] at f0 f1
  obtain⟨y0,e0,_⟩:=DataW.trod_bool Tryz.underlying4 f0
  obtain⟨y1,e1,_,g1⟩:=DataW.trod_int Tryz.underlying3 f1
  simp only [List.cons.injEq,and_true] at e0 e1
  subst e0 e1
  refine⟨⟨y0,y1⟩,⟨hc 0 (by omega),hc 1 (by omega)⟩,?_⟩
  trivial
instance:Inhabited Vd:=⟨⟨0,0,0,.empty,0⟩⟩
theorem cells_val:Tryz.prog.cellsOf 206=5:=by kernel_rfl
set_option maxRecDepth 100000 in
theorem one_val (n b o:Nat) (cs':List Value) (y:DataW H × List MemPlace) (hl:cs'.length=5) (hc:∀i,i<5→W.cell? ⟨b,o+i,none⟩=cs'[i]?) (h:DataW.trod enc Tryz.prog W 0 (fun _=>true) true n 206 cs'=some y):∃x:Vd,ValAt W b o x∧(x.flt<18446744073709551616∧x.str.size≤9223372036854775807):=by
 obtain⟨xs,n,_,hx,_,hlen,hfld⟩:=DataW.trod_struct Tryz.underlying206 h
 match cs',hl with
 | [x0,x1,x2,x3,x4],_=>
  simp only [List.size_toArray,List.length_cons,List.length_nil] at hlen
  have f0:=hfld 0 _ rfl
  have f1:=hfld 1 _ rfl
  have f2:=hfld 2 _ rfl
  have f3:=hfld 3 _ rfl
  have f4:=hfld 4 _ rfl
  simp [cells1_int] at f0
  simp [cells1_int64] at f1
  simp [cells1_float64] at f2
  simp [cells1_string] at f3
  simp [cells1_int] at f4
  rw [List.getElem?_eq_getElem (by omega)] at f0 f1 f2 f3 f4
  obtain⟨y0,e0,_,g0⟩:=DataW.trod_int Tryz.underlying3 f0
  obtain⟨y1,e1,_,g1⟩:=DataW.trod_int Tryz.underlying2 f1
  obtain⟨y2,e2,g2⟩:=trod_flt Tryz.underlying151 f2
  obtain⟨y3,e3,_,g3⟩:=DataW.trod_string Tryz.underlying9 f3
  obtain⟨y4,e4,_,g4⟩:=DataW.trod_int Tryz.underlying3 f4
  simp only [List.cons.injEq,and_true] at e0 e1 e2 e3 e4
  subst e0 e1 e2 e3 e4
  refine⟨⟨y0,y1,y2,y3,y4⟩,⟨hc 0 (by omega),hc 1 (by omega),hc 2 (by omega),hc 3 (by omega),hc 4 (by omega)⟩,?_⟩
  exact⟨wf_flt g2,g3⟩
instance:Inhabited Nd:=⟨⟨0,0,0,0,0⟩⟩
theorem cells_ins:Tryz.prog.cellsOf 214=5:=by kernel_rfl
set_option maxRecDepth 100000 in
theorem one_ins (n b o:Nat) (cs':List Value) (y:DataW H × List MemPlace) (hl:cs'.length=5) (hc:∀i,i<5→W.cell? ⟨b,o+i,none⟩=cs'[i]?) (h:DataW.trod enc Tryz.prog W 0 (fun _=>true) true n 214 cs'=some y):∃x:Nd,InsAt W b o x∧(NdW x):=by
 obtain⟨xs,n,_,hx,_,hlen,hfld⟩:=DataW.trod_struct Tryz.underlying214 h
 match cs',hl with
 | [x0,x1,x2,x3,x4],_=>
  simp only [List.size_toArray,List.length_cons,List.length_nil] at hlen
  have f0:=hfld 0 _ rfl
  have f1:=hfld 1 _ rfl
  have f2:=hfld 2 _ rfl
  have f3:=hfld 3 _ rfl
  have f4:=hfld 4 _ rfl
  simp [cells1_int] at f0
  simp [cells1_int] at f1
  simp [cells1_int] at f2
  simp [cells1_int] at f3
  simp [cells1_int] at f4
  rw [List.getElem?_eq_getElem (by omega)] at f0 f1 f2 f3 f4
  obtain⟨y0,e0,_,g0⟩:=DataW.trod_int Tryz.underlying3 f0
  obtain⟨y1,e1,_,g1⟩:=DataW.trod_int Tryz.underlying3 f1
  obtain⟨y2,e2,_,g2⟩:=DataW.trod_int Tryz.underlying3 f2
  obtain⟨y3,e3,_,g3⟩:=DataW.trod_int Tryz.underlying3 f3
  obtain⟨y4,e4,_,g4⟩:=DataW.trod_int Tryz.underlying3 f4
  simp only [List.cons.injEq,and_true] at e0 e1 e2 e3 e4
  subst e0 e1 e2 e3 e4
  refine⟨⟨y0,y1,y2,y3,y4⟩,⟨hc 0 (by omega),hc 1 (by omega),hc 2 (by omega),hc 3 (by omega),hc 4 (by omega)⟩,?_⟩
  exact⟨wf_int g0,wf_int g1,wf_int g2,wf_int g3,wf_int g4⟩
instance:Inhabited Md:=⟨⟨.empty,0,0,0⟩⟩
theorem cells_nam:Tryz.prog.cellsOf 208=4:=by kernel_rfl
set_option maxRecDepth 100000 in
theorem one_nam (n b o:Nat) (cs':List Value) (y:DataW H × List MemPlace) (hl:cs'.length=4) (hc:∀i,i<4→W.cell? ⟨b,o+i,none⟩=cs'[i]?) (h:DataW.trod enc Tryz.prog W 0 (fun _=>true) true n 208 cs'=some y):∃x:Md,NamAt W b o x∧(x.name.size≤9223372036854775807):=by
 obtain⟨xs,n,_,hx,_,hlen,hfld⟩:=DataW.trod_struct Tryz.underlying208 h
 match cs',hl with
 | [x0,x1,x2,x3],_=>
  simp only [List.size_toArray,List.length_cons,List.length_nil] at hlen
  have f0:=hfld 0 _ rfl
  have f1:=hfld 1 _ rfl
  have f2:=hfld 2 _ rfl
  have f3:=hfld 3 _ rfl
  simp [cells1_string] at f0
  simp [cells1_int] at f1
  simp [cells1_int] at f2
  simp [cells1_int] at f3
  rw [List.getElem?_eq_getElem (by omega)] at f0 f1 f2 f3
  obtain⟨y0,e0,_,g0⟩:=DataW.trod_string Tryz.underlying9 f0
  obtain⟨y1,e1,_,g1⟩:=DataW.trod_int Tryz.underlying3 f1
  obtain⟨y2,e2,_,g2⟩:=DataW.trod_int Tryz.underlying3 f2
  obtain⟨y3,e3,_,g3⟩:=DataW.trod_int Tryz.underlying3 f3
  simp only [List.cons.injEq,and_true] at e0 e1 e2 e3
  subst e0 e1 e2 e3
  refine⟨⟨y0,y1,y2,y3⟩,⟨hc 0 (by omega),hc 1 (by omega),hc 2 (by omega),hc 3 (by omega)⟩,?_⟩
  exact g0
instance:Inhabited Pd:=⟨⟨.empty,0,0,false,0,[],[],[],[]⟩⟩
theorem cells1_ups:Tryz.prog.cellsOf 85=1:=by kernel_rfl
theorem cells1_vals:Tryz.prog.cellsOf 86=1:=by kernel_rfl
theorem cells1_inss:Tryz.prog.cellsOf 87=1:=by kernel_rfl
theorem cells1_nams:Tryz.prog.cellsOf 88=1:=by kernel_rfl
theorem cells_proto:Tryz.prog.cellsOf 90=9:=by kernel_rfl
structure PdIn (p:Pd):Prop where
 sz:PSz p
 flts:Flts p.consts
 nds:∀n ∈ p.ins,NdW n
set_option maxRecDepth 100000 in
theorem one_proto (n b o:Nat) (cs':List Value) (y:DataW H × List MemPlace) (hl:cs'.length=9) (hc:∀i,i<9→W.cell? ⟨b,o+i,none⟩=cs'[i]?) (h:DataW.trod enc Tryz.prog W 0 (fun _=>true) true n 90 cs'=some y):∃x:Pd,ProtoAt 0 W b o x∧PdIn x:=by
 obtain⟨xs,n,_,hx,_,hlen,hfld⟩:=DataW.trod_struct Tryz.underlying90 h
 match cs',hl with
 | [x0,x1,x2,x3,x4,x5,x6,x7,x8],_=>
  simp only [List.size_toArray,List.length_cons,List.length_nil] at hlen
  have f0:=hfld 0 _ rfl
  have f1:=hfld 1 _ rfl
  have f2:=hfld 2 _ rfl
  have f3:=hfld 3 _ rfl
  have f4:=hfld 4 _ rfl
  have f5:=hfld 5 _ rfl
  have f6:=hfld 6 _ rfl
  have f7:=hfld 7 _ rfl
  have f8:=hfld 8 _ rfl
  simp [cells1_string] at f0
  simp [cells1_int] at f1
  simp [cells1_int] at f2
  simp [cells1_bool] at f3
  simp [cells1_int] at f4
  simp [cells1_ups] at f5
  simp [cells1_vals] at f6
  simp [cells1_inss] at f7
  simp [cells1_nams] at f8
  rw [List.getElem?_eq_getElem (by omega)] at f0 f1 f2 f3 f4 f5 f6 f7 f8
  obtain⟨y0,e0,_,g0⟩:=DataW.trod_string Tryz.underlying9 f0
  obtain⟨y1,e1,_,g1⟩:=DataW.trod_int Tryz.underlying3 f1
  obtain⟨y2,e2,_,g2⟩:=DataW.trod_int Tryz.underlying3 f2
  obtain⟨y3,e3,_⟩:=DataW.trod_bool Tryz.underlying4 f3
  obtain⟨y4,e4,_,g4⟩:=DataW.trod_int Tryz.underlying3 f4
  obtain⟨uo,uc,us,e5,z5,_,a5⟩:=rows_of Tryz.underlying85 cells_up (by omega) (UpAt W) (fun _=>True) (fun n b o c y h1 h2 h3=>one_up n b o c y h1 h2 h3) f5
  obtain⟨vo,vc,vs,e6,z6,g6,a6⟩:=rows_of Tryz.underlying86 cells_val (by omega) (ValAt W) (fun x=>x.flt<18446744073709551616∧x.str.size≤9223372036854775807) (fun n b o c y h1 h2 h3=>one_val n b o c y h1 h2 h3) f6
  obtain⟨io,ic,is,e7,z7,g7,a7⟩:=rows_of Tryz.underlying87 cells_ins (by omega) (InsAt W) NdW (fun n b o c y h1 h2 h3=>one_ins n b o c y h1 h2 h3) f7
  obtain⟨no,nc,ns,e8,z8,g8,a8⟩:=rows_of Tryz.underlying88 cells_nam (by omega) (NamAt W) (fun x=>x.name.size≤9223372036854775807) (fun n b o c y h1 h2 h3=>one_nam n b o c y h1 h2 h3) f8
  simp only [List.cons.injEq,and_true] at e0 e1 e2 e3 e4
  subst e0 e1 e2 e3 e4 e5 e6 e7 e8
  refine⟨⟨y0,y1,y2,y3,y4,us,vs,is,ns⟩,⟨⟨uo,uc,vo,vc,io,ic,no,nc⟩,⟨hc 0 (by omega),hc 1 (by omega),hc 2 (by omega),hc 3 (by omega),hc 4 (by omega),hc 5 (by omega),hc 6 (by omega),hc 7 (by omega),hc 8 (by omega)⟩,⟨a5,a6,a7,a8⟩⟩,⟨⟨g0,z5,z6,z7,z8,fun v hv=>(g6 v hv).2,g8⟩,fun v hv=>(g6 v hv).1,g7⟩⟩
theorem code_of {fuel:Nat} {v:Value} {y:DataW H × List MemPlace} (h:DataW.trod enc Tryz.prog W 0 (fun _=>true) true fuel 22 [v]=some y) :
  ∃(ao:Option Addr) (cap:Nat) (ps:List Pd),v=.slice ao ps.length cap∧ps.length≤9223372036854775807∧(∀p ∈ ps,PdIn p)∧ProtosAt 0 W ao ps:=
 rows_of Tryz.underlying22 cells_proto (by omega) (ProtoAt 0 W) PdIn (fun n b o c y h1 h2 h3=>one_proto n b o c y h1 h2 h3) h
end
end Go.Proofs.YtaakadmnhpboiaaGreatDoor
