import Derived.Test.YtaakadmnhpboiaaGreatDoorM32
import Derived.Test.YtaakadmnhpboiaaGreatDoorM20
import Derived.Test.YtaakadmnhpboiaaGreatDoorM15
namespace Go.Proofs.YtaakadmnhpboiaaGreatDoor
open Go.RowKit Go.Deep
def Passed (ps:List Pd) (i:Nat):Prop:=
 sizeB ps=true∧(1≤i→firstP headP 0 ps=none)∧(2≤i→firstP constP 0 ps=none)∧(3≤i→firstP namedP 0 ps=none)∧(4≤i→firstP (insP ps.length) 0 ps=none)
def Looks (f:Nat) (g:Nat→Pd→Option Nat) (ao:Option Addr) (cap:Nat) (ps:List Pd) (w:World):Prop:=
 ∀(k:Nat) (p:Pd) (W:World),ps[k]?=some p→Below w.heap.size w W→Calls Tryz.prog f #[.agg #[.slice ao ps.length cap],.int .i64 k] W fun e w'=>
  ∃at_:Int,e=.returned (.tuple #[.int .i64 at_,.bool (g k p).isNone])∧(∀j,g k p=some j→at_=j)∧Below W.heap.size W w'
theorem looks_head {ao:Option Addr} {cap:Nat} {ps:List Pd} {w:World} (hfi:Fine ps) (hl:ps.length≤1048576) (hv:ProtosAt 0 w ao ps):Looks 56 headP ao cap ps w:=by
 intro k p W hk hb
 refine (checkHead_any ao cap ps k p W hk (hfi.few p (List.mem_of_getElem? hk)) hl (hv.later (Keeps.of_below hb))).mono ?_
 rintro e w' ⟨rfl,hw⟩
 refine⟨0,?_,?_,hw⟩
 ·unfold headP;cases headOk p k <;> rfl
 ·intro j hj;unfold headP at hj;split at hj <;> simp at hj;omega
theorem looks_bad {o:Option Nat} : ∃at_:Int,badT o=.tuple #[.int .i64 at_,.bool o.isNone]∧∀j,o=some j→at_=j:=by
 cases o with
 | none=>exact ⟨0,rfl,fun j h=>by cases h⟩
 | some i=>exact ⟨i,rfl,fun j h=>by cases h;rfl⟩
theorem looks_consts {ao:Option Addr} {cap:Nat} {ps:List Pd} {w:World} (hfi:Fine ps) (hv:ProtosAt 0 w ao ps):Looks 57 constP ao cap ps w:=by
 intro k p W hk hb
 refine (checkConsts_any ao cap ps k p W hk (hfi.few p (List.mem_of_getElem? hk)) (hfi.flts p (List.mem_of_getElem? hk)) (hv.later (Keeps.of_below hb))).mono ?_
 rintro e w' ⟨rfl,hw⟩
 obtain⟨a,h1,h2⟩:=@looks_bad (constP k p)
 exact⟨a,by rw [←h1];rfl,h2,hw⟩
theorem looks_named {ao:Option Addr} {cap:Nat} {ps:List Pd} {w:World} (hfi:Fine ps) (hr:∀p ∈ ps,0≤p.regs∧p.regs≤250) (hv:ProtosAt 0 w ao ps):Looks 58 namedP ao cap ps w:=by
 intro k p W hk hb
 refine (checkNamed_any ao cap ps k p W hk (hfi.few p (List.mem_of_getElem? hk)) (hr p (List.mem_of_getElem? hk)) (hv.later (Keeps.of_below hb))).mono ?_
 rintro e w' ⟨rfl,hw⟩
 obtain⟨a,h1,h2⟩:=@looks_bad (namedP k p)
 exact⟨a,by rw [←h1];rfl,h2,hw⟩
theorem looks_ins {ao:Option Addr} {cap:Nat} {ps:List Pd} {w:World} (hfi:Fine ps) (hl:ps.length≤1048576) (hr:∀p ∈ ps,0≤p.regs∧p.regs≤250) (hF:Forms w) (hv:ProtosAt 0 w ao ps):Looks 59 (insP ps.length) ao cap ps w:=by
 intro k p W hk hb
 refine (checkInstructions_any ao cap ps k p W hk (hfi.few p (List.mem_of_getElem? hk)) hl (hfi.nds p (List.mem_of_getElem? hk)) (hr p (List.mem_of_getElem? hk)) (hF.later hb) (hv.later (Keeps.of_below hb))).mono ?_
 rintro e w' ⟨⟨a,rfl,h2⟩,hw⟩
 exact⟨a,rfl,h2,hw⟩
set_option maxRecDepth 100000 in
set_option maxHeartbeats 8000000 in
theorem checkShape_any (ao:Option Addr) (cap:Nat) (ps:List Pd) (w:World) (hfi:Fine ps) (hF:Forms w) (hv:ProtosAt 0 w ao ps) :
  Calls Tryz.prog 24 #[.agg #[.slice ao ps.length cap]] w fun e w'=>e=.returned (faultV (shapeF ps))∧Below w.heap.size w w':=by
 have hl:ps.length≤1048576:=by have:=hfi.bulk;unfold bulkPs at this;omega
 have hb2:∀o1 o2,Below w.heap.size w ((w.alloc o1).alloc o2):=fun o1 o2=>((Below.refl _ _).alloc (Nat.le_refl _) o1).alloc (by simp) o2
 have C0:=(Blk.new w #[.slice ao ps.length cap] 31).alloc (.cells #[.int .i64 0,.int .i64 0,.int .i64 0] 27)
 have R0:=Blk.new (w.alloc (.cells #[.slice ao ps.length cap] 31)) #[.int .i64 0,.int .i64 0,.int .i64 0] 27
 rw [nblk_alloc] at R0
 go_enter Tryz.func24,Tryz.ntmps24
 go_wp2_with fail
 refine (sizesFit_any ao cap ps _ hfi.bulk (hv.later (Keeps.of_below (hb2 _ _)))).mono ?_
 rintro e w1 ⟨rfl,hw1⟩
 have B1:=(hb2 _ _).trans (hw1.mono (by simp;omega))
 have C1:=C0.later hw1
 have R1:=R0.later hw1
 clear C0 R0 hw1
 cases hsz:sizeB ps
 ·have HV:Hid (shapeF ps=(1,0,0)):=by show _=_;unfold shapeF;rw [hsz];rfl
  have c1:=R1.cell
  have f1:=R1.frozen
  clear hv hF hfi
  go_wp2_with fail
  refine bodyPost_ret (v:=.agg #[.int .i64 1,.int .i64 0,.int .i64 0]) ?_ rfl ⟨?_,?_⟩
  ·simp [results,Tryz.results24,go_sem,c1]
  ·rw [HV.out];rfl
  ·iterate 3 (refine Below.setCell ?_ (by simp;try omega) _)
   exact B1
 ·have HP:Hid (Passed ps 0):=⟨hsz,by omega,by omega,by omega,by omega⟩
  have hszl:1≤ps.length:=by unfold sizeB at hsz;simp [inR] at hsz;omega
  have c1:=C1.cell 0
  clear hsz
  have B2:=B1.alloc B1.size (.cells #[.func (.func 56) #[] #[],.func (.func 57) #[] #[],.func (.func 58) #[] #[],.func (.func 59) #[] #[]] 115)
  have C2:=C1.alloc (.cells #[.func (.func 56) #[] #[],.func (.func 57) #[] #[],.func (.func 58) #[] #[],.func (.func 59) #[] #[]] 115)
  have R2:=R1.alloc (.cells #[.func (.func 56) #[] #[],.func (.func 57) #[] #[],.func (.func 58) #[] #[],.func (.func 59) #[] #[]] 115)
  have F2:=Blk.new w1 #[.func (.func 56) #[] #[],.func (.func 57) #[] #[],.func (.func 58) #[] #[],.func (.func 59) #[] #[]] 115
  have hFB:w.heap.size+1<w1.heap.size:=R1.lt
  clear B1 C1 R1
  go_wp2_with fail
  clear c1
  generalize hg:w1.heap.size=FB at *
  clear hg
  go_loopw [16] (fun y wr=>∃i:Nat,i≤4∧y=.int .i64 i∧Hid (Passed ps i)∧Below w.heap.size w wr∧Blk wr w.heap.size #[.slice ao ps.length cap] 31∧Blk wr (w.heap.size+1) #[.int .i64 0,.int .i64 0,.int .i64 0] 27∧Blk wr FB #[.func (.func 56) #[] #[],.func (.func 57) #[] #[],.func (.func 58) #[] #[],.func (.func 59) #[] #[]] 115) (fun y _=>4 - (intOf y).toNat)
  case atStart=>exact ⟨0,by omega,rfl,HP,B2,C2,R2,F2⟩
  case round=>
   obtain⟨i,hi,rfl,HPi,hb,C3,R3,F3⟩:=hrel
   clear B2 C2 R2 F2 HP
   rcases (by omega:i=0∨i=1∨i=2∨i=3∨i=4) with rfl | rfl | rfl | rfl | rfl
   ·have c3:=C3.cell 0
    have f3:=F3.cell
    have HK:Hid (Looks 56 headP ao cap ps w):=looks_head hfi hl hv
    go_wp2_with fail
    clear c3 f3
    go_loopw [24] (fun y wi=>∃k:Nat,k≤ps.length∧y=.int .i64 k∧Hid (firstP headP k (ps.drop k)=firstP headP 0 ps)∧Below w.heap.size w wi∧Blk wi w.heap.size #[.slice ao ps.length cap] 31∧Blk wi (w.heap.size+1) #[.int .i64 0,.int .i64 0,.int .i64 0] 27∧Blk wi FB #[.func (.func 56) #[] #[],.func (.func 57) #[] #[],.func (.func 58) #[] #[],.func (.func 59) #[] #[]] 115) (fun y _=>ps.length - (intOf y).toNat)
    case atStart=>exact ⟨0,Nat.zero_le _,rfl,rfl,hb,C3,R3,F3⟩
    case round=>
     obtain⟨k,hk,rfl,HQ,hb4,C4,R4,F4⟩:=hrel
     clear hb C3 R3 F3
     by_cases hkl:k<ps.length
     ·obtain⟨p,hpk⟩:=some_of_lt hkl
      have HD:Hid (firstP headP 0 ps=_):=HQ.out.symm.trans (firstP_drop hpk)
      have c4:=C4.cell 0
      go_wp2_with fail
      refine (HK.out k p _ hpk hb4).mono ?_
      rintro e w5 ⟨at_,rfl,hat,hw5⟩
      have B5:=hb4.trans (hw5.mono hb4.size)
      have C5:=C4.later hw5
      have R5:=R4.later hw5
      have F5:=F4.later hw5
      clear c4 C4 R4 F4 hw5 hb4
      cases ho:(headP) k p with
      | some j=>
       obtain rfl:=hat j ho
       have HV:Hid (shapeF ps=(2,(k:Int),(j:Int))):=by
        have h1:=HD.out
        rw [ho] at h1
        have h2:=HPi.out
        unfold Passed at h2
        show _=_
        unfold shapeF
        rw [h2.1,h1];rfl
       clear ho hat HK HPi HQ HD
       have c5:=R5.cell
       have g5:=R5.frozen
       rw [Option.isNone_some]
       go_wp2_with fail
       refine bodyPost_ret (v:=.agg #[.int .i64 2,.int .i64 k,.int .i64 j]) ?_ rfl ⟨?_,?_⟩
       ·simp [results,Tryz.results24,go_sem,c5]
       ·rw [HV.out];rfl
       ·iterate 3 (refine Below.setCell ?_ (by simp;try omega) _)
        exact B5
      | none=>
       have HN:Hid (firstP headP (k+1) (ps.drop (k+1))=firstP headP 0 ps):=by
        have h1:=HD.out
        rw [ho] at h1
        exact h1.symm
       clear ho hat HQ HD
       rw [Option.isNone_none]
       go_wp2_with fail
       go_roundw
       case rel=>first | exact ⟨k+1,by omega,by go_num,HN.out,B5,C5,R5,F5⟩ | ((repeat apply Exists.intro);exact ⟨⟨k+1,by omega,by go_num,HN.out,B5,C5,R5,F5⟩,rfl⟩)
       case measure=>simp [intOf];omega
     ·have HN:firstP headP 0 ps=none:=by
       have h1:=HQ.out
       rw [List.drop_of_length_le (by omega)] at h1
       exact h1.symm
      have HP2:Hid (Passed ps 1):=by
       have h2:=HPi.out
       unfold Passed at h2
       exact⟨h2.1,fun _=>HN,fun h=>by omega,fun h=>by omega,fun h=>by omega⟩
      clear HN HQ HK
      go_wp2_with fail
      go_roundw
      case rel=>exact ⟨1,by omega,rfl,HP2,hb4,C4,R4,F4⟩
      case measure=>simp [intOf]
   ·have c3:=C3.cell 0
    have f3:=F3.cell
    have HK:Hid (Looks 57 constP ao cap ps w):=looks_consts hfi hv
    go_wp2_with fail
    clear c3 f3
    go_loopw [24] (fun y wi=>∃k:Nat,k≤ps.length∧y=.int .i64 k∧Hid (firstP constP k (ps.drop k)=firstP constP 0 ps)∧Below w.heap.size w wi∧Blk wi w.heap.size #[.slice ao ps.length cap] 31∧Blk wi (w.heap.size+1) #[.int .i64 0,.int .i64 0,.int .i64 0] 27∧Blk wi FB #[.func (.func 56) #[] #[],.func (.func 57) #[] #[],.func (.func 58) #[] #[],.func (.func 59) #[] #[]] 115) (fun y _=>ps.length - (intOf y).toNat)
    case atStart=>exact ⟨0,Nat.zero_le _,rfl,rfl,hb,C3,R3,F3⟩
    case round=>
     obtain⟨k,hk,rfl,HQ,hb4,C4,R4,F4⟩:=hrel
     clear hb C3 R3 F3
     by_cases hkl:k<ps.length
     ·obtain⟨p,hpk⟩:=some_of_lt hkl
      have HD:Hid (firstP constP 0 ps=_):=HQ.out.symm.trans (firstP_drop hpk)
      have c4:=C4.cell 0
      go_wp2_with fail
      refine (HK.out k p _ hpk hb4).mono ?_
      rintro e w5 ⟨at_,rfl,hat,hw5⟩
      have B5:=hb4.trans (hw5.mono hb4.size)
      have C5:=C4.later hw5
      have R5:=R4.later hw5
      have F5:=F4.later hw5
      clear c4 C4 R4 F4 hw5 hb4
      cases ho:(constP) k p with
      | some j=>
       obtain rfl:=hat j ho
       have HV:Hid (shapeF ps=(3,(k:Int),(j:Int))):=by
        have h1:=HD.out
        rw [ho] at h1
        have h2:=HPi.out
        unfold Passed at h2
        show _=_
        unfold shapeF
        rw [h2.1,h2.2.1 (by omega),h1];rfl
       clear ho hat HK HPi HQ HD
       have c5:=R5.cell
       have g5:=R5.frozen
       rw [Option.isNone_some]
       go_wp2_with fail
       refine bodyPost_ret (v:=.agg #[.int .i64 3,.int .i64 k,.int .i64 j]) ?_ rfl ⟨?_,?_⟩
       ·simp [results,Tryz.results24,go_sem,c5]
       ·rw [HV.out];rfl
       ·iterate 3 (refine Below.setCell ?_ (by simp;try omega) _)
        exact B5
      | none=>
       have HN:Hid (firstP constP (k+1) (ps.drop (k+1))=firstP constP 0 ps):=by
        have h1:=HD.out
        rw [ho] at h1
        exact h1.symm
       clear ho hat HQ HD
       rw [Option.isNone_none]
       go_wp2_with fail
       go_roundw
       case rel=>first | exact ⟨k+1,by omega,by go_num,HN.out,B5,C5,R5,F5⟩ | ((repeat apply Exists.intro);exact ⟨⟨k+1,by omega,by go_num,HN.out,B5,C5,R5,F5⟩,rfl⟩)
       case measure=>simp [intOf];omega
     ·have HN:firstP constP 0 ps=none:=by
       have h1:=HQ.out
       rw [List.drop_of_length_le (by omega)] at h1
       exact h1.symm
      have HP2:Hid (Passed ps 2):=by
       have h2:=HPi.out
       unfold Passed at h2
       exact⟨h2.1,fun _=>h2.2.1 (by omega),fun _=>HN,fun h=>by omega,fun h=>by omega⟩
      clear HN HQ HK
      go_wp2_with fail
      go_roundw
      case rel=>exact ⟨2,by omega,rfl,HP2,hb4,C4,R4,F4⟩
      case measure=>simp [intOf]
   ·have c3:=C3.cell 0
    have f3:=F3.cell
    have HK:Hid (Looks 58 namedP ao cap ps w):=looks_named hfi (regs_of_heads (HPi.out.2.1 (by omega))) hv
    go_wp2_with fail
    clear c3 f3
    go_loopw [24] (fun y wi=>∃k:Nat,k≤ps.length∧y=.int .i64 k∧Hid (firstP namedP k (ps.drop k)=firstP namedP 0 ps)∧Below w.heap.size w wi∧Blk wi w.heap.size #[.slice ao ps.length cap] 31∧Blk wi (w.heap.size+1) #[.int .i64 0,.int .i64 0,.int .i64 0] 27∧Blk wi FB #[.func (.func 56) #[] #[],.func (.func 57) #[] #[],.func (.func 58) #[] #[],.func (.func 59) #[] #[]] 115) (fun y _=>ps.length - (intOf y).toNat)
    case atStart=>exact ⟨0,Nat.zero_le _,rfl,rfl,hb,C3,R3,F3⟩
    case round=>
     obtain⟨k,hk,rfl,HQ,hb4,C4,R4,F4⟩:=hrel
     clear hb C3 R3 F3
     by_cases hkl:k<ps.length
     ·obtain⟨p,hpk⟩:=some_of_lt hkl
      have HD:Hid (firstP namedP 0 ps=_):=HQ.out.symm.trans (firstP_drop hpk)
      have c4:=C4.cell 0
      go_wp2_with fail
      refine (HK.out k p _ hpk hb4).mono ?_
      rintro e w5 ⟨at_,rfl,hat,hw5⟩
      have B5:=hb4.trans (hw5.mono hb4.size)
      have C5:=C4.later hw5
      have R5:=R4.later hw5
      have F5:=F4.later hw5
      clear c4 C4 R4 F4 hw5 hb4
      cases ho:(namedP) k p with
      | some j=>
       obtain rfl:=hat j ho
       have HV:Hid (shapeF ps=(4,(k:Int),(j:Int))):=by
        have h1:=HD.out
        rw [ho] at h1
        have h2:=HPi.out
        unfold Passed at h2
        show _=_
        unfold shapeF
        rw [h2.1,h2.2.1 (by omega),h2.2.2.1 (by omega),h1];rfl
       clear ho hat HK HPi HQ HD
       have c5:=R5.cell
       have g5:=R5.frozen
       rw [Option.isNone_some]
       go_wp2_with fail
       refine bodyPost_ret (v:=.agg #[.int .i64 4,.int .i64 k,.int .i64 j]) ?_ rfl ⟨?_,?_⟩
       ·simp [results,Tryz.results24,go_sem,c5]
       ·rw [HV.out];rfl
       ·iterate 3 (refine Below.setCell ?_ (by simp;try omega) _)
        exact B5
      | none=>
       have HN:Hid (firstP namedP (k+1) (ps.drop (k+1))=firstP namedP 0 ps):=by
        have h1:=HD.out
        rw [ho] at h1
        exact h1.symm
       clear ho hat HQ HD
       rw [Option.isNone_none]
       go_wp2_with fail
       go_roundw
       case rel=>first | exact ⟨k+1,by omega,by go_num,HN.out,B5,C5,R5,F5⟩ | ((repeat apply Exists.intro);exact ⟨⟨k+1,by omega,by go_num,HN.out,B5,C5,R5,F5⟩,rfl⟩)
       case measure=>simp [intOf];omega
     ·have HN:firstP namedP 0 ps=none:=by
       have h1:=HQ.out
       rw [List.drop_of_length_le (by omega)] at h1
       exact h1.symm
      have HP2:Hid (Passed ps 3):=by
       have h2:=HPi.out
       unfold Passed at h2
       exact⟨h2.1,fun _=>h2.2.1 (by omega),fun _=>h2.2.2.1 (by omega),fun _=>HN,fun h=>by omega⟩
      clear HN HQ HK
      go_wp2_with fail
      go_roundw
      case rel=>exact ⟨3,by omega,rfl,HP2,hb4,C4,R4,F4⟩
      case measure=>simp [intOf]
   ·have c3:=C3.cell 0
    have f3:=F3.cell
    have HK:Hid (Looks 59 (insP ps.length) ao cap ps w):=looks_ins hfi hl (regs_of_heads (HPi.out.2.1 (by omega))) hF hv
    go_wp2_with fail
    clear c3 f3
    go_loopw [24] (fun y wi=>∃k:Nat,k≤ps.length∧y=.int .i64 k∧Hid (firstP (insP ps.length) k (ps.drop k)=firstP (insP ps.length) 0 ps)∧Below w.heap.size w wi∧Blk wi w.heap.size #[.slice ao ps.length cap] 31∧Blk wi (w.heap.size+1) #[.int .i64 0,.int .i64 0,.int .i64 0] 27∧Blk wi FB #[.func (.func 56) #[] #[],.func (.func 57) #[] #[],.func (.func 58) #[] #[],.func (.func 59) #[] #[]] 115) (fun y _=>ps.length - (intOf y).toNat)
    case atStart=>exact ⟨0,Nat.zero_le _,rfl,rfl,hb,C3,R3,F3⟩
    case round=>
     obtain⟨k,hk,rfl,HQ,hb4,C4,R4,F4⟩:=hrel
     clear hb C3 R3 F3
     by_cases hkl:k<ps.length
     ·obtain⟨p,hpk⟩:=some_of_lt hkl
      have HD:Hid (firstP (insP ps.length) 0 ps=_):=HQ.out.symm.trans (firstP_drop hpk)
      have c4:=C4.cell 0
      go_wp2_with fail
      refine (HK.out k p _ hpk hb4).mono ?_
      rintro e w5 ⟨at_,rfl,hat,hw5⟩
      have B5:=hb4.trans (hw5.mono hb4.size)
      have C5:=C4.later hw5
      have R5:=R4.later hw5
      have F5:=F4.later hw5
      clear c4 C4 R4 F4 hw5 hb4
      cases ho:((insP ps.length)) k p with
      | some j=>
       obtain rfl:=hat j ho
       have HV:Hid (shapeF ps=(5,(k:Int),(j:Int))):=by
        have h1:=HD.out
        rw [ho] at h1
        have h2:=HPi.out
        unfold Passed at h2
        show _=_
        unfold shapeF
        rw [h2.1,h2.2.1 (by omega),h2.2.2.1 (by omega),h2.2.2.2.1 (by omega),h1];rfl
       clear ho hat HK HPi HQ HD
       have c5:=R5.cell
       have g5:=R5.frozen
       rw [Option.isNone_some]
       go_wp2_with fail
       refine bodyPost_ret (v:=.agg #[.int .i64 5,.int .i64 k,.int .i64 j]) ?_ rfl ⟨?_,?_⟩
       ·simp [results,Tryz.results24,go_sem,c5]
       ·rw [HV.out];rfl
       ·iterate 3 (refine Below.setCell ?_ (by simp;try omega) _)
        exact B5
      | none=>
       have HN:Hid (firstP (insP ps.length) (k+1) (ps.drop (k+1))=firstP (insP ps.length) 0 ps):=by
        have h1:=HD.out
        rw [ho] at h1
        exact h1.symm
       clear ho hat HQ HD
       rw [Option.isNone_none]
       go_wp2_with fail
       go_roundw
       case rel=>first | exact ⟨k+1,by omega,by go_num,HN.out,B5,C5,R5,F5⟩ | ((repeat apply Exists.intro);exact ⟨⟨k+1,by omega,by go_num,HN.out,B5,C5,R5,F5⟩,rfl⟩)
       case measure=>simp [intOf];omega
     ·have HN:firstP (insP ps.length) 0 ps=none:=by
       have h1:=HQ.out
       rw [List.drop_of_length_le (by omega)] at h1
       exact h1.symm
      have HP2:Hid (Passed ps 4):=by
       have h2:=HPi.out
       unfold Passed at h2
       exact⟨h2.1,fun _=>h2.2.1 (by omega),fun _=>h2.2.2.1 (by omega),fun _=>h2.2.2.2.1 (by omega),fun _=>HN⟩
      clear HN HQ HK
      go_wp2_with fail
      go_roundw
      case rel=>exact ⟨4,by omega,rfl,HP2,hb4,C4,R4,F4⟩
      case measure=>simp [intOf]
   ·have c3:=C3.cell 0
    have HV:Hid (shapeF ps=mkFault ps):=by
     have h2:=HPi.out
     unfold Passed at h2
     show _=_
     unfold shapeF
     rw [h2.1,h2.2.1 (by omega),h2.2.2.1 (by omega),h2.2.2.2.1 (by omega),h2.2.2.2.2 (by omega)]
     rfl
    have hrr:=regs_of_heads (HPi.out.2.1 (by omega))
    have hff:=fns_of_ins (HPi.out.2.2.2.2 (by omega))
    have HM:Hid _:=checkMaking_any ao cap ps wr hszl hl hfi.few hrr hff (hv.later (Keeps.of_below hb))
    clear hrr hff
    go_wp2_with fail
    refine Calls.mono (Hid.out HM) ?_
    rintro e w5 ⟨rfl,hw5⟩
    have B5:=hb.trans (hw5.mono hb.size)
    have R5:=R3.later hw5
    have c5:=R5.cell
    have g5:=R5.frozen
    obtain⟨s1,s2,s3,hs⟩:∃s1 s2 s3,mkFault ps=(s1,s2,s3):=⟨_,_,_,rfl⟩
    have HS:Hid (shapeF ps=(s1,s2,s3)):=HV.out.trans hs
    rw [hs]
    clear HM HV HPi c3 C3 R3 F3 hw5 hs
    unfold faultV
    go_wp2_with fail
    refine bodyPost_ret (v:=.agg #[.int .i64 s1,.int .i64 s2,.int .i64 s3]) ?_ rfl ⟨?_,?_⟩
    ·simp [results,Tryz.results24,go_sem,c5]
    ·rw [HS.out];rfl
    ·iterate 3 (refine Below.setCell ?_ (by simp;try omega) _)
     exact B5
set_option maxRecDepth 1000000 in
set_option maxHeartbeats 16000000 in
theorem walk_tail (ps:List Pd) (pi a:Nat) (p:Pd) (h:Ph) (cao:Option Addr) (ccap:Nat) (c:Cf) (w wr:World) (c0 c3 c4 c9 c10 c12 c13 c14 c15 c16 c17 c18 c19 c20 c21 c22 c23 c24 c25 c26 c27 c28 c29 c30 c31 c32 c33 c34 c35 c36 c37 c38 c39 c40 c41 c42 c43 c44 c45 c46 c47 c48 c49 c50 c51 c52 c53 c54 c55 c56 c57 c58 c59 c60 c61 c62 c63 c64 c65 c66 c67 c68 c69 c70 c71 c72 c73 c74 c75 c76 c77 c78 c79 c80 c81 c82 c83 c84 c85 c86 c87 c88 c89 c90 c91 c92 c93 c94 c95 c96 c97 c98 c99 c100 c101 c102 c103 c104 c105 c106 c107 c108 c109 c110 c111 c112 c113 c114 c115 c116 c117 c118 c119 c120 c121 c122 c123 c124 c125 c126 c127 c128 c129 c130 c131 c132 c133 c134 c135 c136 c137 c138 c139 c140 c141 c142 c143 c144 c145 c146 c147 c148 c149 c150 c151 c152 c153 c154 c155 c156 c157 c158 c159 c160 c161 c162 c163 c164 c165 c166 c167 c168 c169 c170 c171 c172 c173 c174 c175 c176 c177 c178 c179 c180 c181 c182 c183 c184 c185 c186 c187 c188 c189 c190 c191 c192 c193 c194 c195 c196 c197 c198 c199 c200 c201 c202 c203 c204 c205 c206 c207 c208 c209:Value) (Q:Exit→Act→World→Prop) (hq:∀a' w',bodyPost Tryz.prog Tryz.f22 (WkPost w ps p pi) .ret a' w'→Q .ret a' w')
  (hn:∀(u4 u13 u14 u15 u16 u17 u19 u95 u96 u97 u98 u99 u100 u101 u102 u103 u104 u105 u106 u107 u108 u109 u110 u111 u112 u113 u114 u115 u116 u117 u118 u119 u120 u121 u122 u123 u124 u125 u126 u127 u128 u129 u130 u131 u132 u133 u134 u135 u136 u137 u138 u139 u140 u141 u142 u143 u144 u145 u146 u147 u148 u149 u150 u151 u152 u153 u154 u155 u156 u157 u158 u159 u160 u161 u162 u163 u164 u165 u166 u167 u168 u169 u170 u171 u172 u173 u174 u175 u176 u177 u178 u179 u180 u181 u182 u183 u184 u185 u186 u187 u188 u189 u190 u191 u192 u193 u194 u195 u196 u197 u198 u199 u200 u201 u202 u203 u204 u205 u206 u207 u208 u209:Value) (w':World) (c':Cf),roundF ps p c a=.ok c'→WkAt w cao ccap ps p h w' c'→Q .normal ⟨List.toArray (c0::.int .i64 pi::.pointer (some ⟨w.heap.size,0,none⟩)::c3::u4::.pointer (some ⟨w.heap.size+1,0,none⟩)::.pointer (some ⟨w.heap.size+1+1,0,none⟩)::.slice (some ⟨w.heap.size+1+1+1,0,none⟩) p.ins.length p.ins.length::.slice (some ⟨w.heap.size+1+1+1+1,0,none⟩) p.ins.length p.ins.length::c9::c10::.int .i64 a::c12::u13::u14::u15::u16::u17::c18::u19::c20::c21::c22::c23::c24::c25::c26::c27::c28::c29::c30::c31::c32::c33::c34::c35::c36::c37::c38::c39::c40::c41::c42::c43::c44::c45::c46::c47::c48::c49::c50::c51::c52::c53::c54::c55::c56::c57::c58::c59::c60::c61::c62::c63::c64::c65::c66::c67::c68::c69::c70::c71::c72::c73::c74::c75::c76::c77::c78::c79::c80::c81::c82::c83::c84::c85::c86::c87::c88::c89::c90::c91::c92::c93::c94::u95::u96::u97::u98::u99::u100::u101::u102::u103::u104::u105::u106::u107::u108::u109::u110::u111::u112::u113::u114::u115::u116::u117::u118::u119::u120::u121::u122::u123::u124::u125::u126::u127::u128::u129::u130::u131::u132::u133::u134::u135::u136::u137::u138::u139::u140::u141::u142::u143::u144::u145::u146::u147::u148::u149::u150::u151::u152::u153::u154::u155::u156::u157::u158::u159::u160::u161::u162::u163::u164::u165::u166::u167::u168::u169::u170::u171::u172::u173::u174::u175::u176::u177::u178::u179::u180::u181::u182::u183::u184::u185::u186::u187::u188::u189::u190::u191::u192::u193::u194::u195::u196::u197::u198::u199::u200::u201::u202::u203::u204::u205::u206::u207::u208::u209::[]),[]⟩ w')
  (hp:PFit ps.length p) (hz:p.ins.length≤6000) (hpi:PIn 0 w h p) (hu:∀n ∈ p.ins,∀u ∈ fnUps ps n,u.loc=true→0≤u.idx∧u.idx<p.regs) (hul:∀n,(fnUps ps n).length≤1048576) (hv:ProtosAt 0 w cao ps)
  (hok:CfOk p c) (hcl:Closed p c none) (hal:a<p.ins.length) (hda:c.due.getD a false=true) (herr:∀e:Nat × Nat,roundF ps p c a=.error e→verF ps p pi=((e.1:Int),(pi:Int),(e.2:Int))) (W1:WkAt w cao ccap ps p h wr c) :
  Code.wp Tryz.prog pcTail Q ⟨List.toArray (c0::.int .i64 pi::.pointer (some ⟨w.heap.size,0,none⟩)::c3::c4::.pointer (some ⟨w.heap.size+1,0,none⟩)::.pointer (some ⟨w.heap.size+1+1,0,none⟩)::.slice (some ⟨w.heap.size+1+1+1,0,none⟩) p.ins.length p.ins.length::.slice (some ⟨w.heap.size+1+1+1+1,0,none⟩) p.ins.length p.ins.length::c9::c10::.int .i64 a::c12::c13::c14::c15::c16::c17::c18::c19::c20::c21::c22::c23::c24::c25::c26::c27::c28::c29::c30::c31::c32::c33::c34::c35::c36::c37::c38::c39::c40::c41::c42::c43::c44::c45::c46::c47::c48::c49::c50::c51::c52::c53::c54::c55::c56::c57::c58::c59::c60::c61::c62::c63::c64::c65::c66::c67::c68::c69::c70::c71::c72::c73::c74::c75::c76::c77::c78::c79::c80::c81::c82::c83::c84::c85::c86::c87::c88::c89::c90::c91::c92::c93::c94::c95::c96::c97::c98::c99::c100::c101::c102::c103::c104::c105::c106::c107::c108::c109::c110::c111::c112::c113::c114::c115::c116::c117::c118::c119::c120::c121::c122::c123::c124::c125::c126::c127::c128::c129::c130::c131::c132::c133::c134::c135::c136::c137::c138::c139::c140::c141::c142::c143::c144::c145::c146::c147::c148::c149::c150::c151::c152::c153::c154::c155::c156::c157::c158::c159::c160::c161::c162::c163::c164::c165::c166::c167::c168::c169::c170::c171::c172::c173::c174::c175::c176::c177::c178::c179::c180::c181::c182::c183::c184::c185::c186::c187::c188::c189::c190::c191::c192::c193::c194::c195::c196::c197::c198::c199::c200::c201::c202::c203::c204::c205::c206::c207::c208::c209::[]),[]⟩ wr:=by
 conv=>arg 2;whnf
 have hrg:=hp.regs
 have HP:Hid _:=hp
 have HPI:Hid (PIn 0 w h p):=hpi
 have HU:Hid _:=hu
 have HUL:Hid _:=hul
 have HV:Hid _:=hv
 have HOK:Hid _:=hok
 have HCL:Hid _:=hcl
 have HERR:Hid _:=herr
 have HQ:Hid _:=hq
 have HN:Hid _:=hn
 have k7:(a:Int)<p.ins.length:=by omega
 have hsl:Hid (c.sts.length=p.ins.length):=hok.lenS
 have da:=(W1.due.cell a).trans (boolArr_get (by rw [hok.lenD];exact hal))
 rw [hda] at da
 clear hp hpi hu hul hv hok hcl herr hq hn
 obtain⟨s,hs⟩:=Option.isSome_iff_exists.1 (HOK.out.due a hda)
 have hso:=HOK.out.ok a s hs
 obtain⟨n,hn⟩:=some_of_lt hal
 have HNF:Hid (InsFit ps.length p n):=HP.out.fit a n hn
 have HSE:Hid (c.sts[a]?=some (some s)):=by
  have hl:a<c.sts.length:=by rw [hsl.out];exact hal
  have:=hs
  unfold Cf.st at this
  rw [List.getD_eq_getElem?_getD,List.getElem?_eq_getElem hl] at this
  show _=_
  rw [List.getElem?_eq_getElem hl]
  simpa using this
 have HRF:Hid (roundF ps p c a=match stepF ps n a s with | .bad k=>.error (k,a) | .go l=>followF ⟨c.sts,c.due.set a false⟩ l):=by
  show _=_
  unfold roundF
  rw [hn,hs]
  rfl
 have HSO:Hid (StOk p s):=hso
 have HNI:Hid (p.ins[a]?=some n):=hn
 have HNX:Hid (nextB n=true→a+1<p.ins.length):=HP.out.next a n hn
 have HBADW:Hid (∀k:Nat,stepF ps n a s=.bad k→verF ps p pi=((k:Int),(pi:Int),(a:Int))):=by
  intro k hk
  refine HERR.out (k,a) ?_
  rw [HRF.out,hk]
 have W2:=W1.setDue (a:=a) false
 have da2:=W1.due.frozen a
 obtain⟨ib,iof,hio,_,hib0,_⟩:=HPI.out.ins a n hn
 obtain⟨ib',iof',hio',_,hib,q0,q1,q2,q3,q4⟩:=(HPI.out.ins.later (Keeps.of_below W1.below)) a n hn
 rw [hio] at hio'
 obtain⟨rfl,rfl⟩:ib=ib'∧iof=iof':=by simpa using hio'
 have hine:¬w.heap.size+1+1+1+1=ib:=by omega
 have hine2:¬ib=w.heap.size+1+1+1+1:=by omega
 have pc7:=W1.proto.cell 7
 have pc7b:=W2.proto.cell 7
 unfold Pd.cells at pc7 pc7b
 rw [hio] at pc7 pc7b
 have hdb:¬w.heap.size+1+1+1+1=w.heap.size+1+1:=by omega
 clear hio hio'
 have hst4:s.types.length≤250:=by have:=hso.len;omega
 clear hn hs hso hda
 obtain⟨op,na,nb,nc,nd⟩:=n
 dsimp only at q0 q1 q2 q3 q4
 have hwrs:(wr.setCell ⟨w.heap.size+1+1+1+1,a,none⟩ (.bool false)).heap.size=wr.heap.size:=size_set _ _ _
 have W3:=W2.later ((Below.refl _ _).alloc (Nat.le_refl _) (.cells #[.int .i64 op,.int .i64 na,.int .i64 nb,.int .i64 nc,.int .i64 nd] 93))
 have N3:=Blk.new (wr.setCell ⟨w.heap.size+1+1+1+1,a,none⟩ (.bool false)) #[.int .i64 op,.int .i64 na,.int .i64 nb,.int .i64 nc,.int .i64 nd] 93
 rw [hwrs] at N3
 obtain⟨to,tc,go,gc,s0,s1,s2,IT,IG⟩:=W3.sts.at_ a (some s) HSE.out
 dsimp only [stT,stG] at s1 s2 IT IG
 have hNB:=W3.lt
 have hnb1:(wr.setCell ⟨w.heap.size+1+1+1+1,a,none⟩ (.bool false)).alloc (.cells #[.int .i64 op,.int .i64 na,.int .i64 nb,.int .i64 nc,.int .i64 nd] 93)=(wr.setCell ⟨w.heap.size+1+1+1+1,a,none⟩ (.bool false)).alloc (.cells #[.int .i64 op,.int .i64 na,.int .i64 nb,.int .i64 nc,.int .i64 nd] 93):=rfl
 clear hnb1
 go_wp2_with fail
 have HLO:Hid (w.heap.size+1+1+1+1+1≤wr.heap.size):=W1.lt
 generalize hw2g:(wr.setCell ⟨w.heap.size+1+1+1+1,a,none⟩ (.bool false)).alloc (.cells #[.int .i64 op,.int .i64 na,.int .i64 nb,.int .i64 nc,.int .i64 nd] 93)=w2 at *
 have hw2s:wr.heap.size+1=w2.heap.size:=by rw [←hw2g];simp
 have HW2S:Hid _:=hw2s
 clear hw2g W1 W2 da da2 q0 q1 q2 q3 q4 pc7 pc7b hib hib0 hine hine2 hdb hwrs hw2s
 refine (l3copy_any to tc s.types w2 (by omega) (AllAt.lower IT (Nat.zero_le _))).mono ?_
 rintro e w3 ⟨v3,rfl,T3,hw3⟩
 have W4:=W3.later hw3
 have N4:=N3.later hw3
 have n4:=N4.cell
 have c4:=W4.code.cell 0
 obtain⟨vo,vc,rfl⟩:=owns_slice T3
 go_wp2_with fail
 have HT3:Hid _:=T3.lt
 have HNM:Hid ((⟨op,na,nb,nc,nd⟩:Nd) ∈ p.ins):=List.mem_of_getElem? HNI.out
 refine (l3read_any ps cao ccap p pi ⟨op,na,nb,nc,nd⟩ (.slice vo s.types.length vc) w2.heap.size s.types w w3 HNF.out HSO.out.len hrg.2 (HU.out _ HNM.out) (HUL.out _) HV.out W4.below (by have:=HW2S.out;have:=HLO.out;omega) T3).mono ?_
 rintro e w4 ⟨hrp,hg4⟩
 have hw4:Below w2.heap.size w2 w4:=hw3.grown hg4 hw3.size (fun k hk=>(HT3.out k hk).1)
 have W5:=W3.later hw4
 have N5:=N3.later hw4
 unfold ReadPost at hrp
 have hg4s:=hg4.size
 clear n4 c4 W4 N4 T3 hg4
 cases hrf:readF ps ⟨op,na,nb,nc,nd⟩ s.types with
 | none=>
  rw [hrf] at hrp
  obtain⟨u,rfl⟩:=hrp
  have HVF:Hid (verF ps p pi=(10,(pi:Int),(a:Int))):=HBADW.out 10 (by unfold stepF;rw [hrf])
  clear hrf
  go_wp2_with fail
  refine (l3fault_any _ _ _ _).mono ?_
  rintro e wf ⟨rfl,hwf⟩
  have WF:=W5.later hwf
  have cF:=WF.flt.cell
  have fF:=WF.flt.frozen
  go_wp2_with fail
  refine HQ.out _ _ (bodyPost_ret (v:=.tuple #[.slice none 0 0,.agg #[.int .i64 10,.int .i64 pi,.int .i64 a]]) ?_ rfl ⟨⟨.slice none 0 0,?_⟩,?_⟩)
  ·simp [results,Tryz.results22,go_sem,cF]
  ·rw [HVF.out];rfl
  ·iterate 3 (refine Below.setCell ?_ (by simp) _)
   exact WF.below
 | some tt=>
  obtain⟨t1,tk⟩:=tt
  rw [hrf] at hrp
  obtain⟨u,rfl,htk,K5,T5⟩:=hrp
  have HRD2:Hid _:=hrf
  have HG34:Hid (w3.heap.size≤w4.drew.heap.size):=hg4s
  obtain⟨uo,uc,rfl⟩:=owns_slice K5
  clear hrf
  have n5:=N5.cell
  obtain⟨to5,tc5,go5,gc5,s05,s15,s25,IT5,IG5⟩:=W5.sts.at_ a (some s) HSE.out
  dsimp only [stT,stG] at s15 s25 IT5 IG5
  have hgl5:s.guards.length≤50:=HSO.out.few
  have hD5:Below w4.heap.size w4 w4.drew:=(Below.refl _ _).drew
  have HCH:Hid _:=fun (W:World) (hb:Below w4.heap.size w4 W)=>l3change_any ⟨op,na,nb,nc,nd⟩ go5 gc5 s.guards.length s.guards W rfl hgl5 (AllAt.lower (IG5.later (Keeps.of_below hb)) (Nat.zero_le _))
  have k10:(a:Int)<p.ins.length:=by omega
  have n50:=N5.cell 0
  have n51:=N5.cell 1
  have n52:=N5.cell 2
  have n53:=N5.cell 3
  have n54:=N5.cell 4
  have hsbl:=W5.sts.own.lt
  have HDW:Hid _:=fun (W:World) (hb:Below w4.drew.heap.size w4.drew W)=>hD5.trans hb
  have HTK:Hid (tk.length≤4):=htk
  clear n5 htk
  cases hcf:changeF ⟨op,na,nb,nc,nd⟩ s.guards with
  | none=>
   have HVF:Hid (verF ps p pi=(11,(pi:Int),(a:Int))):=HBADW.out 11 (by unfold stepF;rw [HRD2.out];dsimp only;rw [hcf])
   rw [hcf] at HCH
   have HCH2:Hid (∀W,Below w4.heap.size w4 W→Calls Tryz.prog 48 #[.agg #[.int .i64 op,.int .i64 na,.int .i64 nb,.int .i64 nc,.int .i64 nd],.slice go5 s.guards.length gc5] W fun e w'=>(∃v,e=.returned (.tuple #[v,.bool false]))∧Below W.heap.size W w'):=HCH.out
   clear hcf HCH
   go_wp2_with fail
   go_region_held3 (fun w'=>w'.cell? ⟨wr.heap.size,0,none⟩=some (.int .i64 op)∧w'.cell? ⟨wr.heap.size,1,none⟩=some (.int .i64 na)∧w'.cell? ⟨wr.heap.size,2,none⟩=some (.int .i64 nb)∧w'.cell? ⟨wr.heap.size,3,none⟩=some (.int .i64 nc)∧w'.cell? ⟨wr.heap.size,4,none⟩=some (.int .i64 nd)∧w'.cell? ⟨w.heap.size+1+1+1,a*3+2,none⟩=some (.slice go5 s.guards.length gc5)) (go_keep)
    (first | (go_at_call 48;refine (HCH2.out w4.drew hD5).mono ?_;rintro e w5 ⟨⟨v5,rfl⟩,hw5⟩;have N6:=N5.later (HDW.out w5 hw5);have W6:=W5.later (HDW.out w5 hw5);have d0:=N6.cell 0;have d1:=N6.cell 1;have d2:=N6.cell 2;have d3:=N6.cell 3;have d4:=N6.cell 4;have d5:=(hw5.cell (p:=⟨w.heap.size+1+1+1,a*3+2,none⟩) hsbl).trans s25))
   clear d0 d1 d2 d3 d4 d5 n50 n51 n52 n53 n54 s05 s15 s25
   go_wp2_with fail
   refine (l3fault_any _ _ _ _).mono ?_
   rintro e wf ⟨rfl,hwf⟩
   have WF:=W6.later hwf
   have cF:=WF.flt.cell
   have fF:=WF.flt.frozen
   go_wp2_with fail
   refine HQ.out _ _ (bodyPost_ret (v:=.tuple #[.slice none 0 0,.agg #[.int .i64 11,.int .i64 pi,.int .i64 a]]) ?_ rfl ⟨⟨.slice none 0 0,?_⟩,?_⟩)
   ·simp [results,Tryz.results22,go_sem,cF]
   ·rw [HVF.out];rfl
   ·iterate 3 (refine Below.setCell ?_ (by simp) _)
    exact WF.below
  | some gs=>
   rw [hcf] at HCH
   have HCH2:Hid (∀W,Below w4.heap.size w4 W→Calls Tryz.prog 48 #[.agg #[.int .i64 op,.int .i64 na,.int .i64 nb,.int .i64 nc,.int .i64 nd],.slice go5 s.guards.length gc5] W fun e w'=>(∃ao cap,e=.returned (.tuple #[.slice ao gs.length cap,.bool true])∧GdsAt W.heap.size w' ao gs)∧Below W.heap.size W w'):=HCH.out
   have HCF:Hid _:=hcf
   clear hcf HCH
   go_wp2_with fail
   go_region_held3 (fun w'=>w'.cell? ⟨wr.heap.size,0,none⟩=some (.int .i64 op)∧w'.cell? ⟨wr.heap.size,1,none⟩=some (.int .i64 na)∧w'.cell? ⟨wr.heap.size,2,none⟩=some (.int .i64 nb)∧w'.cell? ⟨wr.heap.size,3,none⟩=some (.int .i64 nc)∧w'.cell? ⟨wr.heap.size,4,none⟩=some (.int .i64 nd)∧w'.cell? ⟨w.heap.size+1+1+1,a*3+2,none⟩=some (.slice go5 s.guards.length gc5)) (go_keep)
    (first | (go_at_call 48;refine (HCH2.out w4.drew hD5).mono ?_;rintro e w5 ⟨⟨gao,gcap,rfl,G5⟩,hw5⟩;have N6:=N5.later (HDW.out w5 hw5);have W6:=W5.later (HDW.out w5 hw5);have d0:=N6.cell 0;have d1:=N6.cell 1;have d2:=N6.cell 2;have d3:=N6.cell 3;have d4:=N6.cell 4;have d5:=(hw5.cell (p:=⟨w.heap.size+1+1+1,a*3+2,none⟩) hsbl).trans s25))
   have hw6:=HDW.out w5 hw5
   have T6:=owns_below T5 hw6
   have K6:=owns_below K5 hw6
   clear d5 n50 n51 n52 n53 n54 s05 s15 s25 hw5 HCH2
   have n6:=N6.cell
   clear d0 d1 d2 d3 d4
   go_wp2_with fail
   have HTL:Hid (t1.length=s.types.length):=readF_len HRD2.out
   have HWT:Hid ((writeT ⟨op,na,nb,nc,nd⟩ t1).length=s.types.length):=(writeT_len _ _).trans HTL.out
   have T6b:w5.ownsRow w2.heap.size 3 1 (.slice vo s.types.length vc) t1.length (ints t1):=by rw [HTL.out];exact T6
   refine (l3write_any ps.length p ⟨op,na,nb,nc,nd⟩ (.slice vo s.types.length vc) w2.heap.size t1 w5 HNF.out (by rw [HTL.out];exact HSO.out.len) hrg.2 T6b).mono ?_
   rintro e w6 ⟨rfl,T7,hg6⟩
   have B5:Below w2.heap.size w2 w5:=hw4.trans (hw6.mono hw4.size)
   have B7:Below w2.heap.size w2 w6:=B5.grown hg6 B5.size (fun k hk=>(HT3.out k hk).1)
   have W7:=W3.later B7
   have N7:=N3.later B7
   have K7:=owns_grown K6 hg6 (fun k hk e=>by have h1:=(K5.lt k hk).1;have h2:=(HT3.out k e.symm).2;omega)
   have hsz34:w3.heap.size≤w4.drew.heap.size:=HG34.out
   have HG24:Hid (w2.heap.size≤w4.drew.heap.size):=Nat.le_trans hw3.size HG34.out
   have G7:=G5.later (keeps_grown hg6 (fun k hk=>by have:=(HT3.out k hk).2;omega))
   rw [HTL.out] at T7
   obtain⟨to7,tc7,go7,gc7,s07,s17,s27,IT7,IG7⟩:=W7.sts.at_ a (some s) HSE.out
   dsimp only [stT,stG] at s17 s27 IT7 IG7
   have HD7:Below w6.heap.size w6 w6.drew:=(Below.refl _ _).drew
   obtain⟨kb,hkb⟩:∃kb,keptF ⟨op,na,nb,nc,nd⟩ s.guards tk s.types (writeT ⟨op,na,nb,nc,nd⟩ t1)=kb:=⟨_,rfl⟩
   have HKB:Hid _:=hkb
   have HKE:Hid _:=fun (W:World) (hb:Below w6.heap.size w6 W)=>l3kept_at op na nb nc nd p s tk (writeT ⟨op,na,nb,nc,nd⟩ t1) kb go7 uo to7 vo gc7 uc tc7 vc W HSO.out hrg.2 HTK.out HWT.out hkb (AllAt.lower (IG7.later (Keeps.of_below hb)) (Nat.zero_le _)) (AllAt.lower (owns_ints (owns_below K7 hb)).1 (Nat.zero_le _)) (AllAt.lower (IT7.later (Keeps.of_below hb)) (Nat.zero_le _)) (AllAt.lower (owns_ints (owns_below T7 hb)).1 (Nat.zero_le _))
   clear hkb
   have HDW7:Hid _:=fun (W:World) (hb:Below w6.drew.heap.size w6.drew W)=>HD7.trans hb
   have n70:=N7.cell 0
   have n71:=N7.cell 1
   have n72:=N7.cell 2
   have n73:=N7.cell 3
   have n74:=N7.cell 4
   have hsbl7:=W7.sts.own.lt
   clear n6 N6 W6 T6 T6b K6 G5 hg6 hw6 T5 W5 N5 IT5 IG5 hD5 HDW hsbl
   go_wp2_with fail
   go_region_held3 (fun w'=>w'.cell? ⟨wr.heap.size,0,none⟩=some (.int .i64 op)∧w'.cell? ⟨wr.heap.size,1,none⟩=some (.int .i64 na)∧w'.cell? ⟨wr.heap.size,2,none⟩=some (.int .i64 nb)∧w'.cell? ⟨wr.heap.size,3,none⟩=some (.int .i64 nc)∧w'.cell? ⟨wr.heap.size,4,none⟩=some (.int .i64 nd)∧w'.cell? ⟨w.heap.size+1+1+1,a*3+1,none⟩=some (.slice to7 s.types.length tc7)∧w'.cell? ⟨w.heap.size+1+1+1,a*3+2,none⟩=some (.slice go7 s.guards.length gc7)) (go_keep)
    (first | (go_at_call 50;refine (HKE.out w6.drew HD7).mono ?_;rintro e w8 ⟨rfl,hw8⟩;have N8:=N7.later (HDW7.out w8 hw8);have W8:=W7.later (HDW7.out w8 hw8);have d0:=N8.cell 0;have d1:=N8.cell 1;have d2:=N8.cell 2;have d3:=N8.cell 3;have d4:=N8.cell 4;have d5:=(hw8.cell (p:=⟨w.heap.size+1+1+1,a*3+1,none⟩) hsbl7).trans s17;have d6:=(hw8.cell (p:=⟨w.heap.size+1+1+1,a*3+2,none⟩) hsbl7).trans s27))
   have B8:=HDW7.out w8 hw8
   have T8:=owns_below T7 B8
   have G8:=G7.later (Keeps.of_below B8)
   clear d0 d1 d2 d3 d4 d5 d6 n70 n71 n72 n73 n74 s07 s17 s27 IT7 IG7 HKE HDW7 hw8 N7 W7 T7 K7 G7
   cases kb
   ·have HVF:Hid (verF ps p pi=(12,(pi:Int),(a:Int))):=HBADW.out 12 (by unfold stepF;rw [HRD2.out];dsimp only;rw [HCF.out];dsimp only;rw [HKB.out];rfl)
    go_wp2_with fail
    refine (l3fault_any _ _ _ _).mono ?_
    rintro e wf ⟨rfl,hwf⟩
    have WF:=W8.later hwf
    have cF:=WF.flt.cell
    have fF:=WF.flt.frozen
    go_wp2_with fail
    refine HQ.out _ _ (bodyPost_ret (v:=.tuple #[.slice none 0 0,.agg #[.int .i64 12,.int .i64 pi,.int .i64 a]]) ?_ rfl ⟨⟨.slice none 0 0,?_⟩,?_⟩)
    ·simp [results,Tryz.results22,go_sem,cF]
    ·rw [HVF.out];rfl
    ·iterate 3 (refine Below.setCell ?_ (by simp) _)
     exact WF.below
   ·have HGO:Hid (stepF ps ⟨op,na,nb,nc,nd⟩ a s=.go (folF ⟨op,na,nb,nc,nd⟩ a s (writeT ⟨op,na,nb,nc,nd⟩ t1) gs)):=by
     show _=_
     unfold stepF;rw [HRD2.out];dsimp only;rw [HCF.out];dsimp only;rw [HKB.out];rfl
    have B9:=B7.trans (B8.mono B7.size)
    have HLO9:Hid (w.heap.size+1+1+1+1+1≤w2.heap.size):=by have:=HW2S.out;have:=HLO.out;show _≤_;omega
    obtain⟨to9,tc9,go9,gc9,s09,s19,s29,IT9,IG9⟩:=W8.sts.at_ a (some s) HSE.out
    dsimp only [stT,stG] at s19 s29 IT9 IG9
    have I9:IntsAt (w.heap.size+1+1+1+1+1) w8 vo (writeT ⟨op,na,nb,nc,nd⟩ t1):=AllAt.lower (owns_ints T8).1 HLO9.out
    have G9:GdsAt (w.heap.size+1+1+1+1+1) w8 gao gs:=AllAt.lower G8 (Nat.le_trans HLO9.out HG24.out)
    have HPI9:Hid _:=fun (W:World) (hb:Below w8.heap.size w8 W)=>l3followers_at p h a (w.heap.size+1+1+1+1+1) ps.length op na nb nc nd to9 go9 vo gao tc9 gc9 vc gcap s (writeT ⟨op,na,nb,nc,nd⟩ t1) gs W HNI.out hz HNF.out hrg.2 HSO.out HWT.out (HPI.out.ins.later (Keeps.of_below (W8.below.trans (hb.mono W8.below.size)))) (Nat.le_trans (Nat.le_trans HLO9.out B9.size) hb.size) (IT9.later (Keeps.of_below hb)) (IG9.later (Keeps.of_below hb)) (I9.later (Keeps.of_below hb)) (G9.later (Keeps.of_below hb))
    have hD9:Below w8.heap.size w8 w8.drew:=(Below.refl _ _).drew
    have HDW9:Hid _:=fun (W:World) (hb:Below w8.drew.heap.size w8.drew W)=>hD9.trans hb
    obtain⟨p0,p1,p2,p3,p4,p5,p6,p7,p8⟩:=proto9 W8.proto
    have hsbl9:=W8.sts.own.lt
    generalize hfl:folF ⟨op,na,nb,nc,nd⟩ a s (writeT ⟨op,na,nb,nc,nd⟩ t1) gs=fl at HPI9 HGO
    have HFL:Hid _:=hfl
    clear hfl
    go_wp2_with fail
    go_region_held3 (fun w'=>w'.cell? ⟨w.heap.size+1+1,0,none⟩=some (.string p.name)∧w'.cell? ⟨w.heap.size+1+1,1,none⟩=some (.int .i64 p.line)∧w'.cell? ⟨w.heap.size+1+1,2,none⟩=some (.int .i64 p.params)∧w'.cell? ⟨w.heap.size+1+1,3,none⟩=some (.bool p.rest)∧w'.cell? ⟨w.heap.size+1+1,4,none⟩=some (.int .i64 p.regs)∧w'.cell? ⟨w.heap.size+1+1,5,none⟩=some (.slice h.uo p.ups.length h.uc)∧w'.cell? ⟨w.heap.size+1+1,6,none⟩=some (.slice h.co p.consts.length h.cc)∧w'.cell? ⟨w.heap.size+1+1,7,none⟩=some (.slice h.io p.ins.length h.ic)∧w'.cell? ⟨w.heap.size+1+1,8,none⟩=some (.slice h.no p.named.length h.nc)∧w'.cell? ⟨w.heap.size+1+1+1,a*3,none⟩=some (.bool true)∧w'.cell? ⟨w.heap.size+1+1+1,a*3+1,none⟩=some (.slice to9 s.types.length tc9)∧w'.cell? ⟨w.heap.size+1+1+1,a*3+2,none⟩=some (.slice go9 s.guards.length gc9)) (first | exact ⟨p0,p1,p2,p3,p4,p5,p6,p7,p8,s09,s19,s29⟩ | exact ⟨e0,e1,e2,e3,e4,e5,e6,e7,e8,d4,d5,d6⟩ | (go_keep;done))
     (first | (go_at_call 51;refine (HPI9.out w8.drew hD9).mono ?_;rintro e w9 ⟨⟨fo,fc,rfl,F9⟩,hw9⟩;have W9:=W8.later (HDW9.out w9 hw9);obtain ⟨e0,e1,e2,e3,e4,e5,e6,e7,e8⟩:=proto9 W9.proto;have d4:=(hw9.cell (p:=⟨w.heap.size+1+1+1,a*3,none⟩) hsbl9).trans s09;have d5:=(hw9.cell (p:=⟨w.heap.size+1+1+1,a*3+1,none⟩) hsbl9).trans s19;have d6:=(hw9.cell (p:=⟨w.heap.size+1+1+1,a*3+2,none⟩) hsbl9).trans s29))
    have B10:=B9.trans ((HDW9.out w9 hw9).mono B9.size)
    have HLO10:=HLO9.out
    clear e0 e1 e2 e3 e4 e5 e6 e7 e8 p0 p1 p2 p3 p4 p5 p6 p7 p8 d4 d5 d6 s09 s19 s29 IT9 IG9 I9 G9 HPI9 HDW9 hw9 W8 N8 T8 G8 hsbl9 hD9
    have HFO:Hid (FolOk p fl):=by
     have h1:=(step_ok HNF.out HNX.out HSO.out HGO.out).1
     exact h1
    have hfl2:fl.length≤2:=by rw [←HFL.out];exact folF_len _ _ _ _ _
    have HCO:Hid _:=(cleared_ok (i:=a) HOK.out HCL.out).1
    have HE13:Hid (∀x:Nat,followF ⟨c.sts,c.due.set a false⟩ fl=.error (13,x)→verF ps p pi=(13,(pi:Int),(x:Int))):=by
     intro x hx
     refine HERR.out (13,x) ?_
     rw [HRF.out,HGO.out]
     exact hx
    have HOKR:Hid (∀c':Cf,followF ⟨c.sts,c.due.set a false⟩ fl=.ok c'→roundF ps p c a=.ok c'):=by
     intro c' hx
     rw [HRF.out,HGO.out]
     exact hx
    go_wp2_with fail
    refine walk_fols ps pi p h cao ccap ⟨c.sts,c.due.set a false⟩ fl fo fc w w9 _ _ _ _ _ _ _ _ _ _ _ _ _ _ _ _ _ _ _ _ _ _ _ _ _ _ _ _ _ _ _ _ _ _ _ _ _ _ _ _ _ _ _ _ _ _ _ _ _ _ _ _ _ _ _ _ _ _ _ _ _ _ _ _ _ _ _ _ _ _ _ _ _ _ _ _ _ _ _ _ _ _ _ _ _ _ _ _ _ _ _ _ _ _ _ _ _ _ _ _ _ _ _ _ _ _ _ _ _ _ _ _ _ _ _ _ _ _ _ _ _ _ _ _ _ _ _ _ _ _ _ _ _ _ _ _ _ _ _ _ _ _ _ _ _ _ _ _ _ _ _ _ _ _ _ _ _ _ _ _ _ _ _ _ _ _ _ _ _ _ _ _ _ _ _ _ _ _ _ _ _ _ _ _ _ _ _ _ _ _ _ _ _ _ _ _ _ _ _ _ _ _ _ _ HQ.out ?_ hrg.2 hz HCO.out HFO.out hfl2 HE13.out W9 F9
    intro v4 v19 v168 v169 v170 v171 v172 v173 v174 v175 v176 v177 v178 v179 v180 v181 v182 v183 v184 v185 v186 v187 v188 v189 v190 v191 v192 v193 v194 v195 v196 v197 v198 v199 v200 v201 v202 v203 v204 v205 v206 v207 v208 v209 w' c' hf hw'
    exact HN.out _ _ _ _ _ _ _ _ _ _ _ _ _ _ _ _ _ _ _ _ _ _ _ _ _ _ _ _ _ _ _ _ _ _ _ _ _ _ _ _ _ _ _ _ _ _ _ _ _ _ _ _ _ _ _ _ _ _ _ _ _ _ _ _ _ _ _ _ _ _ _ _ _ _ _ _ _ _ _ _ _ _ _ _ _ _ _ _ _ _ _ _ _ _ _ _ _ _ _ _ _ _ _ _ _ _ _ _ _ _ _ _ _ _ _ _ _ _ _ _ _ _ w' c' (HOKR.out c' hf) hw'
end Go.Proofs.YtaakadmnhpboiaaGreatDoor
