import Derived.Test.YtgopdffmnikhdaaGreatDoorT23
namespace Go.Proofs.YtgopdffmnikhdaaGreatDoor
open Go.RowKit Go.Deep
def Passed (ps:List Pd) (i:Nat):Prop:=
 sizeB ps=true∧(1≤i→firstP headP 0 ps=none)∧(2≤i→firstP constP 0 ps=none)∧(3≤i→firstP namedP 0 ps=none)∧(4≤i→firstP (insP ps.length) 0 ps=none)
def Looks (f:Nat) (g:Nat→Pd→Option Nat) (ao:Option Addr) (cap:Nat) (ps:List Pd) (w:World):Prop:=
 ∀(k:Nat) (p:Pd) (W:World),ps[k]?=some p→Below w.heap.size w W→Calls Tryz.prog f #[.agg #[.slice ao ps.length cap],.int .i64 k] W fun e w'=>
  ∃at_:Int,e=.returned (.tuple #[.int .i64 at_,.bool (g k p).isNone])∧(∀j,g k p=some j→at_=j)∧Below W.heap.size W w'
theorem looks_head {ao:Option Addr} {cap:Nat} {ps:List Pd} {w:World} (hfi:Fine ps) (hl:ps.length≤1048576) (hv:ProtosAt 0 w ao ps):Looks 245 headP ao cap ps w:=by
 intro k p W hk hb
 refine (checkHead_any ao cap ps k p W hk (hfi.few p (List.mem_of_getElem? hk)) hl (hv.later (Keeps.of_below hb))).mono ?_
 rintro e w' ⟨rfl,hw⟩
 refine⟨0,?_,?_,hw⟩
 ·unfold headP;cases headOk p k <;> rfl
 ·intro j hj;unfold headP at hj;split at hj <;> simp at hj;omega
theorem looks_bad {o:Option Nat} : ∃at_:Int,badT o=.tuple #[.int .i64 at_,.bool o.isNone]∧∀j,o=some j→at_=j:=by
 cases o with
 | none=>exact ⟨0,rfl,fun j h=>by cases h⟩
 | some i=>exact ⟨i,rfl,fun j h=>by cases h;rfl⟩
theorem looks_consts {ao:Option Addr} {cap:Nat} {ps:List Pd} {w:World} (hfi:Fine ps) (hv:ProtosAt 0 w ao ps):Looks 246 constP ao cap ps w:=by
 intro k p W hk hb
 refine (checkConsts_any ao cap ps k p W hk (hfi.few p (List.mem_of_getElem? hk)) (hfi.flts p (List.mem_of_getElem? hk)) (hv.later (Keeps.of_below hb))).mono ?_
 rintro e w' ⟨rfl,hw⟩
 obtain⟨a,h1,h2⟩:=@looks_bad (constP k p)
 exact⟨a,by rw [←h1];rfl,h2,hw⟩
theorem looks_named {ao:Option Addr} {cap:Nat} {ps:List Pd} {w:World} (hfi:Fine ps) (hr:∀p ∈ ps,0≤p.regs∧p.regs≤250) (hv:ProtosAt 0 w ao ps):Looks 247 namedP ao cap ps w:=by
 intro k p W hk hb
 refine (checkNamed_any ao cap ps k p W hk (hfi.few p (List.mem_of_getElem? hk)) (hr p (List.mem_of_getElem? hk)) (hv.later (Keeps.of_below hb))).mono ?_
 rintro e w' ⟨rfl,hw⟩
 obtain⟨a,h1,h2⟩:=@looks_bad (namedP k p)
 exact⟨a,by rw [←h1];rfl,h2,hw⟩
theorem looks_ins {ao:Option Addr} {cap:Nat} {ps:List Pd} {w:World} (hfi:Fine ps) (hl:ps.length≤1048576) (hr:∀p ∈ ps,0≤p.regs∧p.regs≤250) (hF:Forms w) (hv:ProtosAt 0 w ao ps):Looks 248 (insP ps.length) ao cap ps w:=by
 intro k p W hk hb
 refine (checkInstructions_any ao cap ps k p W hk (hfi.few p (List.mem_of_getElem? hk)) hl (hfi.nds p (List.mem_of_getElem? hk)) (hr p (List.mem_of_getElem? hk)) (hF.later hb) (hv.later (Keeps.of_below hb))).mono ?_
 rintro e w' ⟨⟨a,rfl,h2⟩,hw⟩
 exact⟨a,rfl,h2,hw⟩
set_option maxRecDepth 100000 in
set_option maxHeartbeats 8000000 in
theorem checkShape_any (ao:Option Addr) (cap:Nat) (ps:List Pd) (w:World) (hfi:Fine ps) (hF:Forms w) (hv:ProtosAt 0 w ao ps) :
  Calls Tryz.prog 190 #[.agg #[.slice ao ps.length cap]] w fun e w'=>e=.returned (faultV (shapeF ps))∧Below w.heap.size w w':=by
 have hl:ps.length≤1048576:=by have:=hfi.bulk;unfold bulkPs at this;omega
 have hb2:∀o1 o2,Below w.heap.size w ((w.alloc o1).alloc o2):=fun o1 o2=>((Below.refl _ _).alloc (Nat.le_refl _) o1).alloc (by simp) o2
 have C0:=(Blk.new w #[.slice ao ps.length cap] 26).alloc (.cells #[.int .i64 0,.int .i64 0,.int .i64 0] 143)
 have R0:=Blk.new (w.alloc (.cells #[.slice ao ps.length cap] 26)) #[.int .i64 0,.int .i64 0,.int .i64 0] 143
 rw [nblk_alloc] at R0
 go_enter Tryz.func190,Tryz.ntmps190
 go_wp2_with fail
 refine (sizesFit_any ao cap ps _ hfi.bulk (hv.later (Keeps.of_below (hb2 _ _)))).mono ?_
 rintro e w1 ⟨rfl,hw1⟩
 have B1:=(hb2 _ _).trans (hw1.mono (by simp;omega))
 have C1:=C0.later hw1
 have R1:=R0.later hw1
 clear C0 R0 hw1
 cases hsz:sizeB ps
 ·have HV:Hid (shapeF ps=(1,0,0)):=by show _=_;unfold shapeF;rw [hsz];rfl
  have c1:=R1.cell
  have f1:=R1.frozen
  clear hv hF hfi
  go_wp2_with fail
  refine bodyPost_ret (v:=.agg #[.int .i64 1,.int .i64 0,.int .i64 0]) ?_ rfl ⟨?_,?_⟩
  ·simp [results,Tryz.results190,go_sem,c1]
  ·rw [HV.out];rfl
  ·iterate 3 (refine Below.setCell ?_ (by simp;try omega) _)
   exact B1
 ·have HP:Hid (Passed ps 0):=⟨hsz,by omega,by omega,by omega,by omega⟩
  have hszl:1≤ps.length:=by unfold sizeB at hsz;simp [inR] at hsz;omega
  have c1:=C1.cell 0
  clear hsz
  have B2:=B1.alloc B1.size (.cells #[.func (.func 245) #[] #[],.func (.func 246) #[] #[],.func (.func 247) #[] #[],.func (.func 248) #[] #[]] 308)
  have C2:=C1.alloc (.cells #[.func (.func 245) #[] #[],.func (.func 246) #[] #[],.func (.func 247) #[] #[],.func (.func 248) #[] #[]] 308)
  have R2:=R1.alloc (.cells #[.func (.func 245) #[] #[],.func (.func 246) #[] #[],.func (.func 247) #[] #[],.func (.func 248) #[] #[]] 308)
  have F2:=Blk.new w1 #[.func (.func 245) #[] #[],.func (.func 246) #[] #[],.func (.func 247) #[] #[],.func (.func 248) #[] #[]] 308
  have hFB:w.heap.size+1<w1.heap.size:=R1.lt
  clear B1 C1 R1
  go_wp2_with fail
  clear c1
  generalize hg:w1.heap.size=FB at *
  clear hg
  go_loopw [16] (fun y wr=>∃i:Nat,i≤4∧y=.int .i64 i∧Hid (Passed ps i)∧Below w.heap.size w wr∧Blk wr w.heap.size #[.slice ao ps.length cap] 26∧Blk wr (w.heap.size+1) #[.int .i64 0,.int .i64 0,.int .i64 0] 143∧Blk wr FB #[.func (.func 245) #[] #[],.func (.func 246) #[] #[],.func (.func 247) #[] #[],.func (.func 248) #[] #[]] 308) (fun y _=>4 - (intOf y).toNat)
  case atStart=>exact ⟨0,by omega,rfl,HP,B2,C2,R2,F2⟩
  case round=>
   obtain⟨i,hi,rfl,HPi,hb,C3,R3,F3⟩:=hrel
   clear B2 C2 R2 F2 HP
   rcases (by omega:i=0∨i=1∨i=2∨i=3∨i=4) with rfl | rfl | rfl | rfl | rfl
   ·have c3:=C3.cell 0
    have f3:=F3.cell
    have HK:Hid (Looks 245 headP ao cap ps w):=looks_head hfi hl hv
    go_wp2_with fail
    clear c3 f3
    go_loopw [24] (fun y wi=>∃k:Nat,k≤ps.length∧y=.int .i64 k∧Hid (firstP headP k (ps.drop k)=firstP headP 0 ps)∧Below w.heap.size w wi∧Blk wi w.heap.size #[.slice ao ps.length cap] 26∧Blk wi (w.heap.size+1) #[.int .i64 0,.int .i64 0,.int .i64 0] 143∧Blk wi FB #[.func (.func 245) #[] #[],.func (.func 246) #[] #[],.func (.func 247) #[] #[],.func (.func 248) #[] #[]] 308) (fun y _=>ps.length - (intOf y).toNat)
    case atStart=>exact ⟨0,Nat.zero_le _,rfl,rfl,hb,C3,R3,F3⟩
    case round=>
     obtain⟨k,hk,rfl,HQ,hb4,C4,R4,F4⟩:=hrel
     clear hb C3 R3 F3
     by_cases hkl:k<ps.length
     ·obtain⟨p,hpk⟩:=some_of_lt hkl
      have HD:Hid (firstP headP 0 ps=_):=HQ.out.symm.trans (firstP_drop hpk)
      have c4:=C4.cell 0
      go_wp2_with fail
      refine (HK.out k p _ hpk hb4).mono ?_
      rintro e w5 ⟨at_,rfl,hat,hw5⟩
      have B5:=hb4.trans (hw5.mono hb4.size)
      have C5:=C4.later hw5
      have R5:=R4.later hw5
      have F5:=F4.later hw5
      clear c4 C4 R4 F4 hw5 hb4
      cases ho:(headP) k p with
      | some j=>
       obtain rfl:=hat j ho
       have HV:Hid (shapeF ps=(2,(k:Int),(j:Int))):=by
        have h1:=HD.out
        rw [ho] at h1
        have h2:=HPi.out
        unfold Passed at h2
        show _=_
        unfold shapeF
        rw [h2.1,h1];rfl
       clear ho hat HK HPi HQ HD
       have c5:=R5.cell
       have g5:=R5.frozen
       rw [Option.isNone_some]
       go_wp2_with fail
       refine bodyPost_ret (v:=.agg #[.int .i64 2,.int .i64 k,.int .i64 j]) ?_ rfl ⟨?_,?_⟩
       ·simp [results,Tryz.results190,go_sem,c5]
       ·rw [HV.out];rfl
       ·iterate 3 (refine Below.setCell ?_ (by simp;try omega) _)
        exact B5
      | none=>
       have HN:Hid (firstP headP (k+1) (ps.drop (k+1))=firstP headP 0 ps):=by
        have h1:=HD.out
        rw [ho] at h1
        exact h1.symm
       clear ho hat HQ HD
       rw [Option.isNone_none]
       go_wp2_with fail
       go_roundw
       case rel=>first | exact ⟨k+1,by omega,by go_num,HN.out,B5,C5,R5,F5⟩ | ((repeat apply Exists.intro);exact ⟨⟨k+1,by omega,by go_num,HN.out,B5,C5,R5,F5⟩,rfl⟩)
       case measure=>simp [intOf];omega
     ·have HN:firstP headP 0 ps=none:=by
       have h1:=HQ.out
       rw [List.drop_of_length_le (by omega)] at h1
       exact h1.symm
      have HP2:Hid (Passed ps 1):=by
       have h2:=HPi.out
       unfold Passed at h2
       exact⟨h2.1,fun _=>HN,fun h=>by omega,fun h=>by omega,fun h=>by omega⟩
      clear HN HQ HK
      go_wp2_with fail
      go_roundw
      case rel=>exact ⟨1,by omega,rfl,HP2,hb4,C4,R4,F4⟩
      case measure=>simp [intOf]
   ·have c3:=C3.cell 0
    have f3:=F3.cell
    have HK:Hid (Looks 246 constP ao cap ps w):=looks_consts hfi hv
    go_wp2_with fail
    clear c3 f3
    go_loopw [24] (fun y wi=>∃k:Nat,k≤ps.length∧y=.int .i64 k∧Hid (firstP constP k (ps.drop k)=firstP constP 0 ps)∧Below w.heap.size w wi∧Blk wi w.heap.size #[.slice ao ps.length cap] 26∧Blk wi (w.heap.size+1) #[.int .i64 0,.int .i64 0,.int .i64 0] 143∧Blk wi FB #[.func (.func 245) #[] #[],.func (.func 246) #[] #[],.func (.func 247) #[] #[],.func (.func 248) #[] #[]] 308) (fun y _=>ps.length - (intOf y).toNat)
    case atStart=>exact ⟨0,Nat.zero_le _,rfl,rfl,hb,C3,R3,F3⟩
    case round=>
     obtain⟨k,hk,rfl,HQ,hb4,C4,R4,F4⟩:=hrel
     clear hb C3 R3 F3
     by_cases hkl:k<ps.length
     ·obtain⟨p,hpk⟩:=some_of_lt hkl
      have HD:Hid (firstP constP 0 ps=_):=HQ.out.symm.trans (firstP_drop hpk)
      have c4:=C4.cell 0
      go_wp2_with fail
      refine (HK.out k p _ hpk hb4).mono ?_
      rintro e w5 ⟨at_,rfl,hat,hw5⟩
      have B5:=hb4.trans (hw5.mono hb4.size)
      have C5:=C4.later hw5
      have R5:=R4.later hw5
      have F5:=F4.later hw5
      clear c4 C4 R4 F4 hw5 hb4
      cases ho:(constP) k p with
      | some j=>
       obtain rfl:=hat j ho
       have HV:Hid (shapeF ps=(3,(k:Int),(j:Int))):=by
        have h1:=HD.out
        rw [ho] at h1
        have h2:=HPi.out
        unfold Passed at h2
        show _=_
        unfold shapeF
        rw [h2.1,h2.2.1 (by omega),h1];rfl
       clear ho hat HK HPi HQ HD
       have c5:=R5.cell
       have g5:=R5.frozen
       rw [Option.isNone_some]
       go_wp2_with fail
       refine bodyPost_ret (v:=.agg #[.int .i64 3,.int .i64 k,.int .i64 j]) ?_ rfl ⟨?_,?_⟩
       ·simp [results,Tryz.results190,go_sem,c5]
       ·rw [HV.out];rfl
       ·iterate 3 (refine Below.setCell ?_ (by simp;try omega) _)
        exact B5
      | none=>
       have HN:Hid (firstP constP (k+1) (ps.drop (k+1))=firstP constP 0 ps):=by
        have h1:=HD.out
        rw [ho] at h1
        exact h1.symm
       clear ho hat HQ HD
       rw [Option.isNone_none]
       go_wp2_with fail
       go_roundw
       case rel=>first | exact ⟨k+1,by omega,by go_num,HN.out,B5,C5,R5,F5⟩ | ((repeat apply Exists.intro);exact ⟨⟨k+1,by omega,by go_num,HN.out,B5,C5,R5,F5⟩,rfl⟩)
       case measure=>simp [intOf];omega
     ·have HN:firstP constP 0 ps=none:=by
       have h1:=HQ.out
       rw [List.drop_of_length_le (by omega)] at h1
       exact h1.symm
      have HP2:Hid (Passed ps 2):=by
       have h2:=HPi.out
       unfold Passed at h2
       exact⟨h2.1,fun _=>h2.2.1 (by omega),fun _=>HN,fun h=>by omega,fun h=>by omega⟩
      clear HN HQ HK
      go_wp2_with fail
      go_roundw
      case rel=>exact ⟨2,by omega,rfl,HP2,hb4,C4,R4,F4⟩
      case measure=>simp [intOf]
   ·have c3:=C3.cell 0
    have f3:=F3.cell
    have HK:Hid (Looks 247 namedP ao cap ps w):=looks_named hfi (regs_of_heads (HPi.out.2.1 (by omega))) hv
    go_wp2_with fail
    clear c3 f3
    go_loopw [24] (fun y wi=>∃k:Nat,k≤ps.length∧y=.int .i64 k∧Hid (firstP namedP k (ps.drop k)=firstP namedP 0 ps)∧Below w.heap.size w wi∧Blk wi w.heap.size #[.slice ao ps.length cap] 26∧Blk wi (w.heap.size+1) #[.int .i64 0,.int .i64 0,.int .i64 0] 143∧Blk wi FB #[.func (.func 245) #[] #[],.func (.func 246) #[] #[],.func (.func 247) #[] #[],.func (.func 248) #[] #[]] 308) (fun y _=>ps.length - (intOf y).toNat)
    case atStart=>exact ⟨0,Nat.zero_le _,rfl,rfl,hb,C3,R3,F3⟩
    case round=>
     obtain⟨k,hk,rfl,HQ,hb4,C4,R4,F4⟩:=hrel
     clear hb C3 R3 F3
     by_cases hkl:k<ps.length
     ·obtain⟨p,hpk⟩:=some_of_lt hkl
      have HD:Hid (firstP namedP 0 ps=_):=HQ.out.symm.trans (firstP_drop hpk)
      have c4:=C4.cell 0
      go_wp2_with fail
      refine (HK.out k p _ hpk hb4).mono ?_
      rintro e w5 ⟨at_,rfl,hat,hw5⟩
      have B5:=hb4.trans (hw5.mono hb4.size)
      have C5:=C4.later hw5
      have R5:=R4.later hw5
      have F5:=F4.later hw5
      clear c4 C4 R4 F4 hw5 hb4
      cases ho:(namedP) k p with
      | some j=>
       obtain rfl:=hat j ho
       have HV:Hid (shapeF ps=(4,(k:Int),(j:Int))):=by
        have h1:=HD.out
        rw [ho] at h1
        have h2:=HPi.out
        unfold Passed at h2
        show _=_
        unfold shapeF
        rw [h2.1,h2.2.1 (by omega),h2.2.2.1 (by omega),h1];rfl
       clear ho hat HK HPi HQ HD
       have c5:=R5.cell
       have g5:=R5.frozen
       rw [Option.isNone_some]
       go_wp2_with fail
       refine bodyPost_ret (v:=.agg #[.int .i64 4,.int .i64 k,.int .i64 j]) ?_ rfl ⟨?_,?_⟩
       ·simp [results,Tryz.results190,go_sem,c5]
       ·rw [HV.out];rfl
       ·iterate 3 (refine Below.setCell ?_ (by simp;try omega) _)
        exact B5
      | none=>
       have HN:Hid (firstP namedP (k+1) (ps.drop (k+1))=firstP namedP 0 ps):=by
        have h1:=HD.out
        rw [ho] at h1
        exact h1.symm
       clear ho hat HQ HD
       rw [Option.isNone_none]
       go_wp2_with fail
       go_roundw
       case rel=>first | exact ⟨k+1,by omega,by go_num,HN.out,B5,C5,R5,F5⟩ | ((repeat apply Exists.intro);exact ⟨⟨k+1,by omega,by go_num,HN.out,B5,C5,R5,F5⟩,rfl⟩)
       case measure=>simp [intOf];omega
     ·have HN:firstP namedP 0 ps=none:=by
       have h1:=HQ.out
       rw [List.drop_of_length_le (by omega)] at h1
       exact h1.symm
      have HP2:Hid (Passed ps 3):=by
       have h2:=HPi.out
       unfold Passed at h2
       exact⟨h2.1,fun _=>h2.2.1 (by omega),fun _=>h2.2.2.1 (by omega),fun _=>HN,fun h=>by omega⟩
      clear HN HQ HK
      go_wp2_with fail
      go_roundw
      case rel=>exact ⟨3,by omega,rfl,HP2,hb4,C4,R4,F4⟩
      case measure=>simp [intOf]
   ·have c3:=C3.cell 0
    have f3:=F3.cell
    have HK:Hid (Looks 248 (insP ps.length) ao cap ps w):=looks_ins hfi hl (regs_of_heads (HPi.out.2.1 (by omega))) hF hv
    go_wp2_with fail
    clear c3 f3
    go_loopw [24] (fun y wi=>∃k:Nat,k≤ps.length∧y=.int .i64 k∧Hid (firstP (insP ps.length) k (ps.drop k)=firstP (insP ps.length) 0 ps)∧Below w.heap.size w wi∧Blk wi w.heap.size #[.slice ao ps.length cap] 26∧Blk wi (w.heap.size+1) #[.int .i64 0,.int .i64 0,.int .i64 0] 143∧Blk wi FB #[.func (.func 245) #[] #[],.func (.func 246) #[] #[],.func (.func 247) #[] #[],.func (.func 248) #[] #[]] 308) (fun y _=>ps.length - (intOf y).toNat)
    case atStart=>exact ⟨0,Nat.zero_le _,rfl,rfl,hb,C3,R3,F3⟩
    case round=>
     obtain⟨k,hk,rfl,HQ,hb4,C4,R4,F4⟩:=hrel
     clear hb C3 R3 F3
     by_cases hkl:k<ps.length
     ·obtain⟨p,hpk⟩:=some_of_lt hkl
      have HD:Hid (firstP (insP ps.length) 0 ps=_):=HQ.out.symm.trans (firstP_drop hpk)
      have c4:=C4.cell 0
      go_wp2_with fail
      refine (HK.out k p _ hpk hb4).mono ?_
      rintro e w5 ⟨at_,rfl,hat,hw5⟩
      have B5:=hb4.trans (hw5.mono hb4.size)
      have C5:=C4.later hw5
      have R5:=R4.later hw5
      have F5:=F4.later hw5
      clear c4 C4 R4 F4 hw5 hb4
      cases ho:((insP ps.length)) k p with
      | some j=>
       obtain rfl:=hat j ho
       have HV:Hid (shapeF ps=(5,(k:Int),(j:Int))):=by
        have h1:=HD.out
        rw [ho] at h1
        have h2:=HPi.out
        unfold Passed at h2
        show _=_
        unfold shapeF
        rw [h2.1,h2.2.1 (by omega),h2.2.2.1 (by omega),h2.2.2.2.1 (by omega),h1];rfl
       clear ho hat HK HPi HQ HD
       have c5:=R5.cell
       have g5:=R5.frozen
       rw [Option.isNone_some]
       go_wp2_with fail
       refine bodyPost_ret (v:=.agg #[.int .i64 5,.int .i64 k,.int .i64 j]) ?_ rfl ⟨?_,?_⟩
       ·simp [results,Tryz.results190,go_sem,c5]
       ·rw [HV.out];rfl
       ·iterate 3 (refine Below.setCell ?_ (by simp;try omega) _)
        exact B5
      | none=>
       have HN:Hid (firstP (insP ps.length) (k+1) (ps.drop (k+1))=firstP (insP ps.length) 0 ps):=by
        have h1:=HD.out
        rw [ho] at h1
        exact h1.symm
       clear ho hat HQ HD
       rw [Option.isNone_none]
       go_wp2_with fail
       go_roundw
       case rel=>first | exact ⟨k+1,by omega,by go_num,HN.out,B5,C5,R5,F5⟩ | ((repeat apply Exists.intro);exact ⟨⟨k+1,by omega,by go_num,HN.out,B5,C5,R5,F5⟩,rfl⟩)
       case measure=>simp [intOf];omega
     ·have HN:firstP (insP ps.length) 0 ps=none:=by
       have h1:=HQ.out
       rw [List.drop_of_length_le (by omega)] at h1
       exact h1.symm
      have HP2:Hid (Passed ps 4):=by
       have h2:=HPi.out
       unfold Passed at h2
       exact⟨h2.1,fun _=>h2.2.1 (by omega),fun _=>h2.2.2.1 (by omega),fun _=>h2.2.2.2.1 (by omega),fun _=>HN⟩
      clear HN HQ HK
      go_wp2_with fail
      go_roundw
      case rel=>exact ⟨4,by omega,rfl,HP2,hb4,C4,R4,F4⟩
      case measure=>simp [intOf]
   ·have c3:=C3.cell 0
    have HV:Hid (shapeF ps=mkFault ps):=by
     have h2:=HPi.out
     unfold Passed at h2
     show _=_
     unfold shapeF
     rw [h2.1,h2.2.1 (by omega),h2.2.2.1 (by omega),h2.2.2.2.1 (by omega),h2.2.2.2.2 (by omega)]
     rfl
    have hrr:=regs_of_heads (HPi.out.2.1 (by omega))
    have hff:=fns_of_ins (HPi.out.2.2.2.2 (by omega))
    have HM:Hid _:=checkMaking_any ao cap ps wr hszl hl hfi.few hrr hff (hv.later (Keeps.of_below hb))
    clear hrr hff
    go_wp2_with fail
    refine Calls.mono (Hid.out HM) ?_
    rintro e w5 ⟨rfl,hw5⟩
    have B5:=hb.trans (hw5.mono hb.size)
    have R5:=R3.later hw5
    have c5:=R5.cell
    have g5:=R5.frozen
    obtain⟨s1,s2,s3,hs⟩:∃s1 s2 s3,mkFault ps=(s1,s2,s3):=⟨_,_,_,rfl⟩
    have HS:Hid (shapeF ps=(s1,s2,s3)):=HV.out.trans hs
    rw [hs]
    clear HM HV HPi c3 C3 R3 F3 hw5 hs
    unfold faultV
    go_wp2_with fail
    refine bodyPost_ret (v:=.agg #[.int .i64 s1,.int .i64 s2,.int .i64 s3]) ?_ rfl ⟨?_,?_⟩
    ·simp [results,Tryz.results190,go_sem,c5]
    ·rw [HS.out];rfl
    ·iterate 3 (refine Below.setCell ?_ (by simp;try omega) _)
     exact B5
end Go.Proofs.YtgopdffmnikhdaaGreatDoor
