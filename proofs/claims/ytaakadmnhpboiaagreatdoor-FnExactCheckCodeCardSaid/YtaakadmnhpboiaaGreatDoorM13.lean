import Derived.Test.YtaakadmnhpboiaaGreatDoorM12
import Derived.Test.YtaakadmnhpboiaaGreatDoorM01
namespace Go.Proofs.YtaakadmnhpboiaaGreatDoor
open Go.RowKit Go.Deep
theorem Tryz.info_bool:(Tryz.prog.info? 4).map (fun i=>(i.zero,i.size,i.bytes))=some (some (.bool false),1,1):=by kernel_rfl
theorem made_blk (w:World) (n:Nat):Blk (w.alloc (.cells (madeCells #[.bool false] n) 4)) w.heap.size (boolArr (List.replicate n false)) 4:=by
 have h:madeCells #[.bool false] n=boolArr (List.replicate n false):=by
  apply Array.toList_inj.1
  rw [toList_madeCells_one]
  simp [boolArr]
 rw [h]
 exact Blk.new _ _ _
def FnsOk (ps:List Pd):Prop:=∀p ∈ ps,∀n ∈ p.ins,n.op=11→0≤n.b∧n.b<ps.length
def mkFault (ps:List Pd):Int × Int × Int:=
 match mkAll ps 0 ps (List.replicate ps.length false) with
 | (some (p,k),_)=>(6,p,k)
 | (none,m)=>if 0≤firstIdx false (m.set 0 true) 0 then (7,firstIdx false (m.set 0 true) 0,0) else (0,0,0)
def faultV (f:Int × Int × Int):Value:=.agg #[.int .i64 f.1,.int .i64 f.2.1,.int .i64 f.2.2]
theorem mkFault_six {ps:List Pd} {p k:Nat} {m:List Bool} (h:mkAll ps 0 ps (List.replicate ps.length false)=(some (p,k),m)):mkFault ps=(6,(p:Int),(k:Int)):=by unfold mkFault;rw [h]
set_option maxRecDepth 100000 in
set_option maxHeartbeats 4000000 in
theorem checkMaking_any (ao:Option Addr) (cap:Nat) (ps:List Pd) (w:World) (h1:1≤ps.length) (hm:ps.length≤1048576) (hz:∀p ∈ ps,PFew p) (hr:∀p ∈ ps,0≤p.regs∧p.regs≤250) (hfn:FnsOk ps) (hv:ProtosAt 0 w ao ps) :
  Calls Tryz.prog 60 #[.agg #[.slice ao ps.length cap]] w fun e w'=>e=.returned (faultV (mkFault ps))∧Below w.heap.size w w':=by
 have hmk:=run_make_k (P:=Tryz.prog) 91 4 _ 1 1 Tryz.underlying91 Tryz.info_bool .i64 .i64 ps.length (by omega) (by omega)
 simp only [Nat.mul_one] at hmk
 have C0:=((Blk.new w #[.slice ao ps.length cap] 31).alloc (.cells #[.int .i64 0,.int .i64 0,.int .i64 0] 27)).alloc (.cells (madeCells #[.bool false] ps.length) 4)
 have R0:=(Blk.new (w.alloc (.cells #[.slice ao ps.length cap] 31)) #[.int .i64 0,.int .i64 0,.int .i64 0] 27).alloc (.cells (madeCells #[.bool false] ps.length) 4)
 have M0:=made_blk ((w.alloc (.cells #[.slice ao ps.length cap] 31)).alloc (.cells #[.int .i64 0,.int .i64 0,.int .i64 0] 27)) ps.length
 simp only [nblk_alloc] at R0 M0
 have hb3:∀o1 o2 o3,Below w.heap.size w (((w.alloc o1).alloc o2).alloc o3):=fun o1 o2 o3=>(((Below.refl _ _).alloc (Nat.le_refl _) o1).alloc (by simp) o2).alloc (by simp;omega) o3
 go_enter Tryz.func60,Tryz.ntmps60
 go_wp2_with fail
 clear hmk
 go_loopw [16] (fun y wr=>∃(k:Nat) (m:List Bool),k≤ps.length∧y=.int .i64 k∧m.length=ps.length∧Hid (mkAll ps k (ps.drop k) m=mkAll ps 0 ps (List.replicate ps.length false))∧Below w.heap.size w wr∧Blk wr w.heap.size #[.slice ao ps.length cap] 31∧Blk wr (w.heap.size+1) #[.int .i64 0,.int .i64 0,.int .i64 0] 27∧Blk wr (w.heap.size+1+1) (boolArr m) 4) (fun y _=>ps.length - (intOf y).toNat)
 case atStart=>exact ⟨0,_,Nat.zero_le _,rfl,by simp,rfl,hb3 _ _ _,C0,R0,M0⟩
 case round=>
  obtain⟨k,m,hk,rfl,hml,HQ,hb,C1,R1,M1⟩:=hrel
  clear C0 R0 M0
  by_cases hkl:k<ps.length
  ·obtain⟨p,hpk⟩:=some_of_lt hkl
   have HD:Hid (mkAll ps 0 ps (List.replicate ps.length false)=_):=HQ.out.symm.trans (mkAll_drop hpk m)
   obtain⟨b,off,e0,_,hbl,h,n0,pin⟩:=hv k p hpk
   obtain⟨p0,p1,p2,p3,p4,p5,p6,p7,p8⟩:=n0.later hb hbl
   subst e0
   have hba:∀o,Below w.heap.size w (wr.alloc o):=fun o=>hb.alloc hb.size o
   have C2:=C1.alloc (.cells #[.string p.name,.int .i64 p.line,.int .i64 p.params,.bool p.rest,.int .i64 p.regs,.slice h.uo p.ups.length h.uc,.slice h.co p.consts.length h.cc,.slice h.io p.ins.length h.ic,.slice h.no p.named.length h.nc] 57)
   have R2:=R1.alloc (.cells #[.string p.name,.int .i64 p.line,.int .i64 p.params,.bool p.rest,.int .i64 p.regs,.slice h.uo p.ups.length h.uc,.slice h.co p.consts.length h.cc,.slice h.io p.ins.length h.ic,.slice h.no p.named.length h.nc] 57)
   have M2:=M1.alloc (.cells #[.string p.name,.int .i64 p.line,.int .i64 p.params,.bool p.rest,.int .i64 p.regs,.slice h.uo p.ups.length h.uc,.slice h.co p.consts.length h.cc,.slice h.io p.ins.length h.ic,.slice h.no p.named.length h.nc] 57)
   have P2:=Blk.new wr #[.string p.name,.int .i64 p.line,.int .i64 p.params,.bool p.rest,.int .i64 p.regs,.slice h.uo p.ups.length h.uc,.slice h.co p.consts.length h.cc,.slice h.io p.ins.length h.ic,.slice h.no p.named.length h.nc] 57
   have hins:p.ins.length≤1048576:=(hz p (List.mem_of_getElem? hpk)).ins
   have hPB1:=M1.lt
   have Bw:=hba (.cells #[.string p.name,.int .i64 p.line,.int .i64 p.params,.bool p.rest,.int .i64 p.regs,.slice h.uo p.ups.length h.uc,.slice h.co p.consts.length h.cc,.slice h.io p.ins.length h.ic,.slice h.no p.named.length h.nc] 57)
   clear C1 R1 M1 HQ hba
   have HM:Hid (m.length=ps.length):=hml
   clear hml
   go_wp2_with fail
   clear p0 p1 p2 p3 p4 p5 p6 p7 p8 hb
   generalize hPB:wr.heap.size=PB at *
   clear hPB
   go_loopw [24] (fun y wi=>∃(j:Nat) (m':List Bool),j≤p.ins.length∧y=.int .i64 j∧Hid (m'.length=ps.length)∧Hid (mkIns ps k p j (p.ins.drop j) m'=mkIns ps k p 0 p.ins m)∧Below w.heap.size w wi∧Blk wi w.heap.size #[.slice (some ⟨b,off,none⟩) ps.length cap] 31∧Blk wi (w.heap.size+1) #[.int .i64 0,.int .i64 0,.int .i64 0] 27∧Blk wi (w.heap.size+1+1) (boolArr m') 4∧Blk wi PB #[.string p.name,.int .i64 p.line,.int .i64 p.params,.bool p.rest,.int .i64 p.regs,.slice h.uo p.ups.length h.uc,.slice h.co p.consts.length h.cc,.slice h.io p.ins.length h.ic,.slice h.no p.named.length h.nc] 57) (fun y _=>p.ins.length - (intOf y).toNat)
   case atStart=>exact ⟨0,m,Nat.zero_le _,rfl,HM,rfl,Bw,C2,R2,M2,P2⟩
   case round=>
    obtain⟨j,m',hj,rfl,HM',HQ',hb',C3,R3,M3,P3⟩:=hrel
    clear C2 R2 M2 P2 Bw
    by_cases hjl:j<p.ins.length
    ·obtain⟨n,hnj⟩:=some_of_lt hjl
     obtain⟨b',off',e',_,hbl',q0,q1,q2,q3,q4⟩:=pin.ins.later (Keeps.of_below hb') j n hnj
     have HE:Hid (mkIns ps k p 0 p.ins m=_):=HQ'.out.symm.trans (mkIns_drop hnj m')
     have hba:∀o,Below w.heap.size w (wr.alloc o):=fun o=>hb'.alloc hb'.size o
     have CA:Hid (∀o,Blk (wr.alloc o) w.heap.size _ _):=fun o=>C3.alloc o
     have RA:Hid (∀o,Blk (wr.alloc o) (w.heap.size+1) _ _):=fun o=>R3.alloc o
     have MA:Hid (∀o,Blk (wr.alloc o) (w.heap.size+1+1) _ _):=fun o=>M3.alloc o
     have PA:Hid (∀o,Blk (wr.alloc o) PB _ _):=fun o=>P3.alloc o
     have hio:h.io=some ⟨b',off',none⟩:=e'
     by_cases hop:n.op=11
     ·obtain⟨hn1,hn2⟩:=hfn p (List.mem_of_getElem? hpk) n (List.mem_of_getElem? hnj) hop
      obtain⟨op,a1,b1,c1,d1⟩:=n
      dsimp only at *
      subst hop
      obtain⟨bN,rfl⟩:=Int.eq_ofNat_of_zero_le hn1
      obtain⟨q,hq⟩:=some_of_lt (l:=ps) (k:=bN) (by omega)
      obtain⟨b2,off2,e2,_,_,h2,m0,pin2⟩:=hv bN q hq
      obtain⟨rfl,rfl⟩:b=b2∧off=off2:=by simpa using e2
      obtain⟨_,_,_,_,_,s5,_⟩:=m0.later hb' hbl
      have hs5:∀o,(wr.alloc o).cell? ⟨b,off+bN*9+5,none⟩=some (.slice h2.uo q.ups.length h2.uc):=fun o=>by
       have h9:=m0.later (hba o) hbl
       exact h9.2.2.2.2.2.1
      have hmb:bN<m'.length:=by rw [HM'.out];omega
      have HFn:Hid (fnBad ps k p m' ⟨11,a1,bN,c1,d1⟩=(decide ((bN:Int)≤k) || (m'.getD bN false || !upsB p q.ups))):=by
       show _=_
       unfold fnBad
       simp [hq]
      have HE2:Hid (mkIns ps k p 0 p.ins m=if fnBad ps k p m' ⟨11,a1,bN,c1,d1⟩ then (some j,m') else mkIns ps k p (j+1) (p.ins.drop (j+1)) (m'.set bN true)):=by
       show _=_
       rw [HE.out]
       rfl
      have hz1:=hz p (List.mem_of_getElem? hpk)
      have hzq:=hz q (List.mem_of_getElem? hq)
      have hr1:=hr p (List.mem_of_getElem? hpk)
      have cM:∀o,(wr.alloc o).cell? ⟨w.heap.size+1+1,bN,none⟩=some (.bool (m'.getD bN false)):=fun o=>((MA.out o).cell bN).trans (boolArr_get hmb)
      have cC:=fun o=>(CA.out o).cell 0
      have cP:=fun o=>(PA.out o).cell
      have hups:=fun o=>pin2.ups.later (Keeps.of_below (hba o))
      clear HE HQ' C3 R3 M3 P3 pin pin2 n0 m0 e' e2 s5 hv hfn hz hr hnj hpk
      generalize hmbv:m'.getD bN false=mb at *
      obtain⟨uo,uc,co,cc,io,ic,no,nc⟩:=h
      dsimp only at *
      subst hio
      have HU:Hid _:=hups
      clear hups hmbv
      have hfault:fnBad ps k p m' ⟨11,a1,bN,c1,d1⟩=true→mkFault ps=(6,(k:Int),(j:Int)):=by
       intro hbad
       refine mkFault_six (m:=m') ?_
       rw [HD.out,HE2.out,if_pos hbad]
      have HFa:Hid _:=hfault
      clear hfault
      have cR:=fun o=>(RA.out o).cell
      have fR:=fun o=>(RA.out o).frozen
      have hno:(11:Int)=11:=rfl
      clear hno
      by_cases g1:(bN:Int)≤k
      ·have HV:Hid (mkFault ps=(6,(k:Int),(j:Int))):=HFa.out (by rw [HFn.out,decide_eq_true g1];rfl)
       clear HFa HFn
       go_wp2_with fail
       go_quiet (fail)
       go_wp2_with fail
       refine bodyPost_ret (v:=.agg #[.int .i64 6,.int .i64 k,.int .i64 j]) ?_ rfl ⟨?_,?_⟩
       ·simp [results,Tryz.results60,go_sem,cR]
       ·rw [HV.out];rfl
       ·iterate 3 (refine Below.setCell ?_ (by simp;try omega) _)
        exact below_drewN (hba _) _
      ·have g1':decide ((bN:Int)≤k)=false:=decide_eq_false g1
       have gn:decide (bN≤k)=false:=decide_eq_false (by omega)
       have gl:k<bN:=by omega
       have gi:(k:Int)<bN:=by omega
       clear g1
       cases mb
       rotate_left
       ·have HV:Hid (mkFault ps=(6,(k:Int),(j:Int))):=HFa.out (by rw [HFn.out,g1'];rfl)
        clear HFa HFn
        go_wp2_with fail
        go_quiet (fail)
        go_wp2_with fail
        refine bodyPost_ret (v:=.agg #[.int .i64 6,.int .i64 k,.int .i64 j]) ?_ rfl ⟨?_,?_⟩
        ·simp [results,Tryz.results60,go_sem,cR]
        ·rw [HV.out];rfl
        ·iterate 3 (refine Below.setCell ?_ (by simp;try omega) _)
         exact below_drewN (hba _) _
       ·have HFn2:Hid (fnBad ps k p m' ⟨11,a1,bN,c1,d1⟩ = !upsB p q.ups):=by show _=_;rw [HFn.out,g1'];rfl
        clear HFn
        have N4:=Blk.new wr #[.int .i64 11,.int .i64 a1,.int .i64 bN,.int .i64 c1,.int .i64 d1] 93
        have M4:=MA.out (.cells #[.int .i64 11,.int .i64 a1,.int .i64 bN,.int .i64 c1,.int .i64 d1] 93)
        have C4:=CA.out (.cells #[.int .i64 11,.int .i64 a1,.int .i64 bN,.int .i64 c1,.int .i64 d1] 93)
        have P4:=PA.out (.cells #[.int .i64 11,.int .i64 a1,.int .i64 bN,.int .i64 c1,.int .i64 d1] 93)
        have R4:=RA.out (.cells #[.int .i64 11,.int .i64 a1,.int .i64 bN,.int .i64 c1,.int .i64 d1] 93)
        have B4:=hba (.cells #[.int .i64 11,.int .i64 a1,.int .i64 bN,.int .i64 c1,.int .i64 d1] 93)
        have s4:=hs5 (.cells #[.int .i64 11,.int .i64 a1,.int .i64 bN,.int .i64 c1,.int .i64 d1] 93)
        have cm4:=cM (.cells #[.int .i64 11,.int .i64 a1,.int .i64 bN,.int .i64 c1,.int .i64 d1] 93)
        have U4:Hid (UpsAt 0 (wr.alloc (.cells #[.int .i64 11,.int .i64 a1,.int .i64 bN,.int .i64 c1,.int .i64 d1] 93)).drew h2.uo q.ups):=(HU.out (.cells #[.int .i64 11,.int .i64 a1,.int .i64 bN,.int .i64 c1,.int .i64 d1] 93)).later (Keeps.of_below (Below.refl _ _).drew)
        have D4:Below (wr.alloc (.cells #[.int .i64 11,.int .i64 a1,.int .i64 bN,.int .i64 c1,.int .i64 d1] 93)).heap.size (wr.alloc (.cells #[.int .i64 11,.int .i64 a1,.int .i64 bN,.int .i64 c1,.int .i64 d1] 93)) (wr.alloc (.cells #[.int .i64 11,.int .i64 a1,.int .i64 bN,.int .i64 c1,.int .i64 d1] 93)).drew:=(Below.refl _ _).drew
        have hb4:b<(wr.alloc (.cells #[.int .i64 11,.int .i64 a1,.int .i64 bN,.int .i64 c1,.int .i64 d1] 93)).drew.heap.size:=Nat.lt_of_lt_of_le hbl B4.size
        go_wp2_with fail
        go_region_held3 (fun w'=>w'.cell? ⟨wr.heap.size,2,none⟩=some (.int .i64 bN)∧w'.cell? ⟨w.heap.size+1+1,bN,none⟩=some (.bool false)∧w'.cell? ⟨w.heap.size,0,none⟩=some (.slice (some ⟨b,off,none⟩) ps.length cap)∧w'.cell? ⟨b,off+bN*9+5,none⟩=some (.slice h2.uo q.ups.length h2.uc)∧w'.cell? ⟨PB,0,none⟩=some (.string p.name)∧w'.cell? ⟨PB,1,none⟩=some (.int .i64 p.line)∧w'.cell? ⟨PB,2,none⟩=some (.int .i64 p.params)∧w'.cell? ⟨PB,3,none⟩=some (.bool p.rest)∧w'.cell? ⟨PB,4,none⟩=some (.int .i64 p.regs)∧w'.cell? ⟨PB,5,none⟩=some (.slice uo p.ups.length uc)∧w'.cell? ⟨PB,6,none⟩=some (.slice co p.consts.length cc)∧w'.cell? ⟨PB,7,none⟩=some (.slice (some ⟨b',off',none⟩) p.ins.length ic)∧w'.cell? ⟨PB,8,none⟩=some (.slice no p.named.length nc)) (first | (go_keep;done) | (simp +arith [*,World.cell?_setCell_far];done))
         (first | (go_at_call 108;refine (upsFit_any p ⟨uo,uc,co,cc,some ⟨b',off',none⟩,ic,no,nc⟩ h2.uo h2.uc q.ups (wr.alloc (.cells #[.int .i64 11,.int .i64 a1,.int .i64 bN,.int .i64 c1,.int .i64 d1] 93)).drew hzq.ups hz1 hr1 U4.out).mono ?_;rintro e w1 ⟨rfl,hw1⟩;have u0:=((N4.later D4).later hw1).cell 2;have u1:=(hw1.cell (p:=⟨w.heap.size+1+1,bN,none⟩) (M4.later D4).lt).trans cm4;have u2:=((C4.later D4).later hw1).cell 0;have u3:=(hw1.cell (p:=⟨b,off+bN*9+5,none⟩) hb4).trans s4;have up:=((P4.later D4).later hw1).cell))
        have B5:=B4.drew.trans (hw1.mono B4.size)
        have M5:=(M4.later D4).later hw1
        have C5:=(C4.later D4).later hw1
        have P5:=(P4.later D4).later hw1
        have R5:=(R4.later D4).later hw1
        have N5:=(N4.later D4).later hw1
        clear u0 u1 u2 u3 up N4 M4 C4 P4 R4 B4 s4 cm4 U4 hb4 D4 hw1 cM cC cP cR fR hs5 hba
        generalize upsB p q.ups=ub at *
        cases ub
        ·have HV:Hid (mkFault ps=(6,(k:Int),(j:Int))):=HFa.out (by rw [HFn2.out];rfl)
         clear HFa HFn2
         have cR:=R5.cell
         have fR:=R5.frozen
         go_wp2_with fail
         refine bodyPost_ret (v:=.agg #[.int .i64 6,.int .i64 k,.int .i64 j]) ?_ rfl ⟨?_,?_⟩
         ·simp [results,Tryz.results60,go_sem,cR]
         ·rw [HV.out];rfl
         ·iterate 3 (refine Below.setCell ?_ (by simp;try omega) _)
          exact B5
        ·have HE3:Hid (mkIns ps k p 0 p.ins m=mkIns ps k p (j+1) (p.ins.drop (j+1)) (m'.set bN true)):=by
          show _=_
          rw [HE2.out,HFn2.out]
          rfl
         clear HFa HFn2 HE2
         have n5:=N5.cell
         have m5:=(M5.cell bN).trans (boolArr_get hmb)
         have f5:=M5.frozen
         have Q1:=B5.setCell (p:=⟨w.heap.size+1+1,bN,none⟩) (by show w.heap.size≤w.heap.size+1+1;omega) (.bool true)
         have Q2:=C5.setOther (p:=⟨w.heap.size+1+1,bN,none⟩) (by show w.heap.size≠w.heap.size+1+1;omega) (.bool true)
         have Q3:=R5.setOther (p:=⟨w.heap.size+1+1,bN,none⟩) (by show w.heap.size+1≠w.heap.size+1+1;omega) (.bool true)
         have Q4:=M5.set bN (.bool true)
         rw [boolArr_set] at Q4
         have Q5:=P5.setOther (p:=⟨w.heap.size+1+1,bN,none⟩) (by show PB≠w.heap.size+1+1;omega) (.bool true)
         have HL:Hid ((m'.set bN true).length=ps.length):=by show _=_;rw [List.length_set];exact HM'.out
         clear N5 M5 C5 R5 P5 B5
         go_wp2_with fail
         go_roundw
         case rel=>exact ⟨j+1,m'.set bN true,by omega,by go_num,HL,HE3.out.symm,Q1,Q2,Q3,Q4,Q5⟩
         case measure=>simp [intOf];omega
     ·have ho:(n.op != 11)=true:=by simpa using hop
      have HE2:Hid (mkIns ps k p 0 p.ins m=mkIns ps k p (j+1) (p.ins.drop (j+1)) m'):=by
       show _=_
       rw [HE.out,if_neg (by simpa using hop)]
      clear HE hop
      clear C3 R3 M3 P3 pin n0 e'
      obtain⟨uo,uc,co,cc,io,ic,no,nc⟩:=h
      dsimp only at *
      subst hio
      go_wp2_with fail
      go_roundw
      case rel=>exact ⟨j+1,m',by omega,by go_num,HM',HE2.out.symm,hba _,CA.out _,RA.out _,MA.out _,PA.out _⟩
      case measure=>simp [intOf];omega
    ·have HI:Hid (mkIns ps k p 0 p.ins m=(none,m')):=by
      have h1:=HQ'.out
      rw [List.drop_of_length_le (by omega)] at h1
      exact h1.symm
     go_wp2_with fail
     go_roundw
     case rel=>exact ⟨k+1,m',by omega,by go_num,HM'.out,by show _=_;rw [HD.out,HI.out],hb',C3,R3,M3⟩
     case measure=>simp [intOf];omega
  ·have HN:Hid (mkAll ps 0 ps (List.replicate ps.length false)=(none,m)):=by
    have h2:=HQ.out
    rw [List.drop_of_length_le (by omega)] at h2
    exact h2.symm
   have HV:Hid (mkFault ps=if 0≤firstIdx false (m.set 0 true) 0 then (7,firstIdx false (m.set 0 true) 0,0) else (0,0,0)):=by
    show _=_
    unfold mkFault
    rw [HN.out]
   have m1:=(M1.cell 0).trans (boolArr_get (by omega))
   have f1:=M1.frozen
   have c1:=R1.cell
   have g1:=R1.frozen
   have i0:(0:Int)<ps.length:=by omega
   have M2:=M1.set 0 (.bool true)
   rw [boolArr_set] at M2
   have R2:=R1.setOther (p:=⟨w.heap.size+1+1,0,none⟩) (by show w.heap.size+1≠w.heap.size+1+1;omega) (.bool true)
   have B2:=hb.setCell (p:=⟨w.heap.size+1+1,0,none⟩) (by show w.heap.size≤w.heap.size+1+1;omega) (.bool true)
   clear HQ HN hv hz hr hfn C1 hb
   have hml2:(m.set 0 true).length=ps.length:=by rw [List.length_set];exact hml
   have HX:Hid (∀(c:Nat) (w:World),Blk w (w.heap.size+1+1) (boolArr (m.set 0 true)) 4→True):=fun _ _ _=>trivial
   clear HX
   have hidx:=fun (W:World) (hB:Blk W (w.heap.size+1+1) (boolArr (m.set 0 true)) 4)=>indexBool_any (w.heap.size+1+1) ps.length (m.set 0 true) false W (by omega) hB
   rw [hml2] at hidx
   have HI:Hid _:=hidx
   clear hidx hml2 hml
   go_wp2_with fail
   refine (HI.out _ M2).mono ?_
   rintro e w1 ⟨rfl,hw1⟩
   have B3:=B2.trans (hw1.mono B2.size)
   have R3:=R2.later hw1
   have c3:=R3.cell
   have g3:=R3.frozen
   clear m1 f1 c1 g1 M1 M2 R1 R2 B2 hw1
   generalize firstIdx false (m.set 0 true) 0=ix at *
   by_cases hx:0≤ix
   ·go_wp2_with fail
    refine bodyPost_ret (v:=.agg #[.int .i64 7,.int .i64 ix,.int .i64 0]) ?_ rfl ⟨?_,?_⟩
    ·simp [results,Tryz.results60,go_sem,c3]
    ·rw [HV.out,if_pos hx];rfl
    ·iterate 3 (refine Below.setCell ?_ (by simp;try omega) _)
     exact B3
   ·go_wp2_with fail
    refine bodyPost_ret (v:=.agg #[.int .i64 0,.int .i64 0,.int .i64 0]) ?_ rfl ⟨?_,?_⟩
    ·simp [results,Tryz.results60,go_sem,c3]
    ·rw [HV.out,if_neg (by omega)];rfl
    ·iterate 3 (refine Below.setCell ?_ (by simp;try omega) _)
     exact B3
inductive Pth (E:Nat→Nat→Prop):Nat→Nat→Prop
 | refl (a:Nat):Pth E a a
 | step {a b c:Nat} (h:E a b) (k:Pth E b c):Pth E a c
theorem Pth.trans {E:Nat→Nat→Prop} {a b c:Nat} (h:Pth E a b) (k:Pth E b c):Pth E a c:=by
 induction h with
 | refl=>exact k
 | step h _ ih=>exact .step h (ih k)
theorem Pth.one {E:Nat→Nat→Prop} {a b:Nat} (h:E a b):Pth E a b:=.step h (.refl _)
def OnC (E:Nat→Nat→Prop) (i:Nat):Prop:=∃b,E i b∧Pth E b i
theorem onC_of {E:Nat→Nat→Prop} {a b:Nat} (hn:a≠b) (h:Pth E a b) (k:Pth E b a):OnC E a:=by
 cases h with
 | refl=>exact absurd rfl hn
 | step h1 h2=>exact ⟨_,h1,h2.trans k⟩
structure Tj where
 count:Nat
 order:List Nat
 path:List Nat
 least:Nat
def Tj.ord (T:Tj) (v:Nat):Nat:=T.order.getD v 0
structure Jt (E:Nat→Nat→Prop) (N:Nat) (T:Tj) (gray:Nat→Prop):Prop where
 lenO:T.order.length=N
 sorted:T.path.Pairwise fun x y=>T.ord x<T.ord y
 vis:∀v ∈ T.path,T.ord v≠0
 le:∀v,T.ord v≤T.count
 fwd:T.path.Pairwise fun x y=>Pth E x y
 gry:∀x,gray x→x ∈ T.path
 back:∀y ∈ T.path,∃x,gray x∧Pth E y x
 black:∀y,T.ord y≠0→¬gray y→∀z,E y z→T.ord z≠0
 clo:∀y,T.ord y≠0→y ∉ T.path→∀z,E y z→T.ord z≠0∧z ∉ T.path
 sound:T.least=N∨(T.least<N∧OnC E T.least)
 comp:∀i,T.ord i≠0→i ∉ T.path→OnC E i→T.least≤i
structure Vt (E:Nat→Nat→Prop) (N:Nat) (T T':Tj) (gray:Nat→Prop) (at_ low:Nat):Prop where
 j:Jt E N T' gray
 path:∃ext,T'.path=T.path ++ ext∧(∀y ∈ ext,∀z ∈ T.path,E y z→low≤T.ord z)∧((ext=[]∧T.count<low)∨∃z ∈ T.path,T.ord z=low∧Pth E at_ z)
 same:∀v,T.ord v≠0→T'.ord v=T.ord v
 seen:T'.ord at_≠0
 more:T.count≤T'.count
structure Lt (E:Nat→Nat→Prop) (N:Nat) (T0 T:Tj) (gray:Nat→Prop) (at_ low:Nat) (D:List Nat):Prop where
 j:Jt E N T fun x=>gray x∨x=at_
 path:∃ext,T.path=T0.path ++ at_::ext∧∀y ∈ ext,∀z ∈ T0.path,E y z→low≤T.ord z
 o:T.ord at_=T0.count+1
 lowLe:low≤T0.count+1
 lows:∃z ∈ T.path,T.ord z=low∧Pth E at_ z
 done:∀b ∈ D,T.ord b≠0∧(b ∈ T0.path→low≤T.ord b)
 same:∀v,T0.ord v≠0→T.ord v=T0.ord v
 more:T0.count+1≤T.count
theorem ord_set {T:Tj} {N at_ c:Nat} {p:List Nat} {l k:Nat} (h:T.order.length=N) (ha:at_<N) (v:Nat):(Tj.mk c (T.order.set at_ k) p l).ord v=if v=at_ then k else T.ord v:=by
 unfold Tj.ord
 simp only [List.getD_eq_getElem?_getD,List.getElem?_set]
 by_cases hv:at_=v
 ·subst hv;simp [h,ha]
 ·simp [hv,Ne.symm hv]
theorem lt_start {E:Nat→Nat→Prop} {N:Nat} {T:Tj} {gray:Nat→Prop} {at_:Nat} (hj:Jt E N T gray) (ha:at_<N) (hw:T.ord at_=0)
  (hreach:∀x ∈ T.path,Pth E x at_):Lt E N T ⟨T.count+1,T.order.set at_ (T.count+1),T.path ++ [at_],T.least⟩ gray at_ (T.count+1) []:=by
 have ho:=fun v=>ord_set (T:=T) (c:=T.count+1) (p:=T.path ++ [at_]) (l:=T.least) (k:=T.count+1) hj.lenO ha v
 have hne:∀v,T.ord v≠0→v≠at_:=fun v h e=>h (e▸hw)
 have hin:∀v,v ∈ T.path→v≠at_:=fun v h=>hne v (hj.vis v h)
 refine⟨⟨by simp [hj.lenO],?_,?_,?_,?_,?_,?_,?_,?_,hj.sound,?_⟩,⟨[],rfl,by simp⟩,by rw [ho];simp,Nat.le_refl _,⟨at_,by simp,by rw [ho];simp,.refl _⟩,by simp,?_,Nat.le_refl _⟩
 ·refine List.pairwise_append.2 ⟨?_,by simp,?_⟩
  ·refine hj.sorted.imp_of_mem ?_
   intro a b h1 h2 h3
   rw [ho,ho,if_neg (hin a h1),if_neg (hin b h2)]
   exact h3
  ·intro a h1 b hb
   simp at hb
   subst hb
   rw [ho,ho,if_neg (hin a h1),if_pos rfl]
   have:=hj.le a
   omega
 ·intro v hv
  rw [ho]
  split
  ·omega
  ·rename_i hn
   simp [hn] at hv
   exact hj.vis v hv
 ·intro v
  rw [ho]
  have:=hj.le v
  dsimp only
  split <;> omega
 ·refine List.pairwise_append.2 ⟨hj.fwd,by simp,?_⟩
  intro a h1 b hb
  simp at hb
  subst hb
  exact hreach a h1
 ·intro x hx
  rcases hx with hx | rfl
  ·simp [hj.gry x hx]
  ·simp
 ·intro y hy
  by_cases h:y=at_
  ·subst h;exact ⟨y,.inr rfl,.refl _⟩
  ·simp [h] at hy
   obtain⟨x,h1,h2⟩:=hj.back y hy
   exact⟨x,.inl h1,h2⟩
 ·intro y hy hg z hz
  have hya:y≠at_:=fun e=>hg (.inr e)
  rw [ho,if_neg hya] at hy
  have:=hj.black y hy (fun h=>hg (.inl h)) z hz
  rw [ho]
  split
  ·omega
  ·exact this
 ·intro y hy hp z hz
  simp at hp
  rw [ho,if_neg hp.2] at hy
  obtain⟨h1,h2⟩:=hj.clo y hy hp.1 z hz
  have:=hne z h1
  rw [ho,if_neg this]
  exact⟨h1,by simp [h2,this]⟩
 ·intro i hi hp hc
  simp at hp
  rw [ho,if_neg hp.2] at hi
  exact hj.comp i hi hp.1 hc
 ·intro v hv
  rw [ho,if_neg (hne v hv)]
theorem lt_seen {E:Nat→Nat→Prop} {N:Nat} {T0 T:Tj} {gray:Nat→Prop} {at_ low b:Nat} {D:List Nat} (h:Lt E N T0 T gray at_ low D) (hb:T.ord b≠0) (hE:E at_ b) :
  (b ∈ T.path→Lt E N T0 T gray at_ (min low (T.ord b)) (D ++ [b]))∧(b ∉ T.path→Lt E N T0 T gray at_ low (D ++ [b])):=by
 obtain⟨ext,e1,e2⟩:=h.path
 constructor
 ·intro hp
  refine⟨h.j,⟨ext,e1,fun y hy z hz he=>Nat.le_trans (Nat.min_le_left _ _) (e2 y hy z hz he)⟩,h.o,Nat.le_trans (Nat.min_le_left _ _) h.lowLe,?_,?_,h.same,h.more⟩
  ·by_cases hl:low≤T.ord b
   ·rw [Nat.min_eq_left hl];exact h.lows
   ·rw [Nat.min_eq_right (by omega)];exact ⟨b,hp,rfl,.one hE⟩
  ·intro x hx
   rcases List.mem_append.1 hx with hx | hx
   ·obtain⟨h1,h2⟩:=h.done x hx
    exact⟨h1,fun hz=>Nat.le_trans (Nat.min_le_left _ _) (h2 hz)⟩
   ·simp at hx;subst hx
    exact⟨hb,fun _=>Nat.min_le_right _ _⟩
 ·intro hp
  refine⟨h.j,⟨ext,e1,e2⟩,h.o,h.lowLe,h.lows,?_,h.same,h.more⟩
  intro x hx
  rcases List.mem_append.1 hx with hx | hx
  ·exact h.done x hx
  ·simp at hx;subst hx
   refine⟨hb,fun hz=>absurd ?_ hp⟩
   rw [e1];simp [hz]
theorem lt_visit {E:Nat→Nat→Prop} {N:Nat} {T0 T T':Tj} {gray:Nat→Prop} {at_ low b l:Nat} {D:List Nat} (h:Lt E N T0 T gray at_ low D) (hw:T.ord b=0) (hE:E at_ b)
  (hv:Vt E N T T' (fun x=>gray x∨x=at_) b l):Lt E N T0 T' gray at_ (min low l) (D ++ [b]):=by
 obtain⟨ext,e1,e2⟩:=h.path
 obtain⟨ext',p1,p2,p3⟩:=hv.path
 have hsm:∀v ∈ T.path,T'.ord v=T.ord v:=fun v hm=>hv.same v (h.j.vis v hm)
 have hin0:∀v ∈ T0.path,v ∈ T.path:=fun v hm=>by rw [e1];simp [hm]
 have hat:at_ ∈ T.path:=by rw [e1];simp
 refine⟨hv.j,⟨ext ++ ext',by rw [p1,e1];simp,?_⟩,by rw [hsm at_ hat];exact h.o,Nat.le_trans (Nat.min_le_left _ _) h.lowLe,?_,?_,?_,Nat.le_trans h.more hv.more⟩
 ·intro y hy z hz he
  rw [hsm z (hin0 z hz)]
  rcases List.mem_append.1 hy with hy | hy
  ·have:=e2 y hy z hz he
   have:=Nat.min_le_left low l
   omega
  ·have:=p2 y hy z (hin0 z hz) he
   have:=Nat.min_le_right low l
   omega
 ·obtain⟨z,z1,z2,z3⟩:=h.lows
  have hzk:∃z ∈ T'.path,T'.ord z=low∧Pth E at_ z:=⟨z,by rw [p1];simp [z1],by rw [hsm z z1];exact z2,z3⟩
  rcases p3 with ⟨_,p4⟩ | ⟨y,y1,y2,y3⟩
  ·have h1:=h.lowLe
   have h2:=h.more
   rw [Nat.min_eq_left (by omega)]
   exact hzk
  ·by_cases hl:low≤l
   ·rw [Nat.min_eq_left hl];exact hzk
   ·rw [Nat.min_eq_right (by omega)]
    exact⟨y,by rw [p1];simp [y1],by rw [hsm y y1];exact y2,.step hE y3⟩
 ·intro x hx
  rcases List.mem_append.1 hx with hx | hx
  ·obtain⟨h1,h2⟩:=h.done x hx
   have:=hv.same x h1
   rw [this]
   exact⟨h1,fun hz=>Nat.le_trans (Nat.min_le_left _ _) (h2 hz)⟩
  ·simp at hx;subst hx
   refine⟨hv.seen,fun hz=>?_⟩
   exact absurd hw (h.j.vis x (hin0 x hz))
 ·intro v hn
  have h1:=h.same v hn
  rw [hv.same v (by rw [h1];exact hn),h1]
theorem lt_group {E:Nat→Nat→Prop} {N:Nat} {T0 T:Tj} {gray:Nat→Prop} {at_ low:Nat} {D ext:List Nat} (h:Lt E N T0 T gray at_ low D) (hg0:∀x,gray x→x ∈ T0.path) (e1:T.path=T0.path ++ at_::ext) :
  ∀y ∈ at_::ext,Pth E y at_∧Pth E at_ y:=by
 have hf:=h.j.fwd
 rw [e1] at hf
 obtain⟨_,f2,f3⟩:=List.pairwise_append.1 hf
 intro y hy
 constructor
 ·obtain⟨x,hx,hp⟩:=h.j.back y (by rw [e1];exact List.mem_append.2 (.inr hy))
  rcases hx with hx | rfl
  ·exact hp.trans (f3 x (hg0 x hx) at_ (by simp))
  ·exact hp
 ·rcases List.mem_cons.1 hy with rfl | hy
  ·exact .refl _
  ·exact (List.pairwise_cons.1 f2).1 y hy
theorem lt_orders {E:Nat→Nat→Prop} {N:Nat} {T0 T:Tj} {gray:Nat→Prop} {at_ low:Nat} {D ext:List Nat} (h:Lt E N T0 T gray at_ low D) (e1:T.path=T0.path ++ at_::ext) :
  (∀z ∈ T0.path,T.ord z<T0.count+1)∧(∀y ∈ ext,T0.count+1<T.ord y)∧at_ ∉ T0.path∧(∀y ∈ ext,y ∉ T0.path):=by
 have hs:=h.j.sorted
 rw [e1] at hs
 obtain⟨_,s2,s3⟩:=List.pairwise_append.1 hs
 have o:=h.o
 have k1:∀z ∈ T0.path,T.ord z<T0.count+1:=fun z hz=>by have:=s3 z hz at_ (by simp);omega
 have k2:∀y ∈ ext,T0.count+1<T.ord y:=fun y hy=>by have:=(List.pairwise_cons.1 s2).1 y hy;omega
 refine⟨k1,k2,fun hz=>by have:=k1 _ hz;omega,fun y hy hz=>by have:=k1 _ hz;have:=k2 _ hy;omega⟩
theorem vt_close {E:Nat→Nat→Prop} {N:Nat} {T0 T:Tj} {gray:Nat→Prop} {at_:Nat} {D ext:List Nat} {least:Nat} (hj:Jt E N T0 gray) (h:Lt E N T0 T gray at_ (T0.count+1) D) (e1:T.path=T0.path ++ at_::ext) (hD:∀b,E at_ b→b ∈ D)
  (hN:∀y ∈ at_::ext,y<N)
  (hl:((ext≠[]∨E at_ at_)∧∃m ∈ at_::ext,(∀y ∈ at_::ext,m≤y)∧least=min T.least m)∨(¬(ext≠[]∨E at_ at_)∧least=T.least)) :
  Vt E N T0 ⟨T.count,T.order,T0.path,least⟩ gray at_ (T0.count+1):=by
 obtain⟨k1,k2,k3,k4⟩:=lt_orders h e1
 have hgr:=lt_group h hj.gry e1
 have hs0:∀z ∈ T0.path,T.ord z=T0.ord z:=fun z hz=>h.same z (hj.vis z hz)
 obtain⟨ext2,e1',e2⟩:=h.path
 obtain rfl:ext=ext2:=by rw [e1] at e1';simpa using e1'
 have hcirc:(ext≠[]∨E at_ at_)→∀y ∈ at_::ext,OnC E y:=by
  intro hc y hy
  by_cases hya:y=at_
  ·subst hya
   by_cases hx:ext=[]
   ·rcases hc with hc | hc
    ·exact absurd hx hc
    ·exact⟨y,hc,.refl _⟩
   ·obtain⟨u,hu⟩:=List.exists_mem_of_ne_nil ext hx
    have hne:y≠u:=by intro e;subst e;have:=k2 _ hu;have:=h.o;omega
    have:=hgr u (by simp [hu])
    exact onC_of hne this.2 this.1
  ·have:=hgr y hy
   exact onC_of hya this.1 this.2
 have hle:least≤T.least:=by
  rcases hl with ⟨_,m,_,_,rfl⟩ | ⟨_,rfl⟩
  ·exact Nat.min_le_left _ _
  ·exact Nat.le_refl _
 refine⟨⟨h.j.lenO,?_,?_,h.j.le,?_,hj.gry,hj.back,?_,?_,?_,?_⟩,⟨[],by simp,by simp,.inl ⟨rfl,by omega⟩⟩,h.same,?_,by have:=h.more;dsimp only;omega⟩
 ·exact (List.pairwise_append.1 (e1▸h.j.sorted)).1
 ·intro v hv
  exact h.j.vis v (by rw [e1];simp [hv])
 ·exact (List.pairwise_append.1 (e1▸h.j.fwd)).1
 ·intro y hy hg z hz
  by_cases hya:y=at_
  ·subst hya;exact (h.done z (hD z hz)).1
  ·exact h.j.black y hy (by rintro (h1 | h1);exact hg h1;exact hya h1) z hz
 ·intro y hy hp z hz
  dsimp only at hp
  have hvz:T.ord z≠0:=by
   by_cases hya:y=at_
   ·subst hya;exact (h.done z (hD z hz)).1
   ·exact h.j.black y hy (by rintro (h1 | h1);exact hp (hj.gry y h1);exact hya h1) z hz
  refine⟨hvz,?_⟩
  dsimp only
  intro hz0
  have hk:=k1 z hz0
  by_cases hyp:y ∈ T.path
  ·rw [e1] at hyp
   rcases List.mem_append.1 hyp with h1 | h1
   ·exact hp h1
   ·rcases List.mem_cons.1 h1 with rfl | h1
    ·have:=(h.done z (hD z hz)).2 hz0;omega
    ·have:=e2 y h1 z hz0 hz;omega
  ·exact (h.j.clo y hy hyp z hz).2 (by rw [e1];simp [hz0])
 ·dsimp only
  rcases hl with ⟨hc,m,m1,m2,rfl⟩ | ⟨_,rfl⟩
  ·have hm:=hN m m1
   rcases h.j.sound with hs | hs
   ·exact .inr ⟨by omega,by rw [Nat.min_eq_right (by omega)];exact hcirc hc m m1⟩
   ·by_cases hml:T.least≤m
    ·rw [Nat.min_eq_left hml];exact .inr hs
    ·rw [Nat.min_eq_right (by omega)];exact .inr ⟨hm,hcirc hc m m1⟩
  ·exact h.j.sound
 ·intro i hi hp hc
  dsimp only at hp ⊢
  by_cases hip:i ∈ T.path
  ·rw [e1] at hip
   have hig:i ∈ at_::ext:=(List.mem_append.1 hip).resolve_left hp
   rcases hl with ⟨_,m,m1,m2,rfl⟩ | ⟨hn,_⟩
   ·exact Nat.le_trans (Nat.min_le_right _ _) (m2 i hig)
   ·exfalso
    have hx:ext=[]:=Classical.byContradiction fun hx=>hn (.inl hx)
    subst hx
    simp at hig
    subst hig
    obtain⟨b,hb1,hb2⟩:=hc
    obtain⟨d1,d2⟩:=h.done b (hD b hb1)
    by_cases hbp:b ∈ T.path
    ·rw [e1] at hbp
     rcases List.mem_append.1 hbp with h1 | h1
     ·have:=d2 h1;have:=k1 b h1;omega
     ·simp at h1;subst h1;exact hn (.inr hb1)
    ·have:∀{u v:Nat},Pth E u v→T.ord u≠0→u ∉ T.path→v ∉ T.path:=by
      intro u v hp
      induction hp with
      | refl=>exact fun _ h2=>h2
      | step h1 _ ih=>intro h2 h3;obtain ⟨c1,c2⟩:=h.j.clo _ h2 h3 _ h1;exact ih c1 c2
     exact this hb2 d1 hbp (by rw [e1];simp)
  ·exact Nat.le_trans hle (h.j.comp i hi hip hc)
 ·show T.ord at_≠0
  have:=h.o
  omega
theorem vt_open {E:Nat→Nat→Prop} {N:Nat} {T0 T:Tj} {gray:Nat→Prop} {at_ low:Nat} {D:List Nat} (hj:Jt E N T0 gray) (h:Lt E N T0 T gray at_ low D) (hD:∀b,E at_ b→b ∈ D) (hlow:low≠T0.count+1):Vt E N T0 T gray at_ low:=by
 obtain⟨ext,e1,e2⟩:=h.path
 obtain⟨k1,k2,k3,k4⟩:=lt_orders h e1
 have hgr:=lt_group h hj.gry e1
 have hs0:∀z ∈ T0.path,T.ord z=T0.ord z:=fun z hz=>h.same z (hj.vis z hz)
 have hl2:=h.lowLe
 obtain⟨z,z1,z2,z3⟩:=h.lows
 have hz0:z ∈ T0.path:=by
  rw [e1] at z1
  rcases List.mem_append.1 z1 with h1 | h1
  ·exact h1
  ·exfalso
   rcases List.mem_cons.1 h1 with rfl | h1
   ·have:=h.o;omega
   ·have:=k2 z h1;omega
 have hb:∀y,E at_ y→T.ord y≠0:=fun y hy=>(h.done y (hD y hy)).1
 refine⟨⟨h.j.lenO,h.j.sorted,h.j.vis,h.j.le,h.j.fwd,fun x hx=>h.j.gry x (.inl hx),?_,?_,h.j.clo,h.j.sound,h.j.comp⟩,⟨at_::ext,e1,?_,.inr ⟨z,hz0,by rw [←hs0 z hz0];exact z2,z3⟩⟩,h.same,by have:=h.o;omega,by have:=h.more;omega⟩
 ·intro y hy
  rw [e1] at hy
  rcases List.mem_append.1 hy with h1 | h1
  ·exact hj.back y h1
  ·obtain⟨x,hx,hp⟩:=hj.back z hz0
   exact⟨x,hx,((hgr y h1).1.trans z3).trans hp⟩
 ·intro y hy hg u hu
  by_cases hya:y=at_
  ·subst hya;exact hb u hu
  ·exact h.j.black y hy (by rintro (h1 | h1);exact hg h1;exact hya h1) u hu
 ·intro y hy u hu he
  rw [←hs0 u hu]
  rcases List.mem_cons.1 hy with rfl | hy
  ·exact (h.done u (hD u he)).2 hu
  ·exact e2 y hy u hu he
theorem lt_reach {E:Nat→Nat→Prop} {N:Nat} {T0 T:Tj} {gray:Nat→Prop} {at_ low b:Nat} {D:List Nat} (h:Lt E N T0 T gray at_ low D) (hg0:∀x,gray x→x ∈ T0.path) (hE:E at_ b):∀x ∈ T.path,Pth E x b:=by
 obtain⟨ext,e1,_⟩:=h.path
 have hgr:=lt_group h hg0 e1
 have hf:=h.j.fwd
 rw [e1] at hf
 obtain⟨_,_,f3⟩:=List.pairwise_append.1 hf
 intro x hx
 rw [e1] at hx
 rcases List.mem_append.1 hx with h1 | h1
 ·exact (f3 x h1 at_ (by simp)).trans (.one hE)
 ·exact (hgr x h1).1.trans (.one hE)
theorem ord_lt {E:Nat→Nat→Prop} {N:Nat} {T:Tj} {gray:Nat→Prop} (h:Jt E N T gray) {v:Nat} (hv:T.ord v≠0):v<N:=by
 refine Classical.byContradiction fun hn=>hv ?_
 unfold Tj.ord
 rw [List.getD_eq_getElem?_getD,List.getElem?_eq_none (by rw [h.lenO];omega)]
 rfl
theorem path_nil {E:Nat→Nat→Prop} {N:Nat} {T:Tj} (h:Jt E N T fun _=>False):T.path=[]:=by
 refine Classical.byContradiction fun hn=>?_
 obtain⟨y,hy⟩:=List.exists_mem_of_ne_nil _ hn
 obtain⟨x,hx,_⟩:=h.back y hy
 exact hx
theorem jt_start (E:Nat→Nat→Prop) (N:Nat):Jt E N ⟨0,List.replicate N 0,[],N⟩ fun _=>False:=by
 have ho:∀v,(Tj.mk 0 (List.replicate N 0) [] N).ord v=0:=by
  intro v
  unfold Tj.ord
  simp [List.getD_eq_getElem?_getD,List.getElem?_replicate]
  split <;> rfl
 refine⟨by simp,by simp,by simp,fun v=>by rw [ho];simp,by simp,by simp,by simp,fun y hy=>absurd (ho y) hy,fun y hy=>absurd (ho y) hy,.inl rfl,fun y hy=>absurd (ho y) hy⟩
def LeastC (E:Nat→Nat→Prop) (N m:Nat):Prop:=(m=N∨(m<N∧OnC E m))∧∀i,i<N→OnC E i→m≤i
theorem LeastC.unique {E:Nat→Nat→Prop} {N m k:Nat} (h:LeastC E N m) (g:LeastC E N k):m=k:=by
 obtain⟨h1,h2⟩:=h
 obtain⟨g1,g2⟩:=g
 rcases h1 with rfl | ⟨a1,a2⟩
 ·rcases g1 with rfl | ⟨b1,b2⟩
  ·rfl
  ·have:=h2 k b1 b2;omega
 ·rcases g1 with rfl | ⟨b1,b2⟩
  ·have:=g2 m a1 a2;omega
  ·have:=g2 m a1 a2;have:=h2 k b1 b2;omega
theorem least_of {E:Nat→Nat→Prop} {N:Nat} {T:Tj} (h:Jt E N T fun _=>False) (hv:∀i,i<N→T.ord i≠0):LeastC E N T.least:=
 ⟨h.sound,fun i hi hc=>h.comp i (hv i hi) (by rw [path_nil h];simp) hc⟩
theorem onC_sub {E F:Nat→Nat→Prop} {P:Nat→Prop} (hE:∀a b,E a b ↔ (P a∧F a b)) (hP:∀a b,P a→F a b→P b) {i:Nat} : OnC E i ↔ (P i∧OnC F i):=by
 have h1:∀{a b:Nat},Pth E a b→Pth F a b:=by
  intro a b h
  induction h with
  | refl=>exact .refl _
  | step h _ ih=>exact .step ((hE _ _).1 h).2 ih
 have h2:∀{a b:Nat},Pth F a b→P a→Pth E a b:=by
  intro a b h
  induction h with
  | refl=>exact fun _=>.refl _
  | step h _ ih=>exact fun hp=>.step ((hE _ _).2 ⟨hp,h⟩) (ih (hP _ _ hp h))
 constructor
 ·rintro⟨b,hb,hp⟩
  exact⟨((hE _ _).1 hb).1,b,((hE _ _).1 hb).2,h1 hp⟩
 ·rintro⟨hp,b,hb,hq⟩
  exact⟨b,(hE _ _).2 ⟨hp,hb⟩,h2 hq (hP _ _ hp hb)⟩
end Go.Proofs.YtaakadmnhpboiaaGreatDoor
