import Derived.Test.YtgopdffmnikhdaaGreatDoorT22
import Derived.Test.YtgopdffmnikhdaaGreatDoorT18
import Derived.Laws.EntriesVeiled
namespace Go.Proofs.YtgopdffmnikhdaaGreatDoor
open Go.RowKit Go.Deep
theorem Tryz.info_bool:(Tryz.prog.info? 4).map (fun i=>(i.zero,i.size,i.bytes))=some (some (.bool false),1,1):=by kernel_rfl
theorem made_blk (w:World) (n:Nat):Blk (w.alloc (.cells (madeCells #[.bool false] n) 4)) w.heap.size (boolArr (List.replicate n false)) 4:=by
 have h:madeCells #[.bool false] n=boolArr (List.replicate n false):=by
  apply Array.toList_inj.1
  rw [toList_madeCells_one]
  simp [boolArr]
 rw [h]
 exact Blk.new _ _ _
def FnsOk (ps:List Pd):Prop:=∀p ∈ ps,∀n ∈ p.ins,n.op=11→0≤n.b∧n.b<ps.length
def mkFault (ps:List Pd):Int × Int × Int:=
 match mkAll ps 0 ps (List.replicate ps.length false) with
 | (some (p,k),_)=>(6,p,k)
 | (none,m)=>if 0≤firstIdx false (m.set 0 true) 0 then (7,firstIdx false (m.set 0 true) 0,0) else (0,0,0)
def faultV (f:Int × Int × Int):Value:=.agg #[.int .i64 f.1,.int .i64 f.2.1,.int .i64 f.2.2]
theorem mkFault_six {ps:List Pd} {p k:Nat} {m:List Bool} (h:mkAll ps 0 ps (List.replicate ps.length false)=(some (p,k),m)):mkFault ps=(6,(p:Int),(k:Int)):=by unfold mkFault;rw [h]
set_option maxRecDepth 100000 in
set_option maxHeartbeats 4000000 in
theorem checkMaking_any (ao:Option Addr) (cap:Nat) (ps:List Pd) (w:World) (h1:1≤ps.length) (hm:ps.length≤1048576) (hz:∀p ∈ ps,PFew p) (hr:∀p ∈ ps,0≤p.regs∧p.regs≤250) (hfn:FnsOk ps) (hv:ProtosAt 0 w ao ps) :
  Calls Tryz.prog 249 #[.agg #[.slice ao ps.length cap]] w fun e w'=>e=.returned (faultV (mkFault ps))∧Below w.heap.size w w':=by
 have hmk:=run_make_k (P:=Tryz.prog) 235 4 _ 1 1 Tryz.underlying235 Tryz.info_bool .i64 .i64 ps.length (by omega) (by omega)
 simp only [Nat.mul_one] at hmk
 have C0:=((Blk.new w #[.slice ao ps.length cap] 26).alloc (.cells #[.int .i64 0,.int .i64 0,.int .i64 0] 143)).alloc (.cells (madeCells #[.bool false] ps.length) 4)
 have R0:=(Blk.new (w.alloc (.cells #[.slice ao ps.length cap] 26)) #[.int .i64 0,.int .i64 0,.int .i64 0] 143).alloc (.cells (madeCells #[.bool false] ps.length) 4)
 have M0:=made_blk ((w.alloc (.cells #[.slice ao ps.length cap] 26)).alloc (.cells #[.int .i64 0,.int .i64 0,.int .i64 0] 143)) ps.length
 simp only [nblk_alloc] at R0 M0
 have hb3:∀o1 o2 o3,Below w.heap.size w (((w.alloc o1).alloc o2).alloc o3):=fun o1 o2 o3=>(((Below.refl _ _).alloc (Nat.le_refl _) o1).alloc (by simp) o2).alloc (by simp;omega) o3
 go_enter Tryz.func249,Tryz.ntmps249
 go_wp2_with fail
 clear hmk
 go_loopw [16] (fun y wr=>∃(k:Nat) (m:List Bool),k≤ps.length∧y=.int .i64 k∧m.length=ps.length∧Hid (mkAll ps k (ps.drop k) m=mkAll ps 0 ps (List.replicate ps.length false))∧Below w.heap.size w wr∧Blk wr w.heap.size #[.slice ao ps.length cap] 26∧Blk wr (w.heap.size+1) #[.int .i64 0,.int .i64 0,.int .i64 0] 143∧Blk wr (w.heap.size+1+1) (boolArr m) 4) (fun y _=>ps.length - (intOf y).toNat)
 case atStart=>exact ⟨0,_,Nat.zero_le _,rfl,by simp,rfl,hb3 _ _ _,C0,R0,M0⟩
 case round=>
  obtain⟨k,m,hk,rfl,hml,HQ,hb,C1,R1,M1⟩:=hrel
  clear C0 R0 M0
  by_cases hkl:k<ps.length
  ·obtain⟨p,hpk⟩:=some_of_lt hkl
   have HD:Hid (mkAll ps 0 ps (List.replicate ps.length false)=_):=HQ.out.symm.trans (mkAll_drop hpk m)
   obtain⟨b,off,e0,_,hbl,h,n0,pin⟩:=hv k p hpk
   obtain⟨p0,p1,p2,p3,p4,p5,p6,p7,p8⟩:=n0.later hb hbl
   subst e0
   have hba:∀o,Below w.heap.size w (wr.alloc o):=fun o=>hb.alloc hb.size o
   have C2:=C1.alloc (.cells #[.string p.name,.int .i64 p.line,.int .i64 p.params,.bool p.rest,.int .i64 p.regs,.slice h.uo p.ups.length h.uc,.slice h.co p.consts.length h.cc,.slice h.io p.ins.length h.ic,.slice h.no p.named.length h.nc] 54)
   have R2:=R1.alloc (.cells #[.string p.name,.int .i64 p.line,.int .i64 p.params,.bool p.rest,.int .i64 p.regs,.slice h.uo p.ups.length h.uc,.slice h.co p.consts.length h.cc,.slice h.io p.ins.length h.ic,.slice h.no p.named.length h.nc] 54)
   have M2:=M1.alloc (.cells #[.string p.name,.int .i64 p.line,.int .i64 p.params,.bool p.rest,.int .i64 p.regs,.slice h.uo p.ups.length h.uc,.slice h.co p.consts.length h.cc,.slice h.io p.ins.length h.ic,.slice h.no p.named.length h.nc] 54)
   have P2:=Blk.new wr #[.string p.name,.int .i64 p.line,.int .i64 p.params,.bool p.rest,.int .i64 p.regs,.slice h.uo p.ups.length h.uc,.slice h.co p.consts.length h.cc,.slice h.io p.ins.length h.ic,.slice h.no p.named.length h.nc] 54
   have hins:p.ins.length≤1048576:=(hz p (List.mem_of_getElem? hpk)).ins
   have hPB1:=M1.lt
   have Bw:=hba (.cells #[.string p.name,.int .i64 p.line,.int .i64 p.params,.bool p.rest,.int .i64 p.regs,.slice h.uo p.ups.length h.uc,.slice h.co p.consts.length h.cc,.slice h.io p.ins.length h.ic,.slice h.no p.named.length h.nc] 54)
   clear C1 R1 M1 HQ hba
   have HM:Hid (m.length=ps.length):=hml
   clear hml
   go_wp2_with fail
   clear p0 p1 p2 p3 p4 p5 p6 p7 p8 hb
   generalize hPB:wr.heap.size=PB at *
   clear hPB
   go_loopw [24] (fun y wi=>∃(j:Nat) (m':List Bool),j≤p.ins.length∧y=.int .i64 j∧Hid (m'.length=ps.length)∧Hid (mkIns ps k p j (p.ins.drop j) m'=mkIns ps k p 0 p.ins m)∧Below w.heap.size w wi∧Blk wi w.heap.size #[.slice (some ⟨b,off,none⟩) ps.length cap] 26∧Blk wi (w.heap.size+1) #[.int .i64 0,.int .i64 0,.int .i64 0] 143∧Blk wi (w.heap.size+1+1) (boolArr m') 4∧Blk wi PB #[.string p.name,.int .i64 p.line,.int .i64 p.params,.bool p.rest,.int .i64 p.regs,.slice h.uo p.ups.length h.uc,.slice h.co p.consts.length h.cc,.slice h.io p.ins.length h.ic,.slice h.no p.named.length h.nc] 54) (fun y _=>p.ins.length - (intOf y).toNat)
   case atStart=>exact ⟨0,m,Nat.zero_le _,rfl,HM,rfl,Bw,C2,R2,M2,P2⟩
   case round=>
    obtain⟨j,m',hj,rfl,HM',HQ',hb',C3,R3,M3,P3⟩:=hrel
    clear C2 R2 M2 P2 Bw
    by_cases hjl:j<p.ins.length
    ·obtain⟨n,hnj⟩:=some_of_lt hjl
     obtain⟨b',off',e',_,hbl',q0,q1,q2,q3,q4⟩:=pin.ins.later (Keeps.of_below hb') j n hnj
     have HE:Hid (mkIns ps k p 0 p.ins m=_):=HQ'.out.symm.trans (mkIns_drop hnj m')
     have hba:∀o,Below w.heap.size w (wr.alloc o):=fun o=>hb'.alloc hb'.size o
     have CA:Hid (∀o,Blk (wr.alloc o) w.heap.size _ _):=fun o=>C3.alloc o
     have RA:Hid (∀o,Blk (wr.alloc o) (w.heap.size+1) _ _):=fun o=>R3.alloc o
     have MA:Hid (∀o,Blk (wr.alloc o) (w.heap.size+1+1) _ _):=fun o=>M3.alloc o
     have PA:Hid (∀o,Blk (wr.alloc o) PB _ _):=fun o=>P3.alloc o
     have hio:h.io=some ⟨b',off',none⟩:=e'
     by_cases hop:n.op=11
     ·obtain⟨hn1,hn2⟩:=hfn p (List.mem_of_getElem? hpk) n (List.mem_of_getElem? hnj) hop
      obtain⟨op,a1,b1,c1,d1⟩:=n
      dsimp only at *
      subst hop
      obtain⟨bN,rfl⟩:=Int.eq_ofNat_of_zero_le hn1
      obtain⟨q,hq⟩:=some_of_lt (l:=ps) (k:=bN) (by omega)
      obtain⟨b2,off2,e2,_,_,h2,m0,pin2⟩:=hv bN q hq
      obtain⟨rfl,rfl⟩:b=b2∧off=off2:=by simpa using e2
      obtain⟨_,_,_,_,_,s5,_⟩:=m0.later hb' hbl
      have hs5:∀o,(wr.alloc o).cell? ⟨b,off+bN*9+5,none⟩=some (.slice h2.uo q.ups.length h2.uc):=fun o=>by
       have h9:=m0.later (hba o) hbl
       exact h9.2.2.2.2.2.1
      have hmb:bN<m'.length:=by rw [HM'.out];omega
      have HFn:Hid (fnBad ps k p m' ⟨11,a1,bN,c1,d1⟩=(decide ((bN:Int)≤k) || (m'.getD bN false || !upsB p q.ups))):=by
       show _=_
       unfold fnBad
       simp [hq]
      have HE2:Hid (mkIns ps k p 0 p.ins m=if fnBad ps k p m' ⟨11,a1,bN,c1,d1⟩ then (some j,m') else mkIns ps k p (j+1) (p.ins.drop (j+1)) (m'.set bN true)):=by
       show _=_
       rw [HE.out]
       rfl
      have hz1:=hz p (List.mem_of_getElem? hpk)
      have hzq:=hz q (List.mem_of_getElem? hq)
      have hr1:=hr p (List.mem_of_getElem? hpk)
      have cM:∀o,(wr.alloc o).cell? ⟨w.heap.size+1+1,bN,none⟩=some (.bool (m'.getD bN false)):=fun o=>((MA.out o).cell bN).trans (boolArr_get hmb)
      have cC:=fun o=>(CA.out o).cell 0
      have cP:=fun o=>(PA.out o).cell
      have hups:=fun o=>pin2.ups.later (Keeps.of_below (hba o))
      clear HE HQ' C3 R3 M3 P3 pin pin2 n0 m0 e' e2 s5 hv hfn hz hr hnj hpk
      generalize hmbv:m'.getD bN false=mb at *
      obtain⟨uo,uc,co,cc,io,ic,no,nc⟩:=h
      dsimp only at *
      subst hio
      have HU:Hid _:=hups
      clear hups hmbv
      have hfault:fnBad ps k p m' ⟨11,a1,bN,c1,d1⟩=true→mkFault ps=(6,(k:Int),(j:Int)):=by
       intro hbad
       refine mkFault_six (m:=m') ?_
       rw [HD.out,HE2.out,if_pos hbad]
      have HFa:Hid _:=hfault
      clear hfault
      have cR:=fun o=>(RA.out o).cell
      have fR:=fun o=>(RA.out o).frozen
      have hno:(11:Int)=11:=rfl
      clear hno
      by_cases g1:(bN:Int)≤k
      ·have HV:Hid (mkFault ps=(6,(k:Int),(j:Int))):=HFa.out (by rw [HFn.out,decide_eq_true g1];rfl)
       clear HFa HFn
       go_wp2_with fail
       go_quiet (fail)
       go_wp2_with fail
       refine bodyPost_ret (v:=.agg #[.int .i64 6,.int .i64 k,.int .i64 j]) ?_ rfl ⟨?_,?_⟩
       ·simp [results,Tryz.results249,go_sem,cR]
       ·rw [HV.out];rfl
       ·iterate 3 (refine Below.setCell ?_ (by simp;try omega) _)
        exact below_drewN (hba _) _
      ·have g1':decide ((bN:Int)≤k)=false:=decide_eq_false g1
       have gn:decide (bN≤k)=false:=decide_eq_false (by omega)
       have gl:k<bN:=by omega
       have gi:(k:Int)<bN:=by omega
       clear g1
       cases mb
       rotate_left
       ·have HV:Hid (mkFault ps=(6,(k:Int),(j:Int))):=HFa.out (by rw [HFn.out,g1'];rfl)
        clear HFa HFn
        go_wp2_with fail
        go_quiet (fail)
        go_wp2_with fail
        refine bodyPost_ret (v:=.agg #[.int .i64 6,.int .i64 k,.int .i64 j]) ?_ rfl ⟨?_,?_⟩
        ·simp [results,Tryz.results249,go_sem,cR]
        ·rw [HV.out];rfl
        ·iterate 3 (refine Below.setCell ?_ (by simp;try omega) _)
         exact below_drewN (hba _) _
       ·have HFn2:Hid (fnBad ps k p m' ⟨11,a1,bN,c1,d1⟩ = !upsB p q.ups):=by show _=_;rw [HFn.out,g1'];rfl
        clear HFn
        have N4:=Blk.new wr #[.int .i64 11,.int .i64 a1,.int .i64 bN,.int .i64 c1,.int .i64 d1] 48
        have M4:=MA.out (.cells #[.int .i64 11,.int .i64 a1,.int .i64 bN,.int .i64 c1,.int .i64 d1] 48)
        have C4:=CA.out (.cells #[.int .i64 11,.int .i64 a1,.int .i64 bN,.int .i64 c1,.int .i64 d1] 48)
        have P4:=PA.out (.cells #[.int .i64 11,.int .i64 a1,.int .i64 bN,.int .i64 c1,.int .i64 d1] 48)
        have R4:=RA.out (.cells #[.int .i64 11,.int .i64 a1,.int .i64 bN,.int .i64 c1,.int .i64 d1] 48)
        have B4:=hba (.cells #[.int .i64 11,.int .i64 a1,.int .i64 bN,.int .i64 c1,.int .i64 d1] 48)
        have s4:=hs5 (.cells #[.int .i64 11,.int .i64 a1,.int .i64 bN,.int .i64 c1,.int .i64 d1] 48)
        have cm4:=cM (.cells #[.int .i64 11,.int .i64 a1,.int .i64 bN,.int .i64 c1,.int .i64 d1] 48)
        have U4:Hid (UpsAt 0 (wr.alloc (.cells #[.int .i64 11,.int .i64 a1,.int .i64 bN,.int .i64 c1,.int .i64 d1] 48)).drew h2.uo q.ups):=(HU.out (.cells #[.int .i64 11,.int .i64 a1,.int .i64 bN,.int .i64 c1,.int .i64 d1] 48)).later (Keeps.of_below (Below.refl _ _).drew)
        have D4:Below (wr.alloc (.cells #[.int .i64 11,.int .i64 a1,.int .i64 bN,.int .i64 c1,.int .i64 d1] 48)).heap.size (wr.alloc (.cells #[.int .i64 11,.int .i64 a1,.int .i64 bN,.int .i64 c1,.int .i64 d1] 48)) (wr.alloc (.cells #[.int .i64 11,.int .i64 a1,.int .i64 bN,.int .i64 c1,.int .i64 d1] 48)).drew:=(Below.refl _ _).drew
        have hb4:b<(wr.alloc (.cells #[.int .i64 11,.int .i64 a1,.int .i64 bN,.int .i64 c1,.int .i64 d1] 48)).drew.heap.size:=Nat.lt_of_lt_of_le hbl B4.size
        go_wp2_with fail
        go_region_held3 (fun w'=>w'.cell? ⟨wr.heap.size,2,none⟩=some (.int .i64 bN)∧w'.cell? ⟨w.heap.size+1+1,bN,none⟩=some (.bool false)∧w'.cell? ⟨w.heap.size,0,none⟩=some (.slice (some ⟨b,off,none⟩) ps.length cap)∧w'.cell? ⟨b,off+bN*9+5,none⟩=some (.slice h2.uo q.ups.length h2.uc)∧w'.cell? ⟨PB,0,none⟩=some (.string p.name)∧w'.cell? ⟨PB,1,none⟩=some (.int .i64 p.line)∧w'.cell? ⟨PB,2,none⟩=some (.int .i64 p.params)∧w'.cell? ⟨PB,3,none⟩=some (.bool p.rest)∧w'.cell? ⟨PB,4,none⟩=some (.int .i64 p.regs)∧w'.cell? ⟨PB,5,none⟩=some (.slice uo p.ups.length uc)∧w'.cell? ⟨PB,6,none⟩=some (.slice co p.consts.length cc)∧w'.cell? ⟨PB,7,none⟩=some (.slice (some ⟨b',off',none⟩) p.ins.length ic)∧w'.cell? ⟨PB,8,none⟩=some (.slice no p.named.length nc)) (first | (go_keep;done) | (simp +arith [*,World.cell?_setCell_far];done))
         (first | (go_at_call 299;refine (upsFit_any p ⟨uo,uc,co,cc,some ⟨b',off',none⟩,ic,no,nc⟩ h2.uo h2.uc q.ups (wr.alloc (.cells #[.int .i64 11,.int .i64 a1,.int .i64 bN,.int .i64 c1,.int .i64 d1] 48)).drew hzq.ups hz1 hr1 U4.out).mono ?_;rintro e w1 ⟨rfl,hw1⟩;have u0:=((N4.later D4).later hw1).cell 2;have u1:=(hw1.cell (p:=⟨w.heap.size+1+1,bN,none⟩) (M4.later D4).lt).trans cm4;have u2:=((C4.later D4).later hw1).cell 0;have u3:=(hw1.cell (p:=⟨b,off+bN*9+5,none⟩) hb4).trans s4;have up:=((P4.later D4).later hw1).cell))
        have B5:=B4.drew.trans (hw1.mono B4.size)
        have M5:=(M4.later D4).later hw1
        have C5:=(C4.later D4).later hw1
        have P5:=(P4.later D4).later hw1
        have R5:=(R4.later D4).later hw1
        have N5:=(N4.later D4).later hw1
        clear u0 u1 u2 u3 up N4 M4 C4 P4 R4 B4 s4 cm4 U4 hb4 D4 hw1 cM cC cP cR fR hs5 hba
        generalize upsB p q.ups=ub at *
        cases ub
        ·have HV:Hid (mkFault ps=(6,(k:Int),(j:Int))):=HFa.out (by rw [HFn2.out];rfl)
         clear HFa HFn2
         have cR:=R5.cell
         have fR:=R5.frozen
         go_wp2_with fail
         refine bodyPost_ret (v:=.agg #[.int .i64 6,.int .i64 k,.int .i64 j]) ?_ rfl ⟨?_,?_⟩
         ·simp [results,Tryz.results249,go_sem,cR]
         ·rw [HV.out];rfl
         ·iterate 3 (refine Below.setCell ?_ (by simp;try omega) _)
          exact B5
        ·have HE3:Hid (mkIns ps k p 0 p.ins m=mkIns ps k p (j+1) (p.ins.drop (j+1)) (m'.set bN true)):=by
          show _=_
          rw [HE2.out,HFn2.out]
          rfl
         clear HFa HFn2 HE2
         have n5:=N5.cell
         have m5:=(M5.cell bN).trans (boolArr_get hmb)
         have f5:=M5.frozen
         have Q1:=B5.setCell (p:=⟨w.heap.size+1+1,bN,none⟩) (by show w.heap.size≤w.heap.size+1+1;omega) (.bool true)
         have Q2:=C5.setOther (p:=⟨w.heap.size+1+1,bN,none⟩) (by show w.heap.size≠w.heap.size+1+1;omega) (.bool true)
         have Q3:=R5.setOther (p:=⟨w.heap.size+1+1,bN,none⟩) (by show w.heap.size+1≠w.heap.size+1+1;omega) (.bool true)
         have Q4:=M5.set bN (.bool true)
         rw [boolArr_set] at Q4
         have Q5:=P5.setOther (p:=⟨w.heap.size+1+1,bN,none⟩) (by show PB≠w.heap.size+1+1;omega) (.bool true)
         have HL:Hid ((m'.set bN true).length=ps.length):=by show _=_;rw [List.length_set];exact HM'.out
         clear N5 M5 C5 R5 P5 B5
         go_wp2_with fail
         go_roundw
         case rel=>exact ⟨j+1,m'.set bN true,by omega,by go_num,HL,HE3.out.symm,Q1,Q2,Q3,Q4,Q5⟩
         case measure=>simp [intOf];omega
     ·have ho:(n.op != 11)=true:=by simpa using hop
      have HE2:Hid (mkIns ps k p 0 p.ins m=mkIns ps k p (j+1) (p.ins.drop (j+1)) m'):=by
       show _=_
       rw [HE.out,if_neg (by simpa using hop)]
      clear HE hop
      clear C3 R3 M3 P3 pin n0 e'
      obtain⟨uo,uc,co,cc,io,ic,no,nc⟩:=h
      dsimp only at *
      subst hio
      go_wp2_with fail
      go_roundw
      case rel=>exact ⟨j+1,m',by omega,by go_num,HM',HE2.out.symm,hba _,CA.out _,RA.out _,MA.out _,PA.out _⟩
      case measure=>simp [intOf];omega
    ·have HI:Hid (mkIns ps k p 0 p.ins m=(none,m')):=by
      have h1:=HQ'.out
      rw [List.drop_of_length_le (by omega)] at h1
      exact h1.symm
     go_wp2_with fail
     go_roundw
     case rel=>exact ⟨k+1,m',by omega,by go_num,HM'.out,by show _=_;rw [HD.out,HI.out],hb',C3,R3,M3⟩
     case measure=>simp [intOf];omega
  ·have HN:Hid (mkAll ps 0 ps (List.replicate ps.length false)=(none,m)):=by
    have h2:=HQ.out
    rw [List.drop_of_length_le (by omega)] at h2
    exact h2.symm
   have HV:Hid (mkFault ps=if 0≤firstIdx false (m.set 0 true) 0 then (7,firstIdx false (m.set 0 true) 0,0) else (0,0,0)):=by
    show _=_
    unfold mkFault
    rw [HN.out]
   have m1:=(M1.cell 0).trans (boolArr_get (by omega))
   have f1:=M1.frozen
   have c1:=R1.cell
   have g1:=R1.frozen
   have i0:(0:Int)<ps.length:=by omega
   have M2:=M1.set 0 (.bool true)
   rw [boolArr_set] at M2
   have R2:=R1.setOther (p:=⟨w.heap.size+1+1,0,none⟩) (by show w.heap.size+1≠w.heap.size+1+1;omega) (.bool true)
   have B2:=hb.setCell (p:=⟨w.heap.size+1+1,0,none⟩) (by show w.heap.size≤w.heap.size+1+1;omega) (.bool true)
   clear HQ HN hv hz hr hfn C1 hb
   have hml2:(m.set 0 true).length=ps.length:=by rw [List.length_set];exact hml
   have HX:Hid (∀(c:Nat) (w:World),Blk w (w.heap.size+1+1) (boolArr (m.set 0 true)) 4→True):=fun _ _ _=>trivial
   clear HX
   have hidx:=fun (W:World) (hB:Blk W (w.heap.size+1+1) (boolArr (m.set 0 true)) 4)=>indexBool_any (w.heap.size+1+1) ps.length (m.set 0 true) false W (by omega) hB
   rw [hml2] at hidx
   have HI:Hid _:=hidx
   clear hidx hml2 hml
   go_wp2_with fail
   refine (HI.out _ M2).mono ?_
   rintro e w1 ⟨rfl,hw1⟩
   have B3:=B2.trans (hw1.mono B2.size)
   have R3:=R2.later hw1
   have c3:=R3.cell
   have g3:=R3.frozen
   clear m1 f1 c1 g1 M1 M2 R1 R2 B2 hw1
   generalize firstIdx false (m.set 0 true) 0=ix at *
   by_cases hx:0≤ix
   ·go_wp2_with fail
    refine bodyPost_ret (v:=.agg #[.int .i64 7,.int .i64 ix,.int .i64 0]) ?_ rfl ⟨?_,?_⟩
    ·simp [results,Tryz.results249,go_sem,c3]
    ·rw [HV.out,if_pos hx];rfl
    ·iterate 3 (refine Below.setCell ?_ (by simp;try omega) _)
     exact B3
   ·go_wp2_with fail
    refine bodyPost_ret (v:=.agg #[.int .i64 0,.int .i64 0,.int .i64 0]) ?_ rfl ⟨?_,?_⟩
    ·simp [results,Tryz.results249,go_sem,c3]
    ·rw [HV.out,if_neg (by omega)];rfl
    ·iterate 3 (refine Below.setCell ?_ (by simp;try omega) _)
     exact B3
def firstP (g:Nat→Pd→Option Nat):Nat→List Pd→Option (Nat × Nat)
 | _,[]=>none
 | k,p::r=>match g k p with
  | some i=>some (k,i)
  | none=>firstP g (k+1) r
theorem firstP_drop {g:Nat→Pd→Option Nat} {l:List Pd} {k:Nat} {p:Pd} (h:l[k]?=some p):firstP g k (l.drop k)=match g k p with
  | some i=>some (k,i)
  | none=>firstP g (k+1) (l.drop (k+1)):=by
 rw [drop_some h];rfl
def headP (k:Nat) (p:Pd):Option Nat:=if headOk p k then none else some 0
def constP (_:Nat) (p:Pd):Option Nat:=firstBad constG 0 p.consts
def namedP (_:Nat) (p:Pd):Option Nat:=firstBad (namedB p) 0 p.named
def insP (np:Nat) (_:Nat) (p:Pd):Option Nat:=insBad np p
def shapeF (ps:List Pd):Int × Int × Int:=
 if sizeB ps then
  match firstP headP 0 ps with
  | some (p,i)=>(2,p,i)
  | none=>match firstP constP 0 ps with
   | some (p,i)=>(3,p,i)
   | none=>match firstP namedP 0 ps with
    | some (p,i)=>(4,p,i)
    | none=>match firstP (insP ps.length) 0 ps with
     | some (p,i)=>(5,p,i)
     | none=>mkFault ps
 else (1,0,0)
structure Fine (ps:List Pd):Prop where
 bulk:bulkPs ps≤1048576
 few:∀p ∈ ps,PFew p
 flts:∀p ∈ ps,Flts p.consts
 nds:∀p ∈ ps,∀n ∈ p.ins,NdW n
theorem firstP_none {g:Nat→Pd→Option Nat} : ∀{l:List Pd} {s:Nat},firstP g s l=none→∀k p,l[k]?=some p→g (s+k) p=none
 | [],_,_,k,p,h=>by simp at h
 | x::r,s,h,k,p,hk=>by
  unfold firstP at h
  cases hx:g s x with
  | some i=>rw [hx] at h;cases h
  | none=>
   rw [hx] at h
   cases k with
   | zero=>simp at hk;subst hk;exact hx
   | succ k=>
    simp at hk
    have:=firstP_none (g:=g) (l:=r) (s:=s+1) h k p hk
    rwa [show s+(k+1)=s+1+k by omega]
theorem regs_of_heads {ps:List Pd} (h:firstP headP 0 ps=none):∀p ∈ ps,0≤p.regs∧p.regs≤250:=by
 intro p hp
 obtain⟨k,hk⟩:=List.getElem?_of_mem hp
 have:=firstP_none h k p hk
 unfold headP at this
 split at this
 ·rename_i hh
  unfold headOk at hh
  simp [inR] at hh
  omega
 ·cases this
theorem firstBad_none {α:Type} {f:Nat→α→Bool} : ∀{l:List α} {s:Nat},firstBad f s l=none→∀k x,l[k]?=some x→f (s+k) x=true
 | [],_,_,k,p,h=>by simp at h
 | x::r,s,h,k,p,hk=>by
  unfold firstBad at h
  split at h
  ·cases k with
   | zero=>simp at hk;subst hk;assumption
   | succ k=>
    simp at hk
    have:=firstBad_none h k p hk
    rwa [show s+(k+1)=s+1+k by omega]
  ·cases h
theorem fns_of_ins {ps:List Pd} (h:firstP (insP ps.length) 0 ps=none):FnsOk ps:=by
 intro p hp n hn hop
 obtain⟨k,hk⟩:=List.getElem?_of_mem hp
 obtain⟨j,hj⟩:=List.getElem?_of_mem hn
 have h1:=firstP_none h k p hk
 unfold insP insBad at h1
 cases hb:firstBad (formsG ps.length p) 0 p.ins with
 | some i=>rw [hb] at h1;cases h1
 | none=>
  have h2:=firstBad_none hb j n hj
  unfold formsG formsB at h2
  rw [hop] at h2
  have h3:rolesOf (11:Int).toNat=[1,9,0,0]:=by decide
  rw [h3] at h2
  simp [Nd.fs,fitAll,fitsR,inR] at h2
  omega
end Go.Proofs.YtgopdffmnikhdaaGreatDoor
