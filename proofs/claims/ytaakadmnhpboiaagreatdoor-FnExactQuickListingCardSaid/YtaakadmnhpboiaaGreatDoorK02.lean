import Derived.Test.YtaakadmnhpboiaaGreatDoorK01
import Derived.Deep.RegionHeld3
namespace Go.Proofs.YtaakadmnhpboiaaGreatDoor
open Go.RowKit Go.Deep
def zeroQ:Qd:=⟨0,0,0,0,0,0,0⟩
def twoT:Option Qd→Value
  | none=>.tuple #[zeroQ.val,.bool false]
  | some q=>.tuple #[q.val,.bool true]
theorem two_none {o:Option Qd} (h:o=none):Ending.returned (.tuple #[.agg #[.int .i64 0,.int .i64 0,.int .i64 0,.int .i64 0,.int .i64 0,.int .i64 0,.int .i64 0],.bool false])=.returned (twoT o):=by rw [h];rfl
theorem two_some {o:Option Qd} {a b c d e f g:Int} (h:o=some ⟨a,b,c,d,e,f,g⟩):Ending.returned (.tuple #[.agg #[.int .i64 a,.int .i64 b,.int .i64 c,.int .i64 d,.int .i64 e,.int .i64 f,.int .i64 g],.bool true])=.returned (twoT o):=by rw [h];rfl
theorem cell_al3 {w:World} {b o:Nat} {v:Value} (hb:b<w.heap.size) (h:w.cell? ⟨b,o,none⟩=some v) (o1 o2 o3:Obj):(((w.alloc o1).alloc o2).alloc o3).cell? ⟨b,o,none⟩=some v:=
  (Below.cell (p:=⟨b,o,none⟩) ((((Below.refl w.heap.size w).alloc (Nat.le_refl _) o1).alloc (by simp) o2).alloc (by simp;omega) o3) hb).trans h
theorem cell_al4 {w:World} {b o:Nat} {v:Value} (hb:b<w.heap.size) (h:w.cell? ⟨b,o,none⟩=some v) (o1 o2 o3 o4:Obj):((((w.alloc o1).alloc o2).alloc o3).alloc o4).cell? ⟨b,o,none⟩=some v:=
  (Below.cell (p:=⟨b,o,none⟩) (((((Below.refl w.heap.size w).alloc (Nat.le_refl _) o1).alloc (by simp) o2).alloc (by simp;omega) o3).alloc (by simp;omega) o4) hb).trans h
set_option maxRecDepth 100000 in
set_option maxHeartbeats 2000000 in
theorem l6two_any (p:Pd) (h:Ph) (i cache:Nat) (n:Nd) (w:World) (hz:p.ins.length≤1048576) (hin:InssAt 0 w h.io p.ins) (hcs:ValsAt 0 w h.co p.consts) (hi:p.ins[i]?=some n) (hq:QFit p n) :
    Calls Tryz.prog 69 #[.agg (p.cells h),.int .i64 i,.int .i64 cache] w fun e w'=>e=.returned (twoT (twoL p.consts cache (p.ins.drop i)))∧Below w.heap.size w w':=by
  have hil:=(List.getElem?_eq_some_iff.1 hi).1
  obtain⟨nm,ln,pa,re,rg,us,cs,is,ms⟩:=p
  obtain⟨uo,uc,co,cc,io,ic,no,nc⟩:=h
  dsimp only [Pd.cells] at *
  by_cases hlt:i+1<is.length
  rotate_left
  · have HT:Hid (twoL cs cache (is.drop i)=none):=twoL_last (by omega)
    have k0:¬(i:Int)+1<is.length:=by omega
    clear hin hcs hi hq
    go_enter Tryz.func69,Tryz.ntmps69
    go_wp2_with fail
    refine bodyPost_ret (v:=.tuple #[.agg #[.int .i64 0,.int .i64 0,.int .i64 0,.int .i64 0,.int .i64 0,.int .i64 0,.int .i64 0],.bool false]) (by simp [results,Tryz.results69,go_sem]) rfl ⟨two_none HT.out,?_⟩
    repeat (first | exact Below.refl _ _ | refine Below.alloc ?_ (by simp;try omega) _ | refine Below.setCell ?_ (by simp;try omega) _)
  obtain⟨x,hx⟩:=some_of_lt hlt
  obtain⟨b,off,rfl,_,hbl,q0,q1,q2,q3,q4⟩:=hin i n hi
  obtain⟨b',off',e',_,hbl',r0,r1,r2,r3,r4⟩:=hin (i+1) x hx
  simp only [Option.some.injEq,Addr.mk.injEq,and_true] at e'
  obtain⟨rfl,rfl⟩:=e'
  replace r0:=cell_al3 hbl r0
  replace r1:=cell_al3 hbl r1
  replace r2:=cell_al3 hbl r2
  replace r3:=cell_al3 hbl r3
  replace r4:=cell_al3 hbl r4
  have HT:Hid (twoL cs cache (is.drop i)=twoF cs cache n x):=twoL_drop hi hx
  obtain⟨n0,n1,n2,n3,n4⟩:=n
  obtain⟨x0,x1,x2,x3,x4⟩:=x
  obtain⟨lo,hi42,hdr,hcst,hbin⟩:=hq
  dsimp only at *
  clear hdr hi hx hin
  have k0:(i:Int)+1<is.length:=by omega
  by_cases h18:n0=18
  · subst h18
    obtain⟨ha1,ha2⟩:=hbin rfl
    clear hbin hcst hcs
    have HT2:Hid (twoF cs cache ⟨18,n1,n2,n3,n4⟩ ⟨x0,x1,x2,x3,x4⟩=if 13≤n2∧(x0=20∨x0=21)∧x1 = -1 - n1 then some ⟨43,n1,n2,n3,n4,x2,if x0=20 then 1 else 0⟩ else none):=by
      show _=_
      simp only [twoF,true_and]
      split <;> simp
    go_enter Tryz.func69,Tryz.ntmps69
    go_wp2_with fail
    all_goals first
      | (refine bodyPost_ret (v:=.tuple #[.agg #[.int .i64 43,.int .i64 n1,.int .i64 n2,.int .i64 n3,.int .i64 n4,.int .i64 x2,.int .i64 1],.bool true]) ?_ rfl ⟨two_some ?_,?_⟩
         · simp [results,Tryz.results69,go_sem];done
         · show _=_
           rw [HT.out,HT2.out]
           clear HT HT2 r0 r1 r2 r3 r4 q0 q1 q2 q3 q4
           grind
         · repeat (first | exact Below.refl _ _ | refine Below.alloc ?_ (by simp;try omega) _ | refine Below.setCell ?_ (by simp;try omega) _))
      | (refine bodyPost_ret (v:=.tuple #[.agg #[.int .i64 43,.int .i64 n1,.int .i64 n2,.int .i64 n3,.int .i64 n4,.int .i64 x2,.int .i64 0],.bool true]) ?_ rfl ⟨two_some ?_,?_⟩
         · simp [results,Tryz.results69,go_sem];done
         · show _=_
           rw [HT.out,HT2.out]
           clear HT HT2 r0 r1 r2 r3 r4 q0 q1 q2 q3 q4
           grind
         · repeat (first | exact Below.refl _ _ | refine Below.alloc ?_ (by simp;try omega) _ | refine Below.setCell ?_ (by simp;try omega) _))
      | (refine bodyPost_ret (v:=.tuple #[.agg #[.int .i64 0,.int .i64 0,.int .i64 0,.int .i64 0,.int .i64 0,.int .i64 0,.int .i64 0],.bool false]) ?_ rfl ⟨two_none ?_,?_⟩
         · simp [results,Tryz.results69,go_sem];done
         · show _=_
           rw [HT.out,HT2.out]
           clear HT HT2 r0 r1 r2 r3 r4 q0 q1 q2 q3 q4
           grind
         · repeat (first | exact Below.refl _ _ | refine Below.alloc ?_ (by simp;try omega) _ | refine Below.setCell ?_ (by simp;try omega) _))
  · have g18:(n0 == 18)=false:=by simpa using h18
    by_cases h4:n0=4
    rotate_left
    · have g4:(n0 != 4)=true:=by simpa using h4
      have HT2:Hid (twoF cs cache ⟨n0,n1,n2,n3,n4⟩ ⟨x0,x1,x2,x3,x4⟩=none):=by
        show _=_
        simp [twoF,h18,h4]
      clear hbin hcst hcs h18 h4
      go_enter Tryz.func69,Tryz.ntmps69
      go_wp2_with fail
      refine bodyPost_ret (v:=.tuple #[.agg #[.int .i64 0,.int .i64 0,.int .i64 0,.int .i64 0,.int .i64 0,.int .i64 0,.int .i64 0],.bool false]) (by simp [results,Tryz.results69,go_sem]) rfl ⟨two_none (HT.out.trans HT2.out),?_⟩
      repeat (first | exact Below.refl _ _ | refine Below.alloc ?_ (by simp;try omega) _ | refine Below.setCell ?_ (by simp;try omega) _)
    · subst h4
      obtain⟨⟨ha1,ha2⟩,hb1,hb2⟩:=hcst rfl
      clear hbin hcst h18 g18
      obtain⟨m,rfl⟩:∃m:Nat,n2=m:=⟨n2.toNat,by omega⟩
      obtain⟨v,hv⟩:=some_of_lt (show m<cs.length by omega)
      have hkind:kindAt cs (m:Int)=v.kind:=by simp [kindAt,hv]
      obtain⟨bc,oc,rfl,_,hbc,w0,_⟩:=hcs m v hv
      replace w0:=cell_al4 hbc w0
      obtain⟨kd,num,flt,str,rf⟩:=v
      dsimp only at *
      have HT2:Hid (twoF cs cache ⟨4,n1,m,n3,n4⟩ ⟨x0,x1,x2,x3,x4⟩=if x0=18∧x3 = -1 - n1∧x4≠n1∧x4≠-1 - n1 then some ⟨44,x1,x2,x4,m,1,n1⟩
  else if x0=18∧x4 = -1 - n1∧x3≠n1∧x3≠-1 - n1 then some ⟨44,x1,x2,x3,m,0,n1⟩
  else if x0=15∧x3 = -1 - n1∧x2≠n1∧x2≠-1 - n1∧kd=4 then some ⟨45,x1,x2,m,cache,0,n1⟩ else none):=by
        show _=_
        simp [twoF,hkind]
      clear hcs hkind hv
      have k1:(m:Int)<cs.length:=hb2
      go_enter Tryz.func69,Tryz.ntmps69
      go_wp2_with fail
      all_goals first
      | (refine bodyPost_ret (v:=.tuple #[.agg #[.int .i64 44,.int .i64 x1,.int .i64 x2,.int .i64 x4,.int .i64 m,.int .i64 1,.int .i64 n1],.bool true]) ?_ rfl ⟨two_some ?_,?_⟩
         · simp [results,Tryz.results69,go_sem];done
         · show _=_
           rw [HT.out,HT2.out]
           clear HT HT2 r0 r1 r2 r3 r4 q0 q1 q2 q3 q4
           grind
         · repeat (first | exact Below.refl _ _ | refine Below.alloc ?_ (by simp;try omega) _ | refine Below.setCell ?_ (by simp;try omega) _))
      | (refine bodyPost_ret (v:=.tuple #[.agg #[.int .i64 44,.int .i64 x1,.int .i64 x2,.int .i64 x3,.int .i64 m,.int .i64 0,.int .i64 n1],.bool true]) ?_ rfl ⟨two_some ?_,?_⟩
         · simp [results,Tryz.results69,go_sem];done
         · show _=_
           rw [HT.out,HT2.out]
           clear HT HT2 r0 r1 r2 r3 r4 q0 q1 q2 q3 q4
           grind
         · repeat (first | exact Below.refl _ _ | refine Below.alloc ?_ (by simp;try omega) _ | refine Below.setCell ?_ (by simp;try omega) _))
      | (refine bodyPost_ret (v:=.tuple #[.agg #[.int .i64 45,.int .i64 x1,.int .i64 x2,.int .i64 m,.int .i64 cache,.int .i64 0,.int .i64 n1],.bool true]) ?_ rfl ⟨two_some ?_,?_⟩
         · simp [results,Tryz.results69,go_sem];done
         · show _=_
           rw [HT.out,HT2.out]
           clear HT HT2 r0 r1 r2 r3 r4 q0 q1 q2 q3 q4
           grind
         · repeat (first | exact Below.refl _ _ | refine Below.alloc ?_ (by simp;try omega) _ | refine Below.setCell ?_ (by simp;try omega) _))
      | (refine bodyPost_ret (v:=.tuple #[.agg #[.int .i64 0,.int .i64 0,.int .i64 0,.int .i64 0,.int .i64 0,.int .i64 0,.int .i64 0],.bool false]) ?_ rfl ⟨two_none ?_,?_⟩
         · simp [results,Tryz.results69,go_sem];done
         · show _=_
           rw [HT.out,HT2.out]
           clear HT HT2 r0 r1 r2 r3 r4 q0 q1 q2 q3 q4
           grind
         · repeat (first | exact Below.refl _ _ | refine Below.alloc ?_ (by simp;try omega) _ | refine Below.setCell ?_ (by simp;try omega) _))
end Go.Proofs.YtaakadmnhpboiaaGreatDoor
