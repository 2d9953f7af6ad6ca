import Derived.Test.YtgopdffmnikhdaaGreatDoorT43
import Derived.Test.YtgopdffmnikhdaaGreatDoorT03
import Derived.Deep.RegionHeld3
namespace Go.Proofs.YtgopdffmnikhdaaGreatDoor
open Go.RowKit Go.Deep
theorem dropsF_at {a:Int} {l:List Nd} {k:Nat} {n:Nd} (h:l[k]?=some n):dropsF a k (l.drop k)=if n.op=42∧n.a=a+k then dropsF a (k+1) (l.drop (k+1))+1 else 0:=by
 rw [drop_some h];rfl
set_option maxRecDepth 100000 in
set_option maxHeartbeats 1000000 in
theorem joinDrops_any (io co:Option Addr) (ic m cc:Nat) (c:Int) (l:List Nd) (n0:Nd) (w:World) (hl:l.length≤1048576) (hin:InssAt 0 w io l) (h0:l[0]?=some n0) (hop:n0.op=42) (hd:∀n ∈ l,n.op=42→(0≤n.a∧n.a≤250)∧n.b=0∧n.c=0∧n.d=0) :
  Calls Tryz.prog 193 #[.agg #[.slice io l.length ic,.slice co m cc,.int .i64 c]] w fun e w'=>e=.returned (.tuple #[Qd.val ⟨46,n0.a,dropsF n0.a 0 l,0,0,0,0⟩,.bool (decide (1<dropsF n0.a 0 l))])∧Below w.heap.size w w':=by
 have HS:Hid (∀(k:Nat) n,l[k]?=some n→dropsF n0.a k (l.drop k)=if n.op=42∧n.a=n0.a+k then dropsF n0.a (k+1) (l.drop (k+1))+1 else 0):=fun k n hn=>dropsF_at hn
 obtain⟨D,hD⟩:∃D,D=dropsF n0.a 0 l:=⟨_,rfl⟩
 have hD1:dropsF n0.a 1 (l.drop 1)+1=D:=by
  have:=HS.out 0 n0 h0
  rw [if_pos ⟨hop,by simp⟩] at this
  rw [hD]
  exact this.symm
 have HDL:Hid (D≤l.length):=by rw [hD];exact dropsF_le _ _ _
 have HD:Hid (D=dropsF n0.a 0 l):=hD
 rw [←hD]
 clear hD
 have hlt:=(List.getElem?_eq_some_iff.1 h0).1
 obtain⟨⟨ha1,ha2⟩,_⟩:=hd n0 (List.mem_of_getElem? h0) hop
 have HDR:Hid (∀n ∈ l,n.op=42→(0≤n.a∧n.a≤250)∧n.b=0∧n.c=0∧n.d=0):=hd
 obtain⟨b,off,rfl,_,hbl,q0,q1,q2,q3,q4⟩:=hin 0 n0 h0
 simp only [Nat.zero_mul,Nat.add_zero] at q0 q1 q2 q3 q4
 replace q1:=cell_al2 hbl q1
 have hb2:∀o1 o2,Below w.heap.size w ((w.alloc o1).alloc o2):=fun o1 o2=>((Below.refl _ _).alloc (Nat.le_refl _) o1).alloc (by simp) o2
 have X0:=(Blk.new w #[.slice (some ⟨b,off,none⟩) l.length ic,.slice co m cc,.int .i64 c] 152).alloc (.cells #[.int .i64 0,.int .i64 0,.int .i64 0,.int .i64 0,.int .i64 0,.int .i64 0,.int .i64 0] 149)
 have Y0:=Blk.new (w.alloc (.cells #[.slice (some ⟨b,off,none⟩) l.length ic,.slice co m cc,.int .i64 c] 152)) #[.int .i64 0,.int .i64 0,.int .i64 0,.int .i64 0,.int .i64 0,.int .i64 0,.int .i64 0] 149
 rw [nblk_alloc] at Y0
 obtain⟨z0,A,z2,z3,z4⟩:=n0
 dsimp only at *
 clear hd hop q0 q2 q3 q4 h0
 have k0:(0:Int)<l.length:=by omega
 go_enter Tryz.func193,Tryz.ntmps193
 go_wp2_with fail
 go_loopw [5] (fun y wr=>∃k:Nat,1≤k∧k≤l.length∧y=.int .i64 k∧Hid (dropsF A k (l.drop k)+k=D)∧Below w.heap.size w wr∧Blk wr w.heap.size #[.slice (some ⟨b,off,none⟩) l.length ic,.slice co m cc,.int .i64 c] 152∧Blk wr (w.heap.size+1) #[.int .i64 0,.int .i64 0,.int .i64 0,.int .i64 0,.int .i64 0,.int .i64 0,.int .i64 0] 149) (fun y _=>l.length - (intOf y).toNat)
 case atStart=>exact ⟨1,by omega,by omega,rfl,hD1,hb2 _ _,X0,Y0⟩
 case round=>
  obtain⟨k,hk1,hk,rfl,HQ,hb,X1,Y1⟩:=hrel
  clear X0 Y0 q1 hD1
  have x1:=X1.cell
  by_cases hlt2:k<l.length
  ·obtain⟨n,hn⟩:=some_of_lt hlt2
   obtain⟨b',off',e',_,hbl',r0,r1,r2,r3,r4⟩:=hin.later (Keeps.of_below hb) k n hn
   simp only [Option.some.injEq,Addr.mk.injEq,and_true] at e'
   obtain⟨rfl,rfl⟩:=e'
   have HE:=HS.out k n hn
   have HN:=HDR.out n (List.mem_of_getElem? hn)
   have g0:(k:Int)<l.length:=by omega
   obtain⟨n0',n1,n2,n3,n4⟩:=n
   dsimp only at *
   by_cases hc:n0'=42∧n1=A+k
   ·have HQ1:Hid (dropsF A (k+1) (l.drop (k+1))+(k+1)=D):=by
     have h1:=HQ.out
     rw [HE,if_pos hc] at h1
     show _=_
     omega
    obtain⟨rfl,rfl⟩:=hc
    obtain⟨_,rfl,rfl,rfl⟩:=HN rfl
    clear HQ HE HS HN HDR hn
    go_wp2_with fail
    go_roundw
    case rel=>exact ⟨k+1,by omega,by omega,by go_num,HQ1.out,hb,X1,Y1⟩
    case measure=>simp [intOf];omega
   ·have HQ1:Hid (k=D):=by
     have h1:=HQ.out
     rw [HE,if_neg hc] at h1
     show _=_
     omega
    have y1:=Y1.cell
    have yf:=Y1.frozen
    by_cases h42:n0'=42
    ·obtain⟨_,rfl,rfl,rfl⟩:=HN h42
     have ga:(n1 == A+(k:Int))=false:=by
      have:¬n1=A+(k:Int):=fun h=>hc ⟨h42,h⟩
      simpa using this
     subst h42
     clear HQ HE HS HN HDR hn hc
     go_wp2_with fail
     refine bodyPost_ret (v:=.tuple #[.agg #[.int .i64 46,.int .i64 A,.int .i64 k,.int .i64 0,.int .i64 0,.int .i64 0,.int .i64 0],.bool (decide (1<(k:Int)))]) ?_ rfl ⟨?_,?_⟩
     ·simp [results,Tryz.results193,go_sem,y1]
     ·obtain rfl:=HQ1.out
      have:decide (1<(k:Int))=decide (1<k):=by rw [decide_eq_decide];omega
      rw [this]
      rfl
     ·iterate 7 (refine Below.setCell ?_ (by simp;try omega) _)
      exact hb
    ·have go:(n0' == 42)=false:=by simpa using h42
     clear HQ HE HS HN HDR hn hc h42
     go_wp2_with fail
     refine bodyPost_ret (v:=.tuple #[.agg #[.int .i64 46,.int .i64 A,.int .i64 k,.int .i64 0,.int .i64 0,.int .i64 0,.int .i64 0],.bool (decide (1<(k:Int)))]) ?_ rfl ⟨?_,?_⟩
     ·simp [results,Tryz.results193,go_sem,y1]
     ·obtain rfl:=HQ1.out
      have:decide (1<(k:Int))=decide (1<k):=by rw [decide_eq_decide];omega
      rw [this]
      rfl
     ·iterate 7 (refine Below.setCell ?_ (by simp;try omega) _)
      exact hb
  ·have k0:¬(k:Int)<l.length:=by omega
   have HQ1:Hid (k=D):=by
    have h1:=HQ.out
    rw [List.drop_of_length_le (by omega)] at h1
    simp only [dropsF] at h1
    show _=_
    omega
   have y1:=Y1.cell
   have yf:=Y1.frozen
   clear HQ HS HDR hlt2
   go_wp2_with fail
   refine bodyPost_ret (v:=.tuple #[.agg #[.int .i64 46,.int .i64 A,.int .i64 k,.int .i64 0,.int .i64 0,.int .i64 0,.int .i64 0],.bool (decide (1<(k:Int)))]) ?_ rfl ⟨?_,?_⟩
   ·simp [results,Tryz.results193,go_sem,y1]
   ·obtain rfl:=HQ1.out
    have:decide (1<(k:Int))=decide (1<k):=by rw [decide_eq_decide];omega
    rw [this]
    rfl
   ·iterate 7 (refine Below.setCell ?_ (by simp;try omega) _)
    exact hb
set_option maxHeartbeats 400000 in
theorem names_any (x r:Int) (hx1 : -9223372036854775808≤x) (hx2:x≤9223372036854775807) (w:World) :
  Calls Tryz.prog 257 #[.int .i64 x,.int .i64 r] w fun e w'=>e=.returned (.bool (regOf x == r))∧Below w.heap.size w w':=by
 go_enter Tryz.func257,Tryz.ntmps257
 go_wp2_with fail
 refine (register_any x 0 hx1 hx2 _).mono ?_
 rintro e w1 ⟨rfl,hw1⟩
 go_wp2_with fail
 go_ret
 exact⟨rfl,hw1⟩
set_option maxHeartbeats 400000 in
theorem takes_any (x r:Int) (hx1 : -9223372036854775808≤x) (hx2:x≤9223372036854775807) (w:World) :
  Calls Tryz.prog 256 #[.int .i64 x,.int .i64 r] w fun e w'=>e=.returned (.bool (decide (x<0) && (regOf x == r)))∧Below w.heap.size w w':=by
 go_enter Tryz.func256,Tryz.ntmps256
 go_wp2_with fail
 refine (taken_any x 0 _).mono ?_
 rintro e w1 ⟨rfl,hw1⟩
 by_cases h:x<0
 ·go_wp2_with fail
  refine (names_any x r hx1 hx2 _).mono ?_
  rintro e w2 ⟨rfl,hw2⟩
  go_wp2_with fail
  go_ret
  exact⟨ret_bool (by simp [h]),hw1.trans (hw2.mono hw1.size)⟩
 ·go_wp2_with fail
  go_ret
  exact⟨ret_bool (by rw [decide_eq_false (by omega)];rfl),hw1⟩
end Go.Proofs.YtgopdffmnikhdaaGreatDoor
