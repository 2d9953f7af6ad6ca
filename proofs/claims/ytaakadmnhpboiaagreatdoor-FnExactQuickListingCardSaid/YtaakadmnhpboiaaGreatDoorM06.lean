import Derived.Test.YtaakadmnhpboiaaGreatDoorM04
import Derived.Test.YtaakadmnhpboiaaGreatDoorM03
import Derived.Test.YtaakadmnhpboiaaGreatDoorM01
import Derived.Laws.FloatArith
import Derived.Test.YtaakadmnhpboiaaGreatDoorM05
namespace Go.Proofs.YtaakadmnhpboiaaGreatDoor
open Go.RowKit Go.Deep
def insSum (ps:List Pd):Nat:=sumL (fun p=>p.ins.length) ps
def sizeB (ps:List Pd):Bool:=inR ps.length 1 200 && decide ((insSum ps:Int)≤6000)
theorem insSum_take {l:List Pd} {k:Nat} {p:Pd} (h:l[k]?=some p):sumL (fun p=>p.ins.length) (l.take (k+1))=sumL (fun p=>p.ins.length) (l.take k)+p.ins.length:=by
 induction l generalizing k with
 | nil=>simp at h
 | cons x r ih=>
  cases k with
  | zero=>simp at h;subst h;simp [sumL]
  | succ k=>
   simp at h
   have:=ih h
   simp only [List.take_succ_cons,sumL]
   omega
theorem sumIns_le (l:List Pd) (k:Nat):sumL (fun p=>p.ins.length) (l.take k)≤sumL bulkP l:=by
 induction l generalizing k with
 | nil=>simp [sumL]
 | cons x r ih=>
  cases k with
  | zero=>simp [sumL]
  | succ k=>
   have:=ih k
   simp only [List.take_succ_cons,sumL]
   have:x.ins.length≤bulkP x:=by unfold bulkP;omega
   omega
set_option maxRecDepth 100000 in
set_option maxHeartbeats 2000000 in
theorem sizesFit_any (ao:Option Addr) (cap:Nat) (ps:List Pd) (w:World) (hm:bulkPs ps≤1048576) (hv:ProtosAt 0 w ao ps) :
  Calls Tryz.prog 55 #[.agg #[.slice ao ps.length cap]] w fun e w'=>e=.returned (.bool (sizeB ps))∧Below w.heap.size w w':=by
 have hl:ps.length≤1048576:=by unfold bulkPs at hm;omega
 have hsum:sumL bulkP ps≤1048576:=by unfold bulkPs at hm;omega
 have hb1:∀o,Below w.heap.size w (w.alloc o):=fun o=>(Below.refl _ _).alloc (Nat.le_refl _) o
 have C0:=Blk.new w #[.slice ao ps.length cap] 31
 clear hm
 go_enter Tryz.func55,Tryz.ntmps55
 go_wp2_with fail
 go_loopw [3,9] (fun s y wr=>∃k:Nat,k≤ps.length∧y=.int .i64 k∧s=.int .i64 (sumL (fun p=>p.ins.length) (ps.take k):Nat)∧Below w.heap.size w wr∧Blk wr w.heap.size #[.slice ao ps.length cap] 31) (fun _ y _=>ps.length - (intOf y).toNat)
 case atStart=>exact ⟨0,Nat.zero_le _,rfl,rfl,hb1 _,C0⟩
 case round=>
  obtain⟨k,hk,rfl,rfl,hb,C1⟩:=hrel
  clear C0
  by_cases hkl:k<ps.length
  ·obtain⟨p,hpk⟩:=some_of_lt hkl
   obtain⟨b,off,rfl,_,hbl,h,⟨p0,p1,p2,p3,p4,p5,p6,p7,p8⟩,_⟩:=hv.later (Keeps.of_below hb) k p hpk
   have HT:Hid _:=insSum_take hpk
   have h1:=sumIns_le ps k
   have h2:=sumIns_le ps (k+1)
   rw [HT.out] at h2
   have hba:∀o,Below w.heap.size w (wr.alloc o):=fun o=>hb.alloc hb.size o
   have CA:Hid (∀o,Blk (wr.alloc o) w.heap.size #[.slice (some ⟨b,off,none⟩) ps.length cap] 31):=fun o=>C1.alloc o
   generalize hq:sumL (fun p=>p.ins.length) (ps.take k)=q at *
   clear hv hq
   go_wp2_with fail
   go_roundw
   case rel=>exact ⟨k+1,by omega,by go_num,by rw [HT.out];go_num,hba _,CA.out _⟩
   case measure=>simp [intOf];omega
  ·have hall:ps.take k=ps:=List.take_of_length_le (by omega)
   rw [hall]
   have E0:Hid (sizeB ps=(inR ps.length 1 200 && decide (((sumL (fun p=>p.ins.length) ps:Nat):Int)≤6000))):=rfl
   have hle:=sumIns_le ps ps.length
   rw [List.take_length] at hle
   have c1:=C1.cell
   generalize sumL (fun p=>p.ins.length) ps=q at *
   clear hv hall
   go_wp2_with (go_at_call 104;refine (within_any _ _ _ _).mono ?_;rintro e w' ⟨rfl,rfl⟩)
   all_goals
    go_ret
    exact⟨ret_bool (by rw [E0.out];simp_all),hb⟩
def roleTab:List (List Nat):=[[],[11,0,0,0],[12,0,0,0],[0,0,0,0],[1,7,0,0],[1,2,0,0],[1,2,0,0],[1,5,0,0],[5,2,0,0],[1,8,0,0],[8,2,0,0],[1,9,0,0],[1,0,0,0],[4,2,2,0],[4,2,3,0],[1,2,2,0],[2,2,2,0],[1,15,2,0],[1,16,2,2],[10,0,0,0],[2,10,0,0],[2,10,0,0],[1,0,0,0],[6,2,0,0],[6,3,0,0],[1,3,0,0],[1,6,17,0],[1,6,0,0],[1,2,3,0],[3,0,0,0],[2,0,0,0],[10,14,0,0],[0,0,0,0],[13,0,0,0],[13,0,0,0],[2,3,0,0],[0,0,0,0],[18,0,0,0],[18,10,0,0],[18,10,0,0],[19,0,0,0],[20,10,1,0],[21,0,0,0]]
def rolesOf (op:Nat):List Nat:=roleTab.getD op []
theorem ops_all (n:Nat) (h1:1≤n) (h2:n≤42):n=1∨n=2∨n=3∨n=4∨n=5∨n=6∨n=7∨n=8∨n=9∨n=10∨n=11∨n=12∨n=13∨n=14∨n=15∨n=16∨n=17∨n=18∨n=19∨n=20∨n=21∨n=22∨n=23∨n=24∨n=25∨n=26∨n=27∨n=28∨n=29∨n=30∨n=31∨n=32∨n=33∨n=34∨n=35∨n=36∨n=37∨n=38∨n=39∨n=40∨n=41∨n=42:=by omega
set_option maxRecDepth 100000 in
set_option maxHeartbeats 4000000 in
theorem l3roles_any (n r0 r1 r2 r3:Nat) (w:World) (h1:1≤n) (h2:n≤42) (hr:rolesOf n=[r0,r1,r2,r3]) :
  Calls Tryz.prog 96 #[.int .i64 n] w fun e w'=>e=.returned (.slice (some ⟨w.heap.size,0,none⟩) 4 4)∧w'=w.alloc (.cells #[.int .i64 r0,.int .i64 r1,.int .i64 r2,.int .i64 r3] 3):=by
 rcases ops_all n h1 h2 with rfl | rfl | rfl | rfl | rfl | rfl | rfl | rfl | rfl | rfl | rfl | rfl | rfl | rfl | rfl | rfl | rfl | rfl | rfl | rfl | rfl | rfl | rfl | rfl | rfl | rfl | rfl | rfl | rfl | rfl | rfl | rfl | rfl | rfl | rfl | rfl | rfl | rfl | rfl | rfl | rfl | rfl
 all_goals
  simp only [rolesOf,roleTab,List.getD_cons_succ,List.getD_cons_zero,List.cons.injEq,and_true] at hr
  obtain⟨rfl,rfl,rfl,rfl⟩:=hr
  clear h1 h2
  go_enter Tryz.func96,Tryz.ntmps96
  go_wp2_with fail
  go_ret
  exact⟨rfl,rfl⟩
def fitAll (np:Nat) (p:Pd):List Nat→List Int→Bool
 | r::rs,x::xs=>fitsR np p r x && fitAll np p rs xs
 | _,_=>true
def Nd.fs (n:Nd):List Int:=[n.a,n.b,n.c,n.d]
def lastB (p:Pd) (i:Nat) (n:Nd):Bool:=!decide (i+1=p.ins.length) || (n.op == 19 || n.op == 29 || n.op == 30)
def insB (np:Nat) (p:Pd) (i:Nat) (n:Nd):Bool:=inR n.op 1 42 && (fitAll np p (rolesOf n.op.toNat) n.fs && lastB p i n)
theorem roles_four {n:Nat} (h1:1≤n) (h2:n≤42):∃r0 r1 r2 r3,rolesOf n=[r0,r1,r2,r3]∧r0≤21∧r1≤21∧r2≤21∧r3≤21:=by
 have h:∀k,k<43→1≤k→(rolesOf k).length=4∧∀r ∈ rolesOf k,r≤21:=by decide
 obtain⟨hl,hr⟩:=h n (by omega) h1
 match hm:rolesOf n,hl,hr with
 | [r0,r1,r2,r3],_,hr=>exact ⟨r0,r1,r2,r3,rfl,hr _ (by simp),hr _ (by simp),hr _ (by simp),hr _ (by simp)⟩
set_option maxHeartbeats 400000 in
theorem l3fields_any (n:Nd) (w:World) :
  Calls Tryz.prog 97 #[n.val] w fun e w'=>∃g,e=.returned (.slice (some ⟨g,0,none⟩) 4 4)∧Blk w' g #[.int .i64 n.a,.int .i64 n.b,.int .i64 n.c,.int .i64 n.d] 3∧Below w.heap.size w w':=by
 obtain⟨x0,x1,x2,x3,x4⟩:=n
 dsimp only [Nd.val]
 go_enter Tryz.func97,Tryz.ntmps97
 go_wp2_with fail
 go_ret
 refine⟨w.heap.size+1,rfl,?_,((Below.refl _ _).alloc (Nat.le_refl _) _).alloc (by simp) _⟩
 have:=Blk.new (w.alloc (.cells #[.int .i64 x0,.int .i64 x1,.int .i64 x2,.int .i64 x3,.int .i64 x4] 93)) #[.int .i64 x1,.int .i64 x2,.int .i64 x3,.int .i64 x4] 3
 rwa [nblk_alloc] at this
set_option maxRecDepth 100000 in
set_option maxHeartbeats 400000 in
theorem l3roles_none (op:Int) (w:World) (h:inR op 1 42=false) :
  Calls Tryz.prog 96 #[.int .i64 op] w fun e w'=>e=.returned (.slice none 0 0)∧w'=w:=by
 have hk:∀c:Int,1≤c→c≤42→(op == c)=false:=by
  intro c h1 h2
  simp [inR] at h
  simp
  rintro rfl
  have:=h h1
  omega
 clear h
 go_enter Tryz.func96,Tryz.ntmps96
 go_wp2_with fail
 go_ret
 exact⟨rfl,rfl⟩
theorem fit_drop {np:Nat} {p:Pd} {rs:List Nat} {xs:List Int} {k r:Nat} {x:Int} (h1:rs[k]?=some r) (h2:xs[k]?=some x):fitAll np p (rs.drop k) (xs.drop k)=(fitsR np p r x && fitAll np p (rs.drop (k+1)) (xs.drop (k+1))):=by
 rw [drop_some h1,drop_some h2];rfl
theorem four_at (r0 r1 r2 r3:Nat) (n:Nd) (k:Nat) (hk:k<4) (g0:r0≤21) (g1:r1≤21) (g2:r2≤21) (g3:r3≤21):∃(r:Nat) (x:Int),r≤21∧[r0,r1,r2,r3][k]?=some r∧n.fs[k]?=some x∧
  (#[.int .i64 r0,.int .i64 r1,.int .i64 r2,.int .i64 r3]:Array Value)[k]?=some (.int .i64 r)∧(#[.int .i64 n.a,.int .i64 n.b,.int .i64 n.c,.int .i64 n.d]:Array Value)[k]?=some (.int .i64 x):=by
 rcases (by omega:k=0∨k=1∨k=2∨k=3) with rfl | rfl | rfl | rfl
 ·exact⟨r0,n.a,g0,rfl,rfl,rfl,rfl⟩
 ·exact⟨r1,n.b,g1,rfl,rfl,rfl,rfl⟩
 ·exact⟨r2,n.c,g2,rfl,rfl,rfl,rfl⟩
 ·exact⟨r3,n.d,g3,rfl,rfl,rfl,rfl⟩
set_option maxRecDepth 100000 in
set_option maxHeartbeats 4000000 in
theorem l3insOk_any (ao:Option Addr) (cap:Nat) (ps:List Pd) (i:Nat) (p:Pd) (j:Nat) (n:Nd) (w:World) (hi:ps[i]?=some p) (hj:p.ins[j]?=some n) (hz:PFew p) (hm:ps.length≤1048576) (hr:0≤p.regs∧p.regs≤250) (hv:ProtosAt 0 w ao ps) :
  Calls Tryz.prog 93 #[.agg #[.slice ao ps.length cap],.int .i64 i,.int .i64 j] w fun e w'=>e=.returned (.bool (insB ps.length p j n))∧Below w.heap.size w w':=by
 have hlt:i<ps.length:=(List.getElem?_eq_some_iff.1 hi).1
 have hltj:j<p.ins.length:=(List.getElem?_eq_some_iff.1 hj).1
 have hb2:∀o1 o2,Below w.heap.size w ((w.alloc o1).alloc o2):=fun o1 o2=>((Below.refl _ _).alloc (Nat.le_refl _) o1).alloc (by simp) o2
 have hb1:∀o,Below w.heap.size w (w.alloc o):=fun o=>(Below.refl _ _).alloc (Nat.le_refl _) o
 obtain⟨b,off,e0,_,hbl,h,n1,i1⟩:=hv i p hi
 obtain⟨b',off',e1,_,hbl',q0,q1,q2,q3,q4⟩:=i1.ins j n hj
 have hzl:=hz.ins
 subst e0
 obtain⟨p0,p1,p2,p3,p4,p5,p6,p7,p8⟩:=n1
 rw [e1] at p7
 have hp7:=fun o=>((bcell (hb1 o)).1 b (off+i*9+7) hbl).trans p7
 clear p0 p1 p2 p3 p4 p5 p6 p8 e1 i1
 cases hop:inR n.op 1 42
 ·have E0:Hid (insB ps.length p j n=false):=by show _=_;unfold insB;rw [hop];rfl
  go_enter Tryz.func93,Tryz.ntmps93
  go_wp2_with fail
  refine (l3roles_none n.op _ hop).mono ?_
  rintro e w1 ⟨rfl,rfl⟩
  go_wp2_with fail
  go_ret
  exact⟨ret_bool E0.out.symm,hb2 _ _⟩
 ·have hop2:1≤n.op∧n.op≤42:=by simpa [inR] using hop
  obtain⟨op,hopn⟩:=Int.eq_ofNat_of_zero_le (by omega:0≤n.op)
  obtain⟨r0,r1,r2,r3,hrs,g0,g1,g2,g3⟩:=roles_four (n:=op) (by omega) (by omega)
  have E0:Hid (insB ps.length p j n=(fitAll ps.length p [r0,r1,r2,r3] n.fs && lastB p j n)):=by show _=_;unfold insB;rw [hop,hopn,Int.toNat_natCast,hrs];rfl
  rw [hopn] at q0
  go_enter Tryz.func93,Tryz.ntmps93
  go_wp2_with fail
  refine (l3roles_any op r0 r1 r2 r3 _ (by omega) (by omega) hrs).mono ?_
  rintro e w1 ⟨rfl,rfl⟩
  have hb3:∀o1 o2 o3,Below w.heap.size w (((w.alloc o1).alloc o2).alloc o3):=fun o1 o2 o3=>(hb2 o1 o2).alloc (by simp;omega) o3
  have C0:=((Blk.new w #[.slice (some ⟨b,off,none⟩) ps.length cap] 31).alloc (.cells #[.int .i64 op,.int .i64 n.a,.int .i64 n.b,.int .i64 n.c,.int .i64 n.d] 93)).alloc (.cells #[.int .i64 r0,.int .i64 r1,.int .i64 r2,.int .i64 r3] 3)
  have N0:=(Blk.new (w.alloc (.cells #[.slice (some ⟨b,off,none⟩) ps.length cap] 31)) #[.int .i64 op,.int .i64 n.a,.int .i64 n.b,.int .i64 n.c,.int .i64 n.d] 93).alloc (.cells #[.int .i64 r0,.int .i64 r1,.int .i64 r2,.int .i64 r3] 3)
  rw [nblk_alloc] at N0
  have R0:=Blk.new ((w.alloc (.cells #[.slice (some ⟨b,off,none⟩) ps.length cap] 31)).alloc (.cells #[.int .i64 op,.int .i64 n.a,.int .i64 n.b,.int .i64 n.c,.int .i64 n.d] 93)) #[.int .i64 r0,.int .i64 r1,.int .i64 r2,.int .i64 r3] 3
  rw [nblk_alloc,nblk_alloc] at R0
  go_wp2_with fail
  refine (l3fields_any ⟨op,n.a,n.b,n.c,n.d⟩ _).mono ?_
  rintro e w1 ⟨g,rfl,G1,hw1⟩
  have B1:=(hb3 _ _ _).trans (hw1.mono (by simp;omega))
  have C1:=C0.later hw1
  have N1:=N0.later hw1
  have R1:=R0.later hw1
  clear C0 N0 R0 hw1
  go_wp2_with fail
  go_loopw [30] (fun y wr=>∃k:Nat,k≤4∧y=.int .i64 k∧Hid (fitAll ps.length p ([r0,r1,r2,r3].drop k) (n.fs.drop k)=fitAll ps.length p [r0,r1,r2,r3] n.fs)∧Below w.heap.size w wr∧Blk wr w.heap.size #[.slice (some ⟨b,off,none⟩) ps.length cap] 31∧Blk wr (w.heap.size+1) #[.int .i64 op,.int .i64 n.a,.int .i64 n.b,.int .i64 n.c,.int .i64 n.d] 93∧Blk wr (w.heap.size+1+1) #[.int .i64 r0,.int .i64 r1,.int .i64 r2,.int .i64 r3] 3∧Blk wr g #[.int .i64 n.a,.int .i64 n.b,.int .i64 n.c,.int .i64 n.d] 3) (fun y _=>4 - (intOf y).toNat)
  case atStart=>exact ⟨0,Nat.zero_le _,rfl,rfl,B1,C1,N1,R1,G1⟩
  case round=>
   obtain⟨k,hk,rfl,HQ,hb,C2,N2,R2,G2⟩:=hrel
   clear B1 C1 N1 R1 G1 q0 q1 q2 q3 q4 hb1 hb2 hb3 p7 hp7
   by_cases hk4:k<4
   ·obtain⟨r,x,hr21,hrk,hxk,ar,ax⟩:=four_at r0 r1 r2 r3 n k hk4 g0 g1 g2 g3
    have HD:Hid (fitAll ps.length p [r0,r1,r2,r3] n.fs=(fitsR ps.length p r x && fitAll ps.length p ([r0,r1,r2,r3].drop (k+1)) (n.fs.drop (k+1)))):=HQ.out.symm.trans (fit_drop hrk hxk)
    have c0:=C2.cell 0
    have cr:=(R2.cell k).trans ar
    have cx:=(G2.cell k).trans ax
    have hvr:=hv.later (Keeps.of_below hb)
    have hvd:=hvr.later (Keeps.of_below (Below.refl _ _).drew)
    have Cd:=C2.later (Below.refl _ _).drew
    have Rd:=R2.later (Below.refl _ _).drew
    have hb':=hb
    clear ar ax HQ hrk hxk g0 g1 g2 g3 hrs hop hopn hop2
    go_wp2_with fail
    go_region_held3 (fun w'=>w'.cell? ⟨w.heap.size,0,none⟩=some (.slice (some ⟨b,off,none⟩) ps.length cap)∧w'.cell? ⟨w.heap.size+1+1,k,none⟩=some (.int .i64 r)) (go_keep)
     (first | (go_at_call 137;refine (l3fits_any (some ⟨b,off,none⟩) cap ps i p r x wr.drew hi hz hm hr hvd hr21).mono ?_;rintro e w2 ⟨rfl,hw2⟩;have d0:=(hw2.cell (p:=⟨w.heap.size,0,none⟩) Cd.lt).trans c0;have d1:=(hw2.cell (p:=⟨w.heap.size+1+1,k,none⟩) Rd.lt).trans cr))
    have B2:=hb'.drew.trans (hw2.mono hb'.size)
    have C3:=Cd.later hw2
    have R3:=Rd.later hw2
    have N3:=(N2.later (Below.refl _ _).drew).later hw2
    have G3:=(G2.later (Below.refl _ _).drew).later hw2
    clear hw2 Cd Rd hvr hvd C2 R2 N2 G2 hb hb' d0 d1 c0 cr cx hv hi hj
    generalize fitsR ps.length p r x=fb at *
    cases fb
    ·go_wp2_with fail
     go_ret
     exact⟨ret_bool (by rw [E0.out,HD.out];rfl),B2⟩
    ·go_wp2_with fail
     go_roundw
     case rel=>exact ⟨k+1,by omega,by go_num,by show _=_;rw [HD.out];rfl,B2,C3,N3,R3,G3⟩
     case measure=>simp [intOf];omega
   ·have E1:Hid (insB ps.length p j n=lastB p j n):=by
     have h1:=HQ.out
     obtain rfl:k=4:=by omega
     show _=_
     rw [E0.out,←h1];rfl
    have EL:Hid (lastB p j n=(!decide (j+1=p.ins.length) || ((op:Int) == 19 || (op:Int) == 29 || (op:Int) == 30))):=by show _=_;unfold lastB;rw [hopn]
    obtain⟨b2,off2,e2,_,hbl2,h2,n2,_⟩:=hv.later (Keeps.of_below hb) i p hi
    obtain⟨rfl,rfl⟩:b=b2∧off=off2:=by simpa using e2
    obtain⟨_,_,_,_,_,_,_,p7,_⟩:=n2
    have c0:=C2.cell 0
    have cn:=N2.cell
    clear HQ E0 e2 hv hi hj hopn hop hop2 hrs R2 G2
    by_cases hl:j+1=p.ins.length
    ·have hl':((j:Int) == (p.ins.length:Int) - 1)=true:=by simp;omega
     have HL:Hid (j+1=p.ins.length):=hl
     clear hl
     go_wp2_with fail
     all_goals
      go_ret
      refine⟨ret_bool ?_,hb⟩
      rw [E1.out,EL.out,decide_eq_true HL.out]
      clear c0 cn p7 E1 EL HL
      simp_all
    ·have hl':((j:Int) == (p.ins.length:Int) - 1)=false:=by simp;omega
     have HL:Hid (¬j+1=p.ins.length):=hl
     clear hl
     go_wp2_with fail
     all_goals
      go_ret
      refine⟨ret_bool ?_,hb⟩
      rw [E1.out,EL.out,decide_eq_false HL.out]
      rfl
end Go.Proofs.YtaakadmnhpboiaaGreatDoor
