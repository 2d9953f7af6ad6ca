import Derived.Test.YtaakadmnhpboiaaGreatDoorM04
import Derived.Test.YtaakadmnhpboiaaGreatDoorM11
import Derived.Test.YtaakadmnhpboiaaGreatDoorM01
import Derived.Laws.FloatArith
namespace Go.Proofs.YtaakadmnhpboiaaGreatDoor
open Go.RowKit Go.Deep
def upB (p:Pd) (u:Ud):Bool:=if u.loc then inR u.idx 0 (p.regs - 1) else inR u.idx 0 (p.ups.length - 1)
def upsB (p:Pd) (us:List Ud):Bool:=us.all (upB p)
theorem upsB_drop {p:Pd} {l:List Ud} {k:Nat} {u:Ud} (h:l[k]?=some u):upsB p (l.drop k)=(upB p u && upsB p (l.drop (k+1))):=by
 rw [drop_some h];rfl
set_option maxRecDepth 100000 in
set_option maxHeartbeats 2000000 in
theorem upsFit_any (p:Pd) (h:Ph) (ao:Option Addr) (cap:Nat) (us:List Ud) (w:World) (hm:us.length≤1048576) (hz:PFew p) (hr:0≤p.regs∧p.regs≤250) (hu:UpsAt 0 w ao us) :
  Calls Tryz.prog 108 #[.agg (p.cells h),.slice ao us.length cap] w fun e w'=>e=.returned (.bool (upsB p us))∧Below w.heap.size w w':=by
 have hb1:∀o,Below w.heap.size w (w.alloc o):=fun o=>(Below.refl _ _).alloc (Nat.le_refl _) o
 obtain⟨hr1,hr2⟩:=hr
 have z1:=hz.ups
 have X0:=Blk.new w (p.cells h) 57
 unfold Pd.cells at *
 go_enter Tryz.func108,Tryz.ntmps108
 go_wp2_with fail
 go_loopw [10] (fun y wr=>∃k:Nat,k≤us.length∧y=.int .i64 k∧Hid (upsB p (us.drop k)=upsB p us)∧Below w.heap.size w wr∧Blk wr w.heap.size #[.string p.name,.int .i64 p.line,.int .i64 p.params,.bool p.rest,.int .i64 p.regs,.slice h.uo p.ups.length h.uc,.slice h.co p.consts.length h.cc,.slice h.io p.ins.length h.ic,.slice h.no p.named.length h.nc] 57) (fun y _=>us.length - (intOf y).toNat)
 case atStart=>exact ⟨0,Nat.zero_le _,rfl,rfl,hb1 _,X0⟩
 case round=>
  obtain⟨k,hk,rfl,HQ,hb,X1⟩:=hrel
  clear X0
  by_cases hkl:k<us.length
  ·obtain⟨u,huk⟩:=some_of_lt hkl
   obtain⟨b,off,rfl,_,hbl,q0,q1⟩:=hu.later (Keeps.of_below hb) k u huk
   have HD:Hid (upsB p us=(upB p u && upsB p (us.drop (k+1)))):=HQ.out.symm.trans (upsB_drop huk)
   have HU:Hid (upB p u=if u.loc then inR u.idx 0 (p.regs - 1) else inR u.idx 0 (p.ups.length - 1)):=rfl
   have hba:∀o,Below w.heap.size w (wr.alloc o):=fun o=>hb.alloc hb.size o
   have XA:Hid (∀o,Blk (wr.alloc o) w.heap.size #[.string p.name,.int .i64 p.line,.int .i64 p.params,.bool p.rest,.int .i64 p.regs,.slice h.uo p.ups.length h.uc,.slice h.co p.consts.length h.cc,.slice h.io p.ins.length h.ic,.slice h.no p.named.length h.nc] 57):=fun o=>X1.alloc o
   have x1:=fun o=>(X1.alloc o).cell
   obtain⟨l,x⟩:=u
   dsimp only at *
   clear hu HQ huk
   cases l
   ·go_wp2_with (go_at_call 104;refine (within_any _ _ _ _).mono ?_;rintro e w' ⟨rfl,rfl⟩)
    ·go_ret
     exact⟨ret_bool (by rw [HD.out,HU.out];simp_all),hba _⟩
    ·go_roundw
     case rel=>exact ⟨k+1,by omega,by go_num,by show _=_;rw [HD.out,HU.out];simp_all,hba _,XA.out _⟩
     case measure=>simp [intOf];omega
   ·go_wp2_with (go_at_call 104;refine (within_any _ _ _ _).mono ?_;rintro e w' ⟨rfl,rfl⟩)
    ·go_ret
     exact⟨ret_bool (by rw [HD.out,HU.out];simp_all),hba _⟩
    ·go_roundw
     case rel=>exact ⟨k+1,by omega,by go_num,by show _=_;rw [HD.out,HU.out];simp_all,hba _,XA.out _⟩
     case measure=>simp [intOf];omega
  ·go_wp2_with fail
   go_ret
   have h1:=HQ.out
   rw [List.drop_of_length_le (by omega)] at h1
   exact⟨ret_bool h1,hb⟩
set_option maxRecDepth 100000 in
set_option maxHeartbeats 2000000 in
theorem l3upsOk_any (ao:Option Addr) (cap:Nat) (ps:List Pd) (i j:Nat) (p q:Pd) (w:World) (hi:ps[i]?=some p) (hj:ps[j]?=some q) (hz:PFew p) (hzq:PFew q) (hr:0≤p.regs∧p.regs≤250) (hv:ProtosAt 0 w ao ps) :
  Calls Tryz.prog 43 #[.agg #[.slice ao ps.length cap],.int .i64 i,.int .i64 j] w fun e w'=>e=.returned (.bool (upsB p q.ups))∧Below w.heap.size w w':=by
 have hlt:i<ps.length:=(List.getElem?_eq_some_iff.1 hi).1
 have hltj:j<ps.length:=(List.getElem?_eq_some_iff.1 hj).1
 have hb1:∀o,Below w.heap.size w (w.alloc o):=fun o=>(Below.refl _ _).alloc (Nat.le_refl _) o
 obtain⟨b,off,e0,_,hbl,h,⟨p0,p1,p2,p3,p4,p5,p6,p7,p8⟩,i1⟩:=hv i p hi
 obtain⟨b2,off2,e2,_,_,h2,⟨q0,q1,q2,q3,q4,q5,q6,q7,q8⟩,i2⟩:=hv j q hj
 obtain⟨rfl,rfl⟩:b=b2∧off=off2:=by rw [e0] at e2;simpa using e2
 subst e0
 have hu:=i2.ups
 clear hv i1 i2 e2 hi hj
 obtain⟨hr1,hr2⟩:=hr
 have z1:=hz.ups
 have z2:=hzq.ups
 have C0:=Blk.new w #[.slice (some ⟨b,off,none⟩) ps.length cap] 31
 clear p0 p1 p2 p3 p6 p7 p8 q0 q1 q2 q3 q4 q6 q7 q8
 go_enter Tryz.func43,Tryz.ntmps43
 go_wp2_with fail
 go_loopw [16] (fun y wr=>∃k:Nat,k≤q.ups.length∧y=.int .i64 k∧Hid (upsB p (q.ups.drop k)=upsB p q.ups)∧Below w.heap.size w wr∧Blk wr w.heap.size #[.slice (some ⟨b,off,none⟩) ps.length cap] 31) (fun y _=>q.ups.length - (intOf y).toNat)
 case atStart=>exact ⟨0,Nat.zero_le _,rfl,rfl,hb1 _,C0⟩
 case round=>
  obtain⟨k,hk,rfl,HQ,hb,C1⟩:=hrel
  clear C0
  by_cases hkl:k<q.ups.length
  ·obtain⟨u,huk⟩:=some_of_lt hkl
   obtain⟨b',off',e',_,hbl',q0,q1⟩:=hu.later (Keeps.of_below hb) k u huk
   have HD:Hid (upsB p q.ups=(upB p u && upsB p (q.ups.drop (k+1)))):=HQ.out.symm.trans (upsB_drop huk)
   have HU:Hid (upB p u=if u.loc then inR u.idx 0 (p.regs - 1) else inR u.idx 0 (p.ups.length - 1)):=rfl
   have hba:∀o,Below w.heap.size w (wr.alloc o):=fun o=>hb.alloc hb.size o
   have CA:Hid (∀o,Blk (wr.alloc o) w.heap.size #[.slice (some ⟨b,off,none⟩) ps.length cap] 31):=fun o=>C1.alloc o
   have c1:=fun o=>(C1.alloc o).cell
   have r4:∀o,(wr.alloc o).cell? ⟨b,off+i*9+4,none⟩=some (.int .i64 p.regs):=fun o=>((hba o).cell (p:=⟨b,off+i*9+4,none⟩) hbl).trans p4
   have r5:∀o,(wr.alloc o).cell? ⟨b,off+i*9+5,none⟩=some (.slice h.uo p.ups.length h.uc):=fun o=>((hba o).cell (p:=⟨b,off+i*9+5,none⟩) hbl).trans p5
   obtain⟨l,x⟩:=u
   obtain⟨uo,uc,co,cc,io,ic,no,nc⟩:=h2
   dsimp only at *
   subst e'
   clear hu HQ huk p4 p5 q5
   cases l
   ·cases hin:inR x 0 (p.ups.length - 1)
    ·go_wp2_with fail
     go_quiet ((go_at_call 94;exact Calls.quiet_of_same (l3in_any _ _ _ _)))
     go_wp2_with fail
     go_ret
     exact⟨ret_bool (by rw [HD.out,HU.out];simp [hin]),below_drewN (hba _) _⟩
    ·go_wp2_with fail
     go_quiet ((go_at_call 94;exact Calls.quiet_of_same (l3in_any _ _ _ _)))
     go_wp2_with fail
     go_roundw
     case rel=>exact ⟨k+1,by omega,by go_num,by show _=_;rw [HD.out,HU.out];simp [hin],below_drewN (hba _) _,CA.out _⟩
     case measure=>simp [intOf];omega
   ·cases hin:inR x 0 (p.regs - 1)
    ·go_wp2_with fail
     go_quiet ((go_at_call 94;exact Calls.quiet_of_same (l3in_any _ _ _ _)))
     go_wp2_with fail
     go_ret
     exact⟨ret_bool (by rw [HD.out,HU.out];simp [hin]),below_drewN (hba _) _⟩
    ·go_wp2_with fail
     go_quiet ((go_at_call 94;exact Calls.quiet_of_same (l3in_any _ _ _ _)))
     go_wp2_with fail
     go_roundw
     case rel=>exact ⟨k+1,by omega,by go_num,by show _=_;rw [HD.out,HU.out];simp [hin],below_drewN (hba _) _,CA.out _⟩
     case measure=>simp [intOf];omega
  ·go_wp2_with fail
   go_ret
   have h1:=HQ.out
   rw [List.drop_of_length_le (by omega)] at h1
   exact⟨ret_bool h1,hb⟩
set_option maxHeartbeats 400000 in
theorem l3fault_any (c p a:Int) (w:World) :
  Calls Tryz.prog 44 #[.int .i64 c,.int .i64 p,.int .i64 a] w fun e w'=>e=.returned (.agg #[.int .i64 c,.int .i64 p,.int .i64 a])∧Below w.heap.size w w':=by
 go_enter Tryz.func44,Tryz.ntmps44
 go_wp2_with fail
 refine bodyPost_ret ?_ rfl ⟨rfl,(Below.refl _ _).alloc (Nat.le_refl _) _⟩
 simp [results,Tryz.results44,go_sem]
def boolArr (m:List Bool):Array Value:=(m.map Value.bool).toArray
theorem boolArr_set (m:List Bool) (i:Nat) (b:Bool):(boolArr m).setIfInBounds i (.bool b)=boolArr (m.set i b):=by
 unfold boolArr
 rw [List.setIfInBounds_toArray,List.map_set]
theorem boolArr_get {m:List Bool} {i:Nat} (h:i<m.length):(boolArr m)[i]?=some (.bool (m.getD i false)):=by
 unfold boolArr
 simp [h]
def firstIdx (v:Bool):List Bool→Nat→Int
 | [],_=>-1
 | b::r,k=>if b=v then k else firstIdx v r (k+1)
theorem firstIdx_drop {v:Bool} {l:List Bool} {k:Nat} (h:k<l.length):firstIdx v (l.drop k) k=if l.getD k false=v then (k:Int) else firstIdx v (l.drop (k+1)) (k+1):=by
 rw [List.drop_eq_getElem_cons h,firstIdx]
 simp [h]
set_option maxRecDepth 100000 in
set_option maxHeartbeats 400000 in
theorem indexBool_any (g c:Nat) (m:List Bool) (v:Bool) (w:World) (hm:m.length≤1048576) (hB:Blk w g (boolArr m) 4) :
  Calls Tryz.prog 109 #[.slice (some ⟨g,0,none⟩) m.length c,.bool v] w fun e w'=>e=.returned (.int .i64 (firstIdx v m 0))∧Below w.heap.size w w':=by
 go_enter Tryz.func109,Tryz.ntmps109
 go_wp2_with fail
 go_loop [8] (fun y=>∃k:Nat,k≤m.length∧y=.int .i64 k∧Hid (firstIdx v (m.drop k) k=firstIdx v m 0)) (fun y=>m.length - (intOf y).toNat)
 case atStart=>exact ⟨0,Nat.zero_le _,rfl,rfl⟩
 case round=>
  obtain⟨k,hk,rfl,HQ⟩:=hrel
  by_cases hkl:k<m.length
  ·have HD:Hid (firstIdx v m 0=if m.getD k false=v then (k:Int) else firstIdx v (m.drop (k+1)) (k+1)):=HQ.out.symm.trans (firstIdx_drop hkl)
   have c1:=(hB.cell k).trans (boolArr_get hkl)
   generalize m.getD k false=x at *
   clear hB HQ
   by_cases hx:x=v
   ·subst hx
    go_wp2_with fail
    go_ret
    exact⟨ret_int (by rw [HD.out];simp),Below.refl _ _⟩
   ·have hx':(v == x)=false:=by cases x <;> cases v <;> simp_all
    have HX:Hid (¬x=v):=hx
    clear hx
    go_wp2_with fail
    go_round
    case rel=>exact ⟨k+1,by omega,by go_num,by show _=_;rw [HD.out,if_neg HX.out]⟩
    case measure=>simp [intOf];omega
  ·go_wp2_with fail
   go_ret
   have h1:=HQ.out
   rw [List.drop_of_length_le (by omega)] at h1
   exact⟨ret_int h1,Below.refl _ _⟩
def fnBad (ps:List Pd) (pi:Nat) (p:Pd) (m:List Bool) (n:Nd):Bool:=
 decide (n.b≤pi) || (m.getD n.b.toNat false || !upsB p ((ps[n.b.toNat]?.map Pd.ups).getD []))
def mkIns (ps:List Pd) (pi:Nat) (p:Pd):Nat→List Nd→List Bool→Option Nat × List Bool
 | _,[],m=>(none,m)
 | k,n::r,m=>if n.op == 11 then (if fnBad ps pi p m n then (some k,m) else mkIns ps pi p (k+1) r (m.set n.b.toNat true)) else mkIns ps pi p (k+1) r m
theorem mkIns_drop {ps:List Pd} {pi:Nat} {p:Pd} {l:List Nd} {k:Nat} {n:Nd} (h:l[k]?=some n) (m:List Bool) :
  mkIns ps pi p k (l.drop k) m=if n.op == 11 then (if fnBad ps pi p m n then (some k,m) else mkIns ps pi p (k+1) (l.drop (k+1)) (m.set n.b.toNat true)) else mkIns ps pi p (k+1) (l.drop (k+1)) m:=by
 rw [drop_some h];rfl
def mkAll (ps:List Pd):Nat→List Pd→List Bool→Option (Nat × Nat) × List Bool
 | _,[],m=>(none,m)
 | pi,p::r,m=>match mkIns ps pi p 0 p.ins m with
  | (some k,m')=>(some (pi,k),m')
  | (none,m')=>mkAll ps (pi+1) r m'
theorem mkAll_drop {ps l:List Pd} {k:Nat} {p:Pd} (h:l[k]?=some p) (m:List Bool) :
  mkAll ps k (l.drop k) m=match mkIns ps k p 0 p.ins m with
  | (some j,m')=>(some (k,j),m')
  | (none,m')=>mkAll ps (k+1) (l.drop (k+1)) m':=by
 rw [drop_some h];rfl
theorem mkIns_length {ps:List Pd} {pi:Nat} {p:Pd} : ∀(l:List Nd) (k:Nat) (m:List Bool),(mkIns ps pi p k l m).2.length=m.length
 | [],_,_=>rfl
 | n::r,k,m=>by
  unfold mkIns
  split
  ·split
   ·rfl
   ·rw [mkIns_length r];simp
  ·rw [mkIns_length r]
def rdI (r:Nat) (x:Int) (s:Rd):Option Rd:=
 match r with
 | 12=>rdOp 1 x s
 | 13=>rdOp 3 x s
 | 14=>rdPlace 1 x s
 | 15=>rdPlace 2 x s
 | 16=>rdPlace 3 x s
 | 17=>if tyAt s.types x=1∧tyAt s.types (x+1)=1 then some ⟨s.types,s.stay ++ [x,x+1],s.taken⟩ else none
 | 18=>if tyAt s.types x=1∧tyAt s.types (x+1)=1∧tyAt s.types (x+2)=1 then some ⟨s.types,s.stay ++ [x,x+1,x+2],s.taken⟩ else none
 | 23=>if tyAt s.types x=1∧tyAt s.types (x+1)=0 then some ⟨s.types,s.stay,s.taken ++ [x]⟩ else none
 | _=>some s
def rdsI:List Nat→List Int→Rd→Option Rd
 | r::rs,x::xs,s=>(rdI r x s).bind (rdsI rs xs)
 | _,_,s=>some s
def Rd.two (s:Rd):List Int × List Int:=(s.types,s.taken)
theorem rdI_eq {r:Nat} (hr:r≤23) (h:r≠17∧r≠18∧r≠23) (x:Int) (s:Rd):rdI r x s=rdS (convR r) x s:=by
 rcases (by omega:r=0∨r=1∨r=2∨r=3∨r=4∨r=5∨r=6∨r=7∨r=8∨r=9∨r=10∨r=11∨r=12∨r=13∨r=14∨r=15∨r=16∨r=17∨r=18∨r=19∨r=20∨r=21∨r=22∨r=23) with rfl | rfl | rfl | rfl | rfl | rfl | rfl | rfl | rfl | rfl | rfl | rfl | rfl | rfl | rfl | rfl | rfl | rfl | rfl | rfl | rfl | rfl | rfl | rfl <;> first | rfl | (exfalso;omega)
theorem rdsI_eq:∀(rs:List Nat) (xs:List Int) (s:Rd),(∀r ∈ rs,r≤23∧r≠17∧r≠18∧r≠23)→rdsI rs xs s=rdsS (rs.map convR) xs s
 | [],_,_,_=>rfl
 | _::_,[],_,_=>rfl
 | r::rs,x::xs,s,h=>by
  have h1:=h r (by simp)
  simp only [rdsI,rdsS,List.map_cons]
  rw [rdI_eq h1.1 h1.2]
  congr 1
  funext s'
  exact rdsI_eq rs xs s' fun r hr=>h r (by simp [hr])
theorem reads_eq (op:Nat) (h1:1≤op) (h2:op≤42) (a b c d:Int) (ts:List Int):(rdsI (formOf op) [a,b,c,d] ⟨ts,[],[]⟩).map Rd.two=(rdsS (rolesOf op) [a,b,c,d] ⟨ts,[],[]⟩).map Rd.two:=by
 by_cases hs:op=37∨op=38∨op=39∨op=40∨op=41
 ·rcases hs with rfl | rfl | rfl | rfl | rfl
  all_goals
   simp [formOf,formTab,rolesOf,roleTab,rdsI,rdsS,rdI,rdS]
   split <;> simp [Rd.two]
 ·rw [←conv_forms op h1 h2,rdsI_eq]
  have h:∀k,k<43→(k<37∨k=42)→∀r ∈ formOf k,r≤23∧r≠17∧r≠18∧r≠23:=by decide
  exact h op (by omega) (by omega)
def wrI (r:Nat) (x:Int) (ts:List Int):List Int:=
 match r with
 | 19=>ts.set x.toNat 0
 | 20=>ts.set x.toNat 1
 | 21=>ts.set x.toNat 2
 | 22=>ts.set x.toNat 3
 | 23=>(ts.set x.toNat 1).set (x.toNat+1) 1
 | _=>ts
def wrsI:List Nat→List Int→List Int→List Int
 | r::rs,x::xs,ts=>wrsI rs xs (wrI r x ts)
 | _,_,ts=>ts
theorem set_same {ts:List Int} {i:Nat} (h:ts.getD i 0=1):ts.set i 1=ts:=by
 by_cases hi:i<ts.length
 ·apply List.ext_getElem?
  intro j
  rw [List.getElem?_set]
  by_cases hj:i=j
  ·subst hj
   simp [List.getD_eq_getElem?_getD,hi] at h
   simp [hi,h]
  ·simp [hj]
 ·exact List.set_eq_of_length_le (by omega)
theorem write_eq (n:Nd) (op:Nat) (ho:n.op=op) (h1:1≤op) (h2:op≤42) (ts:List Int) (h40:op=40→tyAt ts n.a=1):wrsI (formOf op) n.fs ts=writeT n ts:=by
 obtain⟨o,a,b,c,d⟩:=n
 dsimp only at *
 subst ho
 by_cases h:op=40
 ·subst h
  have:=set_same (h40 rfl)
  simp [formOf,formTab,Nd.fs,wrsI,wrI,writeT,this]
 ·clear h40
  rcases ops_all op h1 h2 with rfl | rfl | rfl | rfl | rfl | rfl | rfl | rfl | rfl | rfl | rfl | rfl | rfl | rfl | rfl | rfl | rfl | rfl | rfl | rfl | rfl | rfl | rfl | rfl | rfl | rfl | rfl | rfl | rfl | rfl | rfl | rfl | rfl | rfl | rfl | rfl | rfl | rfl | rfl | rfl | rfl | rfl
  all_goals first | rfl | (exfalso;omega)
theorem reads_forty {a b c d:Int} {ts t1 tk:List Int} (h:(rdsS (rolesOf 40) [a,b,c,d] ⟨ts,[],[]⟩).map Rd.two=some (t1,tk)):tyAt t1 a=1:=by
 by_cases hc:tyAt ts a=1∧tyAt ts (a+1)=0
 ·simp [rolesOf,roleTab,rdsS,rdS,hc,Rd.two] at h
  rw [←h.1]
  exact hc.1
 ·simp [rolesOf,roleTab,rdsS,rdS,hc] at h
def maxKeep (gs:List Gd):Int:=gs.foldl (fun k g=>if g.tr then max k g.keep else k) 0
theorem maxKeep_from (gs:List Gd) (k0 k:Int):gs.foldl (fun k g=>if g.tr then max k g.keep else k) k0≤k ↔ k0≤k∧∀g ∈ gs,g.tr=true→g.keep≤k:=by
 induction gs generalizing k0 with
 | nil=>simp
 | cons g r ih=>
  simp only [List.foldl_cons,ih,List.mem_cons,forall_eq_or_imp]
  split
  ·rename_i h
   rw [Int.max_le]
   constructor
   ·rintro⟨h1,h2⟩;exact ⟨h1.1,fun _=>h1.2,h2⟩
   ·rintro⟨h1,h2,h3⟩;exact ⟨⟨h1,h2 h⟩,h3⟩
  ·rename_i h
   constructor
   ·rintro⟨h1,h2⟩;exact ⟨h1,fun h'=>absurd h' h,h2⟩
   ·rintro⟨h1,h2,h3⟩;exact ⟨h1,h3⟩
theorem maxKeep_le {gs:List Gd} {k:Int} (hk:0≤k):decide (maxKeep gs≤k)=aboveB gs k:=by
 rw [Bool.eq_iff_iff]
 unfold maxKeep aboveB
 rw [decide_eq_true_iff,maxKeep_from]
 simp only [List.all_eq_true,Bool.not_eq_true',Bool.and_eq_false_iff,decide_eq_false_iff_not]
 constructor
 ·rintro⟨_,h⟩ g hg
  cases ht:g.tr
  ·exact .inl rfl
  ·exact .inr (by have:=h g hg ht;omega)
 ·intro h
  refine⟨hk,fun g hg ht=>?_⟩
  rcases h g hg with h1 | h1
  ·rw [ht] at h1;cases h1
  ·omega
theorem maxKeep_in (gs:List Gd):0≤maxKeep gs∧(maxKeep gs=0∨∃g ∈ gs,g.tr=true∧g.keep=maxKeep gs):=by
 unfold maxKeep
 have:∀(gs:List Gd) (k0:Int),k0≤gs.foldl (fun k g=>if g.tr then max k g.keep else k) k0∧(gs.foldl (fun k g=>if g.tr then max k g.keep else k) k0=k0∨∃g ∈ gs,g.tr=true∧g.keep=gs.foldl (fun k g=>if g.tr then max k g.keep else k) k0):=by
  intro gs
  induction gs with
  | nil=>intro k0;simp
  | cons g r ih=>
   intro k0
   simp only [List.foldl_cons]
   obtain⟨h1,h2⟩:=ih (if g.tr then max k0 g.keep else k0)
   generalize hF:List.foldl (fun k g=>if g.tr then max k g.keep else k) (if g.tr then max k0 g.keep else k0) r=F at *
   by_cases ht:g.tr=true
   ·rw [if_pos ht] at h1 h2
    have m1:=Int.le_max_left k0 g.keep
    have m2:=Int.le_max_right k0 g.keep
    refine⟨by omega,?_⟩
    rcases h2 with h2 | ⟨q,hq,h3,h4⟩
    ·by_cases hk:k0≤g.keep
     ·exact .inr ⟨g,by simp,ht,by rw [h2,Int.max_eq_right hk]⟩
     ·exact .inl (by rw [h2,Int.max_eq_left (by omega)])
    ·exact .inr ⟨q,by simp [hq],h3,h4⟩
   ·rw [if_neg ht] at h1 h2
    refine⟨h1,?_⟩
    rcases h2 with h2 | ⟨q,hq,h3,h4⟩
    ·exact .inl h2
    ·exact .inr ⟨q,by simp [hq],h3,h4⟩
 exact this gs 0
def stayB (k:Int) (taken b a:List Int):Bool:=notBelow k taken && sameBelow k b a
theorem take_le {a b:List Int} {m n:Nat} (h:m≤n) (e:a.take n=b.take n):a.take m=b.take m:=by
 rw [show a.take m=(a.take n).take m by rw [List.take_take,Nat.min_eq_left h],e,List.take_take,Nat.min_eq_left h]
theorem stay_mono {k k':Int} {taken b a:List Int} (hk:k'≤k) (h:stayB k taken b a=true):stayB k' taken b a=true:=by
 unfold stayB notBelow sameBelow at *
 simp only [Bool.and_eq_true,List.all_eq_true,Bool.not_eq_true',decide_eq_false_iff_not,decide_eq_true_iff] at *
 exact⟨fun x hx=>by have:=h.1 x hx;omega,take_le (by omega) h.2⟩
theorem keptL_iff (taken b a:List Int) (gs:List Gd):keptL false taken b a gs=true ↔ ∀g ∈ gs,g.tr=true→stayB g.keep taken b a=true:=by
 induction gs with
 | nil=>simp [keptL]
 | cons g r ih=>
  simp only [keptL,Bool.and_eq_true,ih,List.mem_cons,forall_eq_or_imp,Bool.false_and,Bool.false_or]
  unfold stayB
  cases g.tr <;> simp
theorem keptL_same {taken b:List Int} (h:taken=[]) (gs:List Gd) (e:Bool):keptL e taken b b gs=true:=by
 subst h
 induction gs with
 | nil=>rfl
 | cons g r ih=>simp [keptL,ih,notBelow,sameBelow]
theorem kept_eq {n:Nd} {gs:List Gd} {taken b a:List Int} (h32:n.op=32→taken=[]∧b=a) (ht:∀x ∈ taken,0≤x):keptF n gs taken b a=stayB (maxKeep gs) taken b a:=by
 unfold keptF
 obtain⟨m1,m2⟩:=maxKeep_in gs
 by_cases ho:n.op=32
 ·obtain⟨rfl,rfl⟩:=h32 ho
  rw [keptL_same rfl]
  simp [stayB,notBelow,sameBelow]
 ·rw [show (n.op == 32)=false by simpa using ho]
  rw [Bool.eq_iff_iff,keptL_iff]
  constructor
  ·intro h
   rcases m2 with m2 | ⟨g,hg,h1,h2⟩
   ·rw [m2]
    simp only [stayB,notBelow,sameBelow,Bool.and_eq_true,List.all_eq_true,Bool.not_eq_true',decide_eq_false_iff_not]
    exact⟨fun x hx=>by have:=ht x hx;omega,by simp⟩
   ·rw [←h2];exact h g hg h1
  ·intro h g hg h1
   exact stay_mono ((maxKeep_from gs 0 (maxKeep gs)).1 (Int.le_refl _) |>.2 g hg h1) h
def gfitB (n:Nd) (gs:List Gd):Bool:=
 if n.op=31 then decide (gs.length<50) && decide (maxKeep gs≤n.b)
 else if n.op=33 then decide (gs.length<50) && decide (maxKeep gs≤n.a)
 else if n.op=32 then decide (lastTr gs=some true)
 else if n.op=34 then decide (lastTr gs=some false) && decide (maxKeep gs≤n.a)
 else if n.op=35∨n.op=36 then decide (lastTr gs=some false)
 else true
def gbehF (n:Nd) (gs:List Gd):List Gd:=
 if n.op=31 then gs ++ [⟨true,n.b,n.a⟩]
 else if n.op=33 then gs ++ [⟨false,n.a,0⟩]
 else if n.op=32∨n.op=36 then gs.dropLast
 else if n.op=34 then keepLast gs n.a
 else gs
theorem change_eq {np:Nat} {p:Pd} {n:Nd} (hn:InsFit np p n) (gs:List Gd):changeF n gs=if gfitB n gs then some (gbehF n gs) else none:=by
 obtain⟨f1,f2,_⟩:=fit_tab hn
 unfold changeF gfitB gbehF
 by_cases h31:n.op=31
 ·have:=(f1 h31).2
  rw [if_pos h31,if_pos h31,if_pos h31,maxKeep_le (by omega)]
 by_cases h33:n.op=33
 ·have:=f2 (.inl h33)
  rw [if_neg h31,if_neg h31,if_neg h31,if_pos h33,if_pos h33,if_pos h33,maxKeep_le (by omega)]
 by_cases h32:n.op=32
 ·simp [h32]
 by_cases h34:n.op=34
 ·have:=f2 (.inr h34)
  simp only [h34,maxKeep_le this.1]
  simp
 by_cases h35:n.op=35
 ·simp [h35]
 by_cases h36:n.op=36
 ·simp [h36]
 ·simp [h31,h32,h33,h34,h35,h36]
def tgtF (n:Nd):Option Nat:=
 if n.op=19∨n.op=31 then some n.a.toNat
 else if n.op=20∨n.op=21∨n.op=38∨n.op=39∨n.op=41 then some n.b.toNat
 else none
def thereF (n:Nd) (s:St) (ts:List Int) (gs:List Gd):St:=
 if n.op=41 then ⟨ts.set n.c.toNat (tyAt s.types n.c),gs⟩
 else if n.op=31 then ⟨tryT n.b s.types,s.guards⟩
 else ⟨ts,gs⟩
theorem go_eq (n:Nd) (s:St) (ts:List Int) (gs:List Gd):goF n s ts gs=match tgtF n with | some t=>[(t,thereF n s ts gs)] | none=>[]:=by
 obtain⟨op,a,b,c,d⟩:=n
 unfold goF tgtF thereF
 dsimp only
 by_cases h19:op=19
 ·subst h19;simp
 by_cases h20:op=20∨op=21∨op=38∨op=39
 ·rcases h20 with rfl | rfl | rfl | rfl <;> simp
 by_cases h41:op=41
 ·subst h41;simp
 by_cases h31:op=31
 ·subst h31;simp
 ·rw [if_neg h19,if_neg h20,if_neg h41,if_neg h31,if_neg (by omega),if_neg (by omega)]
def ticksB (n:Nd):Bool:=n.op == 1 || n.op == 3 || n.op == 28 || (n.op == 18 && n.b == 12)
def silI (n:Nd) (at_:Nat):List Nat:=if ticksB n then [] else (if nextB n && n.op != 41 then [at_+1] else []) ++ (tgtF n).toList
theorem sil_eq (n:Nd) (at_ j:Nat):j ∈ silI n at_ ↔ j ∈ silL n at_:=by
 obtain⟨op,a,b,c,d⟩:=n
 unfold silI silL ticksB tgtF nextB
 dsimp only
 by_cases h1:op=1
 ·subst h1;simp
 by_cases h3:op=3
 ·subst h3;simp
 by_cases h28:op=28
 ·subst h28;simp
 by_cases h29:op=29
 ·subst h29;simp
 by_cases h30:op=30
 ·subst h30;simp
 by_cases h18:op=18
 ·subst h18
  by_cases hb:b=12 <;> simp [hb]
 by_cases h19:op=19
 ·subst h19;simp
 by_cases h41:op=41
 ·subst h41;simp
 by_cases h20:op=20∨op=21∨op=38∨op=39
 ·rcases h20 with rfl | rfl | rfl | rfl <;> (simp;exact Or.comm)
 by_cases h31:op=31
 ·subst h31;simp;exact Or.comm
 ·have h2:¬op=20:=by omega
  have h4:¬op=21:=by omega
  have h5:¬op=38:=by omega
  have h6:¬op=39:=by omega
  simp [h1,h3,h28,h29,h30,h18,h19,h41,h31,h2,h4,h5,h6]
def stepI (ps:List Pd) (n:Nd) (at_:Nat) (s:St):Out:=
 match (rdsI (formOf n.op.toNat) n.fs ⟨s.types,[],[]⟩).map Rd.two with
 | none=>.bad 10
 | some (t1,tk)=>
  if upsBoxedB s.types (fnUps ps n) then
   if gfitB n s.guards then
    if stayB (maxKeep s.guards) tk s.types (wrsI (formOf n.op.toNat) n.fs t1) then .go (folF n at_ s (wrsI (formOf n.op.toNat) n.fs t1) (gbehF n s.guards)) else .bad 12
   else .bad 11
  else .bad 10
theorem rdOp_nn {w x:Int} {s s':Rd} (h:rdOp w x s=some s') (hs:∀y ∈ s.taken,0≤y):∀y ∈ s'.taken,0≤y:=by
 unfold rdOp at h
 split at h
 ·split at h
  ·rename_i hx
   split at h
   ·cases h
   ·obtain rfl:=Option.some.inj h
    intro y hy
    rcases List.mem_append.1 hy with hy | hy
    ·exact hs y hy
    ·simp at hy;subst hy;unfold regOf;rw [if_pos hx];omega
  ·obtain rfl:=Option.some.inj h;exact hs
 ·cases h
theorem rdI_nn {np:Nat} {p:Pd} {r:Nat} {x:Int} {s s':Rd} (hr:r≤23) (hf:fitsR np p (convR r) x=true) (h:rdI r x s=some s') (hs:∀y ∈ s.taken,0≤y):∀y ∈ s'.taken,0≤y:=by
 unfold rdI at h
 have hpl:∀w,rdPlace w x s=some s'→∀y ∈ s'.taken,0≤y:=by
  intro w h
  unfold rdPlace at h
  split at h
  ·obtain rfl:=Option.some.inj h;exact hs
  ·cases h
 split at h
 ·exact rdOp_nn h hs
 ·exact rdOp_nn h hs
 ·exact hpl _ h
 ·exact hpl _ h
 ·exact hpl _ h
 ·split at h
  ·obtain rfl:=Option.some.inj h;exact hs
  ·cases h
 ·split at h
  ·obtain rfl:=Option.some.inj h;exact hs
  ·cases h
 ·split at h
  ·obtain rfl:=Option.some.inj h
   intro y hy
   rcases List.mem_append.1 hy with hy | hy
   ·exact hs y hy
   ·simp at hy;subst hy
    simp [convR,convTab,fitsR,inR] at hf
    exact hf.1
  ·cases h
 ·obtain rfl:=Option.some.inj h;exact hs
theorem rdsI_nn {np:Nat} {p:Pd} : ∀{rs:List Nat} {xs:List Int} {s s':Rd},(∀r ∈ rs,r≤23)→fitAll np p (rs.map convR) xs=true→rdsI rs xs s=some s'→(∀y ∈ s.taken,0≤y)→∀y ∈ s'.taken,0≤y
 | [],_,s,s',_,_,h,hs=>by unfold rdsI at h;obtain rfl:=Option.some.inj h;exact hs
 | _::_,[],s,s',_,_,h,hs=>by unfold rdsI at h;obtain rfl:=Option.some.inj h;exact hs
 | r::rs,x::xs,s,s',hr,hf,h,hs=>by
  unfold rdsI at h
  simp only [List.map_cons,fitAll,Bool.and_eq_true] at hf
  cases h1:rdI r x s with
  | none=>rw [h1] at h;cases h
  | some s1=>
   rw [h1] at h
   exact rdsI_nn (fun q hq=>hr q (by simp [hq])) hf.2 h (rdI_nn (hr r (by simp)) hf.1 h1 hs)
theorem step_eq {ps:List Pd} {np:Nat} {p:Pd} {n:Nd} (hn:InsFit np p n) (at_:Nat) (s:St):stepI ps n at_ s=stepF ps n at_ s:=by
 have hlo:=hn.lo
 have hhi:=hn.hi
 obtain⟨op,hop⟩:∃k:Nat,n.op=k:=Int.eq_ofNat_of_zero_le (by omega)
 have h1:1≤op:=by omega
 have h2:op≤42:=by omega
 have hT:n.op.toNat=op:=by rw [hop];rfl
 have hr:=reads_eq op h1 h2 n.a n.b n.c n.d s.types
 have hfit:=hn.fit
 rw [hT] at hfit
 unfold stepI stepF readF
 rw [hT]
 have hnn:=@rdsI_nn np p (formOf op) n.fs ⟨s.types,[],[]⟩
 rw [conv_forms op h1 h2] at hnn
 unfold Nd.fs at *
 cases hs:rdsS (rolesOf op) [n.a,n.b,n.c,n.d] ⟨s.types,[],[]⟩ with
 | none=>
  rw [hs] at hr
  rw [hr]
  rfl
 | some r=>
  rw [hs] at hr
  rw [hr]
  cases hi:rdsI (formOf op) [n.a,n.b,n.c,n.d] ⟨s.types,[],[]⟩ with
  | none=>rw [hi] at hr;cases hr
  | some r'=>
  rw [hi] at hr
  simp only [Option.map_some,Option.some.injEq,Rd.two,Prod.mk.injEq] at hr
  have htk:=hnn (s':=r') (by
   intro q hq
   obtain⟨r0,r1,r2,r3,e,g0,g1,g2,g3⟩:=form_four h2
   rw [e] at hq
   simp at hq
   omega) hfit hi (by simp)
  have hups:upsBoxedB s.types (fnUps ps n)=upsBoxedB r.types (fnUps ps n):=by
   unfold fnUps
   split
   ·rename_i h11
    have:op=11:=by omega
    subst this
    simp [rolesOf,roleTab,rdsS,rdS] at hs
    rw [←hs]
   ·rfl
  have hw:wrsI (formOf op) [n.a,n.b,n.c,n.d] r.types=writeT n r.types:=by
   refine write_eq n op hop h1 h2 r.types ?_
   intro h40
   subst h40
   refine reads_forty (tk:=r.taken) (a:=n.a) (b:=n.b) (c:=n.c) (d:=n.d) (ts:=s.types) ?_
   rw [hs]
   rfl
  rw [Option.map_some]
  dsimp only [Rd.two]
  rw [hups,hw,change_eq hn]
  cases upsBoxedB r.types (fnUps ps n)
  ·rfl
  ·simp only [if_true]
   cases gfitB n s.guards
   ·rfl
   ·simp only [if_true]
    have hk:keptF n s.guards r.taken s.types (writeT n r.types)=stayB (maxKeep s.guards) r.taken s.types (writeT n r.types):=by
     refine kept_eq ?_ ?_
     ·intro h32
      have:op=32:=by omega
      subst this
      simp [rolesOf,roleTab,rdsS,rdS] at hs
      rw [←hs]
      refine⟨rfl,?_⟩
      obtain⟨o,a,b,c,d⟩:=n
      dsimp only at hop
      subst hop
      rfl
     ·rw [←hr.2]
      exact htk
    rw [hk]
theorem keptL_drop {e:Bool} {tk b a:List Int} {gs:List Gd} {k:Nat} {g:Gd} (h:gs[k]?=some g) :
  keptL e tk b a (gs.drop k)=((!g.tr || (notBelow g.keep tk && ((e && (gs.drop (k+1)).isEmpty) || sameBelow g.keep b a))) && keptL e tk b a (gs.drop (k+1))):=by
 rw [drop_some h];rfl
theorem notBelow_drop {keep:Int} {tk:List Int} {j:Nat} {x:Int} (h:tk[j]?=some x):notBelow keep (tk.drop j)=(!decide (x<keep) && notBelow keep (tk.drop (j+1))):=by
 rw [drop_some h];rfl
theorem same_true {K:Int} {b a:List Int} (h:∀j:Nat,(j:Int)<K→b[j]?=a[j]?):sameBelow K b a=true:=by
 unfold sameBelow
 rw [decide_eq_true_iff]
 apply List.ext_getElem?
 intro j
 rw [List.getElem?_take,List.getElem?_take]
 split
 ·exact h j (by omega)
 ·rfl
theorem same_false {K:Int} {b a:List Int} {j:Nat} {x y:Int} (hj:(j:Int)<K) (hx:b[j]?=some x) (hy:a[j]?=some y) (hn:¬x=y):sameBelow K b a=false:=by
 unfold sameBelow
 rw [decide_eq_false_iff_not]
 intro h
 have:=congrArg (fun l=>l[j]?) h
 have hj':j<K.toNat:=by omega
 simp only [List.getElem?_take,if_pos hj',hx,hy,Option.some.injEq] at this
 exact hn this
theorem drop_empty {α:Type} {l:List α} {k:Nat} (hk:k<l.length):(l.drop (k+1)).isEmpty=decide (k+1=l.length):=by
 rw [Bool.eq_iff_iff,List.isEmpty_iff,List.drop_eq_nil_iff,decide_eq_true_iff]
 omega
set_option maxRecDepth 100000 in
set_option maxHeartbeats 4000000 in
theorem l3kept_any (n:Nd) (go to bo ao:Option Addr) (gc tc bc ac:Nat) (gs:List Gd) (tk bs cs:List Int) (w:World) (hg:gs.length≤50) (ht:tk.length≤1000) (hb1:bs.length≤250) (hla:cs.length=bs.length) (hk:∀g ∈ gs,g.keep≤bs.length)
  (h1:GdsAt 0 w go gs) (h2:IntsAt 0 w to tk) (h3:IntsAt 0 w bo bs) (h4:IntsAt 0 w ao cs) :
  Calls Tryz.prog 50 #[n.val,.slice go gs.length gc,.slice to tk.length tc,.slice bo bs.length bc,.slice ao cs.length ac] w fun e w'=>e=.returned (.bool (keptF n gs tk bs cs))∧Below w.heap.size w w':=by
 have HLA:Hid _:=hla
 have HK:Hid _:=hk
 clear hla hk
 obtain⟨op,a,b,c,d⟩:=n
 unfold Nd.val keptF
 dsimp only
 have N0:=Blk.new w #[.int .i64 op,.int .i64 a,.int .i64 b,.int .i64 c,.int .i64 d] 93
 have B0:=(Below.refl w.heap.size w).alloc (Nat.le_refl _) (.cells #[.int .i64 op,.int .i64 a,.int .i64 b,.int .i64 c,.int .i64 d] 93)
 go_enter Tryz.func50,Tryz.ntmps50
 go_wp2_with fail
 go_loopw [18] (fun y wr=>∃k:Nat,k≤gs.length∧y=.int .i64 k∧Hid (keptL (op == 32) tk bs cs (gs.drop k)=keptL (op == 32) tk bs cs gs)∧Below w.heap.size w wr∧Blk wr w.heap.size #[.int .i64 op,.int .i64 a,.int .i64 b,.int .i64 c,.int .i64 d] 93) (fun y _=>gs.length - (intOf y).toNat)
 case atStart=>exact ⟨0,Nat.zero_le _,rfl,rfl,B0,N0⟩
 case round=>
  obtain⟨k,hk,rfl,HQ,hb,N1⟩:=hrel
  clear B0 N0
  by_cases hkl:k<gs.length
  ·obtain⟨x,hxk⟩:=some_of_lt hkl
   obtain⟨bb,off,rfl,_,hbl,q0,q1,q2⟩:=h1.later (Keeps.of_below hb) k x hxk
   have HD:Hid _:=HQ.out.symm.trans (keptL_drop hxk)
   rw [drop_empty hkl] at HD
   have HX:Hid (x.keep≤bs.length):=HK.out x (List.mem_of_getElem? hxk)
   have hba:∀o,Below w.heap.size w (wr.alloc o):=fun o=>hb.alloc hb.size o
   obtain⟨x0,x1,x2⟩:=x
   dsimp only at *
   have n1:=N1.cell
   clear hxk HQ
   cases x0
   ·have HN:Hid (keptL (op == 32) tk bs cs (gs.drop (k+1))=keptL (op == 32) tk bs cs gs):=by show _=_;rw [HD.out];simp
    clear HD
    go_wp2_with fail
    go_roundw
    case rel=>exact ⟨k+1,by omega,by go_num,HN.out,hba _,N1.alloc _⟩
    case measure=>simp [intOf];omega
   ·have G1:=Blk.new wr #[.bool true,.int .i64 x1,.int .i64 x2] 163
    have N1a:=N1.alloc (.cells #[.bool true,.int .i64 x1,.int .i64 x2] 163)
    have B1a:=hba (.cells #[.bool true,.int .i64 x1,.int .i64 x2] 163)
    go_wp2_with fail
    clear n1 q0 q1 q2 hba hbl
    generalize hGB:wr.heap.size=GB at *
    clear hGB
    go_loopw [28] (fun y wi=>∃j:Nat,j≤tk.length∧y=.int .i64 j∧Hid (notBelow x1 (tk.drop j)=notBelow x1 tk)∧Below w.heap.size w wi∧Blk wi w.heap.size #[.int .i64 op,.int .i64 a,.int .i64 b,.int .i64 c,.int .i64 d] 93∧Blk wi GB #[.bool true,.int .i64 x1,.int .i64 x2] 163) (fun y _=>tk.length - (intOf y).toNat)
    case atStart=>exact ⟨0,Nat.zero_le _,rfl,rfl,B1a,N1a,G1⟩
    case round=>
     obtain⟨j,hj,rfl,HQ2,hb2,N2,G2⟩:=hrel
     clear N1 N1a B1a G1 hb
     have g2:=G2.cell
     have n2:=N2.cell
     by_cases hjl:j<tk.length
     ·obtain⟨t,htk⟩:=some_of_lt hjl
      obtain⟨bb,off,rfl,_,hbl2,p0⟩:=h2.later (Keeps.of_below hb2) j t htk
      unfold IntAt at p0
      rw [Nat.mul_one] at p0
      have HD2:Hid _:=HQ2.out.symm.trans (notBelow_drop htk)
      clear htk HQ2
      by_cases hlt:t<x1
      ·have HN:Hid (keptL (op == 32) tk bs cs gs=false):=by
        show _=_
        rw [HD.out,HD2.out]
        simp [hlt]
       clear HD HD2
       go_wp2_with fail
       go_ret
       exact⟨ret_bool HN.out.symm,hb2⟩
      ·have HN:Hid (notBelow x1 (tk.drop (j+1))=notBelow x1 tk):=by show _=_;rw [HD2.out];simp [hlt]
       clear HD2
       go_wp2_with fail
       go_roundw
       case rel=>exact ⟨j+1,by omega,by go_num,HN.out,hb2,N2,G2⟩
       case measure=>simp [intOf];omega
     ·have HT:Hid (notBelow x1 tk=true):=by
       have h:=HQ2.out
       rw [List.drop_of_length_le (by omega)] at h
       exact h.symm
      clear HQ2
      by_cases hend:op=32∧k+1=gs.length
      ·have HN:Hid (keptL (op == 32) tk bs cs (gs.drop (k+1))=keptL (op == 32) tk bs cs gs):=by
        show _=_
        rw [HD.out,HT.out,hend.1]
        simp [hend.2]
       obtain⟨rfl,hend2⟩:=hend
       have k1:((k:Int) == (gs.length:Int) - 1)=true:=by simp;omega
       clear HD HT hend2
       go_wp2_with fail
       go_roundw
       case rel=>exact ⟨k+1,by omega,by go_num,HN.out,hb2,N2⟩
       case measure=>simp [intOf];omega
      ·have HS:Hid (keptL (op == 32) tk bs cs gs=(sameBelow x1 bs cs && keptL (op == 32) tk bs cs (gs.drop (k+1)))):=by
        show _=_
        rw [HD.out,HT.out]
        have:((op == 32) && decide (k+1=gs.length))=false:=by
         by_cases h32:op=32
         ·have:¬(k+1=gs.length):=fun h=>hend ⟨h32,h⟩
          simp [this]
         ·simp [h32]
        rw [this]
        simp
       have k1:(op == 32)=false∨((op == 32)=true∧((k:Int) == (gs.length:Int) - 1)=false):=by
        by_cases h32:op=32
        ·exact .inr ⟨by simpa using h32,by simp;omega⟩
        ·exact .inl (by simpa using h32)
       have HE:Hid (∀W,Below w.heap.size w W→Blk W w.heap.size #[.int .i64 op,.int .i64 a,.int .i64 b,.int .i64 c,.int .i64 d] 93→True):=fun _ _ _=>trivial
       clear HD HT hend HE
       rcases k1 with k1 | ⟨k1,k2⟩
       all_goals
        go_wp2_with fail
        go_loopw [15] (fun y wi=>∃r:Nat,y=.int .i64 r∧r≤bs.length∧Hid (∀j:Nat,j<r→bs[j]?=cs[j]?)∧Below w.heap.size w wi∧Blk wi w.heap.size #[.int .i64 op,.int .i64 a,.int .i64 b,.int .i64 c,.int .i64 d] 93∧Blk wi GB #[.bool true,.int .i64 x1,.int .i64 x2] 163) (fun y _=>bs.length - (intOf y).toNat)
        case atStart=>exact ⟨0,rfl,Nat.zero_le _,fun j hj=>absurd hj (Nat.not_lt_zero _),hb2,N2,G2⟩
        case round=>
         obtain⟨r,rfl,hrl,HR,hb3,N3,G3⟩:=hrel
         clear g2 n2 N2 G2 hb2
         have g3:=G3.cell
         by_cases hrk:(r:Int)<x1
         ·have hrb:r<bs.length:=by have:=HX.out;omega
          have hra:r<cs.length:=by have:=HLA.out;omega
          obtain⟨x,hxr⟩:=some_of_lt hrb
          obtain⟨y,hyr⟩:=some_of_lt hra
          obtain⟨bb,off,rfl,_,hbl3,p0⟩:=h3.later (Keeps.of_below hb3) r x hxr
          obtain⟨bb',off',rfl,_,hbl4,p1⟩:=h4.later (Keeps.of_below hb3) r y hyr
          unfold IntAt at p0 p1
          rw [Nat.mul_one] at p0 p1
          have k3:(r:Int)<bs.length:=by omega
          have k4:(r:Int)<cs.length:=by omega
          by_cases hxy:x=y
          ·have HN:Hid (∀j:Nat,j<r+1→bs[j]?=cs[j]?):=by
            intro j hj
            by_cases hjr:j=r
            ·rw [hjr,hxr,hyr,hxy]
            ·exact HR.out j (by omega)
           subst hxy
           clear HR hxr hyr
           go_wp2_with fail
           go_quiet (fail)
           go_wp2_with fail
           go_roundw
           case rel=>exact ⟨r+1,by go_num,by omega,HN.out,below_drewN hb3 _,N3,G3⟩
           case measure=>simp [intOf];omega
          ·have HN:Hid (keptL (op == 32) tk bs cs gs=false):=by
            show _=_
            rw [HS.out,same_false hrk hxr hyr hxy]
            rfl
           have k5:(x != y)=true:=by simpa using hxy
           clear HR hxr hyr hxy
           go_wp2_with fail
           go_quiet (fail)
           go_wp2_with fail
           go_ret
           exact⟨ret_bool HN.out.symm,below_drewN hb3 _⟩
         ·have HN:Hid (keptL (op == 32) tk bs cs (gs.drop (k+1))=keptL (op == 32) tk bs cs gs):=by
           show _=_
           rw [HS.out,same_true fun j hj=>HR.out j (by omega)]
           rfl
          clear HR
          go_wp2_with fail
          go_roundw
          case rel=>exact ⟨k+1,by omega,by go_num,HN.out,hb3,N3⟩
          case measure=>simp [intOf];omega
  ·have HN:Hid (keptL (op == 32) tk bs cs gs=true):=by
    have h:=HQ.out
    rw [List.drop_of_length_le (by omega)] at h
    exact h.symm
   clear HQ
   go_wp2_with fail
   go_ret
   exact⟨ret_bool HN.out.symm,hb⟩
@[go_sem] theorem as_operand_operand (v:Value) (w:World):(Instr.typeAssert (.iface 236 v) 178 236 true).run Tryz.prog w=.ok (.tuple #[v,.bool true]) w:=by kernel_rfl
@[go_sem] theorem as_places_operand (v:Value) (w:World):(Instr.typeAssert (.iface 249 v) 178 236 true).run Tryz.prog w=.ok (.tuple #[.agg #[.int .i64 0,.int .i64 0],.bool false]) w:=by kernel_rfl
@[go_sem] theorem as_opening_operand (v:Value) (w:World):(Instr.typeAssert (.iface 228 v) 178 236 true).run Tryz.prog w=.ok (.tuple #[.agg #[.int .i64 0,.int .i64 0],.bool false]) w:=by kernel_rfl
@[go_sem] theorem as_result_operand (v:Value) (w:World):(Instr.typeAssert (.iface 226 v) 178 236 true).run Tryz.prog w=.ok (.tuple #[.agg #[.int .i64 0,.int .i64 0],.bool false]) w:=by kernel_rfl
@[go_sem] theorem as_target_operand (v:Value) (w:World):(Instr.typeAssert (.iface 251 v) 178 236 true).run Tryz.prog w=.ok (.tuple #[.agg #[.int .i64 0,.int .i64 0],.bool false]) w:=by kernel_rfl
@[go_sem] theorem as_number_operand (v:Value) (w:World):(Instr.typeAssert (.iface 253 v) 178 236 true).run Tryz.prog w=.ok (.tuple #[.agg #[.int .i64 0,.int .i64 0],.bool false]) w:=by kernel_rfl
@[go_sem] theorem as_operand_places (v:Value) (w:World):(Instr.typeAssert (.iface 236 v) 178 249 true).run Tryz.prog w=.ok (.tuple #[.agg #[.int .i64 0,.int .i64 0,.int .i64 0],.bool false]) w:=by kernel_rfl
@[go_sem] theorem as_places_places (v:Value) (w:World):(Instr.typeAssert (.iface 249 v) 178 249 true).run Tryz.prog w=.ok (.tuple #[v,.bool true]) w:=by kernel_rfl
@[go_sem] theorem as_opening_places (v:Value) (w:World):(Instr.typeAssert (.iface 228 v) 178 249 true).run Tryz.prog w=.ok (.tuple #[.agg #[.int .i64 0,.int .i64 0,.int .i64 0],.bool false]) w:=by kernel_rfl
@[go_sem] theorem as_result_places (v:Value) (w:World):(Instr.typeAssert (.iface 226 v) 178 249 true).run Tryz.prog w=.ok (.tuple #[.agg #[.int .i64 0,.int .i64 0,.int .i64 0],.bool false]) w:=by kernel_rfl
@[go_sem] theorem as_target_places (v:Value) (w:World):(Instr.typeAssert (.iface 251 v) 178 249 true).run Tryz.prog w=.ok (.tuple #[.agg #[.int .i64 0,.int .i64 0,.int .i64 0],.bool false]) w:=by kernel_rfl
@[go_sem] theorem as_number_places (v:Value) (w:World):(Instr.typeAssert (.iface 253 v) 178 249 true).run Tryz.prog w=.ok (.tuple #[.agg #[.int .i64 0,.int .i64 0,.int .i64 0],.bool false]) w:=by kernel_rfl
@[go_sem] theorem as_operand_opening (v:Value) (w:World):(Instr.typeAssert (.iface 236 v) 178 228 true).run Tryz.prog w=.ok (.tuple #[.agg #[.int .i64 0],.bool false]) w:=by kernel_rfl
@[go_sem] theorem as_places_opening (v:Value) (w:World):(Instr.typeAssert (.iface 249 v) 178 228 true).run Tryz.prog w=.ok (.tuple #[.agg #[.int .i64 0],.bool false]) w:=by kernel_rfl
@[go_sem] theorem as_opening_opening (v:Value) (w:World):(Instr.typeAssert (.iface 228 v) 178 228 true).run Tryz.prog w=.ok (.tuple #[v,.bool true]) w:=by kernel_rfl
@[go_sem] theorem as_result_opening (v:Value) (w:World):(Instr.typeAssert (.iface 226 v) 178 228 true).run Tryz.prog w=.ok (.tuple #[.agg #[.int .i64 0],.bool false]) w:=by kernel_rfl
@[go_sem] theorem as_target_opening (v:Value) (w:World):(Instr.typeAssert (.iface 251 v) 178 228 true).run Tryz.prog w=.ok (.tuple #[.agg #[.int .i64 0],.bool false]) w:=by kernel_rfl
@[go_sem] theorem as_number_opening (v:Value) (w:World):(Instr.typeAssert (.iface 253 v) 178 228 true).run Tryz.prog w=.ok (.tuple #[.agg #[.int .i64 0],.bool false]) w:=by kernel_rfl
@[go_sem] theorem as_operand_result (v:Value) (w:World):(Instr.typeAssert (.iface 236 v) 178 226 true).run Tryz.prog w=.ok (.tuple #[.agg #[.int .i64 0,.int .i64 0],.bool false]) w:=by kernel_rfl
@[go_sem] theorem as_places_result (v:Value) (w:World):(Instr.typeAssert (.iface 249 v) 178 226 true).run Tryz.prog w=.ok (.tuple #[.agg #[.int .i64 0,.int .i64 0],.bool false]) w:=by kernel_rfl
@[go_sem] theorem as_opening_result (v:Value) (w:World):(Instr.typeAssert (.iface 228 v) 178 226 true).run Tryz.prog w=.ok (.tuple #[.agg #[.int .i64 0,.int .i64 0],.bool false]) w:=by kernel_rfl
@[go_sem] theorem as_result_result (v:Value) (w:World):(Instr.typeAssert (.iface 226 v) 178 226 true).run Tryz.prog w=.ok (.tuple #[v,.bool true]) w:=by kernel_rfl
@[go_sem] theorem as_target_result (v:Value) (w:World):(Instr.typeAssert (.iface 251 v) 178 226 true).run Tryz.prog w=.ok (.tuple #[.agg #[.int .i64 0,.int .i64 0],.bool false]) w:=by kernel_rfl
@[go_sem] theorem as_number_result (v:Value) (w:World):(Instr.typeAssert (.iface 253 v) 178 226 true).run Tryz.prog w=.ok (.tuple #[.agg #[.int .i64 0,.int .i64 0],.bool false]) w:=by kernel_rfl
@[go_sem] theorem as_unused_operand (v:Value) (w:World):(Instr.typeAssert (.iface 247 v) 178 236 true).run Tryz.prog w=.ok (.tuple #[.agg #[.int .i64 0,.int .i64 0],.bool false]) w:=by kernel_rfl
@[go_sem] theorem as_unused_places (v:Value) (w:World):(Instr.typeAssert (.iface 247 v) 178 249 true).run Tryz.prog w=.ok (.tuple #[.agg #[.int .i64 0,.int .i64 0,.int .i64 0],.bool false]) w:=by kernel_rfl
@[go_sem] theorem as_unused_opening (v:Value) (w:World):(Instr.typeAssert (.iface 247 v) 178 228 true).run Tryz.prog w=.ok (.tuple #[.agg #[.int .i64 0],.bool false]) w:=by kernel_rfl
@[go_sem] theorem as_unused_result (v:Value) (w:World):(Instr.typeAssert (.iface 247 v) 178 226 true).run Tryz.prog w=.ok (.tuple #[.agg #[.int .i64 0,.int .i64 0],.bool false]) w:=by kernel_rfl
end Go.Proofs.YtaakadmnhpboiaaGreatDoor
