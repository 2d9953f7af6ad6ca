import Derived.Test.YtaakadmnhpboiaaGreatDoorM11
import Derived.Test.YtaakadmnhpboiaaGreatDoorM13
import Derived.Maps.AppendAt
import Derived.Test.YtaakadmnhpboiaaGreatDoorM12
import Derived.Laws.StructEq
import Derived.Lib.SliceRun
import Derived.Lib.Walk
namespace Go.Proofs.YtaakadmnhpboiaaGreatDoor
open Go.RowKit Go.Deep
def stT (o:Option St):List Int:=match o with | none=>[] | some s=>s.types
def stG (o:Option St):List Gd:=match o with | none=>[] | some s=>s.guards
def StAt (lo:Nat) (w:World) (sb j:Nat) (o:Option St):Prop:=
 ∃to tc go gc,w.cell? ⟨sb,j*3,none⟩=some (.bool o.isSome)∧w.cell? ⟨sb,j*3+1,none⟩=some (.slice to (stT o).length tc)∧w.cell? ⟨sb,j*3+2,none⟩=some (.slice go (stG o).length gc)∧IntsAt lo w to (stT o)∧GdsAt lo w go (stG o)
structure StsAt (lo:Nat) (w:World) (sb:Nat) (sts:List (Option St)):Prop where
 own:Own w sb 98 (sts.length*3)
 at_:∀j o,sts[j]?=some o→StAt lo w sb j o
theorem StAt.later {lo:Nat} {w w':World} {sb j:Nat} {o:Option St} (h:StAt lo w sb j o) (hk:Keeps lo w w') (hb:w'.heap[sb]?=w.heap[sb]?):StAt lo w' sb j o:=by
 obtain⟨to,tc,go,gc,h1,h2,h3,h4,h5⟩:=h
 have hc:∀i,w'.cell? ⟨sb,i,none⟩=w.cell? ⟨sb,i,none⟩:=fun i=>World.cell?_of_block (w:=w) (a:=⟨sb,i,none⟩) hb
 exact⟨to,tc,go,gc,(hc _).trans h1,(hc _).trans h2,(hc _).trans h3,h4.later hk,h5.later hk⟩
theorem StsAt.later {lo:Nat} {w w':World} {sb:Nat} {sts:List (Option St)} (h:StsAt lo w sb sts) (hk:Keeps lo w w') (hb:w'.heap[sb]?=w.heap[sb]?):StsAt lo w' sb sts:=
 ⟨h.own.of_block hb,fun j o ho=>(h.at_ j o ho).later hk hb⟩
theorem StsAt.below {lo:Nat} {w w':World} {sb:Nat} {sts:List (Option St)} (h:StsAt lo w sb sts) (hb:Below w.heap.size w w'):StsAt lo w' sb sts:=h.later (Keeps.of_below hb) (hb.block sb h.own.lt)
theorem cell_set_ne {w:World} {b i j:Nat} {v:Value} (h:i≠j):(w.setCell ⟨b,i,none⟩ v).cell? ⟨b,j,none⟩=w.cell? ⟨b,j,none⟩:=by
 simp [World.cell?,World.setCell,Array.getElem?_modify]
 cases hb:w.heap[b]? with
 | none=>simp
 | some o=>cases o <;> simp [h]
theorem own_set_cell {w:World} {b n i:Nat} {t:TypeId} {v:Value} (h:Own w b t n) (hi:i<n):(w.setCell ⟨b,i,none⟩ v).cell? ⟨b,i,none⟩=some v:=by
 obtain⟨c,hc,rfl⟩:=h
 simp [World.cell?,World.setCell,Array.getElem?_modify,hc,hi]
theorem StsAt.put {lo:Nat} {w:World} {sb:Nat} {sts:List (Option St)} (h:StsAt lo w sb sts) {x:Nat} (hx:x<sts.length) (hsb:sb<lo) {s:St} {to go:Option Addr} {tc gc:Nat} (ht:IntsAt lo w to s.types) (hg:GdsAt lo w go s.guards) :
  StsAt lo (((w.setCell ⟨sb,x*3,none⟩ (.bool true)).setCell ⟨sb,x*3+1,none⟩ (.slice to s.types.length tc)).setCell ⟨sb,x*3+2,none⟩ (.slice go s.guards.length gc)) sb (sts.set x (some s)):=by
 have hk:Keeps lo w (((w.setCell ⟨sb,x*3,none⟩ (.bool true)).setCell ⟨sb,x*3+1,none⟩ (.slice to s.types.length tc)).setCell ⟨sb,x*3+2,none⟩ (.slice go s.guards.length gc)):=
  (((Keeps.refl lo w).setCell (p:=⟨sb,x*3,none⟩) hsb _).setCell (p:=⟨sb,x*3+1,none⟩) hsb _).setCell (p:=⟨sb,x*3+2,none⟩) hsb _
 have ho:=((h.own.set (x*3) (.bool true)).set (x*3+1) (.slice to s.types.length tc)).set (x*3+2) (.slice go s.guards.length gc)
 refine⟨by rw [List.length_set];exact ho,?_⟩
 intro j o hj
 rw [List.getElem?_set] at hj
 by_cases hxj:x=j
 ·subst hxj
  simp [hx] at hj
  subst hj
  have o1:=h.own.set (x*3) (.bool true)
  have o2:=o1.set (x*3+1) (.slice to s.types.length tc)
  refine⟨to,tc,go,gc,?_,?_,own_set_cell o2 (by omega),ht.later hk,hg.later hk⟩
  ·rw [cell_set_ne (by omega),cell_set_ne (by omega)]
   exact own_set_cell h.own (by omega)
  ·rw [cell_set_ne (by omega)]
   exact own_set_cell o1 (by omega)
 ·rw [if_neg hxj] at hj
  obtain⟨to',tc',go',gc',h1,h2,h3,h4,h5⟩:=h.at_ j o hj
  refine⟨to',tc',go',gc',?_,?_,?_,h4.later hk,h5.later hk⟩
  ·rw [cell_set_ne (by omega),cell_set_ne (by omega),cell_set_ne (by omega)];exact h1
  ·rw [cell_set_ne (by omega),cell_set_ne (by omega),cell_set_ne (by omega)];exact h2
  ·rw [cell_set_ne (by omega),cell_set_ne (by omega),cell_set_ne (by omega)];exact h3
theorem Tryz.info_State:(Tryz.prog.info? 98).map (fun i=>(i.zero,i.size,i.bytes))=some (some (.agg #[.bool false,.slice none 0 0,.slice none 0 0]),3,56):=by kernel_rfl
theorem made_cell {z:Array Value} {n j i:Nat} (hi:i<z.size) (hj:j * z.size+i<n):(madeCells z n)[j * z.size+i]?=z[i]?:=by
 have hm:(j * z.size+i) % z.size=i:=by rw [Nat.add_comm,Nat.add_mul_mod_self_right,Nat.mod_eq_of_lt hi]
 unfold madeCells
 simp [hj,hm,hi]
theorem sts_made (lo:Nat) (w:World) (n:Nat):StsAt lo (w.alloc (.cells (madeCells #[.bool false,.slice none 0 0,.slice none 0 0] (n*3)) 98)) w.heap.size (List.replicate n none):=by
 refine⟨by simpa using Own.made w #[.bool false,.slice none 0 0,.slice none 0 0] (n*3) 98,?_⟩
 intro j o hj
 rw [List.getElem?_replicate] at hj
 split at hj
 ·rename_i hjn
  obtain rfl:=(Option.some.inj hj).symm
  have hb:=blk_alloc_new w (.cells (madeCells #[.bool false,.slice none 0 0,.slice none 0 0] (n*3)) 98)
  have hc:∀i,i<3→(w.alloc (.cells (madeCells #[.bool false,.slice none 0 0,.slice none 0 0] (n*3)) 98)).cell? ⟨w.heap.size,j*3+i,none⟩=(#[.bool false,.slice none 0 0,.slice none 0 0]:Array Value)[i]?:=by
   intro i hi
   have:=made_cell (z:=#[.bool false,.slice none 0 0,.slice none 0 0]) (n:=n*3) (j:=j) (i:=i) (by simpa using hi) (by simp;omega)
   simp only [World.cell?,hb]
   simpa using this
  exact⟨none,0,none,0,hc 0 (by omega),hc 1 (by omega),hc 2 (by omega),fun i x hx=>by simp [stT] at hx,fun i x hx=>by simp [stG] at hx⟩
 ·cases hj
open Classical in
noncomputable def leastN (P:Nat→Prop) (N:Nat):Nat:=((List.range N).find? fun i=>decide (P i)).getD N
open Classical in
theorem leastN_of {E:Nat→Nat→Prop} {N m:Nat} (h:LeastC E N m):leastN (OnC E) N=m:=by
 unfold leastN
 obtain⟨h1,h2⟩:=h
 rcases h1 with rfl | ⟨h3,h4⟩
 ·rw [List.find?_eq_none.2]
  ·rfl
  ·intro i hi
   simp at hi ⊢
   intro hc
   have:=h2 i hi hc
   omega
 ·have:(List.range N).find? (fun i=>decide (OnC E i))=some m:=by
   rw [List.find?_range_eq_some]
   refine⟨by simpa using h4,by simpa using h3,?_⟩
   intro j hj
   simp
   intro hc
   have:=h2 j (by omega) hc
   omega
  rw [this]
  rfl
def Cf.E (c:Cf) (p:Pd) (a b:Nat):Prop:=(c.st a).isSome=true∧Sil p.ins a b
noncomputable def circF (p:Pd) (c:Cf):Nat:=leastN (OnC (c.E p)) p.ins.length
noncomputable def verF (ps:List Pd) (p:Pd) (pi:Nat):Int × Int × Int:=
 match walkF ps p (2 * p.ins.length+2) (startC p) with
 | .error (k,x)=>(k,pi,x)
 | .ok c=>if circF p c<p.ins.length then (14,pi,circF p c) else (0,0,0)
theorem verF_error {ps:List Pd} {p:Pd} {pi k x:Nat} (h:walkF ps p (2 * p.ins.length+2) (startC p)=.error (k,x)):verF ps p pi=((k:Int),(pi:Int),(x:Int)):=by unfold verF;rw [h]
theorem verF_circ {ps:List Pd} {p:Pd} {pi m:Nat} {c:Cf} (h:walkF ps p (2 * p.ins.length+2) (startC p)=.ok c) (hm:LeastC (c.E p) p.ins.length m) (hl:m<p.ins.length):verF ps p pi=(14,(pi:Int),(m:Int)):=by
 unfold verF circF;rw [h];dsimp only;rw [leastN_of hm,if_pos hl]
theorem verF_none {ps:List Pd} {p:Pd} {pi:Nat} {c:Cf} (h:walkF ps p (2 * p.ins.length+2) (startC p)=.ok c) (hm:LeastC (c.E p) p.ins.length p.ins.length):verF ps p pi=(0,0,0):=by
 unfold verF circF;rw [h];dsimp only;rw [leastN_of hm,if_neg (Nat.lt_irrefl _)]
theorem firstT_len {np:Nat} {p:Pd} (hp:PFit np p):((firstT p).length:Int)=p.regs:=by
 have h1:=hp.regs
 have h2:=hp.params
 unfold firstT
 dsimp only
 split <;> simp <;> omega
theorem start_ok {np:Nat} {p:Pd} (hp:PFit np p):CfOk p (startC p)∧Closed p (startC p) none∧(startC p).meas<2 * p.ins.length+2:=by
 have hs:=hp.some
 have hst:∀i,(startC p).st i=if 0=i then some ⟨firstT p,[]⟩ else none:=by
  intro i
  have:=st_set ⟨List.replicate p.ins.length none,[]⟩ 0 i ⟨firstT p,[]⟩ ((List.replicate p.ins.length false).set 0 true)
  unfold startC
  rw [this]
  unfold Cf.st
  simp only [List.length_replicate,List.getD_eq_getElem?_getD,List.getElem?_replicate]
  by_cases h0:0=i
  ·rw [if_pos ⟨h0,hs⟩,if_pos h0]
  ·rw [if_neg (fun h=>h0 h.1),if_neg h0]
   split <;> rfl
 have hdu:∀i,(startC p).due.getD i false=if 0=i then true else false:=by
  intro i
  unfold startC
  rw [due_set]
  simp only [List.length_replicate,List.getD_eq_getElem?_getD,List.getElem?_replicate]
  by_cases h0:0=i
  ·rw [if_pos ⟨h0,hs⟩,if_pos h0]
  ·rw [if_neg (fun h=>h0 h.1),if_neg h0]
   split <;> rfl
 refine⟨⟨by simp [startC],by simp [startC],?_,?_⟩,?_,?_⟩
 ·intro i s hi
  rw [hst] at hi
  split at hi
  ·obtain rfl:=Option.some.inj hi
   exact⟨firstT_len hp,by simp,by simp⟩
  ·cases hi
 ·intro i hi
  rw [hdu] at hi
  rw [hst]
  split at hi
  ·rename_i h;rw [if_pos h];rfl
  ·cases hi
 ·intro i n hn hi hd
  rw [hst] at hi
  rw [hdu] at hd
  split at hi
  ·rename_i h;rw [if_pos h] at hd;cases hd
  ·cases hi
 ·unfold Cf.meas startC
  dsimp only
  have h1:unseen ((List.replicate p.ins.length none).set 0 (some ⟨firstT p,[]⟩))≤p.ins.length:=by
   unfold unseen
   exact Nat.le_trans (List.length_filter_le _ _) (by simp)
  have h2:=@dues_true (List.replicate p.ins.length false) 0
  have h3:dues (List.replicate p.ins.length false)=0:=by unfold dues;simp
  omega
theorem circ_iff {p:Pd} {c:Cf} (hk:Closed p c none) (hd:∀i,c.due.getD i false=false) (i:Nat):OnC (c.E p) i ↔ ((c.st i).isSome=true∧OnC (Sil p.ins) i):=by
 refine onC_sub (P:=fun a=>(c.st a).isSome=true) (fun a b=>Iff.rfl) ?_
 rintro a b ha ⟨n,hn,hb⟩
 exact hk a n hn ha (hd a) (by simp) b hb
set_option maxHeartbeats 800000 in
theorem ticks_any (n:Nd) (w:World):Calls Tryz.prog 123 #[n.val] w fun e w'=>e=.returned (.bool (ticksB n))∧Below w.heap.size w w':=by
 have hb1:∀o,Below w.heap.size w (w.alloc o):=fun o=>(Below.refl _ _).alloc (Nat.le_refl _) o
 obtain⟨op,a,b,c,d⟩:=n
 dsimp only [Nd.val,ticksB]
 by_cases h1:op=1
 ·subst h1
  go_enter Tryz.func123,Tryz.ntmps123
  go_wp2_with fail
  go_ret
  exact⟨rfl,hb1 _⟩
 by_cases h3:op=3
 ·subst h3
  go_enter Tryz.func123,Tryz.ntmps123
  go_wp2_with fail
  go_ret
  exact⟨rfl,hb1 _⟩
 by_cases h28:op=28
 ·subst h28
  go_enter Tryz.func123,Tryz.ntmps123
  go_wp2_with fail
  go_ret
  exact⟨rfl,hb1 _⟩
 have t1:(op == 1)=false:=by simpa using h1
 have t3:(op == 3)=false:=by simpa using h3
 have t28:(op == 28)=false:=by simpa using h28
 clear h1 h3 h28
 by_cases h18:op=18
 ·subst h18
  go_enter Tryz.func123,Tryz.ntmps123
  go_wp2_with fail
  go_ret
  exact⟨ret_bool (by simp),hb1 _⟩
 ·have t18:(op == 18)=false:=by simpa using h18
  clear h18
  go_enter Tryz.func123,Tryz.ntmps123
  go_wp2_with fail
  go_ret
  exact⟨ret_bool (by simp [t1,t3,t28,t18]),hb1 _⟩
set_option maxRecDepth 100000 in
set_option maxHeartbeats 800000 in
theorem upsBoxed_any (to uo:Option Addr) (tc uc:Nat) (ts:List Int) (us:List Ud) (w:World) (hul:us.length≤1048576) (hu:∀u ∈ us,u.loc=true→0≤u.idx∧u.idx<ts.length) (ht:IntsAt 0 w to ts) (hx:UpsAt 0 w uo us) :
  Calls Tryz.prog 115 #[.slice to ts.length tc,.slice uo us.length uc] w fun e w'=>e=.returned (.bool (upsBoxedB ts us))∧Below w.heap.size w w':=by
 have HU:Hid _:=hu
 clear hu
 go_enter Tryz.func115,Tryz.ntmps115
 go_wp2_with fail
 go_loopw [9] (fun y wr=>∃k:Nat,k≤us.length∧y=.int .i64 k∧Hid (upsBoxedB ts (us.drop k)=upsBoxedB ts us)∧Below w.heap.size w wr) (fun y _=>us.length - (intOf y).toNat)
 case atStart=>exact ⟨0,Nat.zero_le _,rfl,rfl,Below.refl _ _⟩
 case round=>
  obtain⟨k,hk,rfl,HQ,hb⟩:=hrel
  by_cases hkl:k<us.length
  ·obtain⟨u,huk⟩:=some_of_lt hkl
   obtain⟨b,off,rfl,_,hbl,u0,u1⟩:=hx.later (Keeps.of_below hb) k u huk
   have HD:Hid (upsBoxedB ts us=(!(u.loc && decide (tyAt ts u.idx≠2)) && upsBoxedB ts (us.drop (k+1)))):=by
    show _=_
    rw [←HQ.out,drop_some huk]
    rfl
   have HUU:Hid _:=HU.out u (List.mem_of_getElem? huk)
   have hba:∀o,Below w.heap.size w (wr.alloc o):=fun o=>hb.alloc hb.size o
   obtain⟨ul,ui⟩:=u
   dsimp only at *
   clear huk HQ
   cases ul
   ·have HN:Hid (upsBoxedB ts (us.drop (k+1))=upsBoxedB ts us):=by show _=_;rw [HD.out];rfl
    clear HD HUU
    go_wp2_with fail
    go_roundw
    case rel=>exact ⟨k+1,by omega,by go_num,HN.out,hba _⟩
    case measure=>simp [intOf];omega
   ·obtain⟨hu1,hu2⟩:=HUU.out rfl
    obtain⟨q,rfl⟩:=Int.eq_ofNat_of_zero_le hu1
    obtain⟨ty,hty⟩:=some_of_lt (show q<ts.length by omega)
    obtain⟨tb,tof,rfl,_,htb,t0⟩:=ht.later (Keeps.of_below hb) q ty hty
    unfold IntAt at t0
    rw [Nat.mul_one] at t0
    have HTY:Hid (tyAt ts (q:Int)=ty):=by show _=_;unfold tyAt;simp [hty]
    clear hty HUU hu1
    by_cases ht2:ty=2
    ·subst ht2
     have HN:Hid (upsBoxedB ts (us.drop (k+1))=upsBoxedB ts us):=by show _=_;rw [HD.out,HTY.out];rfl
     clear HD HTY
     go_wp2_with fail
     go_roundw
     case rel=>exact ⟨k+1,by omega,by go_num,HN.out,hba _⟩
     case measure=>simp [intOf];omega
    ·have HN:Hid (upsBoxedB ts us=false):=by show _=_;rw [HD.out,HTY.out];simp [ht2]
     have k5:(ty != 2)=true:=by simpa using ht2
     clear HD HTY ht2
     go_wp2_with fail
     go_ret
     exact⟨ret_bool HN.out.symm,hba _⟩
  ·have HN:Hid (upsBoxedB ts us=true):=by
    have h:=HQ.out
    rw [List.drop_of_length_le (by omega)] at h
    exact h.symm
   clear HQ
   go_wp2_with fail
   go_ret
   exact⟨ret_bool HN.out.symm,hb⟩
set_option maxRecDepth 100000 in
set_option maxHeartbeats 800000 in
theorem equalInt_any (o1 o2:Option Addr) (c1 c2:Nat) (t1 t2:List Int) (w:World) (l1:t1.length≤1048576) (h1:IntsAt 0 w o1 t1) (h2:IntsAt 0 w o2 t2) :
  Calls Tryz.prog 110 #[.slice o1 t1.length c1,.slice o2 t2.length c2] w fun e w'=>e=.returned (.bool (decide (t1=t2)))∧Below w.heap.size w w':=by
 go_enter Tryz.func110,Tryz.ntmps110
 by_cases e1:t1.length=t2.length
 rotate_left
 ·have k1:((t1.length:Int) != t2.length)=true:=by simp;omega
  have HN:Hid (¬t1=t2):=fun h=>e1 (by rw [h])
  clear e1
  go_wp2_with fail
  go_ret
  exact⟨ret_bool (by simp [HN.out]),Below.refl _ _⟩
 ·have k1:((t1.length:Int) != t2.length)=false:=by simp;omega
  have E1:Hid (t1.length=t2.length):=e1
  clear e1
  go_wp2_with fail
  go_loopw [13] (fun y wr=>∃k:Nat,k≤t1.length∧y=.int .i64 k∧Hid ((t1=t2) ↔ (t1.drop k=t2.drop k))∧Below w.heap.size w wr) (fun y _=>t1.length - (intOf y).toNat)
  case atStart=>exact ⟨0,Nat.zero_le _,rfl,Iff.rfl,Below.refl _ _⟩
  case round=>
   obtain⟨k,hk,rfl,HQ,hb⟩:=hrel
   by_cases hkl:k<t1.length
   ·obtain⟨x,hxk⟩:=some_of_lt hkl
    have hkl2:k<t2.length:=by rw [←E1.out];exact hkl
    obtain⟨y,hyk⟩:=some_of_lt hkl2
    obtain⟨b,off,rfl,_,hbl,q0⟩:=h1.later (Keeps.of_below hb) k x hxk
    obtain⟨b',off',rfl,_,hbl',q1⟩:=h2.later (Keeps.of_below hb) k y hyk
    have HD:Hid ((t1=t2) ↔ (x=y∧t1.drop (k+1)=t2.drop (k+1))):=HQ.out.trans (drop_eq_step hxk hyk)
    unfold IntAt at q0 q1
    rw [Nat.mul_one] at q0 q1
    have k3:(k:Int)<t2.length:=by omega
    clear HQ h1 h2 hxk hyk
    by_cases hxy:x=y
    ·subst hxy
     have HN:Hid ((t1=t2) ↔ t1.drop (k+1)=t2.drop (k+1)):=by
      show _ ↔ _
      rw [HD.out]
      exact⟨fun h=>h.2,fun h=>⟨rfl,h⟩⟩
     clear HD
     go_wp2_with fail
     go_quiet (fail)
     go_wp2_with fail
     go_roundw
     case rel=>exact ⟨k+1,by omega,by go_num,HN.out,below_drewN hb _⟩
     case measure=>simp [intOf];omega
    ·have k4:(x != y)=true:=by simpa using hxy
     have HN:Hid (¬t1=t2):=fun h=>hxy (HD.out.1 h).1
     clear HD hxy
     go_wp2_with fail
     go_quiet (fail)
     go_wp2_with fail
     go_ret
     exact⟨ret_bool (by simp [HN.out]),below_drewN hb _⟩
   ·have HT:Hid (t1=t2):=by
     show _=_
     rw [HQ.out,List.drop_of_length_le (by omega),List.drop_of_length_le (by rw [←E1.out];omega)]
    clear HQ
    go_wp2_with fail
    go_ret
    exact⟨ret_bool (by simp [HT.out]),hb⟩
def idxI (x:Int):List Int→Nat→Int
 | [],_=>-1
 | y::r,k=>if x=y then k else idxI x r (k+1)
theorem idxI_nn (x:Int):∀(l:List Int) (k:Nat),(0≤idxI x l k) ↔ x ∈ l
 | [],_=>by simp [idxI]
 | y::r,k=>by
  unfold idxI
  by_cases h:x=y
  ·simp [h]
  ·rw [if_neg h,idxI_nn x r (k+1)];simp [h]
set_option maxRecDepth 100000 in
set_option maxHeartbeats 800000 in
theorem indexInt_any (o:Option Addr) (c:Nat) (xs:List Int) (x:Int) (w:World) (hl:xs.length≤1048576) (hx:IntsAt 0 w o xs) :
  Calls Tryz.prog 175 #[.slice o xs.length c,.int .i64 x] w fun e w'=>e=.returned (.int .i64 (idxI x xs 0))∧Below w.heap.size w w':=by
 go_enter Tryz.func175,Tryz.ntmps175
 go_wp2_with fail
 go_loopw [8] (fun y wr=>∃k:Nat,k≤xs.length∧y=.int .i64 k∧Hid (idxI x (xs.drop k) k=idxI x xs 0)∧Below w.heap.size w wr) (fun y _=>xs.length - (intOf y).toNat)
 case atStart=>exact ⟨0,Nat.zero_le _,rfl,rfl,Below.refl _ _⟩
 case round=>
  obtain⟨k,hk,rfl,HQ,hb⟩:=hrel
  by_cases hkl:k<xs.length
  ·obtain⟨y,hyk⟩:=some_of_lt hkl
   obtain⟨b,off,rfl,_,hbl,q0⟩:=hx.later (Keeps.of_below hb) k y hyk
   unfold IntAt at q0
   rw [Nat.mul_one] at q0
   have HD:Hid (idxI x xs 0=if x=y then (k:Int) else idxI x (xs.drop (k+1)) (k+1)):=by show _=_;rw [←HQ.out,drop_some hyk];rfl
   clear hyk HQ
   by_cases hxy:x=y
   ·subst hxy
    have HN:Hid (idxI x xs 0=(k:Int)):=by show _=_;rw [HD.out,if_pos rfl]
    clear HD
    go_wp2_with fail
    go_ret
    exact⟨ret_int HN.out.symm,hb⟩
   ·have k4:(x == y)=false:=by simpa using hxy
    have HN:Hid (idxI x (xs.drop (k+1)) (k+1)=idxI x xs 0):=by show _=_;rw [HD.out,if_neg hxy]
    clear HD hxy
    go_wp2_with fail
    go_roundw
    case rel=>exact ⟨k+1,by omega,by go_num,HN.out,hb⟩
    case measure=>simp [intOf];omega
  ·have HN:Hid (idxI x xs 0 = -1):=by
    have h:=HQ.out
    rw [List.drop_of_length_le (by omega)] at h
    exact h.symm
   clear HQ
   go_wp2_with fail
   go_ret
   exact⟨ret_int HN.out.symm,hb⟩
set_option maxHeartbeats 400000 in
theorem containsInt_any (o:Option Addr) (c:Nat) (xs:List Int) (x:Int) (w:World) (hl:xs.length≤1048576) (hx:IntsAt 0 w o xs) :
  Calls Tryz.prog 167 #[.slice o xs.length c,.int .i64 x] w fun e w'=>e=.returned (.bool (decide (x ∈ xs)))∧Below w.heap.size w w':=by
 have HI:Hid (decide (x ∈ xs)=decide (0≤idxI x xs 0)):=by show _=_;rw [Bool.eq_iff_iff,decide_eq_true_iff,decide_eq_true_iff];exact (idxI_nn x xs 0).symm
 have HC:Hid _:=fun (W:World) (h:IntsAt 0 W o xs)=>indexInt_any o c xs x W hl h
 go_enter Tryz.func167,Tryz.ntmps167
 go_wp2_with fail
 refine (HC.out _ hx).mono ?_
 rintro e w1 ⟨rfl,hw1⟩
 generalize idxI x xs 0=ix at *
 go_wp2_with fail
 go_ret
 exact⟨ret_bool HI.out.symm,hw1⟩
theorem foldK_drop {gs:List Gd} {k:Nat} {g:Gd} (h:gs[k]?=some g) (k0:Int):(gs.drop k).foldl (fun k g=>if g.tr then max k g.keep else k) k0=(gs.drop (k+1)).foldl (fun k g=>if g.tr then max k g.keep else k) (if g.tr then max k0 g.keep else k0):=by
 rw [drop_some h];rfl
theorem max_if (m x:Int):(if m<x then x else m)=max m x:=by
 split
 ·rw [Int.max_eq_right (by omega)]
 ·rw [Int.max_eq_left (by omega)]
theorem min_if (m x:Int):(if x<m then x else m)=min m x:=by
 split
 ·rw [Int.min_eq_right (by omega)]
 ·rw [Int.min_eq_left (by omega)]
set_option maxRecDepth 100000 in
set_option maxHeartbeats 800000 in
theorem keptBelow_any (ao:Option Addr) (cap:Nat) (gs:List Gd) (w:World) (hm:gs.length≤1048576) (hx:GdsAt 0 w ao gs) :
  Calls Tryz.prog 120 #[.slice ao gs.length cap] w fun e w'=>e=.returned (.int .i64 (maxKeep gs))∧Below w.heap.size w w':=by
 go_enter Tryz.func120,Tryz.ntmps120
 go_wp2_with fail
 go_loopw [3,8] (fun v y wr=>∃(k:Nat) (m:Int),k≤gs.length∧v=.int .i64 m∧y=.int .i64 k∧Hid ((gs.drop k).foldl (fun k g=>if g.tr then max k g.keep else k) m=maxKeep gs)∧Below w.heap.size w wr) (fun _ y _=>gs.length - (intOf y).toNat)
 case atStart=>exact ⟨0,0,Nat.zero_le _,rfl,rfl,rfl,Below.refl _ _⟩
 case round=>
  obtain⟨k,m,hk,rfl,rfl,HQ,hb⟩:=hrel
  by_cases hkl:k<gs.length
  ·obtain⟨x,hxk⟩:=some_of_lt hkl
   obtain⟨b,off,rfl,_,hbl,q0,q1,q2⟩:=hx.later (Keeps.of_below hb) k x hxk
   have HD:Hid (_=maxKeep gs):=(foldK_drop hxk m).symm.trans HQ.out
   have hba:∀o,Below w.heap.size w (wr.alloc o):=fun o=>hb.alloc hb.size o
   obtain⟨x0,x1,x2⟩:=x
   dsimp only at *
   clear hxk HQ
   cases x0
   ·have HN:Hid ((gs.drop (k+1)).foldl (fun k g=>if g.tr then max k g.keep else k) m=maxKeep gs):=HD.out
    clear HD
    go_wp2_with fail
    go_roundw
    case rel=>exact ⟨k+1,m,by omega,rfl,by go_num,HN.out,hba _⟩
    case measure=>simp [intOf];omega
   ·have HN:Hid ((gs.drop (k+1)).foldl (fun k g=>if g.tr then max k g.keep else k) (max m x1)=maxKeep gs):=HD.out
    clear HD
    go_wp2_with fail
    go_roundw
    case rel=>first | exact ⟨k+1,if m<x1 then x1 else m,by omega,rfl,by go_num,by show _=_;rw [max_if];exact HN.out,hba _⟩ | exact ⟨k+1,max m x1,by omega,rfl,by go_num,HN.out,hba _⟩
    case measure=>simp [intOf];omega
  ·have HN:Hid (m=maxKeep gs):=by
    have h:=HQ.out
    rw [List.drop_of_length_le (by omega)] at h
    exact h
   clear HQ
   go_wp2_with fail
   go_ret
   exact⟨ret_int HN.out,hb⟩
def minI (x:Int) (xs:List Int):Int:=xs.foldl min x
set_option maxRecDepth 100000 in
set_option maxHeartbeats 800000 in
theorem minInt_any (o:Option Addr) (c:Nat) (x:Int) (xs:List Int) (w:World) (hl:xs.length≤1048576) (hx:IntsAt 0 w o (x::xs)) :
  Calls Tryz.prog 168 #[.slice o (xs.length+1) c] w fun e w'=>e=.returned (.int .i64 (minI x xs))∧Below w.heap.size w w':=by
 obtain⟨b,off,rfl,_,hbl,q0⟩:=hx 0 x rfl
 unfold IntAt at q0
 rw [Nat.zero_mul,Nat.add_zero] at q0
 have k0:¬((xs.length:Int)+1<1):=by omega
 have k1:(0:Int)<(xs.length:Int)+1:=by omega
 go_enter Tryz.func168,Tryz.ntmps168
 go_wp2_with fail
 go_loopw [3,4] (fun v y wr=>∃(k:Nat) (m:Int),k≤xs.length∧v=.int .i64 m∧y=.int .i64 ((k:Int)+1)∧Hid ((xs.drop k).foldl min m=minI x xs)∧Below w.heap.size w wr) (fun _ y _=>xs.length+1 - (intOf y).toNat)
 case atStart=>exact ⟨0,x,Nat.zero_le _,rfl,rfl,rfl,Below.refl _ _⟩
 case round=>
  obtain⟨k,m,hk,rfl,rfl,HQ,hb⟩:=hrel
  by_cases hkl:k<xs.length
  ·obtain⟨y,hyk⟩:=some_of_lt hkl
   obtain⟨b',off',e1,_,hbl',p0⟩:=hx.later (Keeps.of_below hb) (k+1) y (by simpa using hyk)
   simp at e1
   obtain⟨rfl,rfl⟩:=e1
   unfold IntAt at p0
   rw [Nat.mul_one] at p0
   have HN:Hid ((xs.drop (k+1)).foldl min (min m y)=minI x xs):=by show _=_;rw [←HQ.out,drop_some hyk];rfl
   have k2:(k:Int)+1<(xs.length:Int)+1:=by omega
   clear hyk HQ q0
   go_wp2_with fail
   go_roundw
   case rel=>first | exact ⟨k+1,if y<m then y else m,by omega,rfl,by simp,by show _=_;rw [min_if];exact HN.out,hb⟩ | exact ⟨k+1,min m y,by omega,rfl,by simp,HN.out,hb⟩
   case measure=>simp [intOf];omega
  ·have HN:Hid (m=minI x xs):=by
    have h:=HQ.out
    rw [List.drop_of_length_le (by omega)] at h
    exact h
   have k2:¬(k:Int)+1<(xs.length:Int)+1:=by omega
   clear HQ
   go_wp2_with fail
   go_ret
   exact⟨ret_int HN.out,hb⟩
theorem ints_made (w:World) (n:Nat) (hn:n≤maxLen):(w.alloc (.cells (madeCells #[.int .i64 0] n) 3)).ownsRow w.heap.size 3 1 (.slice (some ⟨w.heap.size,0,none⟩) n n) n (ints (List.replicate n 0)):=by
 have h:=World.ownsRow_lit (base:=w.heap.size) (e:=3) (size:=1) w (madeCells #[.int .i64 0] n) n (Nat.le_refl _) hn (by rw [size_madeCells];omega)
 rw [toList_madeCells_one] at h
 simpa [ints] using h
def firstR (p:Pd) (r:Nat):List Int:=List.replicate r 1 ++ List.replicate (p.regs.toNat - r) 0
theorem firstR_set {p:Pd} {r:Nat} (h:r<p.regs.toNat):(firstR p r).set r 1=firstR p (r+1):=by
 unfold firstR
 rw [List.set_append_right _ _ (by simp),show p.regs.toNat - r=(p.regs.toNat - (r+1))+1 by omega,List.replicate_succ (n:=p.regs.toNat - (r+1))]
 simp only [List.length_replicate,Nat.sub_self,List.set_cons_zero]
 rw [List.replicate_succ',List.append_assoc]
 rfl
theorem firstR_len {p:Pd} {r:Nat} (h:r≤p.regs.toNat):(firstR p r).length=p.regs.toNat:=by unfold firstR;simp;omega
set_option maxRecDepth 100000 in
set_option maxHeartbeats 1600000 in
theorem firstTypes_any (p:Pd) (h:Ph) (np:Nat) (w:World) (hp:PFit np p) :
  Calls Tryz.prog 62 #[.agg (p.cells h)] w fun e w'=>∃v,e=.returned v∧w'.ownsRow w.heap.size 3 1 v (firstT p).length (ints (firstT p))∧Below w.heap.size w w':=by
 have hrg:=hp.regs
 have hpa:=hp.params
 have HP:Hid _:=hp
 obtain⟨rg,hrgN⟩:=Int.eq_ofNat_of_zero_le hrg.1
 obtain⟨pa,hpaN⟩:=Int.eq_ofNat_of_zero_le hpa.1
 have hmi:=run_make_k (P:=Tryz.prog) 72 3 _ 1 8 Tryz.underlying72 Tryz.info_int .i64 .i64 rg (by omega) (by omega)
 simp only [Nat.mul_one] at hmi
 rw [←hrgN] at hmi
 have HPA:Hid _:=hpaN
 have HRG:Hid _:=hrgN
 have T1:=ints_made (w.alloc (.cells #[.string p.name,.int .i64 p.line,.int .i64 p.params,.bool p.rest,.int .i64 p.regs,.slice h.uo p.ups.length h.uc,.slice h.co p.consts.length h.cc,.slice h.io p.ins.length h.ic,.slice h.no p.named.length h.nc] 57)) rg (by unfold maxLen;omega)
 have P1:=(Blk.new w #[.string p.name,.int .i64 p.line,.int .i64 p.params,.bool p.rest,.int .i64 p.regs,.slice h.uo p.ups.length h.uc,.slice h.co p.consts.length h.cc,.slice h.io p.ins.length h.ic,.slice h.no p.named.length h.nc] 57).alloc (.cells (madeCells #[.int .i64 0] rg) 3)
 have B1:Below w.heap.size w ((w.alloc (.cells #[.string p.name,.int .i64 p.line,.int .i64 p.params,.bool p.rest,.int .i64 p.regs,.slice h.uo p.ups.length h.uc,.slice h.co p.consts.length h.cc,.slice h.io p.ins.length h.ic,.slice h.no p.named.length h.nc] 57)).alloc (.cells (madeCells #[.int .i64 0] rg) 3)):=((Below.refl _ _).alloc (Nat.le_refl _) _).alloc (by simp) _
 simp only [nblk_alloc] at T1
 have hT0:ints (List.replicate rg 0)=ints (firstR p 0):=by unfold firstR;rw [hrgN];simp
 rw [hT0] at T1
 clear hT0 hp hpaN hrgN
 unfold Pd.cells
 go_enter Tryz.func62,Tryz.ntmps62
 go_wp2_with fail
 clear hmi
 generalize (w.alloc (.cells #[.string p.name,.int .i64 p.line,.int .i64 p.params,.bool p.rest,.int .i64 p.regs,.slice h.uo p.ups.length h.uc,.slice h.co p.consts.length h.cc,.slice h.io p.ins.length h.ic,.slice h.no p.named.length h.nc] 57)).alloc (.cells (madeCells #[.int .i64 0] rg) 3)=w1 at *
 go_loopw [10] (fun y wr=>∃r:Nat,y=.int .i64 r∧r≤pa∧wr.ownsRow (w.heap.size+1) 3 1 (.slice (some ⟨w.heap.size+1,0,none⟩) rg rg) rg (ints (firstR p r))∧Blk wr w.heap.size #[.string p.name,.int .i64 p.line,.int .i64 p.params,.bool p.rest,.int .i64 p.regs,.slice h.uo p.ups.length h.uc,.slice h.co p.consts.length h.cc,.slice h.io p.ins.length h.ic,.slice h.no p.named.length h.nc] 57∧Below w.heap.size w wr) (fun y _=>pa - (intOf y).toNat)
 case atStart=>exact ⟨0,rfl,Nat.zero_le _,T1,P1,B1⟩
 case round=>
  obtain⟨r,rfl,hr,T2,P2,B2⟩:=hrel
  clear T1 P1 B1
  have hrr:pa≤rg:=by have:=HPA.out;have:=HRG.out;omega
  have hrN:p.regs.toNat=rg:=by have:=HRG.out;omega
  by_cases hrp:r<pa
  ·have t2:=(T2.cellAt r (by omega)).trans (ints_get (by rw [firstR_len (by omega)];omega))
   have f2:=T2.frozenAt r
   have T3:=(T2.stored r (.int .i64 1)).1
   rw [ints_set,firstR_set (by omega)] at T3
   have k2:(r:Int)<p.params:=by have:=HPA.out;omega
   have k3:(r:Int)<rg:=by omega
   have P3:=P2.setOther (p:=⟨w.heap.size+1,r,none⟩) (by dsimp only;omega) (.int .i64 1)
   have B3:=B2.setCell (p:=⟨w.heap.size+1,r,none⟩) (by dsimp only;omega) (.int .i64 1)
   clear hrN
   go_wp2_with fail
   go_roundw
   case rel=>exact ⟨r+1,by go_num,by omega,T3,P3,B3⟩
   case measure=>simp [intOf];omega
  ·obtain rfl:r=pa:=by omega
   have k2:¬(r:Int)<p.params:=by have:=HPA.out;omega
   have hlen:(firstT p).length=rg:=by have:=firstT_len HP.out;have:=HRG.out;omega
   have HLEN:Hid _:=hlen
   have hpr:=HPA.out
   have hwk:∀{W:World} {v:Value} {n:Nat} {xs:List Value},W.ownsRow (w.heap.size+1) 3 1 v n xs→W.ownsRow w.heap.size 3 1 v n xs:=by
    rintro W v n xs ⟨r1,r2 | ⟨g',c',cur,r3,r4,r5⟩⟩
    ·exact⟨r1,.inl r2⟩
    ·exact⟨r1,.inr ⟨g',c',cur,r3,by omega,r5⟩⟩
   have HWK:Hid _:=@hwk
   clear hwk
   cases hre:p.rest
   ·have hft:firstR p r=firstT p:=by unfold firstT firstR;rw [hre,hpr];simp
    have P3:=P2
    rw [hre] at P3
    have p3:=P3.cell
    rw [hft] at T2
    clear hft hlen hpr hrN hre
    go_wp2_with fail
    go_ret
    exact⟨_,rfl,by rw [HLEN.out];exact HWK.out T2,B2⟩
   ·have hrl:r<rg:=by have:=hpa.2.2 hre;have:=HRG.out;omega
    have k6:(r:Int)<rg:=by omega
    have t2:=(T2.cellAt r (by omega)).trans (ints_get (by rw [firstR_len (by omega)];omega))
    have f2:=T2.frozenAt r
    have T5:=(T2.stored r (.int .i64 3)).1
    rw [ints_set] at T5
    have hft:(firstR p r).set r 3=firstT p:=by unfold firstT firstR;rw [hre,hpr];simp
    rw [hft] at T5
    have B5:=B2.setCell (p:=⟨w.heap.size+1,r,none⟩) (by dsimp only;omega) (.int .i64 3)
    have P3:=P2
    rw [hre,hpr] at P3
    have p3:=P3.cell
    clear hft hlen hpr hrN hre P2
    go_wp2_with fail
    go_ret
    exact⟨_,rfl,by rw [HLEN.out];exact HWK.out T5,B5⟩
theorem ints_at {w:World} {b off:Nat} {xs:List Int} (h:IntsAt 0 w (some ⟨b,off,none⟩) xs) {j:Nat} {u:Value} (hj:(ints xs)[j]?=some u):w.cell? ⟨b,off+j,none⟩=some u∧b<w.heap.size:=by
 simp only [ints,List.getElem?_map,Option.map_eq_some_iff] at hj
 obtain⟨x,hx,rfl⟩:=hj
 obtain⟨b',off',e,_,hl,hc⟩:=h j x hx
 simp at e
 obtain⟨rfl,rfl⟩:=e
 unfold IntAt at hc
 rw [Nat.mul_one] at hc
 exact⟨hc,hl⟩
theorem gds_at {w:World} {b off:Nat} {xs:List Gd} (h:GdsAt 0 w (some ⟨b,off,none⟩) xs) {j:Nat} {u:Value} (hj:(gds xs)[j]?=some u):w.cell? ⟨b,off+j,none⟩=some u∧b<w.heap.size:=by
 have hl:=(List.getElem?_eq_some_iff.1 hj).1
 rw [gds_length] at hl
 obtain⟨x,hx⟩:=some_of_lt (show j / 3<xs.length by omega)
 obtain⟨b',off',e,_,hb,c0,c1,c2⟩:=h (j / 3) x hx
 simp at e
 obtain⟨rfl,rfl⟩:=e
 have hg:=gds_get hx
 rcases (by omega:j % 3=0∨j % 3=1∨j % 3=2) with h3 | h3 | h3
 ·have:=hg 0 _ rfl
  rw [show j / 3*3+0=j by omega,hj] at this
  rw [Option.some.inj this,show off+j=off+j / 3*3 by omega]
  exact⟨c0,hb⟩
 ·have:=hg 1 _ rfl
  rw [show j / 3*3+1=j by omega,hj] at this
  rw [Option.some.inj this,show off+j=off+j / 3*3+1 by omega]
  exact⟨c1,hb⟩
 ·have:=hg 2 _ rfl
  rw [show j / 3*3+2=j by omega,hj] at this
  rw [Option.some.inj this,show off+j=off+j / 3*3+2 by omega]
  exact⟨c2,hb⟩
set_option maxRecDepth 100000 in
set_option maxHeartbeats 1600000 in
theorem cloneInt_any (ao:Option Addr) (cap m:Nat) (xs:List Int) (w:World) (hm:xs.length=m) (hml:m≤1048576) (hnil:ao=none→m=0) (hx:IntsAt 0 w ao xs) (hoff:∀a,ao=some a→∃b o,a=⟨b,o,none⟩) :
  Calls Tryz.prog 113 #[.slice ao m cap] w fun e w'=>∃v,e=.returned v∧w'.ownsRow w.heap.size 3 1 v m (ints xs)∧Below w.heap.size w w':=by
 have q22:∀(w:World) (a:Option Addr) (n c n' c':Nat),(binOp .eql 72 (.slice a n c) (.slice none n' c')).run Tryz.prog w=.ok (.bool a.isNone) w:=fun w a n c n' c'=>Lib.run_eql_slice_nil w _ _ a n c n' c' Tryz.underlying72
 cases ao with
 | none=>
  obtain rfl:=hnil rfl
  have:xs=[]:=List.length_eq_zero_iff.1 hm
  subst this
  go_enter Tryz.func113,Tryz.ntmps113
  go_wp2_with fail
  go_ret
  exact⟨_,rfl,World.ownsRow_nil _ _ _ _,Below.refl _ _⟩
 | some ad=>
  obtain⟨b,off,rfl⟩:=hoff _ rfl
  obtain⟨i0,hi,hz0,hz1,hz2⟩:=info_parts Tryz.info_int
  have HC:Hid (∀j u,(ints xs)[j]?=some u→w.cell? ⟨b,off+j,none⟩=some u∧b<w.heap.size):=by
   intro j u hj
   exact ints_at hx hj
  have HL:Hid ((ints xs).length=m*1):=by show _=_;simp [ints,hm]
  clear hx hm hoff hnil
  go_enter Tryz.func113,Tryz.ntmps113
  go_wp2_with (at_builtin;refine wpList_append_own _ rfl _ _ 72 rfl w.heap.size 3 i0 (.int .i64 0) 1 8 Tryz.underlying72 hi hz0 hz1 hz2 rfl (by decide) _ _ _ rfl (World.ownsRow_made w #[] 0 (Nat.le_refl _) (Nat.zero_le _) (by simp)) ⟨b,off,none⟩ m cap (ints xs) rfl ?qc1 ?qc2 ?qc3 ?qc4 ?qc5 ?qc6 ?_)
  case qc1=>exact HL.out
  case qc2=>
   intro j u hj
   rw [Addr.add_lit]
   obtain⟨h1,h2⟩:=HC.out j u hj
   exact (((Below.refl w.heap.size w).alloc (Nat.le_refl _) _).cell (p:=⟨b,off+j,none⟩) h2).trans h1
  case qc3=>
   intro u hu
   simp [ints] at hu;obtain ⟨x,_,rfl⟩:=hu;rfl
  case qc4=>unfold maxLen;omega
  case qc5=>omega
  case qc6=>simp
  ·intro v' w1 hown hgrow _
   have hown:w1.ownsRow w.heap.size 3 1 v' m (ints xs):=by simpa using hown
   have B1:Below w.heap.size w w1:=((Below.refl _ w).alloc (Nat.le_refl _) _).grown hgrow (by simp) (by intro k hk;simp [Value.ownBlock] at hk;omega)
   obtain⟨vo,vc,rfl⟩:=owns_slice hown
   clear hgrow
   go_wp2_with fail
   go_ret
   exact⟨_,rfl,hown,B1⟩
set_option maxRecDepth 100000 in
set_option maxHeartbeats 1600000 in
theorem cloneGd_any (ao:Option Addr) (cap m:Nat) (xs:List Gd) (w:World) (hm:xs.length=m) (hml:m≤1048576) (hnil:ao=none→m=0) (hx:GdsAt 0 w ao xs) (hoff:∀a,ao=some a→∃b o,a=⟨b,o,none⟩) :
  Calls Tryz.prog 148 #[.slice ao m cap] w fun e w'=>∃v,e=.returned v∧w'.ownsRow w.heap.size 163 3 v m (gds xs)∧Below w.heap.size w w':=by
 have q22:∀(w:World) (a:Option Addr) (n c n' c':Nat),(binOp .eql 96 (.slice a n c) (.slice none n' c')).run Tryz.prog w=.ok (.bool a.isNone) w:=fun w a n c n' c'=>Lib.run_eql_slice_nil w _ _ a n c n' c' Tryz.underlying96
 cases ao with
 | none=>
  obtain rfl:=hnil rfl
  have:xs=[]:=List.length_eq_zero_iff.1 hm
  subst this
  go_enter Tryz.func148,Tryz.ntmps148
  go_wp2_with fail
  go_ret
  exact⟨_,rfl,World.ownsRow_nil _ _ _ _,Below.refl _ _⟩
 | some ad=>
  obtain⟨b,off,rfl⟩:=hoff _ rfl
  obtain⟨i0,hi,hz0,hz1,hz2⟩:=info_parts Tryz.info_Guard
  have HC:Hid (∀j u,(gds xs)[j]?=some u→w.cell? ⟨b,off+j,none⟩=some u∧b<w.heap.size):=by
   intro j u hj
   exact gds_at hx hj
  have HL:Hid ((gds xs).length=m*3):=by show _=_;rw [gds_length,hm]
  clear hx hm hoff hnil
  go_enter Tryz.func148,Tryz.ntmps148
  go_wp2_with (at_builtin;refine wpList_append_own _ rfl _ _ 96 rfl w.heap.size 163 i0 (.agg #[.bool false,.int .i64 0,.int .i64 0]) 3 24 Tryz.underlying96 hi hz0 hz1 hz2 rfl (by decide) _ _ _ rfl (World.ownsRow_made w #[] 0 (Nat.le_refl _) (Nat.zero_le _) (by simp)) ⟨b,off,none⟩ m cap (gds xs) rfl ?qc1 ?qc2 ?qc3 ?qc4 ?qc5 ?qc6 ?_)
  case qc1=>exact HL.out
  case qc2=>
   intro j u hj
   rw [Addr.add_lit]
   obtain⟨h1,h2⟩:=HC.out j u hj
   exact (((Below.refl w.heap.size w).alloc (Nat.le_refl _) _).cell (p:=⟨b,off+j,none⟩) h2).trans h1
  case qc3=>
   intro u hu
   simp [gds,Gd.vals] at hu;obtain ⟨x,_,rfl | rfl | rfl⟩:=hu <;> rfl
  case qc4=>unfold maxLen;omega
  case qc5=>omega
  case qc6=>simp
  ·intro v' w1 hown hgrow _
   have hown:w1.ownsRow w.heap.size 163 3 v' m (gds xs):=by simpa using hown
   have B1:Below w.heap.size w w1:=((Below.refl _ w).alloc (Nat.le_refl _) _).grown hgrow (by simp) (by intro k hk;simp [Value.ownBlock] at hk;omega)
   obtain⟨vo,vc,rfl⟩:=owns_slice hown
   clear hgrow
   go_wp2_with fail
   go_ret
   exact⟨_,rfl,hown,B1⟩
end Go.Proofs.YtaakadmnhpboiaaGreatDoor
