import Derived.Test.YtgopdffmnikhdaaGreatDoorT25
import Derived.Test.YtgopdffmnikhdaaGreatDoorT05
import Derived.Laws.StructEq
import Derived.Maps.AppendAt
import Derived.Lib.SliceRun
import Derived.Lib.Walk
namespace Go.Proofs.YtgopdffmnikhdaaGreatDoor
open Go.RowKit Go.Deep
noncomputable def pcCl:Code:=pathC [1,1,1] (Tryz.f359.body.getD .skip)
def opk (pre ext:List Nat) (a k v:Nat):Bool:=decide (v ∈ pre) || (decide (v ∈ a::ext) && !decide (v ∈ (a::ext).take k))
theorem opk_start (pre ext:List Nat) (a v:Nat):decide (v ∈ pre ++ a::ext)=opk pre ext a 0 v:=by
 unfold opk
 simp [List.mem_append]
theorem opk_next {pre ext:List Nat} {a k y:Nat} (hy:(a::ext)[k]?=some y) (hnd:∀z ∈ a::ext,z ∉ pre) (v:Nat):(if v=y then false else opk pre ext a k v)=opk pre ext a (k+1) v:=by
 unfold opk
 have ht:(a::ext).take (k+1)=(a::ext).take k ++ [y]:=by
  obtain⟨hl,he⟩:=List.getElem?_eq_some_iff.1 hy
  rw [List.take_add_one,hy]
  rfl
 rw [ht]
 have hym:y ∈ a::ext:=List.mem_of_getElem? hy
 by_cases h:v=y
 ·subst h
  have:=hnd v hym
  simp [this]
 ·rw [if_neg h]
  simp [h]
theorem opk_end {pre ext:List Nat} {a:Nat} (v:Nat):opk pre ext a (ext.length+1) v=decide (v ∈ pre):=by
 unfold opk
 rw [List.take_of_length_le (by simp)]
 cases decide (v ∈ a::ext) <;> simp
set_option maxRecDepth 1000000 in
set_option maxHeartbeats 8000000 in
theorem close_rest (s cb gb ob qb N cnt least a g pc:Nat) (ord pre ext:List Nat) (W:World) (c1 c2 c3 c5 c6 c7 c8 c9 c10 c11 c12 c13 c14 c15 c16 c17 c18 c19 c20 c21 c22 c23 c24 c25 c26 c27 c28 c29 c30 c31 c32 c33 c34 c35 c36 c37 c38 c39 c40 c41 c42 c43 c44 c45 c46 c47 c48 c49 c50 c51 c52 c53 c54 c55 c56 c57 c58 c59 c60 c61 c62:Value) (Q:Exit→Act→World→Prop)
  (hq:∀(u6 u50 u51 u52 u53 u54 u55 u56 u57 u58 u59 u60 u61 u62:Value) (w':World),CcAt s cb gb ob qb N w' ⟨cnt,ord,pre,least⟩ (.slice (some ⟨g,0,none⟩) pre.length pc)→Below s W w'→Q .normal ⟨List.toArray (.pointer (some ⟨cb,0,none⟩)::c1::c2::c3::.slice (some ⟨g,pre.length,none⟩) (ext.length+1) (pc - pre.length)::c5::u6::c7::c8::c9::c10::c11::c12::c13::c14::c15::c16::c17::c18::c19::c20::c21::c22::c23::c24::c25::c26::c27::c28::c29::c30::c31::c32::c33::c34::c35::c36::c37::c38::c39::c40::c41::c42::c43::c44::c45::c46::c47::c48::c49::u50::u51::u52::u53::u54::u55::u56::u57::u58::u59::u60::u61::u62::[]),[]⟩ w')
  (I:CcIn s cb ob qb) (_hN:N≤6000) (hel:ext.length≤6000) (hin:∀y ∈ a::ext,y<N) (hnd:∀y ∈ a::ext,y ∉ pre) (hg:s+3≤g)
  (B1:Blk W cb #[.slice (some ⟨gb,0,none⟩) N N,.int .i64 cnt,.slice (some ⟨ob,0,none⟩) N N,.slice (some ⟨g,0,none⟩) pre.length pc,.slice (some ⟨qb,0,none⟩) N N,.int .i64 least] 391) (O1:Blk W ob (natArr ord) 3) (Q1:Blk W qb (boolArr (opnL N fun v=>decide (v ∈ pre ++ a::ext))) 4) (T1:W.ownsRow (s+3) 3 1 (.slice (some ⟨g,0,none⟩) pre.length pc) pre.length (ints (zs pre))) (G1:∀j y:Nat,(a::ext)[j]?=some y→W.cell? ⟨g,pre.length+j,none⟩=some (.int .i64 y)) :
  Code.wp Tryz.prog pcCl Q ⟨List.toArray (.pointer (some ⟨cb,0,none⟩)::c1::c2::c3::.slice (some ⟨g,pre.length,none⟩) (ext.length+1) (pc - pre.length)::c5::c6::c7::c8::c9::c10::c11::c12::c13::c14::c15::c16::c17::c18::c19::c20::c21::c22::c23::c24::c25::c26::c27::c28::c29::c30::c31::c32::c33::c34::c35::c36::c37::c38::c39::c40::c41::c42::c43::c44::c45::c46::c47::c48::c49::c50::c51::c52::c53::c54::c55::c56::c57::c58::c59::c60::c61::c62::[]),[]⟩ W:=by
 conv=>arg 2;whnf
 have HQ:Hid _:=hq
 have HIN:Hid _:=hin
 have HND:Hid _:=hnd
 have HG1:Hid _:=G1
 have hgq:¬g=qb:=by have:=I.q2;omega
 have hcq:¬cb=qb:=I.cq
 rw [opnL_congr (Q:=opk pre ext a 0) (fun v _=>opk_start pre ext a v)] at Q1
 clear hq hin hnd G1
 go_wp2_with fail
 go_loopg [52] (ext.length+2) (fun gk y wr=>∃k:Nat,k≤ext.length+1∧y=.int .i64 k∧Hid (ext.length+2 - k≤gk)∧Hid (∀b,b≠qb→wr.heap[b]?=W.heap[b]?)∧Hid (Below s W wr)∧Blk wr qb (boolArr (opnL N (opk pre ext a k))) 4)
 case atStart=>exact ⟨0,Nat.zero_le _,rfl,Nat.le_refl _,fun b _=>rfl,Below.refl _ _,Q1⟩
 case round=>
  obtain⟨k,hk,rfl,HG,HB,HS,Q2⟩:=hrel
  clear Q1
  have B2:Blk wr cb #[.slice (some ⟨gb,0,none⟩) N N,.int .i64 cnt,.slice (some ⟨ob,0,none⟩) N N,.slice (some ⟨g,0,none⟩) pre.length pc,.slice (some ⟨qb,0,none⟩) N N,.int .i64 least] 391:=(HB.out cb hcq).trans B1
  by_cases hkl:k<ext.length+1
  ·obtain⟨y,hy⟩:=some_of_lt (show k<(a::ext).length by simp;omega)
   have g2:wr.cell? ⟨g,pre.length+k,none⟩=some (.int .i64 y):=(World.cell?_of_block (w:=W) (a:=⟨g,pre.length+k,none⟩) (HB.out g hgq)).trans (HG1.out k y hy)
   have hyN:=HIN.out y (List.mem_of_getElem? hy)
   have b2:=B2.cell
   have q2:=(Q2.cell y).trans (boolArr_get (by rw [opnL_len];exact hyN))
   have qf:=Q2.frozen y
   have Q3:=Q2.set y (.bool false)
   rw [boolArr_set,opnL_set,opnL_congr (fun v _=>opk_next hy HND.out v)] at Q3
   have HG2:Hid (ext.length+2 - (k+1)≤gk - 1∧gk - 1<gk):=by have:=HG.out;show _∧_;omega
   have HB3:Hid (∀b,b≠qb→(wr.setCell ⟨qb,y,none⟩ (.bool false)).heap[b]?=W.heap[b]?):=fun b hb=>(Below.heap_setCell _ _ _ _ hb).trans (HB.out b hb)
   have HS3:Hid (Below s W (wr.setCell ⟨qb,y,none⟩ (.bool false))):=HS.out.setCell (by dsimp only;exact I.q1) _
   have HQ3:Hid (Blk (wr.setCell ⟨qb,y,none⟩ (.bool false)) qb (boolArr (opnL N (opk pre ext a (k+1)))) 4):=Q3
   have k1:(k:Int)<(ext.length:Int)+1:=by omega
   have k2:(y:Int)<N:=by omega
   clear HG HB Q2 Q3 hy B2
   go_wp2_with fail
   go_roundg (gk - 1)
   case measure=>exact HG2.out.2
   case rel=>exact ⟨k+1,by omega,by go_num,HG2.out.1,HB3.out,HS3.out,HQ3.out⟩
  ·obtain rfl:k=ext.length+1:=by omega
   have k1:¬((ext.length:Int)+1)<(ext.length:Int)+1:=by omega
   rw [opnL_congr (fun v _=>opk_end v)] at Q2
   have HC:Hid (CcAt s cb gb ob qb N wr ⟨cnt,ord,pre,least⟩ (.slice (some ⟨g,0,none⟩) pre.length pc)):=⟨B2,(HB.out ob I.oq).trans O1,Q2,owns_other T1 (fun b hb=>HB.out b (fun e2=>hgq (by have e:b=g:=(by simpa [Value.ownBlock] using hb.symm);omega)))⟩
   have HBl:Hid (Below s W wr):=HS.out
   clear HG
   go_wp2_with fail
   exact HQ.out _ _ _ _ _ _ _ _ _ _ _ _ _ _ _ HC.out HBl.out
theorem Tryz.guard_und:Tryz.prog.underlying 373=some (.struct (Tryz.prog.fieldsOf 373)):=by kernel_rfl
theorem Tryz.guard_held:Tryz.prog.stoodInHeld 373=false:=by kernel_rfl
theorem Tryz.guard_eqg:Tryz.prog.eqGuardType Tryz.prog.depth 373=false:=by kernel_rfl
theorem run_eqg_Guard (x y:Operand) (xs ys:Array Value) (w:World):(eqGuard .neq 373 x y (.agg xs) (.agg ys)).run Tryz.prog w=.ok () w:=run_eqGuard_agg w .neq _ x y xs ys Tryz.guard_eqg
theorem Tryz.guard_fields : (Tryz.prog.fieldsOf 373).toList.map (fun f => (f.name == "_", f.type, f.offset)) = [(false, 4, 0), (false, 3, 1), (false, 3, 2)] := by kernel_rfl
set_option maxRecDepth 100000 in
theorem run_neq_Guard (a0 b0:Bool) (a1 a2 b1 b2:Int) (w:World):(binOp .neq 373 (.agg #[.bool a0,.int .i64 a1,.int .i64 a2]) (.agg #[.bool b0,.int .i64 b1,.int .i64 b2])).run Tryz.prog w=.ok (.bool (!(a0 == b0 && (a1 == b1 && a2 == b2)))) w:=by
 rw [run_neq_struct,run_equalIn_struct w 9999 _ _ _ Tryz.guard_und Tryz.guard_held]
 have hf:=Tryz.guard_fields
 generalize (Tryz.prog.fieldsOf 373).toList=fs at hf
 obtain⟨⟨n0,t0,o0,e0,g0,p0,y0⟩,r0,rfl,h0,hf⟩:=List.map_eq_cons_iff.1 hf
 obtain⟨⟨n1,t1,o1,e1,g1,p1,y1⟩,r1,rfl,h1,hf⟩:=List.map_eq_cons_iff.1 hf
 obtain⟨⟨n2,t2,o2,e2,g2,p2,y2⟩,r2,rfl,h2,hf⟩:=List.map_eq_cons_iff.1 hf
 obtain rfl:=List.map_eq_nil_iff.1 hf
 simp only [Prod.mk.injEq] at h0 h1 h2
 obtain⟨h0,rfl,rfl⟩:=h0
 obtain⟨h1,rfl,rfl⟩:=h1
 obtain⟨h2,rfl,rfl⟩:=h2
 have i0 : ¬ n0 = "_" := by simpa using h0
 have i1 : ¬ n1 = "_" := by simpa using h1
 have i2 : ¬ n2 = "_" := by simpa using h2
 simp [go_sem,part,i0,i1,i2]
 by_cases z0:a0=b0 <;> by_cases z1:a1=b1 <;> by_cases z2:a2=b2 <;> simp [z0,z1,z2]
attribute [local go_sem] run_eqg_Guard run_neq_Guard
def stV (r:Bool) (to:Option Addr) (tn tc:Nat) (go:Option Addr) (gn gc:Nat):Value:=.agg #[.bool r,.slice to tn tc,.slice go gn gc]
theorem drop_eq_step {α:Type} {a b:List α} {k:Nat} {x y:α} (hx:a[k]?=some x) (hy:b[k]?=some y):(a.drop k=b.drop k) ↔ (x=y∧a.drop (k+1)=b.drop (k+1)):=by
 rw [drop_some hx,drop_some hy,List.cons.injEq]
end Go.Proofs.YtgopdffmnikhdaaGreatDoor
namespace Go.Proofs.YtgopdffmnikhdaaGreatDoor
open Go.RowKit Go.Deep
set_option maxHeartbeats 800000 in
theorem ticks_any (n:Nd) (w:World):Calls Tryz.prog 314 #[n.val] w fun e w'=>e=.returned (.bool (ticksB n))∧Below w.heap.size w w':=by
 have hb1:∀o,Below w.heap.size w (w.alloc o):=fun o=>(Below.refl _ _).alloc (Nat.le_refl _) o
 obtain⟨op,a,b,c,d⟩:=n
 dsimp only [Nd.val,ticksB]
 by_cases h1:op=1
 ·subst h1
  go_enter Tryz.func314,Tryz.ntmps314
  go_wp2_with fail
  go_ret
  exact⟨rfl,hb1 _⟩
 by_cases h3:op=3
 ·subst h3
  go_enter Tryz.func314,Tryz.ntmps314
  go_wp2_with fail
  go_ret
  exact⟨rfl,hb1 _⟩
 by_cases h28:op=28
 ·subst h28
  go_enter Tryz.func314,Tryz.ntmps314
  go_wp2_with fail
  go_ret
  exact⟨rfl,hb1 _⟩
 have t1:(op == 1)=false:=by simpa using h1
 have t3:(op == 3)=false:=by simpa using h3
 have t28:(op == 28)=false:=by simpa using h28
 clear h1 h3 h28
 by_cases h18:op=18
 ·subst h18
  go_enter Tryz.func314,Tryz.ntmps314
  go_wp2_with fail
  go_ret
  exact⟨ret_bool (by simp),hb1 _⟩
 ·have t18:(op == 18)=false:=by simpa using h18
  clear h18
  go_enter Tryz.func314,Tryz.ntmps314
  go_wp2_with fail
  go_ret
  exact⟨ret_bool (by simp [t1,t3,t28,t18]),hb1 _⟩
set_option maxRecDepth 100000 in
set_option maxHeartbeats 800000 in
theorem upsBoxed_any (to uo:Option Addr) (tc uc:Nat) (ts:List Int) (us:List Ud) (w:World) (hul:us.length≤1048576) (hu:∀u ∈ us,u.loc=true→0≤u.idx∧u.idx<ts.length) (ht:IntsAt 0 w to ts) (hx:UpsAt 0 w uo us) :
  Calls Tryz.prog 306 #[.slice to ts.length tc,.slice uo us.length uc] w fun e w'=>e=.returned (.bool (upsBoxedB ts us))∧Below w.heap.size w w':=by
 have HU:Hid _:=hu
 clear hu
 go_enter Tryz.func306,Tryz.ntmps306
 go_wp2_with fail
 go_loopw [9] (fun y wr=>∃k:Nat,k≤us.length∧y=.int .i64 k∧Hid (upsBoxedB ts (us.drop k)=upsBoxedB ts us)∧Below w.heap.size w wr) (fun y _=>us.length - (intOf y).toNat)
 case atStart=>exact ⟨0,Nat.zero_le _,rfl,rfl,Below.refl _ _⟩
 case round=>
  obtain⟨k,hk,rfl,HQ,hb⟩:=hrel
  by_cases hkl:k<us.length
  ·obtain⟨u,huk⟩:=some_of_lt hkl
   obtain⟨b,off,rfl,_,hbl,u0,u1⟩:=hx.later (Keeps.of_below hb) k u huk
   have HD:Hid (upsBoxedB ts us=(!(u.loc && decide (tyAt ts u.idx≠2)) && upsBoxedB ts (us.drop (k+1)))):=by
    show _=_
    rw [←HQ.out,drop_some huk]
    rfl
   have HUU:Hid _:=HU.out u (List.mem_of_getElem? huk)
   have hba:∀o,Below w.heap.size w (wr.alloc o):=fun o=>hb.alloc hb.size o
   obtain⟨ul,ui⟩:=u
   dsimp only at *
   clear huk HQ
   cases ul
   ·have HN:Hid (upsBoxedB ts (us.drop (k+1))=upsBoxedB ts us):=by show _=_;rw [HD.out];rfl
    clear HD HUU
    go_wp2_with fail
    go_roundw
    case rel=>exact ⟨k+1,by omega,by go_num,HN.out,hba _⟩
    case measure=>simp [intOf];omega
   ·obtain⟨hu1,hu2⟩:=HUU.out rfl
    obtain⟨q,rfl⟩:=Int.eq_ofNat_of_zero_le hu1
    obtain⟨ty,hty⟩:=some_of_lt (show q<ts.length by omega)
    obtain⟨tb,tof,rfl,_,htb,t0⟩:=ht.later (Keeps.of_below hb) q ty hty
    unfold IntAt at t0
    rw [Nat.mul_one] at t0
    have HTY:Hid (tyAt ts (q:Int)=ty):=by show _=_;unfold tyAt;simp [hty]
    clear hty HUU hu1
    by_cases ht2:ty=2
    ·subst ht2
     have HN:Hid (upsBoxedB ts (us.drop (k+1))=upsBoxedB ts us):=by show _=_;rw [HD.out,HTY.out];rfl
     clear HD HTY
     go_wp2_with fail
     go_roundw
     case rel=>exact ⟨k+1,by omega,by go_num,HN.out,hba _⟩
     case measure=>simp [intOf];omega
    ·have HN:Hid (upsBoxedB ts us=false):=by show _=_;rw [HD.out,HTY.out];simp [ht2]
     have k5:(ty != 2)=true:=by simpa using ht2
     clear HD HTY ht2
     go_wp2_with fail
     go_ret
     exact⟨ret_bool HN.out.symm,hba _⟩
  ·have HN:Hid (upsBoxedB ts us=true):=by
    have h:=HQ.out
    rw [List.drop_of_length_le (by omega)] at h
    exact h.symm
   clear HQ
   go_wp2_with fail
   go_ret
   exact⟨ret_bool HN.out.symm,hb⟩
set_option maxRecDepth 100000 in
set_option maxHeartbeats 800000 in
theorem equalInt_any (o1 o2:Option Addr) (c1 c2:Nat) (t1 t2:List Int) (w:World) (l1:t1.length≤1048576) (h1:IntsAt 0 w o1 t1) (h2:IntsAt 0 w o2 t2) :
  Calls Tryz.prog 301 #[.slice o1 t1.length c1,.slice o2 t2.length c2] w fun e w'=>e=.returned (.bool (decide (t1=t2)))∧Below w.heap.size w w':=by
 go_enter Tryz.func301,Tryz.ntmps301
 by_cases e1:t1.length=t2.length
 rotate_left
 ·have k1:((t1.length:Int) != t2.length)=true:=by simp;omega
  have HN:Hid (¬t1=t2):=fun h=>e1 (by rw [h])
  clear e1
  go_wp2_with fail
  go_ret
  exact⟨ret_bool (by simp [HN.out]),Below.refl _ _⟩
 ·have k1:((t1.length:Int) != t2.length)=false:=by simp;omega
  have E1:Hid (t1.length=t2.length):=e1
  clear e1
  go_wp2_with fail
  go_loopw [13] (fun y wr=>∃k:Nat,k≤t1.length∧y=.int .i64 k∧Hid ((t1=t2) ↔ (t1.drop k=t2.drop k))∧Below w.heap.size w wr) (fun y _=>t1.length - (intOf y).toNat)
  case atStart=>exact ⟨0,Nat.zero_le _,rfl,Iff.rfl,Below.refl _ _⟩
  case round=>
   obtain⟨k,hk,rfl,HQ,hb⟩:=hrel
   by_cases hkl:k<t1.length
   ·obtain⟨x,hxk⟩:=some_of_lt hkl
    have hkl2:k<t2.length:=by rw [←E1.out];exact hkl
    obtain⟨y,hyk⟩:=some_of_lt hkl2
    obtain⟨b,off,rfl,_,hbl,q0⟩:=h1.later (Keeps.of_below hb) k x hxk
    obtain⟨b',off',rfl,_,hbl',q1⟩:=h2.later (Keeps.of_below hb) k y hyk
    have HD:Hid ((t1=t2) ↔ (x=y∧t1.drop (k+1)=t2.drop (k+1))):=HQ.out.trans (drop_eq_step hxk hyk)
    unfold IntAt at q0 q1
    rw [Nat.mul_one] at q0 q1
    have k3:(k:Int)<t2.length:=by omega
    clear HQ h1 h2 hxk hyk
    by_cases hxy:x=y
    ·subst hxy
     have HN:Hid ((t1=t2) ↔ t1.drop (k+1)=t2.drop (k+1)):=by
      show _ ↔ _
      rw [HD.out]
      exact⟨fun h=>h.2,fun h=>⟨rfl,h⟩⟩
     clear HD
     go_wp2_with fail
     go_quiet (fail)
     go_wp2_with fail
     go_roundw
     case rel=>exact ⟨k+1,by omega,by go_num,HN.out,below_drewN hb _⟩
     case measure=>simp [intOf];omega
    ·have k4:(x != y)=true:=by simpa using hxy
     have HN:Hid (¬t1=t2):=fun h=>hxy (HD.out.1 h).1
     clear HD hxy
     go_wp2_with fail
     go_quiet (fail)
     go_wp2_with fail
     go_ret
     exact⟨ret_bool (by simp [HN.out]),below_drewN hb _⟩
   ·have HT:Hid (t1=t2):=by
     show _=_
     rw [HQ.out,List.drop_of_length_le (by omega),List.drop_of_length_le (by rw [←E1.out];omega)]
    clear HQ
    go_wp2_with fail
    go_ret
    exact⟨ret_bool (by simp [HT.out]),hb⟩
def idxI (x:Int):List Int→Nat→Int
 | [],_=>-1
 | y::r,k=>if x=y then k else idxI x r (k+1)
theorem idxI_nn (x:Int):∀(l:List Int) (k:Nat),(0≤idxI x l k) ↔ x ∈ l
 | [],_=>by simp [idxI]
 | y::r,k=>by
  unfold idxI
  by_cases h:x=y
  ·simp [h]
  ·rw [if_neg h,idxI_nn x r (k+1)];simp [h]
set_option maxRecDepth 100000 in
set_option maxHeartbeats 800000 in
theorem indexInt_any (o:Option Addr) (c:Nat) (xs:List Int) (x:Int) (w:World) (hl:xs.length≤1048576) (hx:IntsAt 0 w o xs) :
  Calls Tryz.prog 385 #[.slice o xs.length c,.int .i64 x] w fun e w'=>e=.returned (.int .i64 (idxI x xs 0))∧Below w.heap.size w w':=by
 go_enter Tryz.func385,Tryz.ntmps385
 go_wp2_with fail
 go_loopw [8] (fun y wr=>∃k:Nat,k≤xs.length∧y=.int .i64 k∧Hid (idxI x (xs.drop k) k=idxI x xs 0)∧Below w.heap.size w wr) (fun y _=>xs.length - (intOf y).toNat)
 case atStart=>exact ⟨0,Nat.zero_le _,rfl,rfl,Below.refl _ _⟩
 case round=>
  obtain⟨k,hk,rfl,HQ,hb⟩:=hrel
  by_cases hkl:k<xs.length
  ·obtain⟨y,hyk⟩:=some_of_lt hkl
   obtain⟨b,off,rfl,_,hbl,q0⟩:=hx.later (Keeps.of_below hb) k y hyk
   unfold IntAt at q0
   rw [Nat.mul_one] at q0
   have HD:Hid (idxI x xs 0=if x=y then (k:Int) else idxI x (xs.drop (k+1)) (k+1)):=by show _=_;rw [←HQ.out,drop_some hyk];rfl
   clear hyk HQ
   by_cases hxy:x=y
   ·subst hxy
    have HN:Hid (idxI x xs 0=(k:Int)):=by show _=_;rw [HD.out,if_pos rfl]
    clear HD
    go_wp2_with fail
    go_ret
    exact⟨ret_int HN.out.symm,hb⟩
   ·have k4:(x == y)=false:=by simpa using hxy
    have HN:Hid (idxI x (xs.drop (k+1)) (k+1)=idxI x xs 0):=by show _=_;rw [HD.out,if_neg hxy]
    clear HD hxy
    go_wp2_with fail
    go_roundw
    case rel=>exact ⟨k+1,by omega,by go_num,HN.out,hb⟩
    case measure=>simp [intOf];omega
  ·have HN:Hid (idxI x xs 0 = -1):=by
    have h:=HQ.out
    rw [List.drop_of_length_le (by omega)] at h
    exact h.symm
   clear HQ
   go_wp2_with fail
   go_ret
   exact⟨ret_int HN.out.symm,hb⟩
set_option maxHeartbeats 400000 in
theorem containsInt_any (o:Option Addr) (c:Nat) (xs:List Int) (x:Int) (w:World) (hl:xs.length≤1048576) (hx:IntsAt 0 w o xs) :
  Calls Tryz.prog 379 #[.slice o xs.length c,.int .i64 x] w fun e w'=>e=.returned (.bool (decide (x ∈ xs)))∧Below w.heap.size w w':=by
 have HI:Hid (decide (x ∈ xs)=decide (0≤idxI x xs 0)):=by show _=_;rw [Bool.eq_iff_iff,decide_eq_true_iff,decide_eq_true_iff];exact (idxI_nn x xs 0).symm
 have HC:Hid _:=fun (W:World) (h:IntsAt 0 W o xs)=>indexInt_any o c xs x W hl h
 go_enter Tryz.func379,Tryz.ntmps379
 go_wp2_with fail
 refine (HC.out _ hx).mono ?_
 rintro e w1 ⟨rfl,hw1⟩
 generalize idxI x xs 0=ix at *
 go_wp2_with fail
 go_ret
 exact⟨ret_bool HI.out.symm,hw1⟩
structure RgAt (B rb m:Nat) (w:World) (rd:Rd) (vt vr vk:Value):Prop where
 blk:Blk w rb #[vt,vr,vk] 380
 low:B≤rb
 types:w.ownsRow B 3 1 vt m (ints rd.types)
 read:w.ownsRow B 3 1 vr rd.stay.length (ints rd.stay)
 taken:w.ownsRow B 3 1 vk rd.taken.length (ints rd.taken)
 nt:vt.ownBlock≠some rb
 nr:vr.ownBlock≠some rb
 nk:vk.ownBlock≠some rb
 tr:∀k,vt.ownBlock=some k→vr.ownBlock≠some k
 tk:∀k,vt.ownBlock=some k→vk.ownBlock≠some k
 rk:∀k,vr.ownBlock=some k→vk.ownBlock≠some k
theorem RgAt.later {B rb m:Nat} {w w':World} {rd:Rd} {vt vr vk:Value} (h:RgAt B rb m w rd vt vr vk) (hb:Below w.heap.size w w'):RgAt B rb m w' rd vt vr vk:=
 ⟨h.blk.later hb,h.low,owns_below h.types hb,owns_below h.read hb,owns_below h.taken hb,h.nt,h.nr,h.nk,h.tr,h.tk,h.rk⟩
theorem RgAt.addRead {B rb m:Nat} {w w2:World} {rd:Rd} {vt vr vr' vk:Value} {x:Int} {o:Obj} {S:Nat} (h:RgAt B rb m w rd vt vr vk) (h1:w2.ownsRow B 3 1 vr' (rd.stay.length+1) (ints (rd.stay ++ [x]))) (h2:(w.alloc o).grownBy w2 vr.ownBlock) (hS:w.heap.size≤S) (h3:vr'.ownBlock=vr.ownBlock∨vr'.ownBlock=some S) (hB:B≤w.heap.size) :
  RgAt B rb m (w2.setCell ⟨rb,1,none⟩ vr') ⟨rd.types,rd.stay ++ [x],rd.taken⟩ vt vr' vk∧Below B w (w2.setCell ⟨rb,1,none⟩ vr'):=by
 have hlt:=h.blk.lt
 have hnr':vr'.ownBlock≠some rb:=by
  rcases h3 with h3 | h3
  ·rw [h3];exact h.nr
  ·rw [h3];intro e;simp at e;omega
 have hb2:=blk_grown (h.blk.alloc o) h2 (fun e=>h.nr e.symm)
 have T2:=owns_grown (h.types.alloc o) h2 (fun k hk e=>h.tr k hk e.symm)
 have K2:=owns_grown (h.taken.alloc o) h2 (fun k hk e=>h.rk k e.symm hk)
 have hset:∀{v:Value},v.ownBlock≠some rb→∀k,v.ownBlock=some k→(w2.setCell ⟨rb,1,none⟩ vr').heap[k]?=w2.heap[k]?:=fun hn k hk=>Below.heap_setCell _ _ _ _ (fun e=>hn (by rw [hk,e]))
 have hs:=hb2.set 1 vr'
 have e1:(#[vt,vr,vk]:Array Value).setIfInBounds 1 vr'=#[vt,vr',vk]:=rfl
 rw [e1] at hs
 refine⟨⟨hs,h.low,owns_other T2 (hset h.nt),by simpa using owns_other h1 (hset hnr'),owns_other K2 (hset h.nk),h.nt,hnr',h.nk,?_,h.tk,?_⟩,?_⟩
 ·intro k hk e
  rcases h3 with h3 | h3
  ·exact h.tr k hk (h3▸e)
  ·have:=(h.types.lt k hk).2
   rw [h3] at e
   simp at e
   omega
 ·intro k hk e
  rcases h3 with h3 | h3
  ·exact h.rk k (h3▸hk) e
  ·have:=(h.taken.lt k e).2
   rw [h3] at hk
   simp at hk
   omega
 ·exact (((Below.refl B w).alloc hB o).grown h2 (by simp;omega) (fun k hk=>(h.read.lt k hk).1)).setCell h.low _
def placesF (want:Int):Nat→Nat→Rd→Option Rd
 | 0,_,s=>some s
 | c+1,q,s=>if tyAt s.types (q:Int)=want then placesF want c (q+1) ⟨s.types,s.stay ++ [(q:Int)],s.taken⟩ else none
def RgPost (B rb m:Nat) (vt vk:Value) (w:World) (r:Option Rd) (e:Ending) (w':World):Prop:=
 (match r with | none=>e=.returned (.bool false) | some rd=>e=.returned (.bool true)∧∃vr,RgAt B rb m w' rd vt vr vk)∧Below B w w'
set_option maxRecDepth 100000 in
set_option maxHeartbeats 3200000 in
theorem places_any (B rb m q cnt:Nat) (want:Int) (rd:Rd) (to:Option Addr) (tc:Nat) (vr vk:Value) (w:World) (h:RgAt B rb m w rd (.slice to m tc) vr vk) (hB:B≤w.heap.size) (hm:rd.types.length=m) (hq:q+cnt≤m) (hm2:m≤250) (hc:cnt≤3) (hs:rd.stay.length≤100) :
  Calls Tryz.prog 378 #[.pointer (some ⟨rb,0,none⟩),.agg #[.int .i64 q,.int .i64 cnt,.int .i64 want]] w (RgPost B rb m (.slice to m tc) vk w (placesF want cnt q rd)):=by
 have P0:=Blk.new w #[.int .i64 q,.int .i64 cnt,.int .i64 want] 463
 have R0:=h.later ((Below.refl _ _).alloc (Nat.le_refl _) (.cells #[.int .i64 q,.int .i64 cnt,.int .i64 want] 463))
 have B0:=(Below.refl B w).alloc hB (.cells #[.int .i64 q,.int .i64 cnt,.int .i64 want] 463)
 have S0:∀k,vr.ownBlock=some k→k≠w.heap.size:=fun k hk=>by have:=(h.read.lt k hk).2;omega
 have hrw:rb≠w.heap.size:=by have:=h.blk.lt;omega
 have HM:Hid (rd.types.length=m):=hm
 have HS0:Hid (rd.stay.length≤100):=hs
 clear hm h hs
 go_enter Tryz.func378,Tryz.ntmps378
 go_wp2_with fail
 go_loopw [5] (fun y wr=>∃(j:Nat) (rd1:Rd) (vr1:Value),y=.int .i64 ((q:Int)+j)∧j≤cnt∧Hid (placesF want (cnt - j) (q+j) rd1=placesF want cnt q rd)∧Hid (rd1.types.length=m∧rd1.stay.length≤rd.stay.length+j)∧RgAt B rb m wr rd1 (.slice to m tc) vr1 vk∧Blk wr w.heap.size #[.int .i64 q,.int .i64 cnt,.int .i64 want] 463∧(∀k,vr1.ownBlock=some k→k≠w.heap.size)∧Below B w wr) (fun y _=>q+cnt - (intOf y).toNat)
 case atStart=>exact ⟨0,rd,vr,by simp,Nat.zero_le _,rfl,⟨HM.out,by omega⟩,R0,P0,S0,B0⟩
 case round=>
  obtain⟨j,rd1,vr1,rfl,hj,HQ,HL,R1,P1,S1,B1⟩:=hrel
  clear R0 P0 S0 B0
  have p1:=P1.cell
  have hsl:rd1.stay.length≤103:=by have:=HL.out;have:=HS0.out;omega
  obtain⟨ro,rc,rfl⟩:=owns_slice R1.read
  obtain⟨ko,kc,rfl⟩:=owns_slice R1.taken
  by_cases hjl:j<cnt
  ·rcases owns_form R1.types with ⟨_,h0⟩ | ⟨g,cap',h1,h2,h3⟩
   ·omega
   simp only [Value.slice.injEq] at h1
   obtain⟨rfl,_,rfl⟩:=h1
   have ct:=(R1.types.cellAt (q+j) (by omega)).trans (ints_get (by rw [HL.out.1];omega))
   obtain⟨ty,hty⟩:∃ty,ty=rd1.types.getD (q+j) 0:=⟨_,rfl⟩
   rw [←hty] at ct
   have HTY:Hid (tyAt rd1.types ((q+j:Nat):Int)=ty):=hty.symm
   have HD:Hid (placesF want cnt q rd=if tyAt rd1.types ((q+j:Nat):Int)=want then placesF want (cnt - (j+1)) (q+j+1) ⟨rd1.types,rd1.stay ++ [((q+j:Nat):Int)],rd1.taken⟩ else none):=by
    show _=_
    rw [←HQ.out,show cnt - j=(cnt - (j+1))+1 by omega]
    rfl
   have r1:=R1.blk.cell
   have k1:(q:Int)+j<(q:Int)+cnt:=by omega
   have k2:(q:Int)+j<m:=by omega
   have k3:(q:Int)+j=((q+j:Nat):Int):=by omega
   clear hty HQ
   by_cases hw:ty=want
   ·subst hw
    have HN:Hid (placesF ty (cnt - (j+1)) (q+(j+1)) ⟨rd1.types,rd1.stay ++ [(q:Int)+j],rd1.taken⟩=placesF ty cnt q rd):=by
     show _=_
     rw [HD.out,if_pos HTY.out,k3]
     rfl
    clear HD HTY k3
    go_wp2_with fail
    go_quiet (fail)
    have hDR:∀n,Below wr.heap.size wr (wr.drewN n):=fun n=>below_drewN (Below.refl _ _) n
    have R2:=fun n=>R1.later (hDR n)
    have P2:=fun n=>P1.later (hDR n)
    have B2:=fun n=>below_drewN B1 n
    have HR2:Hid _:=R2
    have HP2:Hid _:=P2
    have HB2:Hid _:=B2
    have hBw:B≤wr.heap.size:=Nat.le_trans hB B1.size
    have hrbl:=R1.blk.lt
    have hpl:=P1.lt
    clear R2 P2 B2 hDR
    go_wp2_with (at_builtin;refine app_int rfl _ _ rfl B _ rd1.stay.length rd1.stay ((q:Int)+j) wr.heap.size rfl ((HR2.out _).read.alloc _) rfl ?c1 (by omega) ?c3 ?_)
    case c1=>
     have hn:=(Blk.new (wr.drewN nq) #[.int .i64 ((q:Int)+j)] 3).cell 0
     exact hn
    case c3=>first | omega | (simp;omega)
    ·intro v2 w2 H1 H2 H3
     have R2:=HR2.out nq
     have hb2:=blk_grown (R2.blk.alloc _) H2 (fun e=>R2.nr e.symm)
     have r2:=hb2.cell 1
     have f2:=hb2.frozen 1
     have P3:=(blk_grown ((HP2.out nq).alloc _) H2 (fun e=>S1 _ e.symm rfl)).setOther (p:=⟨rb,1,none⟩) (by dsimp only;intro e;exact hrw e.symm) v2
     obtain⟨R3,B3⟩:=R2.addRead H1 H2 (S:=wr.heap.size+1) (Nat.le_succ _) H3 hBw
     have B4:=(HB2.out nq).trans B3
     have S3:∀k,v2.ownBlock=some k→k≠w.heap.size:=by
      intro k hk
      rcases H3 with H3 | H3
      ·exact S1 k (H3▸hk)
      ·rw [H3] at hk
       simp at hk
       omega
     have HR3:Hid _:=R3
     have HP3:Hid _:=P3
     have HB4:Hid _:=B4
     have HS3:Hid _:=S3
     obtain⟨vo,vc,rfl⟩:=owns_slice H1
     clear H1 H2 H3 hb2 R2 R3 P3 B3 B4 S3 HR2 HP2 HB2 S1 R1 P1 r1 p1 ct
     go_wp2_with fail
     go_roundw
     case rel=>exact ⟨j+1,⟨rd1.types,rd1.stay ++ [(q:Int)+j],rd1.taken⟩,_,by go_num,by omega,HN.out,⟨HL.out.1,by have:=HL.out.2;simp;omega⟩,HR3.out,HP3.out,HS3.out,HB4.out⟩
     case measure=>simp [intOf];omega
   ·have HN:Hid (placesF want cnt q rd=none):=by show _=_;rw [HD.out,if_neg (by rw [HTY.out];exact hw)]
    have k5:(ty != want)=true:=by simpa using hw
    clear HD HTY hw k3
    go_wp2_with fail
    go_quiet (fail)
    go_wp2_with fail
    go_ret
    refine⟨?_,below_drewN B1 _⟩
    rw [HN.out]
    rfl
  ·obtain rfl:j=cnt:=by omega
   have HN:Hid (placesF want j q rd=some rd1):=by
    show _=_
    rw [←HQ.out,Nat.sub_self]
    rfl
   have k1:¬(q:Int)+j<(q:Int)+j:=by omega
   clear HQ
   go_wp2_with fail
   go_ret
   refine⟨?_,B1⟩
   rw [HN.out]
   exact⟨rfl,_,R1⟩
end Go.Proofs.YtgopdffmnikhdaaGreatDoor
