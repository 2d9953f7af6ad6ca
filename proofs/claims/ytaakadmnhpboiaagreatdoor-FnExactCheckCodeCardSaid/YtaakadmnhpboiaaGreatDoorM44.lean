import Derived.Test.YtaakadmnhpboiaaGreatDoorM42
import Derived.Test.YtaakadmnhpboiaaGreatDoorM39
import Derived.Test.YtaakadmnhpboiaaGreatDoorM17
import Derived.Test.YtaakadmnhpboiaaGreatDoorM43
import Derived.Test.YtaakadmnhpboiaaGreatDoorM23
import Derived.Test.YtaakadmnhpboiaaGreatDoorM19
import Derived.Test.YtaakadmnhpboiaaGreatDoorM40
import Derived.Test.YtaakadmnhpboiaaGreatDoorM33
namespace Go.Proofs.YtaakadmnhpboiaaGreatDoor
open Go.RowKit Go.Deep
theorem made_nat (w:World) (n:Nat):Blk (w.alloc (.cells (madeCells #[.int .i64 0] n) 3)) w.heap.size (natArr (List.replicate n 0)) 3:=by
 have h:madeCells #[.int .i64 0] n=natArr (List.replicate n 0):=by
  apply Array.toList_inj.1
  rw [toList_madeCells_one]
  simp [natArr,zs,ints]
 rw [h]
 exact Blk.new _ _ _
theorem opn_none (N:Nat):opnL N (fun v=>decide (v ∈ ([]:List Nat)))=List.replicate N false:=by
 apply List.ext_getElem?
 intro j
 unfold opnL
 by_cases hj:j<N
 ·simp [hj]
 ·simp [hj]
set_option maxRecDepth 100000 in
set_option maxHeartbeats 8000000 in
theorem leastOnCircle_any (N gb lo:Nat) (F:Nat→List Nat) (w:World) (hN:N≤6000) (S:SsAt lo w gb N fun j=>zs (F j)) (hF:∀j,j<N→(F j).length≤2∧∀z ∈ F j,z<N) :
  Calls Tryz.prog 65 #[.slice (some ⟨gb,0,none⟩) N N] w fun e w'=>(∃m:Nat,LeastC (fun x y=>y ∈ F x) N m∧e=.returned (.int .i64 (if m=N then -1 else (m:Int))))∧Below w.heap.size w w':=by
 have hmb:=run_make_k (P:=Tryz.prog) 91 4 _ 1 1 Tryz.underlying91 Tryz.info_bool .i64 .i64 N (by omega) (by omega)
 have hmi:=run_make_k (P:=Tryz.prog) 72 3 _ 1 8 Tryz.underlying72 Tryz.info_int .i64 .i64 N (by omega) (by omega)
 simp only [Nat.mul_one] at hmb hmi
 have HS:Hid _:=S
 have HF:Hid _:=hF
 clear S hF
 go_enter Tryz.func65,Tryz.ntmps65
 go_wp2_with fail
 go_cut [3] from 5 (fun v3 wx=>∃cb ob qb:Nat,v3=.pointer (some ⟨cb,0,none⟩)∧Hid (CcIn w.heap.size cb ob qb)∧Hid (CcAt w.heap.size cb gb ob qb N wx ⟨0,List.replicate N 0,[],N⟩ (.slice none 0 0))∧Hid (Below w.heap.size w wx)∧Hid (w.heap.size+3≤wx.heap.size))
 case first=>
  go_region_held3 (fun _=>True) (trivial) (fail)
  ·go_wp2_with fail
   go_meet
   case rel=>
    refine⟨w.heap.size+1+1,w.heap.size,w.heap.size+1,rfl,⟨by omega,by omega,by omega,by omega,by omega,by omega,by omega,by omega,by omega⟩,⟨?_,?_,?_,owns_nil _ _ _⟩,?_,?_⟩
    ·have:=Blk.new ((w.alloc (.cells (madeCells #[.int .i64 0] N) 3)).alloc (.cells (madeCells #[.bool false] N) 4)) #[.slice (some ⟨gb,0,none⟩) N N,.int .i64 0,.slice (some ⟨w.heap.size,0,none⟩) N N,.slice none 0 0,.slice (some ⟨w.heap.size+1,0,none⟩) N N,.int .i64 N] 193
     simp only [nblk_alloc] at this
     exact this
    ·exact ((made_nat w N).alloc _).alloc _
    ·rw [opn_none];have:=(made_blk (w.alloc (.cells (madeCells #[.int .i64 0] N) 3)) N).alloc (.cells #[.slice (some ⟨gb,0,none⟩) N N,.int .i64 0,.slice (some ⟨w.heap.size,0,none⟩) N N,.slice none 0 0,.slice (some ⟨w.heap.size+1,0,none⟩) N N,.int .i64 N] 193);simp only [nblk_alloc] at this;exact this
    ·exact (below_al (below_al (below_al (Below.refl _ _) _) _) _).drew
    ·show _≤_;simp
  ·go_wp2_with fail
   go_meet
   case rel=>
    refine⟨w.heap.size+1+1,w.heap.size+1,w.heap.size,rfl,⟨by omega,by omega,by omega,by omega,by omega,by omega,by omega,by omega,by omega⟩,⟨?_,?_,?_,owns_nil _ _ _⟩,?_,?_⟩
    ·have:=Blk.new ((w.alloc (.cells (madeCells #[.bool false] N) 4)).alloc (.cells (madeCells #[.int .i64 0] N) 3)) #[.slice (some ⟨gb,0,none⟩) N N,.int .i64 0,.slice (some ⟨w.heap.size+1,0,none⟩) N N,.slice none 0 0,.slice (some ⟨w.heap.size,0,none⟩) N N,.int .i64 N] 193
     simp only [nblk_alloc] at this
     exact this
    ·have:=(made_nat (w.alloc (.cells (madeCells #[.bool false] N) 4)) N).alloc (.cells #[.slice (some ⟨gb,0,none⟩) N N,.int .i64 0,.slice (some ⟨w.heap.size+1,0,none⟩) N N,.slice none 0 0,.slice (some ⟨w.heap.size,0,none⟩) N N,.int .i64 N] 193);simp only [nblk_alloc] at this;exact this
    ·rw [opn_none];exact ((made_blk w N).alloc _).alloc _
    ·exact (below_al (below_al (below_al (Below.refl _ _) _) _) _).drew
    ·show _≤_;simp
 case rest=>
  obtain⟨cb,ob,qb,rfl,HI,HC,HB,HS3⟩:=hcut
  clear hmb hmi
  go_wp2_with fail
  have HJ0:Hid (Jt (fun x y=>y ∈ F x) N ⟨0,List.replicate N 0,[],N⟩ fun _=>False):=jt_start _ _
  have HU0:Hid ((0:Nat)+unv (List.replicate N 0)≤N):=by show _≤_;unfold unv;exact Nat.le_trans (by rw [Nat.zero_add];exact List.length_filter_le _ _) (by simp)
  go_loopg [18] (N+1) (fun g y wr=>∃(k:Nat) (T:Tj) (vp:Value),k≤N∧y=.int .i64 k∧Hid (Jt (fun x y=>y ∈ F x) N T fun _=>False)∧Hid (CcAt w.heap.size cb gb ob qb N wr T vp)∧Hid (T.count+unv T.order≤N)∧Hid (∀j,j<k→T.ord j≠0)∧Hid (Below w.heap.size w wr)∧Hid (w.heap.size+3≤wr.heap.size)∧Hid (N+1 - k≤g))
  case atStart=>exact ⟨0,⟨0,List.replicate N 0,[],N⟩,_,Nat.zero_le _,rfl,HJ0.out,HC.out,HU0.out,fun j hj=>absurd hj (Nat.not_lt_zero _),HB.out,HS3.out,Nat.le_refl _⟩
  case round=>
   obtain⟨k,T,vp,hk,rfl,HJ,HCk,HU,HSN,HBk,HSk,HG⟩:=hrel
   clear HC HB HS3 HJ0 HU0
   have hck:=HCk.out.blk.cell
   by_cases hkl:k<N
   ·have ock:=(HCk.out.order.cell k).trans (natArr_get (by rw [HJ.out.lenO];exact hkl))
    have HG2:Hid (N+1 - (k+1)≤gk - 1∧gk - 1<gk):=by have:=HG.out;show _∧_;omega
    have kk:(k:Int)<N:=by omega
    clear HG
    by_cases hok:T.order.getD k 0=0
    ·rw [hok] at ock
     have HOK:Hid (T.ord k=0):=hok
     have HVI:Hid (∀_:Unit,_):=fun _=>visit_any w.heap.size cb gb ob qb N lo F w HI.out hN rfl HS.out HF.out (unv T.order) T (fun _=>False) k vp wr (Nat.le_refl _) HU.out HCk.out HBk.out HSk.out HJ.out (fun x hx=>by rw [path_nil HJ.out] at hx;simp at hx) hkl HOK.out
     clear hok
     go_wp2_with fail
     refine (HVI.out ()).mono ?_
     rintro e w6 ⟨T6,v6,l6,rfl,C6,V6,hcu6,hb6⟩
     have HJ6:Hid (Jt (fun x y=>y ∈ F x) N T6 fun _=>False):=V6.j
     have HC6:Hid (CcAt w.heap.size cb gb ob qb N w6 T6 v6):=C6
     have HU6:Hid (T6.count+unv T6.order≤N):=hcu6
     have HSN6:Hid (∀j,j<k+1→T6.ord j≠0):=by
      intro j hj
      by_cases hjk:j=k
      ·rw [hjk];exact V6.seen
      ·have h1:=HSN.out j (by omega)
       rw [V6.same j h1]
       exact h1
     have HB6:Hid (Below w.heap.size w w6):=HBk.out.trans hb6
     have HS6:Hid (w.heap.size+3≤w6.heap.size):=Nat.le_trans HSk.out hb6.size
     clear C6 V6 hcu6 hb6 HVI HJ HCk HU HSN HBk HSk hck ock
     go_wp2_with fail
     go_roundg (gk - 1)
     case measure=>exact HG2.out.2
     case rel=>exact ⟨k+1,T6,v6,by omega,by go_num,HJ6.out,HC6.out,HU6.out,HSN6.out,HB6.out,HS6.out,HG2.out.1⟩
    ·obtain⟨o2,ho2⟩:∃x,x=T.order.getD k 0:=⟨_,rfl⟩
     have e0:((o2:Int) == 0)=false:=by rw [ho2];simpa using hok
     rw [←ho2] at ock
     have HSN6:Hid (∀j,j<k+1→T.ord j≠0):=by
      intro j hj
      by_cases hjk:j=k
      ·rw [hjk];exact hok
      ·exact HSN.out j (by omega)
     clear hok ho2 HSN
     go_wp2_with fail
     go_roundg (gk - 1)
     case measure=>exact HG2.out.2
     case rel=>exact ⟨k+1,T,vp,by omega,by go_num,HJ.out,HCk.out,HU.out,HSN6.out,HBk.out,HSk.out,HG2.out.1⟩
   ·obtain rfl:k=N:=by omega
    have kk:¬(k:Int)<k:=by omega
    have HLC:Hid (LeastC (fun x y=>y ∈ F x) k T.least):=least_of HJ.out HSN.out
    clear HG HSN HJ
    by_cases hl:T.least=k
    ·have e0:((T.least:Int) == (k:Int))=true:=by simp [hl]
     have HLL:Hid _:=hl
     clear hl
     go_wp2_with fail
     go_ret
     exact⟨⟨T.least,HLC.out,by rw [if_pos HLL.out];rfl⟩,HBk.out⟩
    ·have e0:((T.least:Int) == (k:Int))=false:=by simp;omega
     have HLL:Hid _:=hl
     clear hl
     go_wp2_with fail
     go_ret
     exact⟨⟨T.least,HLC.out,by rw [if_neg HLL.out];rfl⟩,HBk.out⟩
theorem silR_E {p:Pd} {c:Cf} {x y:Nat} : y ∈ silR p c x ↔ c.E p x y:=by
 unfold silR Cf.E Sil
 cases hn:p.ins[x]? with
 | none=>simp
 | some n=>
  cases hs:c.st x with
  | none=>simp
  | some s=>
   simp only [Option.isSome_some,true_and]
   constructor
   ·intro h;exact ⟨n,rfl,(sil_eq n x y).1 h⟩
   ·rintro⟨n',e,h⟩
    obtain rfl:=Option.some.inj e
    exact (sil_eq n x y).2 h
theorem silR_few {np:Nat} {p:Pd} {c:Cf} (hp:PFit np p) (j:Nat):(silR p c j).length≤2∧∀z ∈ silR p c j,z<p.ins.length:=by
 refine⟨?_,?_⟩
 ·unfold silR
  split
  ·unfold silI
   split
   ·simp
   ·rename_i n _ _ _ _
    rw [List.length_append]
    have h1:(if (nextB n && n.op != 41)=true then [j+1] else []).length≤1:=by split <;> simp
    have h2:(tgtF n).toList.length≤1:=by cases tgtF n <;> simp
    omega
  ·simp
 ·intro z hz
  obtain⟨_,n,hn,hy⟩:=silR_E.1 hz
  exact sil_lt hp hn hy
theorem leastC_congr {E F:Nat→Nat→Prop} (h:∀a b,E a b ↔ F a b) {N m:Nat} (hl:LeastC E N m):LeastC F N m:=by
 have e:E=F:=by funext a b;exact propext (h a b)
 rw [←e]
 exact hl
noncomputable def pcVe:Code:=pathC [1,1,1,1,1] (Tryz.f25.body.getD .skip)
set_option maxRecDepth 1000000 in
set_option maxHeartbeats 8000000 in
theorem vf_end (w0:World) (B L vb sb db:Nat) (cao:Option Addr) (ccap:Nat) (ps:List Pd) (p:Pd) (h:Ph) (c:Cf) (l pi:Nat) (w W:World) (c0 c2 c3 c4 c6 c8 c9 c10 c11 c12 c13 c14 c15 c16 c17 c18 c19 c20 c21 c22 c23 c24 c25 c26 c27 c28 c29 c30 c31 c32 c33 c34 c35 c36 c37 c38 c39 c40 c41 c42 c43 c44 c45 c46 c47 c48 c49 c50 c51 c52 c53 c54 c55 c56 c57 c58 c59 c60:Value) (Q:Exit→Act→World→Prop) (hq:∀a' w',bodyPost Tryz.prog Tryz.f25 (WkPost w ps p pi) .ret a' w'→Q .ret a' w')
  (X:Vctx w0 B L vb sb db ps p h) (H0:VfAt L vb sb db cao ccap ps p h W c l) (hb0:Below w0.heap.size w0 W) (hbw:Below w.heap.size w W) (FL:Blk W (w.heap.size+1) #[.int .i64 0,.int .i64 0,.int .i64 0] 27) (hwo:walkF ps p (2 * p.ins.length+2) (startC p)=.ok c) :
  Code.wp Tryz.prog pcVe Q ⟨List.toArray (c0::.int .i64 pi::c2::c3::c4::.pointer (some ⟨w.heap.size+1,0,none⟩)::c6::.pointer (some ⟨vb,0,none⟩)::c8::c9::c10::c11::c12::c13::c14::c15::c16::c17::c18::c19::c20::c21::c22::c23::c24::c25::c26::c27::c28::c29::c30::c31::c32::c33::c34::c35::c36::c37::c38::c39::c40::c41::c42::c43::c44::c45::c46::c47::c48::c49::c50::c51::c52::c53::c54::c55::c56::c57::c58::c59::c60::[]),[]⟩ W:=by
 conv=>arg 2;whnf
 have HQ:Hid _:=hq
 have HSS:Hid (∀_:Unit,_):=fun _=>silentSteps_any w0 B L vb sb db cao ccap ps p h c l W X H0 hb0
 have HWO:Hid _:=hwo
 clear hq hwo
 go_wp2_with fail
 refine (HSS.out ()).mono ?_
 rintro e w1 ⟨⟨gb,rfl,S1⟩,hw1⟩
 have HLC:Hid (∀_:Unit,_):=fun _=>leastOnCircle_any p.ins.length gb (gb+1) (silR p c) w1 X.hz S1 (fun j _=>silR_few X.fit j)
 clear HSS S1
 go_wp2_with fail
 refine (HLC.out ()).mono ?_
 rintro e w2 ⟨⟨m,hm,rfl⟩,hw2⟩
 have hb2:Below W.heap.size W w2:=hw1.trans (hw2.mono hw1.size)
 have HM:Hid (LeastC (c.E p) p.ins.length m):=leastC_congr (fun a b=>silR_E) hm
 have F2:=FL.later hb2
 have H2:=H0.below hb2
 have f2:=F2.cell
 have z2:=F2.frozen
 have v2:=H2.blk.cell
 have HB2:Hid (Below w.heap.size w w2):=hbw.trans (hb2.mono hbw.size)
 clear HLC hm hw1 hw2 hb2 FL
 by_cases hmN:m=p.ins.length
 ·rw [if_pos hmN]
  have HVF:Hid (verF ps p pi=(0,0,0)):=verF_none HWO.out (by have:=HM.out;rw [hmN] at this;exact this)
  clear hmN
  go_wp2_with fail
  refine HQ.out _ _ (bodyPost_ret (v:=.tuple #[.slice (some ⟨sb,0,none⟩) p.ins.length p.ins.length,.agg #[.int .i64 0,.int .i64 0,.int .i64 0]]) ?_ rfl ⟨⟨.slice (some ⟨sb,0,none⟩) p.ins.length p.ins.length,?_⟩,?_⟩)
  ·simp [results,Tryz.results25,go_sem,f2]
  ·rw [HVF.out];rfl
  ·iterate 3 (refine Below.setCell ?_ (by simp) _)
   exact HB2.out
 ·rw [if_neg hmN]
  have HVF:Hid (verF ps p pi=(14,(pi:Int),(m:Int))):=verF_circ HWO.out HM.out (by have:=HM.out.1;omega)
  have km:(0:Int)≤m:=by omega
  clear hmN
  go_wp2_with fail
  refine HQ.out _ _ (bodyPost_ret (v:=.tuple #[.slice none 0 0,.agg #[.int .i64 14,.int .i64 pi,.int .i64 m]]) ?_ rfl ⟨⟨.slice none 0 0,?_⟩,?_⟩)
  ·simp [results,Tryz.results25,go_sem,f2]
  ·rw [HVF.out];rfl
  ·iterate 3 (refine Below.setCell ?_ (by simp) _)
   exact HB2.out
def NxSt (L vb sb db:Nat) (cao:Option Addr) (ccap:Nat) (ps:List Pd) (p:Pd) (h:Ph) (c:Cf) (y:Value) (w:World):Prop:=
 ∃l:Nat,l≤p.ins.length∧((leastDue c.due=none∧y=.int .i64 (-1)∧VfAt L vb sb db cao ccap ps p h w c l)∨(leastDue c.due=some l∧y=.int .i64 l∧VfAt L vb sb db cao ccap ps p h w ⟨c.sts,c.due.set l false⟩ l))
theorem round_step {ps:List Pd} {p:Pd} {c:Cf} {i:Nat} {n:Nd} {s:St} {np:Nat} (hn:InsFit np p n) (hi:p.ins[i]?=some n) (hs:c.st i=some s):stepR ps n i s ⟨c.sts,c.due.set i false⟩=roundF ps p c i:=by
 unfold stepR roundF
 rw [hi,hs,step_eq hn]
 dsimp only
 cases stepF ps n i s <;> rfl
theorem round_code {ps:List Pd} {n:Nd} {i:Nat} {s:St} {c:Cf} {k x:Nat} (h:stepR ps n i s c=.error (k,x)):k≠0∧k≤13:=by
 have hf:∀(l:List (Nat × St)) (c:Cf),followF c l=.error (k,x)→k=13:=by
  intro l
  induction l with
  | nil=>intro c h;cases h
  | cons a r ih=>
   intro c h
   obtain⟨y,t⟩:=a
   rw [follow_cons] at h
   cases hr:reachF c y t with
   | none=>rw [hr] at h;simp at h;omega
   | some c2=>rw [hr] at h;exact ih c2 h
 unfold stepR at h
 cases hs:stepI ps n i s with
 | bad k2=>
  rw [hs] at h
  simp at h
  unfold stepI at hs
  split at hs
  ·cases hs;omega
  ·split at hs
   ·split at hs
    ·split at hs
     ·cases hs
     ·cases hs;omega
    ·cases hs;omega
   ·cases hs;omega
 | go l=>rw [hs] at h;have:=hf l c h;omega
noncomputable def pcVl:Code:=pathC [1,1,1,1,0,1,0] (Tryz.f25.body.getD .skip)
set_option maxRecDepth 1000000 in
set_option maxHeartbeats 8000000 in
theorem vf_loop (w0:World) (B L vb sb db:Nat) (cao:Option Addr) (ccap:Nat) (ps:List Pd) (p:Pd) (h:Ph) (pi:Nat) (w W:World) (c0 c2 c3 c4 c6 c8 c9 c10 c11 c12 c13 c14 c15 c16 c17 c18 c19 c20 c21 c22 c23 c24 c25 c26 c27 c28 c29 c30 c31 c32 c33 c34 c35 c36 c37 c38 c39 c40 c41 c42 c43 c44 c45 c46 c47 c48 c49 c50 c51 c52 c53 c54 c55 c56 c57 c58 c59 c60:Value) (Q:Exit→Act→World→Prop) (hq:∀a' w',bodyPost Tryz.prog Tryz.f25 (WkPost w ps p pi) .ret a' w'→Q .ret a' w')
  (hx:∀(u4 u8 u9 u35 u36 u37 u38 u39 u40 u41 u42 u43 u44 u45 u46 u47:Value) (c:Cf) (l:Nat) (w':World),walkF ps p (2 * p.ins.length+2) (startC p)=.ok c→VfAt L vb sb db cao ccap ps p h w' c l→Below w0.heap.size w0 w'→Q (.exit 0) ⟨List.toArray (c0::.int .i64 pi::c2::c3::u4::.pointer (some ⟨w.heap.size+1,0,none⟩)::c6::.pointer (some ⟨vb,0,none⟩)::u8::u9::c10::c11::c12::c13::c14::c15::c16::c17::c18::c19::c20::c21::c22::c23::c24::c25::c26::c27::c28::c29::c30::c31::c32::c33::c34::u35::u36::u37::u38::u39::u40::u41::u42::u43::u44::u45::u46::u47::c48::c49::c50::c51::c52::c53::c54::c55::c56::c57::c58::c59::c60::[]),[]⟩ w')
  (X:Vctx w0 B L vb sb db ps p h) (_hL0:L=w0.heap.size+3) (hLW:L≤W.heap.size) (N0:NxSt L vb sb db cao ccap ps p h (startC p) c8 W) (hb0:Below w0.heap.size w0 W) (hw0:Below w.heap.size w w0) (FL:Blk w0 (w.heap.size+1) #[.int .i64 0,.int .i64 0,.int .i64 0] 27) (hv:ProtosAt 0 w0 cao ps) (hu:∀n ∈ p.ins,∀u ∈ fnUps ps n,u.loc=true→0≤u.idx∧u.idx<p.regs) (hul:∀n,(fnUps ps n).length≤1048576) :
  Code.wp Tryz.prog pcVl Q ⟨List.toArray (c0::.int .i64 pi::c2::c3::c4::.pointer (some ⟨w.heap.size+1,0,none⟩)::c6::.pointer (some ⟨vb,0,none⟩)::c8::c9::c10::c11::c12::c13::c14::c15::c16::c17::c18::c19::c20::c21::c22::c23::c24::c25::c26::c27::c28::c29::c30::c31::c32::c33::c34::c35::c36::c37::c38::c39::c40::c41::c42::c43::c44::c45::c46::c47::c48::c49::c50::c51::c52::c53::c54::c55::c56::c57::c58::c59::c60::[]),[]⟩ W:=by
 conv=>arg 2;whnf
 have HQ:Hid _:=hq
 have HX:Hid _:=hx
 have HST:=start_ok X.fit
 have HV:Hid (ProtosAt 0 w0 cao ps):=hv
 have HU:Hid _:=hu
 have HUL:Hid _:=hul
 clear hq hx hv hu hul
 go_loopg [8] (2 * p.ins.length+2) (fun gk y wr=>∃c:Cf,Hid (CfOk p c)∧Hid (Closed p c none)∧Hid (walkF ps p gk c=walkF ps p (2 * p.ins.length+2) (startC p))∧Hid (c.meas<gk)∧Hid (NxSt L vb sb db cao ccap ps p h c y wr)∧Hid (Below w0.heap.size w0 wr)∧Hid (L≤wr.heap.size))
 case atStart=>exact ⟨startC p,HST.1,HST.2.1,rfl,HST.2.2,N0,hb0,hLW⟩
 case round=>
  obtain⟨c,HOK,HCL,HWK,HME,HN,HB,HLr⟩:=hrel
  clear HST N0
  have HFR:Hid (Blk wr (w.heap.size+1) #[.int .i64 0,.int .i64 0,.int .i64 0] 27):=FL.later HB.out
  obtain⟨l,hl,hN⟩:=HN.out
  rcases hN with ⟨hd,rfl,H1⟩ | ⟨hd,rfl,H1⟩
  ·have HWO:Hid (walkF ps p (2 * p.ins.length+2) (startC p)=.ok c):=HWK.out.symm.trans (walk_end (Nat.lt_of_le_of_lt (Nat.zero_le _) HME.out) hd)
   have HH1:Hid (VfAt L vb sb db cao ccap ps p h wr c l):=H1
   clear hd H1 HN HWK HME HCL HOK
   go_wp2_with fail
   exact HX.out _ _ _ _ _ _ _ _ _ _ _ _ _ _ _ _ c l wr HWO.out HH1.out HB.out
  ·obtain⟨hd1,hd2,_⟩:=leastDue_some hd
   obtain⟨s,hs⟩:=Option.isSome_iff_exists.1 (HOK.out.due l hd2)
   have hll:l<p.ins.length:=by rw [←HOK.out.lenD];exact hd1
   obtain⟨n,hn⟩:=some_of_lt hll
   have hNF:=X.fit.fit l n hn
   have HSP:Hid (∀_:Unit,_):=fun _=>step_any w0 B L vb sb db cao ccap ps p h ⟨c.sts,c.due.set l false⟩ l wr l n s X H1 hl HLr.out HB.out (cleared_ok HOK.out HCL.out).1 hn hs HV.out (HU.out n (List.mem_of_getElem? hn)) (HUL.out n)
   have HRS:Hid (stepR ps n l s ⟨c.sts,c.due.set l false⟩=roundF ps p c l):=round_step hNF hn hs
   have HLD:Hid (leastDue c.due=some l):=hd
   have HRC:Hid (∀k x,stepR ps n l s ⟨c.sts,c.due.set l false⟩=.error (k,x)→k≠0∧k≤13):=fun k x hh=>round_code hh
   have k0:(0:Int)≤l:=by omega
   clear hd hd1 hd2 hs hn hNF H1 HN
   go_wp2_with fail
   refine (HSP.out ()).mono ?_
   unfold FwPost
   cases hst:stepR ps n l s ⟨c.sts,c.due.set l false⟩ with
   | error kx=>
    obtain⟨k,x⟩:=kx
    rintro e w2 ⟨rfl,hO2⟩
    have HVF:Hid (verF ps p pi=((k:Int),(pi:Int),(x:Int))):=verF_error (HWK.out.symm.trans (walk_bad (Nat.lt_of_le_of_lt (Nat.zero_le _) HME.out) HLD.out (HRS.out.symm.trans hst)))
    have hkk:=HRC.out k x hst
    have hBe:=X.hB
    have hb2:Below w0.heap.size wr w2:=by have:=hO2.below;rw [hBe] at this;exact this
    have HB2:Hid (Below w0.heap.size w0 w2):=HB.out.trans hb2
    have FL2:=FL.later HB2.out
    have ek:((k:Int) != 0)=true:=by simp;omega
    have hfw:w.heap.size+1<w2.heap.size:=FL2.lt
    have hne:¬w2.heap.size=w.heap.size+1:=by omega
    have P3:=Blk.new w2 #[.int .i64 k,.int .i64 pi,.int .i64 x] 27
    have A3:=below_al (Below.refl w2.heap.size w2) (.cells #[.int .i64 k,.int .i64 pi,.int .i64 x] 27)
    have F3:=FL2.later A3
    have HBW:Hid (Below w.heap.size w (w2.alloc (.cells #[.int .i64 k,.int .i64 pi,.int .i64 x] 27))):=(hw0.trans (HB2.out.mono hw0.size)).trans (A3.mono (Nat.le_trans hw0.size HB2.out.size))
    clear hst HSP HRS HOK HCL HWK HME HRC HLD hO2 hBe HB HLr HFR hb2 HB2 hkk FL2 A3
    go_wp2_with fail
    have p30:=P3.cell 0
    have p31:=P3.cell 1
    have p32:=P3.cell 2
    have f3:=F3.cell
    have z3:=F3.frozen
    generalize w2.alloc (.cells #[.int .i64 k,.int .i64 pi,.int .i64 x] 27)=w3 at *
    have hne2:¬w.heap.size+1=w2.heap.size:=fun e=>hne e.symm
    go_region_held3 (fun w'=>w'.cell? ⟨w2.heap.size,0,none⟩=some (.int .i64 k)∧w'.cell? ⟨w2.heap.size,1,none⟩=some (.int .i64 pi)∧w'.cell? ⟨w2.heap.size,2,none⟩=some (.int .i64 x)) (first | exact ⟨p30,p31,p32⟩ | (exact ⟨((World.cell?_setCell_far _ _ _ _ hne2).trans ((World.cell?_setCell_far _ _ _ _ hne2).trans (World.cell?_setCell_far _ _ _ _ hne2))).trans p30,((World.cell?_setCell_far _ _ _ _ hne2).trans ((World.cell?_setCell_far _ _ _ _ hne2).trans (World.cell?_setCell_far _ _ _ _ hne2))).trans p31,((World.cell?_setCell_far _ _ _ _ hne2).trans ((World.cell?_setCell_far _ _ _ _ hne2).trans (World.cell?_setCell_far _ _ _ _ hne2))).trans p32⟩) | (go_keep;done)) (fail)
    all_goals
     go_wp2_with fail
     have c9:=(F3.three (x':=.int .i64 k) (y':=.int .i64 pi) (z':=.int .i64 x)).cell
     refine HQ.out _ _ (bodyPost_ret (v:=.tuple #[.slice none 0 0,.agg #[.int .i64 k,.int .i64 pi,.int .i64 x]]) ?_ rfl ⟨⟨.slice none 0 0,?_⟩,?_⟩)
     ·simp [results,Tryz.results25,go_sem,c9]
     ·rw [HVF.out];rfl
     ·first
      | exact (((HBW.out.setCell (by dsimp only;omega) _).setCell (by dsimp only;omega) _).setCell (by dsimp only;omega) _).drew
      | exact ((HBW.out.drew.setCell (by dsimp only;omega) _).setCell (by dsimp only;omega) _).setCell (by dsimp only;omega) _
   | ok c2=>
    rintro e w2 ⟨⟨rfl,l2,hl2,H2⟩,hO2⟩
    have HRN:Hid (roundF ps p c l=.ok c2):=HRS.out.symm.trans hst
    have HRO:Hid _:=round_ok X.fit HOK.out HCL.out HLD.out HRN.out
    have HWN:Hid (walkF ps p (gk - 1) c2=walkF ps p (2 * p.ins.length+2) (startC p)):=(walk_on (Nat.lt_of_le_of_lt (Nat.zero_le _) HME.out) HLD.out HRN.out).symm.trans HWK.out
    have HMN:Hid (c2.meas<gk - 1∧gk - 1<gk):=by have h1:=HRO.out.2.2;have h2:=HME.out;show _∧_;omega
    have A2:=below_al (Below.refl w2.heap.size w2) (.cells #[.int .i64 0,.int .i64 0,.int .i64 0] 27)
    have HNX:Hid (∀_:Unit,_):=fun _=>next_any B L vb sb db cao ccap ps p h c2 l2 (w2.alloc (.cells #[.int .i64 0,.int .i64 0,.int .i64 0] 27)) X.V X.hz (H2.below A2) hl2
    have hBe:=X.hB
    have HB2:Hid (Below w0.heap.size w0 (w2.alloc (.cells #[.int .i64 0,.int .i64 0,.int .i64 0] 27))):=HB.out.trans ((by have:=hO2.below;rw [hBe] at this;exact this:Below w0.heap.size wr w2).trans (A2.mono (Nat.le_trans HB.out.size hO2.size)))
    have HL2:Hid (L≤(w2.alloc (.cells #[.int .i64 0,.int .i64 0,.int .i64 0] 27)).heap.size):=Nat.le_trans HLr.out (Nat.le_trans hO2.size A2.size)
    clear hst HSP HRS HOK HCL HWK HME HRC HRN HLD H2 hO2 A2 hBe HB HLr HFR
    go_wp2_with fail
    refine (HNX.out ()).mono ?_
    rintro e w4 ⟨⟨l4,hl4,hN4⟩,hO4⟩
    have HB4:Hid (Below w0.heap.size w0 w4):=HB2.out.trans (by have:=hO4.below;rw [X.hB] at this;exact this)
    have HL4:Hid (L≤w4.heap.size):=Nat.le_trans HL2.out hO4.size
    clear HNX HB2 HL2 hO4
    rcases hN4 with ⟨h1,rfl,h3⟩ | ⟨h1,rfl,h3⟩
    ·have HNS:Hid (NxSt L vb sb db cao ccap ps p h c2 (.int .i64 (-1)) w4):=⟨l4,hl4,.inl ⟨h1,rfl,h3⟩⟩
     clear h1 h3
     go_wp2_with fail
     go_roundg (gk - 1)
     case measure=>exact HMN.out.2
     case rel=>exact ⟨c2,HRO.out.1,HRO.out.2.1,HWN.out,HMN.out.1,HNS.out,HB4.out,HL4.out⟩
    ·have HNS:Hid (NxSt L vb sb db cao ccap ps p h c2 (.int .i64 l4) w4):=⟨l4,hl4,.inr ⟨h1,rfl,h3⟩⟩
     clear h1 h3
     go_wp2_with fail
     go_roundg (gk - 1)
     case measure=>exact HMN.out.2
     case rel=>exact ⟨c2,HRO.out.1,HRO.out.2.1,HWN.out,HMN.out.1,HNS.out,HB4.out,HL4.out⟩
theorem sti_made (w:World) (n:Nat):∀lo,StsI lo (w.alloc (.cells (madeCells #[.bool false,.slice none 0 0,.slice none 0 0] (n*3)) 98)) w.heap.size (List.replicate n none):=by
 intro lo
 refine⟨by simpa using Own.made w #[.bool false,.slice none 0 0,.slice none 0 0] (n*3) 98,?_⟩
 intro j o hj
 rw [List.getElem?_replicate] at hj
 split at hj
 ·rename_i hjn
  obtain rfl:=(Option.some.inj hj).symm
  have hb:=blk_alloc_new w (.cells (madeCells #[.bool false,.slice none 0 0,.slice none 0 0] (n*3)) 98)
  have hc:∀i,i<3→(w.alloc (.cells (madeCells #[.bool false,.slice none 0 0,.slice none 0 0] (n*3)) 98)).cell? ⟨w.heap.size,j*3+i,none⟩=(#[.bool false,.slice none 0 0,.slice none 0 0]:Array Value)[i]?:=by
   intro i hi
   have:=made_cell (z:=#[.bool false,.slice none 0 0,.slice none 0 0]) (n:=n*3) (j:=j) (i:=i) (by simpa using hi) (by simp;omega)
   simp only [World.cell?,hb]
   simpa using this
  exact⟨none,0,none,0,hc 0 (by omega),hc 1 (by omega),hc 2 (by omega),⟨Nat.le_refl _,fun _=>rfl,fun a e=>(by cases e),fun i x hx=>(by simp [stT] at hx),fun b o e=>(by cases e)⟩,⟨Nat.le_refl _,fun _=>rfl,fun a e=>(by cases e),fun i x hx=>(by simp [stG] at hx),fun b o e=>(by cases e)⟩⟩
 ·cases hj
theorem inb_exit {id:Nat} {Q:Exit→Act→World→Prop} {a:Act} {w:World} (h:Q .normal a w):Exit.inBlock id Q (.exit id) a w:=by simpa [Exit.inBlock] using h
theorem sti_later2 {w w':World} {sb:Nat} {n:Nat} (h:∀lo,StsI lo w sb (List.replicate n none)) (hb:Below w.heap.size w w'):∀lo,StsI lo w' sb (List.replicate n none):=fun lo=>(h lo).later (Keeps.of_below hb) (hb.block sb (h lo).own.lt)
theorem fresh_st (p:Pd) (i:Nat):Cf.st ⟨List.replicate p.ins.length none,List.replicate p.ins.length false⟩ i=none:=by
 unfold Cf.st
 rw [List.getD_eq_getElem?_getD,List.getElem?_replicate]
 split <;> rfl
noncomputable def pcVr:Code:=pathC [1,1,1] (Tryz.f25.body.getD .skip)
set_option maxRecDepth 1000000 in
set_option maxHeartbeats 8000000 in
theorem vf_rest (w0:World) (B L vb sb db:Nat) (cao:Option Addr) (ccap:Nat) (ps:List Pd) (p:Pd) (h:Ph) (pi:Nat) (w W:World) (c0 c2 c3 c4 c8 c9 c10 c11 c12 c13 c14 c15 c16 c17 c18 c19 c20 c21 c22 c23 c24 c25 c26 c27 c28 c29 c30 c31 c32 c33 c34 c35 c36 c37 c38 c39 c40 c41 c42 c43 c44 c45 c46 c47 c48 c49 c50 c51 c52 c53 c54 c55 c56 c57 c58 c59 c60:Value) (Q:Exit→Act→World→Prop) (hq:∀a' w',bodyPost Tryz.prog Tryz.f25 (WkPost w ps p pi) .ret a' w'→Q .ret a' w')
  (X:Vctx w0 B L vb sb db ps p h) (hL0:L=w0.heap.size+3) (hLW:L≤W.heap.size) (V0:VfAt L vb sb db cao ccap ps p h W ⟨List.replicate p.ins.length none,List.replicate p.ins.length false⟩ 0) (hb0:Below w0.heap.size w0 W) (hw0:Below w.heap.size w w0) (FL:Blk w0 (w.heap.size+1) #[.int .i64 0,.int .i64 0,.int .i64 0] 27) (PB:Blk W (w.heap.size+1+1) #[.string p.name,.int .i64 p.line,.int .i64 p.params,.bool p.rest,.int .i64 p.regs,.slice h.uo p.ups.length h.uc,.slice h.co p.consts.length h.cc,.slice h.io p.ins.length h.ic,.slice h.no p.named.length h.nc] 57) (hv:ProtosAt 0 w0 cao ps) (hu:∀n ∈ p.ins,∀u ∈ fnUps ps n,u.loc=true→0≤u.idx∧u.idx<p.regs) (hul:∀n,(fnUps ps n).length≤1048576) :
  Code.wp Tryz.prog pcVr Q ⟨List.toArray (c0::.int .i64 pi::c2::c3::c4::.pointer (some ⟨w.heap.size+1,0,none⟩)::.pointer (some ⟨w.heap.size+1+1,0,none⟩)::.pointer (some ⟨vb,0,none⟩)::c8::c9::c10::c11::c12::c13::c14::c15::c16::c17::c18::c19::c20::c21::c22::c23::c24::c25::c26::c27::c28::c29::c30::c31::c32::c33::c34::c35::c36::c37::c38::c39::c40::c41::c42::c43::c44::c45::c46::c47::c48::c49::c50::c51::c52::c53::c54::c55::c56::c57::c58::c59::c60::[]),[]⟩ W:=by
 conv=>arg 2;whnf
 have hft:=firstTypes_any p h ps.length W X.fit
 unfold Pd.cells at hft
 have HFT:Hid (∀_:Unit,_):=fun _=>hft
 have HV:Hid (ProtosAt 0 w0 cao ps):=hv
 have HU:Hid _:=hu
 have HUL:Hid _:=hul
 have HQ:Hid _:=hq
 have HV0:Hid _:=V0
 clear hft hv hu hul hq V0
 refine wp_seq_k ?_
 intro K3 hK3
 have HK3:Hid _:=hK3
 clear hK3
 have p0:=PB.cell
 go_wp2_with fail
 refine (HFT.out ()).mono ?_
 rintro e w1 ⟨vv,rfl,T1,hb1⟩
 obtain⟨ro,rc,rfl⟩:=owns_slice T1
 have hLB:Hid (L≤w1.heap.size):=Nat.le_trans hLW hb1.size
 have hrc:=reach_any B L vb sb db cao ccap ps p h ⟨List.replicate p.ins.length none,List.replicate p.ins.length false⟩ 0 w1 0 false ⟨firstT p,[]⟩ ro none rc 0 X.V X.hz (HV0.out.below hb1) (Nat.zero_le _) hLB.out X.fit.some ((RowI.of_owns T1).lower hLW) ⟨Nat.le_refl _,fun _=>rfl,fun a e=>(by cases e),fun i x hx=>(by simp at hx),fun b o e=>(by cases e)⟩ X.hBL (fun t ht=>by rw [fresh_st] at ht;cases ht)
 have hre:reachF ⟨List.replicate p.ins.length none,List.replicate p.ins.length false⟩ 0 ⟨firstT p,[]⟩=some (startC p):=by unfold reachF;rw [fresh_st];rfl
 rw [hre] at hrc
 unfold ReachPost at hrc
 dsimp only [List.length_nil] at hrc
 rw [show ((0:Nat):Int)=0 from rfl] at hrc
 have HRC:Hid (∀_:Unit,_):=fun _=>hrc
 have HB1:Hid (Below w0.heap.size w0 w1):=hb0.trans (hb1.mono hb0.size)
 clear hrc hre p0 PB HFT T1 hb1 HV0 hb0 hLW
 go_wp2_with fail
 refine (HRC.out ()).mono ?_
 rintro e w2 ⟨⟨rfl,l2,hl2,H2⟩,hO2⟩
 have HB2:Hid (Below w0.heap.size w0 w2):=HB1.out.trans (by have:=hO2.below;rw [X.hB] at this;exact this)
 have hL2:Hid (L≤w2.heap.size):=Nat.le_trans hLB.out hO2.size
 have HNX:Hid (∀_:Unit,_):=fun _=>next_any B L vb sb db cao ccap ps p h (startC p) l2 w2 X.V X.hz H2 hl2
 clear HRC HB1 hLB hO2 H2
 go_wp2_with fail
 refine HK3.out _ _ ?_
 clear HK3
 refine wp_seq_k ?_
 intro K4 hK4
 have HK4:Hid _:=hK4
 clear hK4
 refine wp_seq_k ?_
 intro K5 hK5
 have HK5:Hid _:=hK5
 clear hK5
 go_wp2_with fail
 refine (HNX.out ()).mono ?_
 rintro e w4 ⟨⟨l4,hl4,hN4⟩,hO4⟩
 have HB4:Hid (Below w0.heap.size w0 w4):=HB2.out.trans (by have:=hO4.below;rw [X.hB] at this;exact this)
 have HL4:Hid (L≤w4.heap.size):=Nat.le_trans hL2.out hO4.size
 clear HNX HB2 hL2 hO4
 rcases hN4 with ⟨h1,rfl,h3⟩ | ⟨h1,rfl,h3⟩
 all_goals
  have HNS:Hid (∃y,y=_∧NxSt L vb sb db cao ccap ps p h (startC p) y w4):=⟨_,rfl,l4,hl4,by first | exact .inl ⟨h1,rfl,h3⟩ | exact .inr ⟨h1,rfl,h3⟩⟩
  clear h1 h3
  go_wp2_with fail
  refine HK5.out _ _ ?_
  clear HK5
  refine wp_block ?_
  obtain⟨_,rfl,hns⟩:=HNS.out
  refine vf_loop w0 B L vb sb db cao ccap ps p h pi w w4 _ _ _ _ _ _ _ _ _ _ _ _ _ _ _ _ _ _ _ _ _ _ _ _ _ _ _ _ _ _ _ _ _ _ _ _ _ _ _ _ _ _ _ _ _ _ _ _ _ _ _ _ _ _ _ _ _ _ _ (fun a' w' hb=>HQ.out a' w' hb) ?_ X hL0 HL4.out hns HB4.out hw0 FL HV.out HU.out HUL.out
  intro u4 u8 u9 u35 u36 u37 u38 u39 u40 u41 u42 u43 u44 u45 u46 u47 c l w5 hwo H5 hb5
  refine inb_exit ?_
  refine HK4.out _ _ ?_
  exact vf_end w0 B L vb sb db cao ccap ps p h c l pi w w5 _ _ _ _ _ _ _ _ _ _ _ _ _ _ _ _ _ _ _ _ _ _ _ _ _ _ _ _ _ _ _ _ _ _ _ _ _ _ _ _ _ _ _ _ _ _ _ _ _ _ _ _ _ _ _ _ _ _ _ (fun a' w' hb=>HQ.out a' w' hb) X H5 hb5 (hw0.trans (hb5.mono hw0.size)) (FL.later hb5) hwo
set_option maxRecDepth 1000000 in
set_option maxHeartbeats 8000000 in
theorem verify_any (cao:Option Addr) (ccap:Nat) (ps:List Pd) (pi:Nat) (p:Pd) (w:World) (hpk:ps[pi]?=some p) (hp:PFit ps.length p) (hz:p.ins.length≤6000) (hpl:ps.length≤1048576)
  (hu:∀n ∈ p.ins,∀u ∈ fnUps ps n,u.loc=true→0≤u.idx∧u.idx<p.regs) (hfi:Fine ps) (hF:Forms w) (hv:ProtosAt 0 w cao ps) :
  Calls Tryz.prog 25 #[.agg #[.slice cao ps.length ccap],.int .i64 pi] w (WkPost w ps p pi):=by
 have hlt:pi<ps.length:=(List.getElem?_eq_some_iff.1 hpk).1
 have HV:Hid (ProtosAt 0 w cao ps):=hv
 obtain⟨cb,co,rfl,_,hcl,h,NN,PI⟩:=hv pi p hpk
 obtain⟨N1,N2,N3,N4,N5,N6,N7,N8,N9⟩:=NN
 have hmk:=run_make_k (P:=Tryz.prog) 45 98 _ 3 56 Tryz.underlying45 Tryz.info_State .i64 .i64 p.ins.length (by omega) (by omega)
 have hmb:=run_make_k (P:=Tryz.prog) 91 4 _ 1 1 Tryz.underlying91 Tryz.info_bool .i64 .i64 p.ins.length (by omega) (by omega)
 simp only [Nat.mul_one] at hmb
 have HP:Hid _:=hp
 have HU:Hid _:=hu
 have HFM0:Hid _:=hF
 have HPK:Hid _:=hpk
 have k1:(pi:Int)<ps.length:=by omega
 have C0:=((Blk.new w #[.slice (some ⟨cb,co,none⟩) ps.length ccap] 31).alloc (.cells #[.int .i64 0,.int .i64 0,.int .i64 0] 27))
 have CB:=C0.alloc (.cells #[.string p.name,.int .i64 p.line,.int .i64 p.params,.bool p.rest,.int .i64 p.regs,.slice h.uo p.ups.length h.uc,.slice h.co p.consts.length h.cc,.slice h.io p.ins.length h.ic,.slice h.no p.named.length h.nc] 57)
 have FL:=(Blk.new (w.alloc (.cells #[.slice (some ⟨cb,co,none⟩) ps.length ccap] 31)) #[.int .i64 0,.int .i64 0,.int .i64 0] 27).alloc (.cells #[.string p.name,.int .i64 p.line,.int .i64 p.params,.bool p.rest,.int .i64 p.regs,.slice h.uo p.ups.length h.uc,.slice h.co p.consts.length h.cc,.slice h.io p.ins.length h.ic,.slice h.no p.named.length h.nc] 57)
 have PB:=Blk.new ((w.alloc (.cells #[.slice (some ⟨cb,co,none⟩) ps.length ccap] 31)).alloc (.cells #[.int .i64 0,.int .i64 0,.int .i64 0] 27)) #[.string p.name,.int .i64 p.line,.int .i64 p.params,.bool p.rest,.int .i64 p.regs,.slice h.uo p.ups.length h.uc,.slice h.co p.consts.length h.cc,.slice h.io p.ins.length h.ic,.slice h.no p.named.length h.nc] 57
 have hw0:Below w.heap.size w (((w.alloc (.cells #[.slice (some ⟨cb,co,none⟩) ps.length ccap] 31)).alloc (.cells #[.int .i64 0,.int .i64 0,.int .i64 0] 27)).alloc (.cells #[.string p.name,.int .i64 p.line,.int .i64 p.params,.bool p.rest,.int .i64 p.regs,.slice h.uo p.ups.length h.uc,.slice h.co p.consts.length h.cc,.slice h.io p.ins.length h.ic,.slice h.no p.named.length h.nc] 57)):=below_al (below_al (below_al (Below.refl _ _) _) _) _
 simp only [nblk_alloc] at FL PB
 have HIN:Hid (InssAt 0 (((w.alloc (.cells #[.slice (some ⟨cb,co,none⟩) ps.length ccap] 31)).alloc (.cells #[.int .i64 0,.int .i64 0,.int .i64 0] 27)).alloc (.cells #[.string p.name,.int .i64 p.line,.int .i64 p.params,.bool p.rest,.int .i64 p.regs,.slice h.uo p.ups.length h.uc,.slice h.co p.consts.length h.cc,.slice h.io p.ins.length h.ic,.slice h.no p.named.length h.nc] 57)) h.io p.ins):=PI.ins.later (Keeps.of_below hw0)
 have HV0:Hid (ProtosAt 0 (((w.alloc (.cells #[.slice (some ⟨cb,co,none⟩) ps.length ccap] 31)).alloc (.cells #[.int .i64 0,.int .i64 0,.int .i64 0] 27)).alloc (.cells #[.string p.name,.int .i64 p.line,.int .i64 p.params,.bool p.rest,.int .i64 p.regs,.slice h.uo p.ups.length h.uc,.slice h.co p.consts.length h.cc,.slice h.io p.ins.length h.ic,.slice h.no p.named.length h.nc] 57)) (some ⟨cb,co,none⟩) ps):=HV.out.later (Keeps.of_below hw0)
 have HFM:Hid (Forms (((w.alloc (.cells #[.slice (some ⟨cb,co,none⟩) ps.length ccap] 31)).alloc (.cells #[.int .i64 0,.int .i64 0,.int .i64 0] 27)).alloc (.cells #[.string p.name,.int .i64 p.line,.int .i64 p.params,.bool p.rest,.int .i64 p.regs,.slice h.uo p.ups.length h.uc,.slice h.co p.consts.length h.cc,.slice h.io p.ins.length h.ic,.slice h.no p.named.length h.nc] 57))):=HFM0.out.later hw0
 clear hp hu hF hv hpk PI HV HFM0
 go_enter Tryz.func25,Tryz.ntmps25
 refine wp_seq_k ?_
 intro K0 hK0
 have HK0:Hid _:=hK0
 clear hK0
 go_wp2_with fail
 refine HK0.out _ _ ?_
 clear HK0
 refine wp_seq_k ?_
 intro K1 hK1
 have HK1:Hid _:=hK1
 clear hK1
 have c0:=C0.cell 0
 go_wp2_with fail
 refine HK1.out _ _ ?_
 clear HK1 c0 C0 N1 N2 N3 N4 N5 N6 N7 N8 N9
 generalize ((w.alloc (.cells #[.slice (some ⟨cb,co,none⟩) ps.length ccap] 31)).alloc (.cells #[.int .i64 0,.int .i64 0,.int .i64 0] 27)).alloc (.cells #[.string p.name,.int .i64 p.line,.int .i64 p.params,.bool p.rest,.int .i64 p.regs,.slice h.uo p.ups.length h.uc,.slice h.co p.consts.length h.cc,.slice h.io p.ins.length h.ic,.slice h.no p.named.length h.nc] 57)=w0 at *
 refine wp_seq_k ?_
 intro K2 hK2
 have HK2:Hid _:=hK2
 clear hK2
 have c0:=CB.cell 0
 have p0:=PB.cell
 go_region_held3 (fun w'=>w'.cell? ⟨w.heap.size,0,none⟩=some (.slice (some ⟨cb,co,none⟩) ps.length ccap)∧w'.cell? ⟨w.heap.size+1+1,0,none⟩=some (.string p.name)∧w'.cell? ⟨w.heap.size+1+1,1,none⟩=some (.int .i64 p.line)∧w'.cell? ⟨w.heap.size+1+1,2,none⟩=some (.int .i64 p.params)∧w'.cell? ⟨w.heap.size+1+1,3,none⟩=some (.bool p.rest)∧w'.cell? ⟨w.heap.size+1+1,4,none⟩=some (.int .i64 p.regs)∧w'.cell? ⟨w.heap.size+1+1,5,none⟩=some (.slice h.uo p.ups.length h.uc)∧w'.cell? ⟨w.heap.size+1+1,6,none⟩=some (.slice h.co p.consts.length h.cc)∧w'.cell? ⟨w.heap.size+1+1,7,none⟩=some (.slice h.io p.ins.length h.ic)∧w'.cell? ⟨w.heap.size+1+1,8,none⟩=some (.slice h.no p.named.length h.nc)) (first | exact ⟨c0,p0 0,p0 1,p0 2,p0 3,p0 4,p0 5,p0 6,p0 7,p0 8⟩ | exact ⟨(CB.alloc _).cell 0,(PB.alloc _).cell 0,(PB.alloc _).cell 1,(PB.alloc _).cell 2,(PB.alloc _).cell 3,(PB.alloc _).cell 4,(PB.alloc _).cell 5,(PB.alloc _).cell 6,(PB.alloc _).cell 7,(PB.alloc _).cell 8⟩ | exact ⟨((CB.alloc _).alloc _).cell 0,((PB.alloc _).alloc _).cell 0,((PB.alloc _).alloc _).cell 1,((PB.alloc _).alloc _).cell 2,((PB.alloc _).alloc _).cell 3,((PB.alloc _).alloc _).cell 4,((PB.alloc _).alloc _).cell 5,((PB.alloc _).alloc _).cell 6,((PB.alloc _).alloc _).cell 7,((PB.alloc _).alloc _).cell 8⟩ | exact ⟨(((CB.alloc _).alloc _).alloc _).cell 0,(((PB.alloc _).alloc _).alloc _).cell 0,(((PB.alloc _).alloc _).alloc _).cell 1,(((PB.alloc _).alloc _).alloc _).cell 2,(((PB.alloc _).alloc _).alloc _).cell 3,(((PB.alloc _).alloc _).alloc _).cell 4,(((PB.alloc _).alloc _).alloc _).cell 5,(((PB.alloc _).alloc _).alloc _).cell 6,(((PB.alloc _).alloc _).alloc _).cell 7,(((PB.alloc _).alloc _).alloc _).cell 8⟩ | (go_keep;done)) (fail)
 ·go_wp2_with fail
  refine HK2.out _ _ ?_
  have hal:Below w0.heap.size w0 (((w0.alloc (.cells (madeCells #[.bool false,.slice none 0 0,.slice none 0 0] (p.ins.length*3)) 98)).alloc (.cells (madeCells #[.bool false] p.ins.length) 4)).alloc (.cells #[.slice (some ⟨cb,co,none⟩) ps.length ccap,.string p.name,.int .i64 p.line,.int .i64 p.params,.bool p.rest,.int .i64 p.regs,.slice h.uo p.ups.length h.uc,.slice h.co p.consts.length h.cc,.slice h.io p.ins.length h.ic,.slice h.no p.named.length h.nc,.slice (some ⟨w0.heap.size,0,none⟩) p.ins.length p.ins.length,.slice (some ⟨w0.heap.size+1,0,none⟩) p.ins.length p.ins.length,.int .i64 0] 120)).drew:=(below_al (below_al (below_al (Below.refl _ _) _) _) _).drew
  have VFA:VfAt (w0.heap.size+3) (w0.heap.size+1+1) (w0.heap.size) (w0.heap.size+1) (some ⟨cb,co,none⟩) ccap ps p h (((w0.alloc (.cells (madeCells #[.bool false,.slice none 0 0,.slice none 0 0] (p.ins.length*3)) 98)).alloc (.cells (madeCells #[.bool false] p.ins.length) 4)).alloc (.cells #[.slice (some ⟨cb,co,none⟩) ps.length ccap,.string p.name,.int .i64 p.line,.int .i64 p.params,.bool p.rest,.int .i64 p.regs,.slice h.uo p.ups.length h.uc,.slice h.co p.consts.length h.cc,.slice h.io p.ins.length h.ic,.slice h.no p.named.length h.nc,.slice (some ⟨w0.heap.size,0,none⟩) p.ins.length p.ins.length,.slice (some ⟨w0.heap.size+1,0,none⟩) p.ins.length p.ins.length,.int .i64 0] 120)).drew ⟨List.replicate p.ins.length none,List.replicate p.ins.length false⟩ 0:=by
   refine⟨?_,?_,?_,fun j hj=>absurd hj (Nat.not_lt_zero _),by simp,by simp⟩
   ·have:=Blk.new ((w0.alloc (.cells (madeCells #[.bool false,.slice none 0 0,.slice none 0 0] (p.ins.length*3)) 98)).alloc (.cells (madeCells #[.bool false] p.ins.length) 4)) #[.slice (some ⟨cb,co,none⟩) ps.length ccap,.string p.name,.int .i64 p.line,.int .i64 p.params,.bool p.rest,.int .i64 p.regs,.slice h.uo p.ups.length h.uc,.slice h.co p.consts.length h.cc,.slice h.io p.ins.length h.ic,.slice h.no p.named.length h.nc,.slice (some ⟨w0.heap.size,0,none⟩) p.ins.length p.ins.length,.slice (some ⟨w0.heap.size+1,0,none⟩) p.ins.length p.ins.length,.int .i64 0] 120
    simp only [nblk_alloc] at this
    exact this
   ·exact sti_later2 (sti_made w0 p.ins.length) (below_al (below_al (Below.refl _ _) _) _).drew _
   ·have:=(made_blk (w0.alloc (.cells (madeCells #[.bool false,.slice none 0 0,.slice none 0 0] (p.ins.length*3)) 98)) p.ins.length).alloc (.cells #[.slice (some ⟨cb,co,none⟩) ps.length ccap,.string p.name,.int .i64 p.line,.int .i64 p.params,.bool p.rest,.int .i64 p.regs,.slice h.uo p.ups.length h.uc,.slice h.co p.consts.length h.cc,.slice h.io p.ins.length h.ic,.slice h.no p.named.length h.nc,.slice (some ⟨w0.heap.size,0,none⟩) p.ins.length p.ins.length,.slice (some ⟨w0.heap.size+1,0,none⟩) p.ins.length p.ins.length,.int .i64 0] 120);simp only [nblk_alloc] at this;exact this
  have XX:Vctx w0 w0.heap.size (w0.heap.size+3) (w0.heap.size+1+1) (w0.heap.size) (w0.heap.size+1) ps p h:=⟨⟨by omega,by omega,by omega,by omega,by omega,by omega,by omega,by omega,by omega⟩,rfl,by omega,hz,HP.out,hfi.few p (List.mem_of_getElem? HPK.out),hpl,HIN.out,HFM.out⟩
  exact vf_rest w0 w0.heap.size (w0.heap.size+3) (w0.heap.size+1+1) (w0.heap.size) (w0.heap.size+1) (some ⟨cb,co,none⟩) ccap ps p h pi w _ _ _ _ _ _ _ _ _ _ _ _ _ _ _ _ _ _ _ _ _ _ _ _ _ _ _ _ _ _ _ _ _ _ _ _ _ _ _ _ _ _ _ _ _ _ _ _ _ _ _ _ _ _ _ _ _ _ _ (fun a' w' hb=>hb) XX rfl (by show _≤_;simp) VFA hal hw0 FL (PB.later hal) HV0.out HU.out (fnUps_few hfi.few)
 ·go_wp2_with fail
  refine HK2.out _ _ ?_
  have hal:Below w0.heap.size w0 (((w0.alloc (.cells (madeCells #[.bool false] p.ins.length) 4)).alloc (.cells (madeCells #[.bool false,.slice none 0 0,.slice none 0 0] (p.ins.length*3)) 98)).alloc (.cells #[.slice (some ⟨cb,co,none⟩) ps.length ccap,.string p.name,.int .i64 p.line,.int .i64 p.params,.bool p.rest,.int .i64 p.regs,.slice h.uo p.ups.length h.uc,.slice h.co p.consts.length h.cc,.slice h.io p.ins.length h.ic,.slice h.no p.named.length h.nc,.slice (some ⟨w0.heap.size+1,0,none⟩) p.ins.length p.ins.length,.slice (some ⟨w0.heap.size,0,none⟩) p.ins.length p.ins.length,.int .i64 0] 120)).drew:=(below_al (below_al (below_al (Below.refl _ _) _) _) _).drew
  have VFA:VfAt (w0.heap.size+3) (w0.heap.size+1+1) (w0.heap.size+1) (w0.heap.size) (some ⟨cb,co,none⟩) ccap ps p h (((w0.alloc (.cells (madeCells #[.bool false] p.ins.length) 4)).alloc (.cells (madeCells #[.bool false,.slice none 0 0,.slice none 0 0] (p.ins.length*3)) 98)).alloc (.cells #[.slice (some ⟨cb,co,none⟩) ps.length ccap,.string p.name,.int .i64 p.line,.int .i64 p.params,.bool p.rest,.int .i64 p.regs,.slice h.uo p.ups.length h.uc,.slice h.co p.consts.length h.cc,.slice h.io p.ins.length h.ic,.slice h.no p.named.length h.nc,.slice (some ⟨w0.heap.size+1,0,none⟩) p.ins.length p.ins.length,.slice (some ⟨w0.heap.size,0,none⟩) p.ins.length p.ins.length,.int .i64 0] 120)).drew ⟨List.replicate p.ins.length none,List.replicate p.ins.length false⟩ 0:=by
   refine⟨?_,?_,?_,fun j hj=>absurd hj (Nat.not_lt_zero _),by simp,by simp⟩
   ·have:=Blk.new ((w0.alloc (.cells (madeCells #[.bool false] p.ins.length) 4)).alloc (.cells (madeCells #[.bool false,.slice none 0 0,.slice none 0 0] (p.ins.length*3)) 98)) #[.slice (some ⟨cb,co,none⟩) ps.length ccap,.string p.name,.int .i64 p.line,.int .i64 p.params,.bool p.rest,.int .i64 p.regs,.slice h.uo p.ups.length h.uc,.slice h.co p.consts.length h.cc,.slice h.io p.ins.length h.ic,.slice h.no p.named.length h.nc,.slice (some ⟨w0.heap.size+1,0,none⟩) p.ins.length p.ins.length,.slice (some ⟨w0.heap.size,0,none⟩) p.ins.length p.ins.length,.int .i64 0] 120
    simp only [nblk_alloc] at this
    exact this
   ·have:=sti_later2 (sti_made (w0.alloc (.cells (madeCells #[.bool false] p.ins.length) 4)) p.ins.length) (below_al (Below.refl _ _) (.cells #[.slice (some ⟨cb,co,none⟩) ps.length ccap,.string p.name,.int .i64 p.line,.int .i64 p.params,.bool p.rest,.int .i64 p.regs,.slice h.uo p.ups.length h.uc,.slice h.co p.consts.length h.cc,.slice h.io p.ins.length h.ic,.slice h.no p.named.length h.nc,.slice (some ⟨w0.heap.size+1,0,none⟩) p.ins.length p.ins.length,.slice (some ⟨w0.heap.size,0,none⟩) p.ins.length p.ins.length,.int .i64 0] 120)).drew;simp only [nblk_alloc] at this;exact this _
   ·exact ((made_blk w0 p.ins.length).alloc _).alloc _
  have XX:Vctx w0 w0.heap.size (w0.heap.size+3) (w0.heap.size+1+1) (w0.heap.size+1) (w0.heap.size) ps p h:=⟨⟨by omega,by omega,by omega,by omega,by omega,by omega,by omega,by omega,by omega⟩,rfl,by omega,hz,HP.out,hfi.few p (List.mem_of_getElem? HPK.out),hpl,HIN.out,HFM.out⟩
  exact vf_rest w0 w0.heap.size (w0.heap.size+3) (w0.heap.size+1+1) (w0.heap.size+1) (w0.heap.size) (some ⟨cb,co,none⟩) ccap ps p h pi w _ _ _ _ _ _ _ _ _ _ _ _ _ _ _ _ _ _ _ _ _ _ _ _ _ _ _ _ _ _ _ _ _ _ _ _ _ _ _ _ _ _ _ _ _ _ _ _ _ _ _ _ _ _ _ _ _ _ _ (fun a' w' hb=>hb) XX rfl (by show _≤_;simp) VFA hal hw0 FL (PB.later hal) HV0.out HU.out (fnUps_few hfi.few)
set_option maxRecDepth 100000 in
set_option maxHeartbeats 8000000 in
theorem implCheckCode_any (ao:Option Addr) (cap:Nat) (ps:List Pd) (w:World) (hfi:Fine ps) (hF:Forms w) (hv:ProtosAt 0 w ao ps) :
  Calls Tryz.prog 9 #[.agg #[.slice ao ps.length cap]] w fun e w'=>e=.returned (faultV (checkF ps))∧Below w.heap.size w w':=by
 have hl:ps.length≤1048576:=by have:=hfi.bulk;unfold bulkPs at this;omega
 have C0:=(Blk.new w #[.slice ao ps.length cap] 31).alloc (.cells #[.int .i64 0,.int .i64 0,.int .i64 0] 27)
 have R0:=Blk.new (w.alloc (.cells #[.slice ao ps.length cap] 31)) #[.int .i64 0,.int .i64 0,.int .i64 0] 27
 have B0:Below w.heap.size w ((w.alloc (.cells #[.slice ao ps.length cap] 31)).alloc (.cells #[.int .i64 0,.int .i64 0,.int .i64 0] 27)):=((Below.refl _ _).alloc (Nat.le_refl _) _).alloc (by simp) _
 simp only [nblk_alloc] at R0
 have HFI:Hid _:=hfi
 have HV:Hid (ProtosAt 0 w ao ps):=hv
 have HFM:Hid _:=hF
 clear hF
 have HCK:Hid (checkF ps=if (shapeF ps).1=0 then verL ps 0 ps else shapeF ps):=rfl
 have HSH:Hid (∀W,Below w.heap.size w W→Calls Tryz.prog 24 #[.agg #[.slice ao ps.length cap]] W fun e w'=>e=.returned (.agg #[.int .i64 (shapeF ps).1,.int .i64 (shapeF ps).2.1,.int .i64 (shapeF ps).2.2])∧Below W.heap.size W w'):=fun W hb=>checkShape_any ao cap ps W HFI.out (HFM.out.later hb) (HV.out.later (Keeps.of_below hb))
 obtain⟨⟨s0,s1,s2⟩,hs⟩:∃s,s=shapeF ps:=⟨_,rfl⟩
 have HS:Hid _:=hs
 rw [←hs] at HSH HCK
 dsimp only at HSH HCK
 clear hs hfi hv
 go_enter Tryz.func9,Tryz.ntmps9
 have c0:=C0.cell 0
 go_wp2_with fail
 clear c0
 generalize (w.alloc (.cells #[.slice ao ps.length cap] 31)).alloc (.cells #[.int .i64 0,.int .i64 0,.int .i64 0] 27)=w0 at *
 refine (HSH.out w0 B0).mono ?_
 rintro e w1 ⟨rfl,hw1⟩
 have C1:=C0.later hw1
 have R1:=R0.later hw1
 have B1:=B0.trans (hw1.mono B0.size)
 clear C0 R0 B0 hw1 HSH
 have A1:=fun o=>(Below.refl w1.heap.size w1).alloc (Nat.le_refl _) o
 have X1:=Blk.new w1 #[.int .i64 s0,.int .i64 s1,.int .i64 s2] 27
 by_cases h0:s0=0
 ·subst h0
  have HCK2:Hid (checkF ps=verL ps 0 ps):=by have:=HCK.out;rw [if_pos rfl] at this;exact this
  have HFT:Hid (∀p ∈ ps,Fits ps p):=shape_fits (by have:=HS.out;rw [←this])
  have C2:=C1.later (A1 (.cells #[.int .i64 0,.int .i64 s1,.int .i64 s2] 27))
  have R2:=R1.later (A1 (.cells #[.int .i64 0,.int .i64 s1,.int .i64 s2] 27))
  have B2:=B1.trans ((A1 (.cells #[.int .i64 0,.int .i64 s1,.int .i64 s2] 27)).mono B1.size)
  have c2:=C2.cell 0
  clear HCK HS C1 R1 B1 A1
  go_wp2_with fail
  generalize w1.alloc (.cells #[.int .i64 0,.int .i64 s1,.int .i64 s2] 27)=w2 at *
  clear c2 X1
  go_loopg [16] (ps.length+1) (fun g y wr=>∃k:Nat,k≤ps.length∧y=.int .i64 k∧Hid (verL ps k (ps.drop k)=verL ps 0 ps)∧Hid (ps.length+1 - k≤g)∧Below w.heap.size w wr∧Blk wr w.heap.size #[.slice ao ps.length cap] 31∧Blk wr (w.heap.size+1) #[.int .i64 0,.int .i64 0,.int .i64 0] 27)
  case atStart=>exact ⟨0,Nat.zero_le _,rfl,rfl,Nat.le_refl _,B2,C2,R2⟩
  case round=>
   obtain⟨k,hk,rfl,HQ,HG,B3,C3,R3⟩:=hrel
   clear B2 C2 R2
   by_cases hkl:k<ps.length
   ·obtain⟨p,hp⟩:=some_of_lt hkl
    have HF:Hid (Fits ps p):=HFT.out p (List.mem_of_getElem? hp)
    have HQ2:Hid (verL ps 0 ps=if (verF ps p k).1=0 then verL ps (k+1) (ps.drop (k+1)) else verF ps p k):=HQ.out.symm.trans (verL_drop hp)
    have HG2:Hid (ps.length+1 - (k+1)≤gk - 1∧gk - 1<gk):=by have:=HG.out;show _∧_;omega
    have HWK:Hid (∀_:Unit,_):=fun _=>verify_any ao cap ps k p wr hp HF.out.fit HF.out.few hl HF.out.ups HFI.out (HFM.out.later B3) (HV.out.later (Keeps.of_below B3))
    have c3:=C3.cell 0
    have k1:(k:Int)<ps.length:=by omega
    clear hp HQ HG
    go_wp2_with fail
    refine (HWK.out ()).mono ?_
    unfold WkPost faultV
    rintro e w4 ⟨⟨v,rfl⟩,hw4⟩
    have C4:=C3.later hw4
    have R4:=R3.later hw4
    have B4:=B3.trans (hw4.mono B3.size)
    obtain⟨⟨f0,f1,f2⟩,hf⟩:∃f,f=verF ps p k:=⟨_,rfl⟩
    rw [←hf] at HQ2 ⊢
    dsimp only at HQ2 ⊢
    clear hf HWK C3 R3 B3 hw4 c3
    have X4:=Blk.new w4 #[.int .i64 f0,.int .i64 f1,.int .i64 f2] 27
    have A4:=(Below.refl w4.heap.size w4).alloc (Nat.le_refl _) (.cells #[.int .i64 f0,.int .i64 f1,.int .i64 f2] 27)
    have C5:=C4.later A4
    have R5:=R4.later A4
    have B5:=B4.trans (A4.mono B4.size)
    by_cases hf0:f0=0
    ·subst hf0
     have HQ3:Hid (verL ps (k+1) (ps.drop (k+1))=verL ps 0 ps):=by have:=HQ2.out;rw [if_pos rfl] at this;exact this.symm
     clear HQ2
     go_wp2_with fail
     go_roundg (gk - 1)
     case measure=>exact HG2.out.2
     case rel=>exact ⟨k+1,by omega,by go_num,HQ3.out,HG2.out.1,B5,C5,R5⟩
    ·have HQ3:Hid (checkF ps=(f0,f1,f2)):=by have:=HQ2.out;rw [if_neg hf0] at this;exact HCK2.out.trans this
     have kf:(f0 != 0)=true:=by simpa using hf0
     have r5:=R5.cell
     have z5:=R5.frozen
     have hne:¬w4.heap.size=w.heap.size+1:=by have:=R4.lt;omega
     clear HQ2 hf0
     go_wp2_with fail
     refine bodyPost_ret (v:=.agg #[.int .i64 f0,.int .i64 f1,.int .i64 f2]) ?_ rfl ⟨?_,?_⟩
     ·simp [results,Tryz.results9,go_sem,r5]
     ·rw [HQ3.out];rfl
     ·iterate 3 (refine Below.setCell ?_ (by simp) _)
      exact B5
   ·obtain rfl:k=ps.length:=by omega
    have HQ3:Hid (checkF ps=(0,0,0)):=by
     show _=_
     rw [HCK2.out,←HQ.out,List.drop_length]
     rfl
    have r3:=R3.cell
    have z3:=R3.frozen
    have k1:¬(ps.length:Int)<ps.length:=by omega
    clear HQ HG
    go_wp2_with fail
    refine bodyPost_ret (v:=.agg #[.int .i64 0,.int .i64 0,.int .i64 0]) ?_ rfl ⟨?_,?_⟩
    ·simp [results,Tryz.results9,go_sem,r3]
    ·rw [HQ3.out];rfl
    ·iterate 3 (refine Below.setCell ?_ (by simp) _)
     exact B3
 ·have HCK2:Hid (checkF ps=(s0,s1,s2)):=by have:=HCK.out;rw [if_neg h0] at this;exact this
  have kf:(s0 != 0)=true:=by simpa using h0
  have R2:=R1.later (A1 (.cells #[.int .i64 s0,.int .i64 s1,.int .i64 s2] 27))
  have B2:=B1.trans ((A1 (.cells #[.int .i64 s0,.int .i64 s1,.int .i64 s2] 27)).mono B1.size)
  have r2:=R2.cell
  have z2:=R2.frozen
  have hne:¬w1.heap.size=w.heap.size+1:=by have:=R1.lt;omega
  clear HCK HS h0 A1
  go_wp2_with fail
  refine bodyPost_ret (v:=.agg #[.int .i64 s0,.int .i64 s1,.int .i64 s2]) ?_ rfl ⟨?_,?_⟩
  ·simp [results,Tryz.results9,go_sem,r2]
  ·rw [HCK2.out];rfl
  ·iterate 3 (refine Below.setCell ?_ (by simp) _)
   exact B2
end Go.Proofs.YtaakadmnhpboiaaGreatDoor
