import Derived.Test.YtaakadmnhpboiaaGreatDoorD01
import Derived.Test.YtaakadmnhpboiaaGreatDoorD03
import Derived.Test.YtaakadmnhpboiaaGreatDoorD04
import Derived.Test.YtaakadmnhpboiaaGreatDoorCards
import Derived.Test.YtaakadmnhpboiaaGreatDoorTie
import Derived.WalkKit
import Derived.ProofKit
import Derived.OpenShut
import Derived.OpenVars
import Derived.Deep.DeepHandedRow
import Derived.Lib.LaidTab
namespace Go.Proofs.YtaakadmnhpboiaaGreatDoor
open Go.ChangeShapes Go.WideShapes Go.ChangeAt Go.RowKit
theorem Tryz.own:ownKnob Tryz.prog.godebug=none:=by kernel_rfl
theorem Tryz.laidOut:laidOutB Tryz.prog=true:=all_laid
theorem gForms : Tryz.prog.globalNamed "loop.example/loom/impl.forms" = some 1 := by kernel_rfl
theorem gFormsType:(Tryz.prog.globals[1]?).map (·.type)=some 221:=by kernel_rfl
theorem cells1_role:Tryz.prog.cellsOf 218=1:=by kernel_rfl
theorem cells_form:Tryz.prog.cellsOf 220=4:=by kernel_rfl
theorem cells_forms:Tryz.prog.cellsOf 221=172:=by kernel_rfl
theorem cells1_protos:Tryz.prog.cellsOf 22=1:=by kernel_rfl
theorem cells_code:Tryz.prog.cellsOf 24=1:=by kernel_rfl
def rowD {H:Type} (r:List Nat):DataW H:=.agg (r.map fun (z:Nat)=>.lit (.int .i64 z))
theorem laid_rows {H:Type} : (Rows.laid_loop_example_loom_impl_forms:DataW H)=.agg (formTab.map rowD):=by kernel_rfl
set_option maxRecDepth 100000 in
theorem forms_of {W:World} {fuel:Nat} {cs:List Value} {p:List MemPlace} (h:DataW.trod (fun _=>()) Tryz.prog W 0 (fun _=>true) false fuel 221 cs=some (Rows.laid_loop_example_loom_impl_forms,p)) (op j r:Nat) (hr:(formOf op)[j]?=some r) :
  cs[op*4+j]?=some (.int .i64 r):=by
 rw [laid_rows] at h
 cases fuel with
 | zero=>simp [DataW.trod] at h
 | succ fuel=>
  simp only [DataW.trod,Tryz.underlying221,cells_form,cells_forms] at h
  split at h
  ·obtain⟨xs,hm,hx⟩:=Option.map_eq_some_iff.1 h
   have hxs:xs.map (·.1)=formTab.map rowD:=by
    have h1:=congrArg Prod.fst hx
    exact DataW.agg.inj h1
   have hop:op<43:=by
    apply Classical.byContradiction
    intro hc
    have hlen:formTab.length=43:=rfl
    have h0:formOf op=[]:=by unfold formOf;rw [List.getD_eq_getElem?_getD,List.getElem?_eq_none (by omega)];rfl
    rw [h0] at hr
    simp at hr
   obtain⟨b,hb,hf⟩:=Lib.mapM_at hm op op (by simp [hop])
   have hft:formTab[op]?=some (formOf op):=by
    unfold formOf
    have hlen:formTab.length=43:=rfl
    rw [List.getD_eq_getElem?_getD,List.getElem?_eq_getElem (by omega)]
    rfl
   have h2:b.1=rowD (formOf op):=by
    have h1:(xs.map (·.1))[op]?=some b.1:=by rw [List.getElem?_map,hb];rfl
    rw [hxs,List.getElem?_map,hft] at h1
    exact (Option.some.inj h1).symm
   obtain⟨r0,r1,r2,r3,hfo,_⟩:=form_four (n:=op) (by omega)
   obtain⟨ys,n,_,hy,_,hyl,hfld⟩:=DataW.trod_struct Tryz.underlying220 hf
   have h3:ys.map (·.1)=[r0,r1,r2,r3].map fun (z:Nat)=>(DataW.lit (.int .i64 z):DataW Unit):=by
    rw [hy,hfo] at h2
    exact DataW.agg.inj h2
   simp only [List.size_toArray,List.length_cons,List.length_nil] at hyl
   have f0:=hfld 0 _ rfl
   simp [cells1_role] at f0
   rw [List.getElem?_eq_getElem (by omega)] at f0
   obtain⟨z0,e0,y0,_⟩:=DataW.trod_int Tryz.underlying218 f0
   have k0:cs[op*4+0]?=some (.int .i64 z0):=by
    have h5:=congrArg (·[0]?) e0
    simpa [List.getElem?_take,List.getElem?_drop] using h5
   have l0:(ys.map (·.1))[0]?=some (.lit (.int .i64 z0)):=by
    rw [List.getElem?_map,List.getElem?_eq_getElem (by omega),y0];rfl
   rw [h3] at l0
   simp only [List.map_cons,List.map_nil,List.getElem?_cons_zero,Option.some.injEq,DataW.lit.injEq,Lit.int.injEq,true_and] at l0
   have f1:=hfld 1 _ rfl
   simp [cells1_role] at f1
   rw [List.getElem?_eq_getElem (by omega)] at f1
   obtain⟨z1,e1,y1,_⟩:=DataW.trod_int Tryz.underlying218 f1
   have k1:cs[op*4+1]?=some (.int .i64 z1):=by
    have h5:=congrArg (·[0]?) e1
    simpa [List.getElem?_take,List.getElem?_drop] using h5
   have l1:(ys.map (·.1))[1]?=some (.lit (.int .i64 z1)):=by
    rw [List.getElem?_map,List.getElem?_eq_getElem (by omega),y1];rfl
   rw [h3] at l1
   simp only [List.map_cons,List.map_nil,List.getElem?_cons_zero,List.getElem?_cons_succ,Option.some.injEq,DataW.lit.injEq,Lit.int.injEq,true_and] at l1
   have f2:=hfld 2 _ rfl
   simp [cells1_role] at f2
   rw [List.getElem?_eq_getElem (by omega)] at f2
   obtain⟨z2,e2,y2,_⟩:=DataW.trod_int Tryz.underlying218 f2
   have k2:cs[op*4+2]?=some (.int .i64 z2):=by
    have h5:=congrArg (·[0]?) e2
    simpa [List.getElem?_take,List.getElem?_drop] using h5
   have l2:(ys.map (·.1))[2]?=some (.lit (.int .i64 z2)):=by
    rw [List.getElem?_map,List.getElem?_eq_getElem (by omega),y2];rfl
   rw [h3] at l2
   simp only [List.map_cons,List.map_nil,List.getElem?_cons_zero,List.getElem?_cons_succ,Option.some.injEq,DataW.lit.injEq,Lit.int.injEq,true_and] at l2
   have f3:=hfld 3 _ rfl
   simp [cells1_role] at f3
   rw [List.getElem?_eq_getElem (by omega)] at f3
   obtain⟨z3,e3,y3,_⟩:=DataW.trod_int Tryz.underlying218 f3
   have k3:cs[op*4+3]?=some (.int .i64 z3):=by
    have h5:=congrArg (·[0]?) e3
    simpa [List.getElem?_take,List.getElem?_drop] using h5
   have l3:(ys.map (·.1))[3]?=some (.lit (.int .i64 z3)):=by
    rw [List.getElem?_map,List.getElem?_eq_getElem (by omega),y3];rfl
   rw [h3] at l3
   simp only [List.map_cons,List.map_nil,List.getElem?_cons_zero,List.getElem?_cons_succ,Option.some.injEq,DataW.lit.injEq,Lit.int.injEq,true_and] at l3
   rw [hfo] at hr
   match j,hr with
   | 0,hr=>simp at hr;rw [k0,←l0,hr]
   | 1,hr=>simp at hr;rw [k1,←l1,hr]
   | 2,hr=>simp at hr;rw [k2,←l2,hr]
   | 3,hr=>simp at hr;rw [k3,←l3,hr]
   | j+4,hr=>simp at hr
  ·cases h
theorem forms_at {W:World} (h:laidMetH Tryz.prog Rows.fnExactCheckCodeRow.laid W):Forms W:=by
 have h1 : laidMet Tryz.prog [("loop.example/loom/impl.forms", Rows.laid_loop_example_loom_impl_forms)] W := h
 obtain⟨_,⟨g,t,cs,fuel,p,q,hg,ht,hvar,htr,_⟩,_⟩:=h1
 obtain rfl:g=1:=(Option.some.inj (gForms.symm.trans hg)).symm
 obtain rfl:t=221:=(Option.some.inj (gFormsType.symm.trans ht)).symm
 have hc:∀(op j r:Nat),(formOf op)[j]?=some r→W.cell? ⟨1,op*4+j,none⟩=some (.int .i64 r):=fun op j r hr=>by
  rw [World.var?_cell gForms hvar,←Array.getElem?_toList]
  exact forms_of htr op j r hr
 exact⟨World.block_lt_of_cell? _ _ (hc 0 0 0 rfl),hc⟩
theorem array1 {α:Type} {cs:Array α} (h:cs.size=1):∃c0,cs=#[c0]:=by
 obtain⟨l⟩:=cs
 match l,h with
 | [c0],_=>exact ⟨c0,rfl⟩
set_option maxRecDepth 100000 in
theorem checkContract (H:Type) (enc:TypeId × Value→H) (W:World) (base:Nat) (args:Array Value) (ds gs:List (DataW H)) (before:List MemPlace)
  (hval0:∀(j:Nat) t v,Tryz.f3.params[j]?=some t→args[j]?=some v→Value.okWide Tryz.prog W .any base t v)
  (hW:DataW.Whole enc Tryz.prog Tryz.f3.params.toList Rows.fnExactCheckCodeSpec.vars false W args.toList ds gs before) (hL:laidMetH Tryz.prog Rows.fnExactCheckCodeRow.laid W) :
  Calls Tryz.prog 3 args W fun e W'=>∃v,e=.returned v∧Rows.fnExactCheckCodeSpec.post enc Tryz.prog Tryz.f3 false true false false W args v W':=by
 have hval:=hval0
 have hW':=hW
 obtain⟨p,q,hA0,hV,rfl,hfz,hnd⟩:=hW
 have hA:DataW.TrodAll enc Tryz.prog W 0 (fun _=>true) true Tryz.f3.params.toList args.toList ds p:=hA0
 rw [Tryz.params3] at hA hval
 obtain⟨v0,d0,rfl,rfl,h0⟩:=trodAll_one hA
 have hV1 : DataW.TrodVars enc Tryz.prog W (fun _ => true) ["loop.example/loom/impl.forms"] gs q := hV
 obtain⟨_,_,_,_,dv,_,rfl,_,_,_,_,_⟩:=trodVars_one hV1
 obtain⟨cs,rfl,hsz⟩:=okWide_struct Tryz.underlying24 (hval 0 24 v0 rfl rfl)
 obtain⟨x0,rfl⟩:=array1 (hsz.trans cells_code)
 have h0k:=h0
 obtain⟨fuel,hf⟩:=h0
 obtain⟨xs,n,_,hx,_,hlen,hfld⟩:=DataW.trod_struct Tryz.underlying24 hf
 clear hA0 hval0 hval
 have hlt:∀x ∈ p,x.block<W.heap.size:=fun x hx=>by simpa using hW'.lt x (List.mem_append_left _ hx)
 have f0:=hfld 0 _ rfl
 simp [Value.cells,cells1_protos] at f0
 simp only [List.size_toArray,List.length_cons,List.length_nil] at hlen
 rw [List.getElem?_eq_getElem (by omega)] at f0
 obtain⟨ao,cap,ps,rfl,hm,hg,hv⟩:=code_of f0
 clear hfld hf hx f0
 refine (checkLaw_any ao cap ps W hm hg (forms_at hL) hv).mono fun e W' ⟨he,hb⟩=>?_
 subst he
 refine⟨_,rfl,_,_,_,[],p,q,hW',?_,?_,?_,hb.frame _,fun h=>by cases h⟩
 ·exact trodAll_mk1 (shut_bool Tryz.underlying4 true)
 ·exact trodAll_mk1 (Below.trod Tryz.laidOut (by kernel_rfl) (of_decide_eq_true (by kernel_rfl)) h0k hb hlt)
 ·exact Below.trodVars Tryz.laidOut hb (by kernel_rfl) hV
noncomputable def laidWorld (os:Os):World:=
 {World.holding Tryz.prog os ⟨#[],#[],[]⟩ with heap:=(World.holding Tryz.prog os ⟨#[],#[],[]⟩).heap.modify 1 fun
   | .cells _ t frozen=>.cells (formTab.flatMap fun r=>r.map fun (z:Nat)=>Value.int .i64 z).toArray t frozen
   | o=>o}
theorem laid_met (os:Os):laidMet Tryz.prog Rows.fnExactCheckCodeRow.laid ((laidWorld os).forCall (fun _ _=>0) ⟨#[],#[.agg #[.slice none 0 0]],[]⟩).memory:=
 laidMet_of_run' 8 (by kernel_rfl) (by kernel_rfl)
theorem reads (os:Os) {H:Type} (enc:TypeId × Value→H):∃places,DataW.whole enc Tryz.prog ((laidWorld os).forCall (fun _ _=>0) ⟨#[],#[.agg #[.slice none 0 0]],[]⟩).memory Tryz.f3.params.toList Rows.fnExactCheckCodeSpec.vars false #[Value.agg #[.slice none 0 0]].toList 8=some ([.agg [.nil]],[Rows.laid_loop_example_loom_impl_forms],places):=
 ⟨MemPlace.row ⟨1,0,none⟩ 172,by kernel_rfl⟩
set_option maxRecDepth 100000 in
theorem checkLifted (os:Os) (started:os.Started) (H:Type) (enc:TypeId × Value→H) (F:Stop.Interp) :
  ReturnsInHanded {} Tryz.checked os 3 .any ((OpenSpec.ofChange Rows.fnExactCheckCodeSpec).preRow enc Tryz.prog Tryz.f3 Rows.fnExactCheckCodeRow.domain false Rows.fnExactCheckCodeRow.laid) (((OpenSpec.ofChange Rows.fnExactCheckCodeSpec).at F).post enc Tryz.prog Tryz.f3 false true false false):=by
 obtain⟨places,hx⟩:=reads os enc
 refine returnsInHanded_of_row (C:=Tryz.checked) (s:=OpenSpec.ofChange Rows.fnExactCheckCodeSpec) Tryz.own started (by kernel_rfl) Tryz.func3
  (witness_row_at (enc:=enc) (C:=Tryz.checked) false (laidWorld os) #[.agg #[.slice none 0 0]] rfl (by kernel_rfl) (by kernel_rfl) (by kernel_rfl)
   (OpenSpec.preRow_of_cond 8 hx (by kernel_rfl) (fun k hk=>by cases hk) (by kernel_rfl) (laid_met os))) ?_
 intro W base args ds gs before hval hW _ _ _ hL _ _
 exact checkContract H enc W base args ds gs before hval hW hL
theorem checkFacts:joinedFacts Tryz.pinned.checked.prog 3 Tryz.f3 (OpenSpec.ofChange Rows.fnExactCheckCodeSpec).bare Rows.fnExactCheckCodeRow=true:=by
 unfold joinedFacts
 rw [all_laid,all_maps,all_heard,all_enter,check_place,check_unf,check_rec,check_named]
 kernel_rfl
theorem checkSaid:Rows.FnExactCheckCodeSaid:=
 OpenClaim.holds_of_cond 3 Tryz.f3 rfl rfl rfl rfl rfl rfl rfl ⟨rfl,rfl,rfl,rfl,rfl⟩ rfl rfl rfl rfl rfl (by kernel_rfl) Tryz.func3 checkFacts
  (of_decide_eq_true (by kernel_rfl)) (by unfold Func.isWrapper;first | (rw [if_pos (by decide +kernel)];kernel_rfl) | (rw [if_neg (by decide +kernel)];exact ⟨rfl,rfl⟩))
  (fun os started H enc _ F=>by rw [OpenClaim.pre_eq_preRow];exact checkLifted os started H enc F)
theorem checkPlain (f : FuncId) (fn : Func) (hf : Tryz.pinned.checked.prog.funcNamed "loop.example/loom/laws.FnExactCheckCode" = some f) (hfn : Tryz.pinned.checked.prog.funcs[f]? = some fn) :
  true=Tryz.pinned.checked.prog.looks []∧∀(j:Nat) t,fn.params[j]?=some t→Tryz.pinned.checked.prog.wantsStandIn t=false:=by
 obtain rfl : f = 3 := Option.some.inj ((show Tryz.prog.funcNamed "loop.example/loom/laws.FnExactCheckCode" = some 3 by kernel_rfl).symm.trans hf) |>.symm
 obtain rfl:fn=Tryz.f3:=(Option.some.inj (Tryz.func3.symm.trans hfn)).symm
 refine⟨by kernel_rfl,fun j t ht=>?_⟩
 rw [Tryz.params3] at ht
 obtain rfl:t=24:=by simpa using Array.mem_of_getElem? ht
 exact (show Tryz.prog.wantsStandIn 24=false by kernel_rfl)
theorem checkCode_holds:Rows.FnExactCheckCodeCardSaid:=
 Claim7.holds_tied_plain_at .later [] _ _ _ _ checkSaid (fun _ h=>by cases h) (by kernel_rfl) (fun _ h=>by cases h) fnExactCheckCode_row_tie rfl ⟨rfl,rfl⟩ (by kernel_rfl) rfl checkPlain (by kernel_rfl)
#print axioms checkCode_holds
end Go.Proofs.YtaakadmnhpboiaaGreatDoor
