import Derived.Test.YtbefeflgjipfhaaGreatDoorOzt
import Derived.Test.YtbefeflgjipfhaaGreatDoorCards
import Derived.ProofKit
import Derived.OpenShut
import Derived.OpenVars
import Derived.LaidSub
import Derived.Deep.DeepHandedRow
import Derived.Lib.LaidTab
import Derived.Test.YtbefeflgjipfhaaGreatDoorF48
import Derived.Test.YtbefeflgjipfhaaGreatDoorF49
import Derived.Test.YtbefeflgjipfhaaGreatDoorF50
set_option maxRecDepth 100000
namespace Go.Proofs.YtbefeflgjipfhaaGreatDoor
open Go.ChangeAt Go.ChangeShapes Go.Proofs.Tryz Go.RowKit Go.WideShapes
theorem Tryz.own:ownKnob prog.godebug=none:=by kernel_rfl
theorem Tryz.laidOut:laidOutB prog=true:=Xk
theorem A5j:prog.globalNamed "loop.example/loom/impl.forms" = some 7:=by kernel_rfl
theorem A0y:(prog.globals[7]?).map (·.type)=some 458:=by kernel_rfl
theorem Hq:prog.cellsOf 455=1:=by kernel_rfl
theorem A0m:prog.cellsOf 457=4:=by kernel_rfl
theorem Xr:prog.cellsOf 458=172:=by kernel_rfl
theorem A3i:prog.cellsOf 5=1:=by kernel_rfl
def rowD {H:Type} (r:List Nat):DataW H:=.agg (r.map fun (z:Nat)=>.lit (.int .i64 z))
theorem A3z {H:Type} : (Rows.laid_loop_example_loom_impl_forms:DataW H)=.agg (Et.map rowD):=by kernel_rfl
theorem A5i {W:World} {fuel:Nat} {cs:List Value} {p:List MemPlace} (h:DataW.trod (fun _=>()) prog W 0 (fun _=>true) false fuel 458 cs=some (Rows.laid_loop_example_loom_impl_forms,p)) (op j r:Nat) (hr:(Bi op)[j]?=some r) :
  cs[op*4+j]?=some (.int .i64 r):=by
 rw[A3z]at h
 cases fuel with
 | zero=>simp[DataW.trod]at h
 | succ fuel=>
  simp only[DataW.trod,underlying458,A0m,Xr]at h
  split at h
  ·obtain⟨xs,hm,hx⟩:=Option.map_eq_some_iff.1 h
   have hxs:xs.map (·.1)=Et.map rowD:=by
    have h1:=congrArg Prod.fst hx
    exact DataW.agg.inj h1
   have hop:op<43:=by
    apply Classical.byContradiction
    intro hc
    have hlen:Et.length=43:=rfl
    have h0:Bi op=[]:=by unfold Bi;rw[List.getD_eq_getElem?_getD,List.getElem?_eq_none (by omega)];rfl
    rw[h0]at hr
    simp at hr
   obtain⟨b,hb,hf⟩:=Lib.mapM_at hm op op (by simp[hop])
   have hft:Et[op]?=some (Bi op):=by
    unfold Bi
    have hlen:Et.length=43:=rfl
    rw[List.getD_eq_getElem?_getD,List.getElem?_eq_getElem (by omega)]
    rfl
   have h2:b.1=rowD (Bi op):=by
    have h1:(xs.map (·.1))[op]?=some b.1:=by rw[List.getElem?_map,hb];rfl
    rw[hxs,List.getElem?_map,hft]at h1
    exact(Option.some.inj h1).symm
   obtain⟨r0,r1,r2,r3,hfo,_⟩:=Ic (n:=op) (by omega)
   obtain⟨ys,n,_,hy,_,hyl,hfld⟩:=DataW.trod_struct underlying457 hf
   have h3:ys.map (·.1)=[r0,r1,r2,r3].map fun (z:Nat)=>(DataW.lit (.int .i64 z):DataW Unit):=by
    rw[hy,hfo]at h2
    exact DataW.agg.inj h2
   simp only[List.size_toArray,List.length_cons,List.length_nil]at hyl
   have f0:=hfld 0 _ rfl
   simp[Hq]at f0
   rw[List.getElem?_eq_getElem (by omega)]at f0
   obtain⟨z0,e0,y0,_⟩:=DataW.trod_int underlying455 f0
   have k0:cs[op*4+0]?=some (.int .i64 z0):=by
    have h5:=congrArg (·[0]?) e0
    simpa[List.getElem?_take,List.getElem?_drop]using h5
   have l0:(ys.map (·.1))[0]?=some (.lit (.int .i64 z0)):=by
    rw[List.getElem?_map,List.getElem?_eq_getElem (by omega),y0];rfl
   rw[h3]at l0
   simp only[List.map_cons,List.map_nil,List.getElem?_cons_zero,Option.some.injEq,DataW.lit.injEq,Lit.int.injEq,true_and]at l0
   have f1:=hfld 1 _ rfl
   simp[Hq]at f1
   rw[List.getElem?_eq_getElem (by omega)]at f1
   obtain⟨z1,e1,y1,_⟩:=DataW.trod_int underlying455 f1
   have k1:cs[op*4+1]?=some (.int .i64 z1):=by
    have h5:=congrArg (·[0]?) e1
    simpa[List.getElem?_take,List.getElem?_drop]using h5
   have l1:(ys.map (·.1))[1]?=some (.lit (.int .i64 z1)):=by
    rw[List.getElem?_map,List.getElem?_eq_getElem (by omega),y1];rfl
   rw[h3]at l1
   simp only[List.map_cons,List.map_nil,List.getElem?_cons_zero,List.getElem?_cons_succ,Option.some.injEq,DataW.lit.injEq,Lit.int.injEq,true_and]at l1
   have f2:=hfld 2 _ rfl
   simp[Hq]at f2
   rw[List.getElem?_eq_getElem (by omega)]at f2
   obtain⟨z2,e2,y2,_⟩:=DataW.trod_int underlying455 f2
   have k2:cs[op*4+2]?=some (.int .i64 z2):=by
    have h5:=congrArg (·[0]?) e2
    simpa[List.getElem?_take,List.getElem?_drop]using h5
   have l2:(ys.map (·.1))[2]?=some (.lit (.int .i64 z2)):=by
    rw[List.getElem?_map,List.getElem?_eq_getElem (by omega),y2];rfl
   rw[h3]at l2
   simp only[List.map_cons,List.map_nil,List.getElem?_cons_zero,List.getElem?_cons_succ,Option.some.injEq,DataW.lit.injEq,Lit.int.injEq,true_and]at l2
   have f3:=hfld 3 _ rfl
   simp[Hq]at f3
   rw[List.getElem?_eq_getElem (by omega)]at f3
   obtain⟨z3,e3,y3,_⟩:=DataW.trod_int underlying455 f3
   have k3:cs[op*4+3]?=some (.int .i64 z3):=by
    have h5:=congrArg (·[0]?) e3
    simpa[List.getElem?_take,List.getElem?_drop]using h5
   have l3:(ys.map (·.1))[3]?=some (.lit (.int .i64 z3)):=by
    rw[List.getElem?_map,List.getElem?_eq_getElem (by omega),y3];rfl
   rw[h3]at l3
   simp only[List.map_cons,List.map_nil,List.getElem?_cons_zero,List.getElem?_cons_succ,Option.some.injEq,DataW.lit.injEq,Lit.int.injEq,true_and]at l3
   rw[hfo]at hr
   match j,hr with
   | 0,hr=>simp at hr;rw[k0,←l0,hr]
   | 1,hr=>simp at hr;rw[k1,←l1,hr]
   | 2,hr=>simp at hr;rw[k2,←l2,hr]
   | 3,hr=>simp at hr;rw[k3,←l3,hr]
   | j+4,hr=>simp at hr
  ·cases h
theorem Yt {P:Program} {w:World} {n:String} {d:DataW Unit} : ∀{l:List (String×DataW Unit)} {ps:List MemPlace},DataW.LaidVars P w l ps->(n,d)∈l->∃g t cs fuel p,P.globalNamed n=some g/\(P.globals[g]?).map (·.type)=some t/\w.var? P n=some cs/\DataW.trod (fun _=>()) P w 0 (fun _=>true) false fuel t cs.toList=some (d,p)
 | [],_,_,h=>by cases h
 | (_,_)::_,_,⟨g,t,cs,fuel,p,_,e1,e2,e3,e4,hr,_⟩,h=>by
  rcases List.mem_cons.1 h with h|h
  ·cases h;exact⟨g,t,cs,fuel,p,e1,e2,e3,e4⟩
  ·exact Yt hr h
theorem A5h {W:World} (h:laidMetH prog Rows.fnFieldsRow.laid W):Ep W:=by
 obtain⟨_,hl,_⟩:=(laidMetH_iff.1 h).1
 obtain⟨g,t,cs,fuel,p,hg,ht,hvar,htr⟩:=Yt (n:= "loop.example/loom/impl.forms") (d:=Rows.laid_loop_example_loom_impl_forms) hl (List.mem_filter.2 ⟨by unfold Rows.fnFieldsRow;repeat (first|exact List.Mem.head _|apply List.Mem.tail),by kernel_rfl⟩)
 obtain rfl:g=7:=(Option.some.inj (A5j.symm.trans hg)).symm
 obtain rfl:t=458:=(Option.some.inj (A0y.symm.trans ht)).symm
 have hc:∀(op j r:Nat),(Bi op)[j]?=some r->W.cell? ⟨7,op*4+j,none⟩=some (.int .i64 r):=fun op j r hr=>by
  rw[World.var?_cell A5j hvar,←Array.getElem?_toList]
  exact A5i htr op j r hr
 exact⟨World.block_lt_of_cell? _ _ (hc 0 0 0 rfl),hc⟩
theorem Xe {H:Type} {enc:TypeId×Value->H} {P:Program} {w:World} {spare:Nat->Bool} {ns:List String} : ∀{gs:List (DataW H)} {ps:List MemPlace},DataW.TrodVars enc P w spare ns gs ps->gs.length=ns.length:=by
 induction ns with
 | nil=>intro gs ps h;obtain⟨rfl,rfl⟩:=trodVars_none h;rfl
 | cons n ns ih=>
  intro gs ps h
  cases gs with
  | nil=>simp[DataW.TrodVars]at h
  | cons d ds=>
   obtain⟨_,_,_,_,_,_,_,_,_,_,hs,_⟩:=h
   simp[ih hs]
theorem A9u {H:Type} {enc:TypeId×Value->H} {W:World} {base:Nat} {v:Value} {d:DataW H} {p:List MemPlace} (hval:Value.okWide prog W .any base 22 v) (h:DataW.Trod enc prog W 0 (fun _=>true) true 22 v d p) :
  ∃ao m cap,v=.slice ao m cap/\Kh W ao m:=by
 obtain⟨a1,len,cap,rfl⟩:=okWide_slice underlying22 hval
 obtain⟨fuel,hf⟩:=h
 refine⟨a1,len,cap,rfl,?_⟩
 rcases open_ints underlying22 underlying5 A3i hf with ⟨hcs,hx⟩|⟨a,len',cap',zs,hcs,_,hl,hm,hz,hx,hcell,hwz⟩
 ·simp[Value.cells]at hcs
  exact .inl hcs.2.1
 ·simp[Value.cells]at hcs
  obtain⟨rfl,rfl,rfl⟩:=hcs
  simp only[if_true]at hz
  rcases Nat.eq_zero_or_pos len with h0|h0
  ·exact .inl h0
  ·obtain⟨ab,ao,spot⟩:=a
   have hspot:spot=none:=by simpa[Addr.add]using World.cell?_spot (hcell 0 (by omega))
   subst hspot
   refine .inr ⟨ab,ao,rfl,fun i hi=>⟨(zs[i]?).getD 0,?_⟩⟩
   have hcj:=hcell i (by omega)
   rw[Addr.add_lit,List.getD_eq_getElem?_getD]at hcj
   have hb:=range_u8 hwz i
   exact⟨hb.1,hb.2,hcj⟩
theorem A08 (H:Type) (enc:TypeId×Value->H) (W:World) (base:Nat) (args:Array Value) (ds gs:List (DataW H)) (before:List MemPlace)
  (hval0:∀(j:Nat) t v,Tryz.f3.params[j]?=some t->args[j]?=some v->Value.okWide prog W .any base t v)
  (hW:DataW.Whole enc prog Tryz.f3.params.toList Rows.fnFieldsSpec.vars false W args.toList ds gs before) (hL:laidMetH prog Rows.fnFieldsRow.laid W) :
  Calls prog 3 args W fun e W'=>∃v,e=.returned v/\Rows.fnFieldsSpec.post enc prog Tryz.f3 false true false false W args v W':=by
 have hval:=hval0
 have hW':=hW
 obtain⟨p,q,hA0,hV,rfl,hfz,hnd⟩:=hW
 have hA:DataW.TrodAll enc prog W 0 (fun _=>true) true Tryz.f3.params.toList args.toList ds p:=hA0
 rw[Tryz.params3]at hA hval
 obtain⟨v0,d0,rfl,rfl,h0⟩:=trodAll_one hA
 obtain⟨g1,g2,g3,g4,rfl⟩:∃g1 g2 g3 g4,gs=[g1,g2,g3,g4]:=by
  have hl:gs.length=4:=Xe hV
  match gs,hl with
  | [a,b,c,d],_=>exact⟨a,b,c,d,rfl⟩
 obtain⟨ao,m,cap,rfl,H1⟩:=A9u (hval 0 22 v0 rfl rfl) h0
 clear hA0 hval0 hval
 have hlt:∀x∈p,x.block<W.heap.size:=fun x hx=>by simpa using hW'.lt x (List.mem_append_left _ hx)
 refine(Sr ao m cap W (A5h hL) H1).mono fun e W' ⟨he,hb⟩=>?_
 subst he
 refine⟨_,rfl,_,_,_,[],p,q,hW',?_,?_,?_,hb.frame _,fun h=>by cases h⟩
 ·exact trodAll_mk1 (shut_bool underlying4 true)
 ·exact trodAll_mk1 (Below.trod Tryz.laidOut (by kernel_rfl) (of_decide_eq_true (by kernel_rfl)) h0 hb hlt)
 ·exact Below.trodVars Tryz.laidOut hb (by kernel_rfl) hV
def litV:DataW Unit->Value
 | .lit (.int k z)=>.int k z
 | .lit (.string s)=>.string ⟨s.toArray⟩
 | _=>.bool false
def A4i:DataW Unit->Array Value
 | .agg l=>(l.map litV).toArray
 | _=>#[]
def Zt (h:Array Obj) (g:Nat) (vs:Array Value):Array Obj:=h.modify g fun
 | .cells _ t frozen=>.cells vs t frozen
 | o=>o
noncomputable def errV:Value:=.iface 442 (.agg #[typeHandle prog 169])
noncomputable def Ub (os:Os):World:=
 {World.holding prog os ⟨#[],#[],[]⟩ with heap:=Zt (Zt (Zt (Zt (Zt (Zt (Zt (Zt (World.holding prog os ⟨#[],#[],[]⟩).heap 7 (Et.flatMap fun r=>r.map fun (z:Nat)=>Value.int .i64 z).toArray) 2 (A4i Rows.laid_loop_example_loom_impl_handlerNames)) 0 (A4i Rows.laid_loop_example_loom_impl_typeNames)) 1 (A4i Rows.laid_loop_example_loom_impl_statusNames)) 8 (A4i Rows.laid_internal_strconv_uint64pow10)) 9 (A4i Rows.laid_math_bits_deBruijn32tab)) 6 (A4i Rows.laid_math_bits_deBruijn64tab)) 4 #[errV]}
noncomputable abbrev wit (os:Os):World:=((Ub os).forCall (fun _ _=>0) ⟨#[],#[.slice none 0 0],[]⟩).memory
theorem A5v (os:Os):laidMetH prog Rows.fnFieldsRow.laid (wit os):=
 laidMetH_of_parts (laidMet_of_run' 8 (by kernel_rfl) (by kernel_rfl)) (by kernel_rfl)
theorem reads (os:Os) {H:Type} (enc:TypeId×Value->H):∃places,DataW.whole enc prog (wit os) Tryz.f3.params.toList Rows.fnFieldsSpec.vars false #[Value.slice none 0 0].toList 8=some ([.nil],[Rows.laid_loop_example_loom_impl_forms,Rows.laid_loop_example_loom_impl_handlerNames,Rows.laid_loop_example_loom_impl_typeNames,Rows.laid_loop_example_loom_impl_statusNames],places):=
 ⟨MemPlace.row ⟨7,0,none⟩ 172++MemPlace.row ⟨2,0,none⟩ 23++MemPlace.row ⟨0,0,none⟩ 9++MemPlace.row ⟨1,0,none⟩ 5,by kernel_rfl⟩
theorem A4r (os:Os) (started:os.Started) (H:Type) (enc:TypeId×Value->H) (F:Stop.Interp) :
  ReturnsInHanded {} Tryz.checked os 3 .any ((OpenSpec.ofChange Rows.fnFieldsSpec).preRow enc prog Tryz.f3 Rows.fnFieldsRow.domain false Rows.fnFieldsRow.laid) (((OpenSpec.ofChange Rows.fnFieldsSpec).at F).post enc prog Tryz.f3 false true false false):=by
 obtain⟨places,hx⟩:=reads os enc
 refine returnsInHanded_of_row (C:=Tryz.checked) (s:=OpenSpec.ofChange Rows.fnFieldsSpec) Tryz.own started (by kernel_rfl) func3
  (witness_row_at (enc:=enc) (C:=Tryz.checked) false (Ub os) #[.slice none 0 0] rfl (by kernel_rfl) (by kernel_rfl) (by kernel_rfl)
   (OpenSpec.preRow_of_cond 8 hx (by kernel_rfl) (fun k hk=>by cases hk) (by kernel_rfl) (A5v os))) ?_
 intro W base args ds gs before hval hW _ _ _ hL _ _
 exact A08 H enc W base args ds gs before hval hW hL
theorem A74:joinedFacts Tryz.pinned.checked.prog 3 Tryz.f3 (OpenSpec.ofChange Rows.fnFieldsSpec).bare Rows.fnFieldsRow=true:=by
 unfold joinedFacts
 rw[Xk,A57,A38,A37,A4t,A93,A92,A4s]
 kernel_rfl
theorem A91:Rows.FnFieldsSaid:=
 OpenClaim.holds_of_cond 3 Tryz.f3 rfl rfl rfl rfl rfl rfl rfl ⟨rfl,rfl,rfl,rfl,rfl⟩ rfl rfl rfl rfl rfl (by kernel_rfl) func3 A74
  (of_decide_eq_true (by kernel_rfl)) (by unfold Func.isWrapper;first|(rw[if_pos (by decide +kernel)];kernel_rfl)|(rw[if_neg (by decide +kernel)];exact⟨rfl,rfl⟩))
  (fun os started H enc _ F=>by rw[OpenClaim.pre_eq_preRow];exact A4r os started H enc F)
theorem A75 (f:FuncId) (fn:Func) (hf:Tryz.pinned.checked.prog.funcNamed "loop.example/loom/laws.FnFields" = some f) (hfn:Tryz.pinned.checked.prog.funcs[f]?=some fn) :
  true=Tryz.pinned.checked.prog.looks []/\∀(j:Nat) t,fn.params[j]?=some t->Tryz.pinned.checked.prog.wantsStandIn t=false:=by
 obtain rfl:f=3:=Option.some.inj ((show prog.funcNamed "loop.example/loom/laws.FnFields" = some 3 by kernel_rfl).symm.trans hf) |>.symm
 obtain rfl:fn=Tryz.f3:=(Option.some.inj (func3.symm.trans hfn)).symm
 refine⟨by kernel_rfl,fun j t ht=>?_⟩
 rw[Tryz.params3]at ht
 obtain rfl:t=22:=by simpa using Array.mem_of_getElem? ht
 exact(show prog.wantsStandIn 22=false by kernel_rfl)
theorem Aal:Rows.fnFieldsRow.wfByText (OpenSpec.ofChange Rows.fnFieldsSpec)=true:=by kernel_rfl
theorem A77:Tryz.pinned.checked.prog.mainIs=some (Rows.fnFieldsCard.stood.harness.1,Rows.fnFieldsCard.stood.harness.2.toList):=by kernel_rfl
theorem fields_holds:Rows.FnFieldsCardSaid:=
 Claim7.holds_tied_plain_at .later [] _ _ _ _ A91 (fun _ h=>by cases h) Aal (fun _ h=>by cases h) row_tieT rfl ⟨rfl,rfl⟩ A77 rfl A75 A76
#print axioms fields_holds
end Go.Proofs.YtbefeflgjipfhaaGreatDoor
