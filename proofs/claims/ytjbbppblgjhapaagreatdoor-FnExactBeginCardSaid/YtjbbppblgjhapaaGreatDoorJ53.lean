import Derived.Test.YtjbbppblgjhapaaGreatDoorCards
import Derived.Test.YtjbbppblgjhapaaGreatDoorTie
import Derived.OpenShut
import Derived.OpenVars
import Derived.Deep.DeepHandedRow
import Derived.Lib.LaidTab
import Derived.Test.YtjbbppblgjhapaaGreatDoorJ51
import Derived.Test.YtjbbppblgjhapaaGreatDoorJ52
set_option maxRecDepth 100000
namespace Go.Proofs.YtjbbppblgjhapaaGreatDoor
open Go.ChangeAt Go.ChangeShapes Go.Proofs.Tryz Go.RowKit Go.WideShapes
variable{p:List MemPlace}{fuel:Nat}{H:Type}{v:Value}{W:World}
theorem Tryz.own:ownKnob prog.godebug=none:=by kernel_rfl
theorem Tryz.laidOut:laidOutB prog=true:=A22
theorem Aat:prog.globalNamed "loop.example/loom/impl.forms" = some 1:=by kernel_rfl
theorem A5k:(prog.globals[1]?).map (·.type)=some 390:=by kernel_rfl
theorem Kn:prog.cellsOf 387=1:=by kernel_rfl
theorem A54:prog.cellsOf 389=4:=by kernel_rfl
theorem A28:prog.cellsOf 390=172:=by kernel_rfl
theorem Xd:prog.cellsOf 22=1:=by kernel_rfl
theorem Tryz.cells3:prog.cellsOf 3=1:=by kernel_rfl
theorem Tryz.cells9:prog.cellsOf 9=1:=by kernel_rfl
theorem Tryz.cells44:prog.cellsOf 44=1:=by kernel_rfl
theorem Tryz.cells46:prog.cellsOf 46=5:=by kernel_rfl
theorem A53:prog.cellsOf 24=1:=by kernel_rfl
def rowD {H:Type} (r:List Nat):DataW H:=.agg (r.map fun (z:Nat)=>.lit (.int .i64 z))
theorem A90 : (Rows.laid_loop_example_loom_impl_forms:DataW H)=.agg (Gz.map rowD):=by kernel_rfl
theorem Aas {cs:List Value} (h:DataW.trod (fun _=>()) prog W 0 (fun _=>true) false fuel 390 cs=some (Rows.laid_loop_example_loom_impl_forms,p)) (op j r:Nat) (hr:(Ci op)[j]?=some r) :
  cs[op*4+j]?=some (.int .i64 r):=by
 rw[A90]at h;cases fuel with
 | zero=>simp[DataW.trod]at h
 | succ fuel=>
  simp only[DataW.trod,underlying390,A54,A28]at h;split at h
  ·obtain⟨xs,hm,hx⟩:=Option.map_eq_some_iff.1 h;have hxs:xs.map (·.1)=Gz.map rowD:=by have h1:=congrArg Prod.fst hx;exact DataW.agg.inj h1
   have hop:op<43:=by
    apply Classical.byContradiction;intro hc;have hlen:Gz.length=43:=rfl;have h0:Ci op=[]:=by unfold Ci;rw[yR,List.getElem?_eq_none (by omega)];rfl
    rw[h0]at hr;simp at hr
   obtain⟨b,hb,hf⟩:=Lib.mapM_at hm op op (by simp[hop]);have hft:Gz[op]?=some (Ci op):=by unfold Ci;have hlen:Gz.length=43:=rfl;rw[yR,yV (by omega)];rfl
   have h2:b.1=rowD (Ci op):=by
    have h1:(xs.map (·.1))[op]?=some b.1:=by rw[List.getElem?_map,hb];rfl
    rw[hxs,List.getElem?_map,hft]at h1;exact(yO h1).symm
   obtain⟨r0,r1,r2,r3,hfo,_⟩:=Lf (n:=op) (by omega);obtain⟨ys,n,_,hy,_,hyl,hfld⟩:=DataW.trod_struct underlying389 hf;have h3:ys.map (·.1)=[r0,r1,r2,r3].map fun (z:Nat)=>(DataW.lit (.int .i64 z):DataW Unit):=by rw[hy,hfo]at h2;exact DataW.agg.inj h2
   simp only[List.size_toArray,List.length_cons,List.length_nil]at hyl;have f0:=hfld 0 _ rfl;simp[Kn]at f0;rw[yV (by omega)]at f0;obtain⟨z0,e0,y0,_⟩:=DataW.trod_int underlying387 f0;have k0:cs[op*4+0]?=some (.int .i64 z0):=by have h5:=congrArg (·[0]?) e0;simpa[List.getElem?_take,List.getElem?_drop]using h5
   have l0:(ys.map (·.1))[0]?=some (.lit (.int .i64 z0)):=by rw[List.getElem?_map,yV (by omega),y0];rfl
   rw[h3]at l0;simp only[List.map_cons,List.map_nil,List.getElem?_cons_zero,Option.some.injEq,DataW.lit.injEq,Lit.int.injEq,true_and]at l0;have f1:=hfld 1 _ rfl;simp[Kn]at f1;rw[yV (by omega)]at f1;obtain⟨z1,e1,y1,_⟩:=DataW.trod_int underlying387 f1;have k1:cs[op*4+1]?=some (.int .i64 z1):=by have h5:=congrArg (·[0]?) e1;simpa[List.getElem?_take,List.getElem?_drop]using h5
   have l1:(ys.map (·.1))[1]?=some (.lit (.int .i64 z1)):=by rw[List.getElem?_map,yV (by omega),y1];rfl
   rw[h3]at l1;simp only[List.map_cons,List.map_nil,List.getElem?_cons_zero,List.getElem?_cons_succ,Option.some.injEq,DataW.lit.injEq,Lit.int.injEq,true_and]at l1;have f2:=hfld 2 _ rfl;simp[Kn]at f2;rw[yV (by omega)]at f2;obtain⟨z2,e2,y2,_⟩:=DataW.trod_int underlying387 f2;have k2:cs[op*4+2]?=some (.int .i64 z2):=by have h5:=congrArg (·[0]?) e2;simpa[List.getElem?_take,List.getElem?_drop]using h5
   have l2:(ys.map (·.1))[2]?=some (.lit (.int .i64 z2)):=by rw[List.getElem?_map,yV (by omega),y2];rfl
   rw[h3]at l2;simp only[List.map_cons,List.map_nil,List.getElem?_cons_zero,List.getElem?_cons_succ,Option.some.injEq,DataW.lit.injEq,Lit.int.injEq,true_and]at l2;have f3:=hfld 3 _ rfl;simp[Kn]at f3;rw[yV (by omega)]at f3;obtain⟨z3,e3,y3,_⟩:=DataW.trod_int underlying387 f3;have k3:cs[op*4+3]?=some (.int .i64 z3):=by have h5:=congrArg (·[0]?) e3;simpa[List.getElem?_take,List.getElem?_drop]using h5
   have l3:(ys.map (·.1))[3]?=some (.lit (.int .i64 z3)):=by rw[List.getElem?_map,yV (by omega),y3];rfl
   rw[h3]at l3;simp only[List.map_cons,List.map_nil,List.getElem?_cons_zero,List.getElem?_cons_succ,Option.some.injEq,DataW.lit.injEq,Lit.int.injEq,true_and]at l3;rw[hfo]at hr
   match j,hr with
   | 0,hr=>simp at hr;rw[k0,←l0,hr]
   | 1,hr=>simp at hr;rw[k1,←l1,hr]
   | 2,hr=>simp at hr;rw[k2,←l2,hr]
   | 3,hr=>simp at hr;rw[k3,←l3,hr]
   | j+4,hr=>simp at hr
  ·cases h
theorem Aar (h:laidMetH prog Rows.fnExactBeginRow.laid W):Hm W:=by
 have h1:laidMet prog [("loop.example/loom/impl.forms",Rows.laid_loop_example_loom_impl_forms)] W:=h;obtain⟨_,⟨g,t,cs,fuel,p,q,hg,ht,hvar,htr,_⟩,_⟩:=h1;obtain rfl:g=1:=(yO (Aat.symm.trans hg)).symm;obtain rfl:t=390:=(yO (A5k.symm.trans ht)).symm;have hc:∀(op j r:Nat),(Ci op)[j]?=some r->W.cell? ⟨1,op*4+j,none⟩=some (.int .i64 r):=fun op j r hr=>by
  rw[World.var?_cell Aat hvar,←Array.getElem?_toList];exact Aas htr op j r hr
 exact⟨World.block_lt_of_cell? _ _ (hc 0 0 0 rfl),hc⟩
theorem Ae7 {α:Type} {cs:Array α} (h:cs.size=1):∃c0,cs=#[c0]:=by
 obtain⟨l⟩:=cs
 match l,h with
 | [c0],_=>exact⟨c0,rfl⟩
theorem Ae8 {α:Type} {cs:Array α} (h:cs.size=5):∃c0 c1 c2 c3 c4,cs=#[c0,c1,c2,c3,c4]:=by
 obtain⟨l⟩:=cs
 match l,h with
 | [c0,c1,c2,c3,c4],_=>exact⟨c0,c1,c2,c3,c4,rfl⟩
theorem A7u {H:Type} {enc:TypeId×Value->H} {y:DataW H×List MemPlace}
  (h:DataW.trod enc prog W 0 (fun _=>true) true fuel 44 [v]=some y) :
  ∃(ao:Option Addr) (cap:Nat) (ss:List ByteArray),v=.slice ao ss.length cap/\ss.length<=maxLen/\(∀s∈ss,s.size<=maxLen)/\Ch W ao ss:=by
 rcases open_strings underlying44 underlying9 Tryz.cells9 h with ⟨hcs,_⟩|⟨a,len,cap,ss,hcs,_,hl,hm,hz,_,hcell,hws⟩
 ·simp at hcs;exact⟨none,0,[],hcs,by simp,by simp,fun i hi=>absurd hi (by simp)⟩
 ·simp at hcs hz;have hlen:(ss.take len).length=len:=by rw[List.length_take];omega
  refine⟨some a,cap,ss.take len,by rw[hlen];exact hcs,by omega,fun s hs=>hws s (List.mem_of_mem_take hs),fun i hi=>?_⟩;have hi':i<ss.length:=by omega
  have hc:=hcell i hi';obtain⟨b,off,spot⟩:=a;have hspot:spot=none:=by simpa[Addr.add]using World.cell?_spot (hcell 0 (by omega))
  subst hspot;have hc':W.cell? ⟨b,off+i,none⟩=some (.string (ss.getD i ByteArray.empty)):=by rw[←add_plain];exact hc
  refine⟨b,off,rfl,World.block_lt_of_cell? _ _ hc',?_⟩;rw[hc'];congr 2;rw[hlen]at hi;simp[hi]
theorem A24 (H:Type) (enc:TypeId×Value->H) (W:World) (base:Nat) (args:Array Value) (ds gs:List (DataW H)) (before:List MemPlace)
  (hval0:∀(j:Nat) t v,Tryz.f6.params[j]?=some t->args[j]?=some v->Value.okWide prog W .any base t v)
  (hW:DataW.Whole enc prog Tryz.f6.params.toList Rows.fnExactBeginSpec.vars false W args.toList ds gs before) (hL:laidMetH prog Rows.fnExactBeginRow.laid W) :
  Calls prog 6 args W fun e W'=>∃v,e=.returned v/\Rows.fnExactBeginSpec.post enc prog Tryz.f6 false true false false W args v W':=by
 have hval:=hval0;have hW':=hW;obtain⟨p,q,hA0,hV,rfl,hfz,hnd⟩:=hW;have hA:DataW.TrodAll enc prog W 0 (fun _=>true) true Tryz.f6.params.toList args.toList ds p:=hA0;rw[Tryz.params6]at hA hval;obtain⟨v0,v1,v2,d0,d1,d2,p0,p1,p2,rfl,rfl,rfl,h0,h1,h2⟩:=trodAll_three hA;have hV1:DataW.TrodVars enc prog W (fun _=>true) ["loop.example/loom/impl.forms"] gs q:=hV;obtain⟨_,_,_,_,dv,_,rfl,_,_,_,_,_⟩:=trodVars_one hV1;obtain⟨cs,rfl,hsz⟩:=okWide_struct underlying24 (hval 0 24 v0 rfl rfl);obtain⟨x0,rfl⟩:=Ae7 (hsz.trans A53);obtain⟨cs,rfl,hsz⟩:=okWide_struct underlying46 (hval 1 46 v1 rfl rfl);obtain⟨y0,y1,y2,y3,y4,rfl⟩:=Ae8 (hsz.trans Tryz.cells46);obtain⟨pace,rfl,_⟩:=open_int underlying3 (hval 2 3 v2 rfl rfl) h2;have h0k:=h0;have h1k:=h1;have h2k:=h2;obtain⟨fuel,hf⟩:=h0;obtain⟨xs,n,_,hx,_,hlen,hfld⟩:=DataW.trod_struct underlying24 hf;have f0:=hfld 0 _ rfl;simp[Value.cells,Xd]at f0;simp only[List.size_toArray,List.length_cons,List.length_nil]at hlen;rw[yV (by omega)]at f0;obtain⟨ao,cap,ps,rfl,hm,hg,hv⟩:=Acx f0;clear hfld hf hx f0 hlen;obtain⟨fuel,hf⟩:=h1;obtain⟨xs,n,_,hx,_,hlen,hfld⟩:=DataW.trod_struct underlying46 hf;have f0:=hfld 0 _ rfl;have f1:=hfld 1 _ rfl;have f2:=hfld 2 _ rfl;have f3:=hfld 3 _ rfl;have f4:=hfld 4 _ rfl;simp[Value.cells,Tryz.cells44]at f0 f1;simp[Value.cells,Tryz.cells3]at f2 f3 f4;simp only[List.size_toArray,List.length_cons,List.length_nil]at hlen;rw[yV (by omega)]at f0 f1 f2 f3 f4;obtain⟨a1,c1,s1,rfl,hm1,hs1,hc1⟩:=A7u f0;obtain⟨a2,c2,s2,rfl,hm2,hs2,hc2⟩:=A7u f1;obtain⟨t,e2,_,_⟩:=DataW.trod_int underlying3 f2;obtain⟨d,e3,_,_⟩:=DataW.trod_int underlying3 f3;obtain⟨c,e4,_,_⟩:=DataW.trod_int underlying3 f4;simp only[List.cons.injEq,and_true]at e2 e3 e4;subst e2 e3 e4;clear hfld hf hx f0 f1 f2 f3 f4 hA0 hval0 hval;have hlt:∀x∈p0++p1++p2,x.block<W.heap.size:=fun x hx=>by simpa using hW'.lt x (List.mem_append_left _ hx)
 refine(Zq ao a1 a2 cap c1 c2 ps s1 s2 t d c pace W hm hg (Aar hL) hv hm1 hs1 hc1 hm2 hs2 hc2).mono fun e W' ⟨he,hb⟩=>?_;subst he;refine⟨_,rfl,_,_,_,[],p0++p1++p2,q,hW',?_,?_,?_,hb.frame _,fun h=>by cases h⟩
 ·exact trodAll_mk1 (shut_bool underlying4 true)
 ·rw[List.append_assoc];exact trodAll_mk3 (Below.trod Tryz.laidOut (by kernel_rfl) (of_decide_eq_true (by kernel_rfl)) h0k hb (fun x hx=>hlt x (by simp[hx]))) (Below.trod Tryz.laidOut (by kernel_rfl) (of_decide_eq_true (by kernel_rfl)) h1k hb (fun x hx=>hlt x (by simp[hx]))) (Below.trod Tryz.laidOut (by kernel_rfl) (of_decide_eq_true (by kernel_rfl)) h2k hb (fun x hx=>hlt x (by simp[hx])))
 ·exact Below.trodVars Tryz.laidOut hb (by kernel_rfl) hV
noncomputable def S9 (os:Os):World:=
 {World.holding prog os ⟨#[],#[],[]⟩ with heap:=(World.holding prog os ⟨#[],#[],[]⟩).heap.modify 1 fun
   | .cells _ t frozen=>.cells (Gz.flatMap fun r=>r.map fun (z:Nat)=>Value.int .i64 z).toArray t frozen
   | o=>o}
theorem Ab3 (os:Os):laidMet prog Rows.fnExactBeginRow.laid ((S9 os).forCall (fun _ _=>0) ⟨#[],#[.agg #[.slice none 0 0],.agg #[.slice none 0 0,.slice none 0 0,.int .i64 0,.int .i64 0,.int .i64 0],.int .i64 0],[]⟩).memory:=
 laidMet_of_run' 8 (by kernel_rfl) (by kernel_rfl)
theorem reads (os:Os) (enc:TypeId×Value->H):∃places,DataW.whole enc prog ((S9 os).forCall (fun _ _=>0) ⟨#[],#[.agg #[.slice none 0 0],.agg #[.slice none 0 0,.slice none 0 0,.int .i64 0,.int .i64 0,.int .i64 0],.int .i64 0],[]⟩).memory Tryz.f6.params.toList Rows.fnExactBeginSpec.vars false (#[.agg #[.slice none 0 0],.agg #[.slice none 0 0,.slice none 0 0,.int .i64 0,.int .i64 0,.int .i64 0],.int .i64 0]:Array Value).toList 8=some ([.agg [.nil],.agg [.nil,.nil,.lit (.int .i64 0),.lit (.int .i64 0),.lit (.int .i64 0)],.lit (.int .i64 0)],[Rows.laid_loop_example_loom_impl_forms],places):=
 ⟨MemPlace.row ⟨1,0,none⟩ 172,by kernel_rfl⟩
theorem A8a (os:Os) (started:os.Started) (H:Type) (enc:TypeId×Value->H) (F:Stop.Interp) :
  ReturnsInHanded {} Tryz.checked os 6 .any ((OpenSpec.ofChange Rows.fnExactBeginSpec).preRow enc prog Tryz.f6 Rows.fnExactBeginRow.domain false Rows.fnExactBeginRow.laid) (((OpenSpec.ofChange Rows.fnExactBeginSpec).at F).post enc prog Tryz.f6 false true false false):=by
 obtain⟨places,hx⟩:=reads os enc;refine returnsInHanded_of_row (C:=Tryz.checked) (s:=OpenSpec.ofChange Rows.fnExactBeginSpec) Tryz.own started (by kernel_rfl) func6
  (witness_row_at (enc:=enc) (C:=Tryz.checked) false (S9 os) #[.agg #[.slice none 0 0],.agg #[.slice none 0 0,.slice none 0 0,.int .i64 0,.int .i64 0,.int .i64 0],.int .i64 0] rfl (by kernel_rfl) (by kernel_rfl) (by kernel_rfl)
   (OpenSpec.preRow_of_cond 8 hx (by kernel_rfl) (fun k hk=>by cases hk) (by kernel_rfl) (Ab3 os))) ?_
 intro W base args ds gs before hval hW _ _ _ hL _ _;exact A24 H enc W base args ds gs before hval hW hL
theorem Aa7:joinedFacts Tryz.pinned.checked.prog 6 Tryz.f6 (OpenSpec.ofChange Rows.fnExactBeginSpec).bare Rows.fnExactBeginRow=true:=by unfold joinedFacts;rw[A22,Aa4,A84,A83,A8c,Acr,Acp,A8b];kernel_rfl
theorem Aco:Rows.FnExactBeginSaid:=
 OpenClaim.holds_of_cond 6 Tryz.f6 rfl rfl rfl rfl rfl rfl rfl ⟨rfl,rfl,rfl,rfl,rfl⟩ rfl rfl rfl rfl rfl (by kernel_rfl) func6 Aa7
  (of_decide_eq_true (by kernel_rfl)) (by unfold Func.isWrapper;first|(rw[if_pos (by decide +kernel)];kernel_rfl)|(rw[if_neg (by decide +kernel)];exact⟨rfl,rfl⟩))
  (fun os started H enc _ F=>by rw[OpenClaim.pre_eq_preRow];exact A8a os started H enc F)
theorem Aa8 (f:FuncId) (fn:Func) (hf:Tryz.pinned.checked.prog.funcNamed "loop.example/loom/laws.FnExactBegin" = some f) (hfn:Tryz.pinned.checked.prog.funcs[f]?=some fn) :
  true=Tryz.pinned.checked.prog.looks []/\∀(j:Nat) t,fn.params[j]?=some t->Tryz.pinned.checked.prog.wantsStandIn t=false:=by
 obtain rfl:f=6:=yO ((show prog.funcNamed "loop.example/loom/laws.FnExactBegin" = some 6 by kernel_rfl).symm.trans hf) |>.symm;obtain rfl:fn=Tryz.f6:=(yO (func6.symm.trans hfn)).symm;refine⟨by kernel_rfl,fun j t ht=>?_⟩;rw[Tryz.params6]at ht;have ht:=Array.mem_of_getElem? ht;simp at ht;rcases ht with rfl|rfl|rfl
 ·exact(show prog.wantsStandIn 24=false by kernel_rfl)
 ·exact(show prog.wantsStandIn 46=false by kernel_rfl)
 ·exact(show prog.wantsStandIn 3=false by kernel_rfl)
theorem begin_holds:Rows.FnExactBeginCardSaid:=
 Claim7.holds_tied_plain_at .later [] _ _ _ _ Aco (fun _ h=>by cases h) (by kernel_rfl) (fun _ h=>by cases h) fnExactBegin_row_tie rfl ⟨rfl,rfl⟩ (by kernel_rfl) rfl Aa8 (by kernel_rfl)
#print axioms begin_holds
end Go.Proofs.YtjbbppblgjhapaaGreatDoor
