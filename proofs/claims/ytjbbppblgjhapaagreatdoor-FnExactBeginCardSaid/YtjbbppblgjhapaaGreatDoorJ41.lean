import Derived.StillTail
import Derived.Test.YtjbbppblgjhapaaGreatDoorJ40
set_option maxRecDepth 100000
set_option maxHeartbeats 8000000
namespace Go.Proofs.YtjbbppblgjhapaaGreatDoor
open Go.Deep Go.Proofs.Tryz Go.RowKit
attribute [local go_sem] Ac
def zV:Vd:=⟨0,0,0,ByteArray.empty,0⟩
theorem A8x (s:ByteArray) (w:World):Kw 131 #[s] w (.agg #[(4:Int),(),.float .f64 0,s,()]):=by unfold Kw;go_in;go_wp2_with fail;refine bodyPost_ret (by simp[results,results131,go_sem]) rfl ⟨rfl,?_⟩;repeat (first|exact yA _ _|refine Below.alloc ?_ (by simp;try omega) _|refine yP ?_ (by simp;try omega) _)
theorem Aaz (ao:Option Addr) (cap:Nat) (vs:List Vd) (i:Nat) (w:World) (h:Ba 0 w ao vs) :
  Calls prog 204 #[.slice ao vs.length cap,i] w fun e w'=>e=.returned (vs.getD i zV).val/\Below w w w':=by
 by_cases hlt:i<vs.length
 ·obtain⟨u,hu⟩:=A8 hlt;have hg:vs.getD i zV=u:=by rw[yR,hu];rfl
  rw[hg];have hb1:∀o,Below w w (w.alloc o):=fun o=>(yA _ _).alloc (yB _) o;obtain⟨b,off,rfl,_,hl,p0,p1,p2,p3,p4⟩:=h i u hu;have q0:=fun o=>((hb1 o).cell hl).trans p0;have q1:=fun o=>((hb1 o).cell hl).trans p1;have q2:=fun o=>((hb1 o).cell hl).trans p2;have q3:=fun o=>((hb1 o).cell hl).trans p3;have q4:=fun o=>((hb1 o).cell hl).trans p4;clear h hu p0 p1 p2 p3 p4 hg;go_in;go_wp2_with fail;refine bodyPost_ret (by simp[results,results204,go_sem,Vd.val]) rfl ⟨rfl,?_⟩;repeat (first|exact yA _ _|refine Below.alloc ?_ (by simp;try omega) _|refine yP ?_ (by simp;try omega) _)
 ·have hg:vs.getD i zV=zV:=by rw[yR,List.getElem?_eq_none (by omega)];rfl
  rw[hg];clear h hg;go_in;go_wp2_with fail;refine bodyPost_ret (by simp[results,results204,go_sem,Vd.val,zV];rfl) rfl ⟨rfl,?_⟩;repeat (first|exact yA _ _|refine Below.alloc ?_ (by simp;try omega) _|refine yP ?_ (by simp;try omega) _)
theorem Nv {vs:List Vd} {j:Nat} {u:Vd} (h:vs[j]?=some u):(vs.take (j+1)).flatMap Vd.vals=(vs.take j).flatMap Vd.vals++u.vals:=by rw[List.take_add_one,h];simp[List.flatMap_append]
theorem Qr (ao:Option Addr) (cap:Nat) (vs:List Vd) (w:World) (hn:vs.length<=1048576) (h:Ba 0 w ao vs) :
  Calls prog 127 #[.slice ao vs.length cap] w fun e w'=>∃v,e=.returned v/\w'.ownsRow w.heap.size 210 5 v vs.length (vs.flatMap Vd.vals)/\Below w.heap.size w w'/\(vs=[]->w'=w):=by
 go_in;go_wp2;go_loopw [3,8] (fun y x wr=>∃j:Nat,j<=vs.length/\x=j/\Hid (wr.ownsRow (w:Nat) 210 5 y j ((vs.take j).flatMap Vd.vals))/\Hid (Below w w wr/\(j=0->wr=w))) (fun _ x _=>vs.length-(intOf x).toNat);case atStart=>exact⟨0,yE _,rfl,yU _ _ _ _,yA _ _,fun _=>rfl⟩
 case round=>
  obtain⟨j,hj,rfl,HO,HB⟩:=hrel;by_cases hlt:j<vs.length
  ·obtain⟨u,huj⟩:=A8 hlt;have hb:=HB.out.1;obtain⟨b,off,rfl,_,hl,p0,p1,p2,p3,p4⟩:=h.l (A7.o hb) j u huj;have HT:Hid _:=Nv huj;obtain⟨so,sc,rfl⟩:=Aa HO.out;obtain⟨u0,u1,u2,u3,u4⟩:=u;have A1:Below wr wr ((wr.alloc (.cells #[u0,u1,.float .f64 u2,u3,u4] 210)).alloc (.cells #[u0,u1,.float .f64 u2,u3,u4] 210)):=((yA _ _).alloc (yB _) _).alloc (by simp) _;have X1:=Blk.nh (W:=wr.alloc (.cells #[u0,u1,.float .f64 u2,u3,u4] 210)) (n:=(wr:Nat)+1) #[u0,u1,.float .f64 u2,u3,u4] 210 (by simp);have HA:Hid (Below w w _):=hb.trans (A1.mono hb.size);have HO1:Hid _:=Ai HO.out A1;have HX:Hid (Ae _ ((wr:Nat)+1) 0 [u0,u1,.float .f64 u2,u3,u4]):=fun i v hv=>by rw[yM,X1.cell];simpa using hv
   have hs:=hb.size;clear h hb HO HB A1 X1;go_wp2_with (at_builtin;refine Ir A8n rfl _ _ rfl (w:Nat) _ j _ [u0,u1,.float .f64 u2,u3,u4] ((wr:Nat)+1) rfl HO1.out rfl HX.out rfl ?qc1 ?qc2 (by decide) ?qc3 ?_);case qc1=>exact⟨rfl,rfl,rfl,rfl,rfl⟩
   case qc2=>omega
   case qc3=>omega
   intro v' w1 ho1 hg1 _;have HB2:Hid _:=HA.out.grown hg1 HA.out.size (fun k hk=>(World.ownsRow.lt HO1.out k hk).1);have HO2:Hid (w1.ownsRow (w:Nat) 210 5 v' (j+1) ((vs.take (j+1)).flatMap Vd.vals)):=by show World.ownsRow _ _ _ _ _ _ _;rw[HT.out];exact ho1
   clear ho1 hg1 HT HA HO1 HX p0 p1 p2 p3 p4;go_wp2;go_roundw;case rel=>exact⟨j+1,by omega,by go_num,HO2.out,HB2.out,fun h=>by omega⟩
   case measure=>simp[intOf];omega
  ·go_wp2;go_ret;obtain rfl:j=vs.length:=by omega
   have h1:=HO.out;rw[List.take_length]at h1;exact⟨_,rfl,h1,HB.out.1,fun e=>HB.out.2 (by rw[e];rfl)⟩
theorem A5x (ao:Option Addr) (cap:Nat) (vs:List Vd) (w:World) (hn:vs.length<=1048576) (h:Ba 0 w ao vs) :
  Calls prog 205 #[.slice ao vs.length cap,nS] w fun e w'=>∃v,e=.returned v/\w'.ownsRow (w:Nat) 210 5 v vs.length (vs.flatMap Vd.vals)/\Below w w w':=by
 go_in;go_wp2;go_loopw [5,12] (fun y x wr=>∃j:Nat,j<=vs.length/\x=j/\Hid (wr.ownsRow (w:Nat) 210 5 y j ((vs.take j).flatMap Vd.vals))/\Hid (Below w w wr)) (fun _ x _=>vs.length-(intOf x).toNat);case atStart=>exact⟨0,yE _,rfl,yU _ _ _ _,yA _ _⟩
 case round=>
  obtain⟨j,hj,rfl,HO,HB⟩:=hrel;by_cases hlt:j<vs.length
  ·obtain⟨u,huj⟩:=A8 hlt;have hb:=HB.out;obtain⟨b,off,rfl,_,hl,p0,p1,p2,p3,p4⟩:=h.l (A7.o hb) j u huj;have HT:Hid _:=Nv huj;obtain⟨so,sc,rfl⟩:=Aa HO.out;obtain⟨u0,u1,u2,u3,u4⟩:=u;have A1:Below wr wr ((wr.alloc (.cells #[u0,u1,.float .f64 u2,u3,u4] 210)).alloc (.cells #[u0,u1,.float .f64 u2,u3,u4] 210)):=((yA _ _).alloc (yB _) _).alloc (by simp) _;have X1:=Blk.nh (W:=wr.alloc (.cells #[u0,u1,.float .f64 u2,u3,u4] 210)) (n:=(wr:Nat)+1) #[u0,u1,.float .f64 u2,u3,u4] 210 (by simp);have HA:Hid (Below w w _):=hb.trans (A1.mono hb.size);have HO1:Hid _:=Ai HO.out A1;have HX:Hid (Ae _ ((wr:Nat)+1) 0 [u0,u1,.float .f64 u2,u3,u4]):=fun i v hv=>by rw[yM,X1.cell];simpa using hv
   have hs:=hb.size;clear h hb HO HB A1 X1;go_wp2_with (at_builtin;refine Ir A8n rfl _ _ rfl (w:Nat) _ j _ [u0,u1,.float .f64 u2,u3,u4] ((wr:Nat)+1) rfl HO1.out rfl HX.out rfl ?qc1 ?qc2 (by decide) ?qc3 ?_);case qc1=>exact⟨rfl,rfl,rfl,rfl,rfl⟩
   case qc2=>omega
   case qc3=>omega
   intro v' w1 ho1 hg1 _;have HB2:Hid _:=HA.out.grown hg1 HA.out.size (fun k hk=>(World.ownsRow.lt HO1.out k hk).1);have HO2:Hid (w1.ownsRow (w:Nat) 210 5 v' (j+1) ((vs.take (j+1)).flatMap Vd.vals)):=by show World.ownsRow _ _ _ _ _ _ _;rw[HT.out];exact ho1
   clear ho1 hg1 HT HA HO1 HX p0 p1 p2 p3 p4;go_wp2;go_roundw;case rel=>exact⟨j+1,by omega,by go_num,HO2.out,HB2.out⟩
   case measure=>simp[intOf];omega
  ·obtain rfl:j=vs.length:=by omega
   have h1:wr.ownsRow (w:Nat) 210 5 u5 vs.length (vs.flatMap Vd.vals):=by have:=HO.out;rwa [List.take_length]at this
   obtain⟨so,sc,rfl⟩:=Aa h1;have H1:Hid _:=h1;clear HO h1;go_wp2;go_loop [5,23] (fun y i=>y=.slice so vs.length sc/\i=()) (fun _ _=>0);case atStart=>exact⟨rfl,rfl⟩
   case round=> obtain⟨rfl,rfl⟩:=hrel;go_wp2;go_ret;exact⟨_,rfl,H1.out,HB.out⟩
theorem Fj (w:World):Calls prog 127 #[nS] w fun e w'=>e=.returned nS/\w'=w:=by
 refine(Qr none 0 [] w (by simp) (fun i x hx=>by simp at hx)).mono fun e w' ⟨v,e1,e2,_,e4⟩=>⟨?_,e4 rfl⟩;rcases Br e2 with ⟨rfl,_⟩|⟨g,cap,_,h1,h2,h3,_⟩
 ·exact e1
 ·obtain⟨c,hc,_⟩:=h2;rw[e4 rfl]at hc;have:=(Array.getElem?_eq_some_iff.1 hc).1;omega
theorem A0m (w:World):Kw 128 #[.agg #[(),nS,ByteArray.empty]] w (.agg #[(),nS,ByteArray.empty]):=by
 have X0:=(Blk.new w #[(),nS,ByteArray.empty] 196).alloc (.cells #[(),nS,ByteArray.empty] 53);unfold Kw;go_in;have x0:=X0.cell;go_wp2_with fail;go_region_held3 (fun w'=>(∀o,w'.cell? ⟨w.heap.size,o,none⟩=#[Value.int .i64 0,.slice none 0 0,.string ByteArray.empty][o]?)) (go_keep)
  (first|(go_at_call 127;refine(Fj _).mono ?_;rintro e w1 ⟨rfl,rfl⟩))
 go_wp2_with fail;refine bodyPost_ret (by simp[results,results128,go_sem]) rfl ⟨rfl,?_⟩;repeat (first|exact yA _ _|refine Below.alloc ?_ (by simp;try omega) _|refine yP ?_ (by simp;try omega) _|refine Below.drew ?_)
theorem A5y (w:World):Kw 126 #[.agg #[(),nS,nS,ByteArray.empty,ByteArray.empty,(),()]] w (.agg #[(),nS,nS,ByteArray.empty,ByteArray.empty,(),()]):=by
 unfold Kw;go_in;go_wp2;go_loop [13] (fun i=>i=()) (fun _=>0);case atStart=>rfl
 case round=>
  obtain rfl:=hrel;go_wp2;go_loop [28] (fun i=>i=()) (fun _=>0);case atStart=>rfl
  case round=> obtain rfl:=hrel;go_wp2_with fail;refine bodyPost_ret (by simp[results,results126,go_sem]) rfl ⟨rfl,?_⟩;repeat (first|exact yA _ _|refine Below.alloc ?_ (by simp;try omega) _|refine yP ?_ (by simp;try omega) _|refine Below.drew ?_)
section
variable {ops:Array Oper} {Q:Exit→Act→World→Prop} {S:World→Prop} {md:Region.Mode} {l:Nat}
def Wv (md:Region.Mode) (ops:Array Oper) (Q:Exit->Act->World->Prop) (S:World->Prop) (l:Nat):Nat->Array Bool->Act->World->Prop
 | 0,listed,a,w=>Region.ready md ops listed=[]/\Q .normal a w
 | fuel+1,listed,a,w=>
  (Region.ready md ops listed=[]->Q .normal a w)/\
  ∀i∈Region.ready md ops listed,wpOp prog ops Q i (fun a' w'=>(i≠l->S w')/\Wv md ops Q S l fuel (listed.setIfInBounds i true) a' w') a w
theorem Ww:∀(fuel:Nat) (listed:Array Bool) (a:Act) (w:World),Wv md ops Q S l fuel listed a w->wpAny prog md ops Q fuel listed a w
 | 0,_,_,_,h=>h
 | fuel+1,_,_,_,h=>⟨h.1,fun i hi=>wpOp_mono (fun a' w' h'=>Ww fuel _ a' w' h'.2) (h.2 i hi)⟩
theorem A1t {i:Nat} {oi ol:Oper} {v:Value} (hi:ops[i]?=some oi) (hl:ops[l]?=some ol) (hw:∃e∈ol.after,Region.binds md e=true/\e.on=i) (hil:i≠l) (hsel:∀(j:Nat) (o:Oper) cs b,ops[j]?=some o->o.op≠.select cs b)
  (hQ:∀c a w,Q (.panic c) (a.put oi.dst v) w->Q (.panic c) a w) :
  ∀(fuel:Nat) (listed:Array Bool) (a:Act) (w:World),
   (∀j oj,ops[j]?=some oj->j≠i->listed.getD j true=false->(∀e∈oj.after,Region.binds md e=true->e.on≠i)->oi.apart ops oj=true)->
   i∈Region.ready md ops listed->YieldsIf prog ops S oi v a->S w->
   Wv md ops Q S l fuel (listed.setIfInBounds i true) (a.put oi.dst v) w->Wv md ops Q S l (fuel+1) listed a w:=by
 intro fuel
 induction fuel with
 | zero=>
  intro listed a w _ hr hy hS H;refine⟨fun h=>(by rw[h]at hr;cases hr),fun j hj=>?_⟩;by_cases hji:j=i
  ·subst hji;exact hy.wpOp hi hS ⟨fun _=>hS,H⟩
  ·have:=ready_mono hj hji;rw[H.1]at this;cases this
 | succ fuel ih=>
  intro listed a w hfree hr hy hS H;refine⟨fun h=>(by rw[h]at hr;cases hr),fun j hj=>?_⟩;by_cases hji:j=i
  ·subst hji;exact hy.wpOp hi hS ⟨fun _=>hS,H⟩
  ·have h1:=H.2 j (ready_mono hj hji);obtain⟨hjun,oj,hoj,hall⟩:=mem_ready.1 hj;have hnot:∀e∈oj.after,Region.binds md e=true->e.on≠i:=fun e he hb heq=>by
    have h1:=hall e he hb;have h0:=(mem_ready.1 hr).1;rw[heq]at h1;rcases Nat.lt_or_ge i listed.size with h'|h'
    ·simp[h']at h0 h1;rw[h0]at h1;cases h1
    ·simp[Array.getElem?_eq_none h']at h1
   have hjl:j≠l:=by rintro rfl;obtain rfl:=yO (hoj.symm.trans hl);obtain⟨e,he,hb,heq⟩:=hw;exact hnot e he hb heq
   have h2:=wpOp_putIf hoj (hfree j oj hoj hji hjun hnot) (fun cs b=>hsel i oi cs b hi) (fun cs b=>hsel j oj cs b hoj) hQ hy h1;have hfree':∀k ok,ops[k]?=some ok->k≠i->(listed.setIfInBounds j true).getD k true=false->
     (∀e∈ok.after,Region.binds md e=true->e.on≠i)->oi.apart ops ok=true:=fun k ok hk hki hun hno=>by
    refine hfree k ok hk hki ?_ hno;by_cases hjk:j=k
    ·subst hjk;exact hjun
    ·rw[getD_set_ne true hjk]at hun;exact hun
   refine wpOp_mono (fun a' w' h3=>⟨h3.2.1,ih (listed.setIfInBounds j true) a' w' hfree' (ready_mono hr (Ne.symm hji)) h3.1 (h3.2.1 hjl) ?_⟩) h2;rw[Array.setIfInBounds_comm _ _ hji];exact h3.2.2
end
def RgE (ops:Array Oper) (rest:List Oper) (Q:Exit->Act->World->Prop) (S:World->Prop) (a:Act) (w:World):Prop:=
 ops.toList.drop (ops.size-rest.length)=rest->rest.length<=ops.size->Wv .any ops (NoPanic Q) S (ops.size-1) rest.length (lst ops.size (ops.size-rest.length)) a w
section
variable {id:Nat} {ops:Array Oper} {rest l:List Oper} {Q:Exit→Act→World→Prop} {S:World→Prop} {a:Act} {w:World} {oi:Oper}
theorem rgE (S:World->Prop) (hS:S w.drew) (h:S w.drew->RgE l.toArray l Q S a w.drew):(Code.region id l.toArray true).wp prog Q a w:=by refine wp_region_noPanic (wp_region_any (by kernel_rfl) (Ww (S:=S) (l:=l.toArray.size-1) _ _ _ _ ?_));have:=h hS (by simp) (by simp);simpa[lst]using this
theorem tkE (hc:(Region.noSelect ops&&Region.free .any ops (lst ops.size (ops.size-(oi::rest).length)) (ops.size-(oi::rest).length)&&(Region.ready .any ops (lst ops.size (ops.size-(oi::rest).length))).contains (ops.size-(oi::rest).length)&&Region.waitsFor .any ops (ops.size-1) (ops.size-(oi::rest).length)&&(ops.size-(oi::rest).length !=ops.size-1))=true)
  (hw:Region.wanted oi (yielded ops a.tmps)=true) (hS:S w)
  (h:∃v,(∀w,S w->(execOp a.eval oi).run prog w=.ok (.value v) w)/\RgE ops rest Q S (a.put oi.dst v) w):RgE ops (oi::rest) Q S a w:=fun hd hl=>by
 obtain⟨v,hy,h⟩:=h;obtain⟨h1,h2,h3⟩:=Qh hd hl;simp only[yY]at hc;obtain⟨ol,hol,e,he,hb,heq⟩:=Region.waitsFor_spec hc.1.2;refine A1t h1 hol ⟨e,he,hb,heq⟩ (by simpa using hc.2) (Region.noSelect_spec hc.1.1.1.1) (fun _ _ _ h=>h) _ _ _ _ (Region.free_spec h1 hc.1.1.1.2) (by simpa using hc.1.1.2) (.inl ⟨hw,hy⟩) hS ?_;have h4:=h h2 (by simp at hl;omega);rw[Ng (by simp at hl ⊢;omega),←h3];exact h4
theorem doE (hr:Region.ready .any ops (lst ops.size (ops.size-(oi::rest).length))=[ops.size-(oi::rest).length]) (hw:Region.wanted oi (yielded ops a.tmps)=true)
  (h:∀K:Act->World->Prop,Shut (∀a w,(rest≠[]->S w)->(S w∨rest=[]->RgE ops rest Q S a w)->K a w)->Oper.wp prog oi a w K (NoPanic Q)):RgE ops (oi::rest) Q S a w:=fun hd hl=>by
 obtain⟨h1,h2,h3⟩:=Qh hd hl;refine⟨fun h0=>absurd (hr.symm.trans h0) (by simp),fun i hi=>?_⟩;rw[hr]at hi;obtain rfl:=yT.1 hi;refine wpOp_step h1 fun K' hK=>?_;rw[if_pos hw];refine h K' fun a w hS hR=>hK a w ⟨fun hne=>?_,?_⟩
 ·by_cases hrest:rest=[]
  ·subst hrest;simp at hne
  ·exact hS hrest
 ·have h4:=hR (by by_cases hrest:rest=[];exact .inr hrest;exact .inl (hS hrest)) h2 (by simp at hl;omega);rw[Ng (by simp at hl ⊢;omega),←h3];exact h4
theorem enE (hr:Region.ready .any ops (lst ops.size (ops.size-0))=[]) (h:NoPanic Q .normal a w):RgE ops [] Q S a w:=fun _ _=>⟨hr,h⟩
end
def RgD (ops:Array Oper) (d:Array Bool) (k:Nat) (Q:Exit->Act->World->Prop) (S:World->Prop) (a:Act) (w:World):Prop:=wpAnyH prog .any ops (NoPanic Q) S k d a w
section
variable {ops:Array Oper} {rest:List Oper} {Q:Exit→Act→World→Prop} {S:World→Prop} {a:Act} {w:World} {oi oj:Oper} {d:Array Bool} {k i j:Nat}
theorem rgD (h:RgD ops (lst ops.size (ops.size-rest.length)) rest.length Q S a w):Rgn ops rest Q S a w:=fun _ _=>h
theorem tkD (i:Nat) (h1:ops[i]?=some oi) (hc:(Region.noSelect ops&&Region.free .any ops d i&&(Region.ready .any ops d).contains i)=true) (hw:Region.wanted oi (yielded ops a.tmps)=true) (hS:S w)
  (h:∃v,(∀w,S w->(execOp a.eval oi).run prog w=.ok (.value v) w)/\RgD ops (d.setIfInBounds i true) k Q S (a.put oi.dst v) w):RgD ops d (k+1) Q S a w:=by
 obtain⟨v,hy,h⟩:=h;simp only[yY]at hc;exact wpAnyH_take h1 hc.1.1 hc.1.2 hc.2 (fun _ _ _ h=>h) (.inl ⟨hw,hy⟩) hS h
theorem doD (i:Nat) (h1:ops[i]?=some oi) (hr:Region.ready .any ops d=[i]) (hw:Region.wanted oi (yielded ops a.tmps)=true)
  (h:∀K:Act->World->Prop,Shut (∀a w,S w->(S w->RgD ops (d.setIfInBounds i true) k Q S a w)->K a w)->Oper.wp prog oi a w K (NoPanic Q)):RgD ops d (k+1) Q S a w:=by
 refine wpAnyH_ready hr (by simp) (AllReadyH.cons h1 (fun K hK=>?_) AllReadyH.nil);rw[if_pos hw];exact h K hK
theorem A56 (i j:Nat) (h1:ops[i]?=some oi) (h2:ops[j]?=some oj) (hr:Region.ready .any ops d=[i,j]) (hw:Region.wanted oi (yielded ops a.tmps)=true) (hw2:Region.wanted oj (yielded ops a.tmps)=true)
  (h:∀K:Act->World->Prop,Shut (∀a w,S w->(S w->RgD ops (d.setIfInBounds i true) k Q S a w)->K a w)->Oper.wp prog oi a w K (NoPanic Q))
  (g:∀K:Act->World->Prop,Shut (∀a w,S w->(S w->RgD ops (d.setIfInBounds j true) k Q S a w)->K a w)->Oper.wp prog oj a w K (NoPanic Q)):RgD ops d (k+1) Q S a w:=by
 refine wpAnyH_ready hr (by simp) (AllReadyH.cons h1 (fun K hK=>?_) (AllReadyH.cons h2 (fun K hK=>?_) AllReadyH.nil))
 ·rw[if_pos hw];exact h K hK
 ·rw[if_pos hw2];exact g K hK
theorem Uw (hr:Region.ready .any ops d=[]) (h:NoPanic Q .normal a w):RgD ops d k Q S a w:=wpAnyH_done hr h _
end
abbrev Gi (ro:Option Addr) (n rc:Nat):List Value:=[(1:Int),(),(),nS,(),(-1:Int),(),(),(),.slice ro n rc,nS,nS,false,false,(),nS,ByteArray.empty,(-1:Int)]
theorem eltI:Elt 218 227 (.agg #[(),(),(),nS,(),(),(),(),(),nS,nS,nS,false,false,(),nS,ByteArray.empty,()]) 18 224:=⟨underlying218,by kernel_rfl,rfl,by decide⟩
section
variable {t e:TypeId} {z:Value} {size bytes:Nat} {w:World} {o:Oper} {a:Act} {Q:Exit→Act→World→Prop}
theorem Wx (I:Elt t e z size bytes) {K:Act->World->Prop} (hgd:o.guard=none) (s x:Operand) (ho:o.op=.call {callee:=.builtin .append,args:=#[s,x],argTypes:=#[t,t]})
  (base:Nat) (v:Value) (n:Nat) (xs news:List Value) (B:Nat) (hs:a.eval s=v) (hown:w.ownsRow base e size v n xs) (hx:a.eval x=.slice B 1 1) (hB:Ae w B 0 news) (hl:news.length=size) (h1:∀u∈news,u.oneCell'=true)
  (hn:n<=1048576) (hby:bytes<=1024) (hbase:base<=(w:Nat))
  (h:∀v' w',w'.ownsRow base e size v' (n+1) (xs++news)->w.grownBy w' v.ownBlock->(v'.ownBlock=v.ownBlock∨v'.ownBlock=some (w:Nat))->K (a.put o.dst v') w'):Oper.wp prog o a w K Q:=by
 have h:=Adn (ops:=#[]) (E:=True) (Q:=Q) I hgd s x ho base v n xs news B hs hown hx hB hl h1 hn hby hbase h
 rwa [if_pos (by simp[Region.wanted,hgd])]at h
end
theorem Abn (bm bt tc mt:Nat) (ro:Option Addr) (n rc:Nat) (w:World) (c17:w.cell? (bm,17)=some (.slice bt 1 tc)) (c18:w.cell? (bm,18)=some (.int .i64 0)) (t6:w.cell? (bt,6)=some (.slice none 0 0)) (own:Own w bt 220 mt) :
  Calls prog 206 #[.pointer bm,.agg #[(1:Int),(),(),nS,(),(-1:Int),(),(),(),.slice ro n rc,nS,nS,false,false,(),nS,ByteArray.empty,(-1:Int)]] w fun e w'=>∃bi ic,e=.returned (.tuple #[])/\(w:Nat)<=bi/\bi<w'.heap.size/\Ae w' bi 0 (Gi ro n rc)/\w'.cell? (bt,6)=some (.slice (some ⟨bi,0,none⟩) 1 ic)/\(∀i,i≠6->w'.cell? ⟨bt,i,none⟩=w.cell? ⟨bt,i,none⟩)/\Chg [bt] w w':=by
 have ld:∀W:World,W.rangeAt (w:Nat) 0 (Gi ro n rc)->(Instr.loadAt 227 (.pointer (w:Nat))).run prog W=.ok (.agg #[(1:Int),(),(),nS,(),(-1:Int),(),(),(),.slice ro n rc,nS,nS,false,false,(),nS,ByteArray.empty,(-1:Int)]) W:=fun W h=>run_loadAt_mid W (w:Nat) 0 227 _ _ h underlying227 rfl (by kernel_rfl);have X0:=Blk.new w #[(1:Int),(),(),nS,(),(-1:Int),(),(),(),.slice ro n rc,nS,nS,false,false,(),nS,ByteArray.empty,(-1:Int)] 227;have R0:World.rangeAt (w.alloc (.cells #[(1:Int),(),(),nS,(),(-1:Int),(),(),(),.slice ro n rc,nS,nS,false,false,(),nS,ByteArray.empty,(-1:Int)] 227)) (w:Nat) 0 (Gi ro n rc):=fun i v hv=>by rw[yM,X0.cell];simpa using hv
 have hb1:∀o,Below w w (w.alloc o):=fun o=>(yA _ _).alloc (yB _) o;have l1:=World.block_lt_of_cell? _ _ c17;have l2:=own.lt;have q17:=fun o=>((hb1 o).cell (p:=(bm,17)) l1).trans c17;have q18:=fun o=>((hb1 o).cell (p:=(bm,18)) l1).trans c18;have q6:=fun o=>((hb1 o).cell (p:=(bt,6)) l2).trans t6;go_in;refine wk fun K HK=>?_;go_wp2;refine HK.out _ _ ?_;clear HK K;have A1:Below w w ((w.alloc (.cells #[(1:Int),(),(),nS,(),(-1:Int),(),(),(),.slice ro n rc,nS,nS,false,false,(),nS,ByteArray.empty,(-1:Int)] 227)).drew.alloc (.cells #[(1:Int),(),(),nS,(),(-1:Int),(),(),(),.slice ro n rc,nS,nS,false,false,(),nS,ByteArray.empty,(-1:Int)] 227)):=(hb1 _).drew.alloc (by simp) _;have HX:Hid (Ae ((w.alloc (.cells #[(1:Int),(),(),nS,(),(-1:Int),(),(),(),.slice ro n rc,nS,nS,false,false,(),nS,ByteArray.empty,(-1:Int)] 227)).drew.alloc (.cells #[(1:Int),(),(),nS,(),(-1:Int),(),(),(),.slice ro n rc,nS,nS,false,false,(),nS,ByteArray.empty,(-1:Int)] 227)) ((w:Nat)+1) 0 (Gi ro n rc)):=by have X1:=Blk.nh (W:=(w.alloc (.cells #[(1:Int),(),(),nS,(),(-1:Int),(),(),(),.slice ro n rc,nS,nS,false,false,(),nS,ByteArray.empty,(-1:Int)] 227)).drew) (n:=(w:Nat)+1) #[(1:Int),(),(),nS,(),(-1:Int),(),(),(),.slice ro n rc,nS,nS,false,false,(),nS,ByteArray.empty,(-1:Int)] 227 (by simp);intro i v hv;rw[yM,X1.cell];simpa using hv
 have R1:=World.rangeAt_alloc ((World.rangeAt_drew _ _ _ _).2 R0) (.cells #[(1:Int),(),(),nS,(),(-1:Int),(),(),(),.slice ro n rc,nS,nS,false,false,(),nS,ByteArray.empty,(-1:Int)] 227);refine rgE (fun W=>W.cell? ⟨bm,17,none⟩=some (.slice (some ⟨bt,0,none⟩) 1 tc)/\W.cell? ⟨bm,18,none⟩=some (.int .i64 0)/\W.cell? ⟨bt,6,none⟩=some (.slice none 0 0)/\W.rangeAt w.heap.size 0 (Gi ro n rc)) ⟨q17 _,q18 _,q6 _,(World.rangeAt_drew _ _ _ _).2 R0⟩ (fun hS=>?_);repeat (refine tkE (by kernel_rfl) (by rfl) hS ⟨?_,fun W hW=>?_,?_⟩;rotate_left;(focus first|(refine Cv (p:=.pointer (w:Nat)) ?_ rfl ?_;exact ld W hW.2.2.2;simp[Act.eval];done)|(obtain⟨s0,s1,s2,s3⟩:=hW;go_simp;with_reducible rfl));try simp only[Act.put,yC,yJ,yK])
 refine doE (by kernel_rfl) (by rfl) (fun K hK=>?_);go_wp2;refine hK.out _ _ (fun _=>⟨(A1.cell (p:=⟨bm,17,none⟩) l1).trans c17,(A1.cell (p:=⟨bm,18,none⟩) l1).trans c18,(A1.cell (p:=⟨bt,6,none⟩) l2).trans t6,R1⟩) (fun _=>?_);clear hK K q17 q18 q6 hS;refine doE (by kernel_rfl) (by rfl) (fun K hK=>?_);refine Wx eltI rfl (.tmp 22) (.tmp 24) rfl (w:Nat) nS 0 [] (Gi ro n rc) ((w:Nat)+1) (by simp[Act.eval]) (yU _ _ _ _) (by simp[Act.eval]) HX.out rfl (by simp[Value.oneCell']) (by omega) (by decide) A1.size ?_;intro v' w1 ho1 hg1 _;have B1:Below w w w1:=A1.grown hg1 A1.size (fun k hk=>by cases hk);have R2:w1.rangeAt (w:Nat) 0 (Gi ro n rc):=fun i v hv=>hg1.cell (R1 i v hv) (fun e=>by cases e);have o1:=own.l B1;have fz1:=o1.frozen;have d17:=(B1.cell (p:=(bm,17)) l1).trans c17;have d18:=(B1.cell (p:=(bm,18)) l1).trans c18;have d6:=(B1.cell (p:=(bt,6)) l2).trans t6;obtain⟨g1,k1,rfl,hge,hog,_,hrow⟩:=(Br ho1).resolve_left (fun h=>absurd h.2.1 (by decide));have HROW:Hid _:=hrow;have hlt1:=Own.lt hog;have ne1:g1≠bt:=by omega
 clear hrow hog ho1 hg1 R1 HX o1;refine hK.out _ _ (fun _=>⟨d17,d18,d6,R2⟩) (fun hS'=>?_);have hS:=hS'.resolve_right (by simp);try simp only[Act.put,yC,yJ,yK]
 clear hK K hS';refine doE (by kernel_rfl) (by rfl) (fun K hK=>?_);go_wp2;refine hK.out _ _ (fun _=>hS) (fun _=>?_);clear hK K;refine doE (by kernel_rfl) (by rfl) (fun K hK=>?_);go_wp2;refine hK.out _ _ (fun _=>hS) (fun _=>?_);clear hK K;refine doE (by kernel_rfl) (by rfl) (fun K hK=>?_);go_wp2;refine hK.out _ _ (fun h=>absurd rfl h) (fun _=>enE (by kernel_rfl) (NoPanic.normal ?_));have C1:Chg [bt] w (w1.setCell (bt,6) (.slice g1 (0+1) k1)):=((Chg.refl [bt] w).below B1).set (yT.2 rfl) 6 _;clear ld R0 X0 R2 hS;go_wp2_with fail;go_end0;refine⟨g1,k1,rfl,hge,by simpa using hlt1,fun i v hv=>?_,World.cell?_setCell_same _ _ _ d6,fun i hi=>?_,C1⟩
 ·rw[World.cell?_setCell_other _ _ _ _ (by intro e;injection e with e1 _;exact ne1 e1.symm)];exact HROW.out i v (by simpa using hv)
 ·rw[A9 _ (Ne.symm hi)];exact B1.cell (p:=(bt,i)) l2
def Fw (m:Nat) (re:Bool) (vs:List Vd) (i:Nat):Rg:=if i<m then ⟨1,vs.getD i zV,0,[]⟩ else if re=true/\i=m then ⟨3,zV,0,vs.drop m⟩ else ⟨0,zV,0,[]⟩
section
variable {ops:Array Oper} {rest:List Oper} {Q:Exit→Act→World→Prop} {a:Act} {w:World} {oi:Oper}
theorem plW (hgd:oi.guard=none) (v:Value) (w':World) (h1:(execOp a.eval oi).run prog w=.ok (.value v) w') (h2:wpList prog ops Q rest (a.put oi.dst v) w'):wpList prog ops Q (oi::rest) a w:=by refine wpList_plain hgd fun K hK=>?_;unfold Oper.wp;rw[h1];exact hK _ _ h2
end
theorem Chg.sets {L:List Nat} {g:Nat} (hg:g∈L):∀(vs:List Value) (o:Nat) {w w':World},Chg L w w'->Chg L w (w'.setCells g o vs)
 | [],_,_,_,h=>h
 | v::r,o,_,_,h=>Chg.sets hg r (o+1) (h.set hg o v)
theorem Abc {w:World} {g n:Nat} {t:TypeId} (h:Blk w g (madeCells #[.int .i64 0,.int .i64 0,.int .i64 0,.float .f64 0,.string ByteArray.empty,.int .i64 0,.int .i64 0,.slice none 0 0] (n*8)) t) {i:Nat} (hi:i<n):Ae w g (i*8) ((⟨0,zV,0,[]⟩:Rg).cs none 0):=fun c v hv=>by
 have hc:c<8:=(yD.1 hv).1;rw[h.cell,madeCells,Array.getElem?_map,Array.getElem?_eq_getElem (by simp;omega)]
 match c,hc,hv with
 | 0,_,hv=>simp at hv;simp[←hv]
 | 1,_,hv=>simp[zV]at hv;simp[←hv,Nat.add_mod]
 | 2,_,hv=>simp[zV]at hv;simp[←hv,Nat.add_mod]
 | 3,_,hv=>simp[zV]at hv;simp[←hv,Nat.add_mod]
 | 4,_,hv=>simp[zV]at hv;simp[←hv,Nat.add_mod]
 | 5,_,hv=>simp[zV]at hv;simp[←hv,Nat.add_mod]
 | 6,_,hv=>simp at hv;simp[←hv,Nat.add_mod]
 | 7,_,hv=>simp at hv;simp[←hv,Nat.add_mod]
def rgJ (vs:List Vd) (j i:Nat):Rg:=if i<j then ⟨1,vs.getD i zV,0,[]⟩ else ⟨0,zV,0,[]⟩
structure Uk (w W:World) (n j:Nat) (vs:List Vd) (pr:Array Value) (it:List Value):Prop where
 below:Below w.heap.size w W
 proto:Blk W w.heap.size pr 77
 item:Ae W (w.heap.size+2) 0 it
 ilt:w.heap.size+2<W.heap.size
 own:Own W (w.heap.size+1) 325 (n*8)
 rows:∀i,i<n->Ae W (w.heap.size+1) (i*8) ((rgJ vs j i).cs none 0)
theorem Uk.l {w W W':World} {n j:Nat} {vs:List Vd} {pr:Array Value} {it:List Value} (h:Uk w W n j vs pr it) (hb:Below W.heap.size W W'):Uk w W' n j vs pr it:=
 ⟨h.below.trans (hb.mono h.below.size),h.proto.l hb,h.item.keep (A7.o (lo:=0) hb) (yE _) h.ilt,yF h.ilt hb.size,h.own.l hb,fun i hi=>(h.rows i hi).keep (A7.o (lo:=0) hb) (yE _) h.own.lt⟩
theorem Own.there_at {w:World} {g:Nat} {t:TypeId} {m o k:Nat} (h:Own w g t m) (hk:o+k<=m):w.there g o k:=fun c hc=>by have h:=h.there (o+c) (by omega);rwa [yM]at h
theorem Uk.fill {w W:World} {n j:Nat} {vs:List Vd} {pr:Array Value} {it:List Value} (h:Uk w W n j vs pr it) (hj:j<n) {u:Vd} (hu:vs.getD j zV=u):Uk w (W.setCells (w.heap.size+1) (j*8) ((⟨1,u,0,[]⟩:Rg).cs none 0)) n (j+1) vs pr it:=by
 have G:Chg [w.heap.size+1] W (W.setCells (w.heap.size+1) (j*8) ((⟨1,u,0,[]⟩:Rg).cs none 0)):=Chg.sets (yT.2 rfl) _ _ (Chg.refl _ _);refine⟨Below.sets _ _ h.below (by omega),(G.block _ (by simp) h.proto.lt).trans h.proto,h.item.chg G (by simp),yF h.ilt G.size,Own.sets _ _ h.own,fun i hi=>?_⟩;by_cases e:i=j
 ·subst e;have:=yS W (w.heap.size+1) (i*8) ((⟨1,u,0,[]⟩:Rg).cs none 0) (h.own.there_at (by simp;omega));rw[rgJ,if_pos (by omega),hu];exact this
 ·have:=World.rangeAt_setCells_apart (h.rows i hi) (w.heap.size+1) (j*8) ((⟨1,u,0,[]⟩:Rg).cs none 0) (by simp;omega);have e2:rgJ vs (j+1) i=rgJ vs j i:=by unfold rgJ;by_cases hl:i<j;rw[if_pos hl,if_pos (by omega)];rw[if_neg hl,if_neg (by omega)]
  rw[e2];exact this
theorem A9e {W:World} {g lo n:Nat} {f:Nat->Rg} (hl:lo<=g) (hg:g<W.heap.size) (h:∀i,i<n->∃io ic,Ae W g (i*8) ((f i).cs io ic)/\Ba lo W io (f i).list):Bp lo W (some ⟨g,0,none⟩) ((List.range n).map f):=fun i r hr=>by
 rw[List.getElem?_map]at hr;obtain⟨k,hk,rfl⟩:=Option.map_eq_some_iff.1 hr;obtain⟨hi,e⟩:=yD.1 hk;simp at hi e;subst e;exact⟨g,0,rfl,hl,hg,by rw[yM];exact h i hi⟩
theorem Ba.dropN {lo:Nat} {w:World} {b o:Nat} {vs:List Vd} (h:Ba lo w (some ⟨b,o,none⟩) vs) (m:Nat):Ba lo w (some ⟨b,o+m*5,none⟩) (vs.drop m):=fun i x hx=>by
 rw[List.getElem?_drop]at hx;obtain⟨b',o',e,h1,h2,h3⟩:=h (m+i) x hx;obtain⟨rfl,rfl⟩:b=b'/\o=o':=by injection e with e;injection e with e1 e2;exact⟨e1,e2⟩
 exact⟨b,o+m*5,rfl,h1,h2,by rw[show o+m*5+i*5=o+(m+i)*5 by omega];exact h3⟩
theorem Uk.rest {w W:World} {n m:Nat} {vs:List Vd} {pr:Array Value} {it:List Value} (h:Uk w W n m vs pr it) (hm:m<n) (ls:List Vd) (io:Option Addr) (ic:Nat) (hls:vs.drop m=ls) (hv:Ba w.heap.size W io ls) (hio:∀a,io=some a->a.block≠w.heap.size+1) :
  let W':=W.setCells (w.heap.size+1) (m*8) ((⟨3,zV,0,ls⟩:Rg).cs io ic)
  Below w.heap.size w W'/\Ae W' (w.heap.size+2) 0 it/\w.heap.size+1<W'.heap.size/\∀i,i<n->∃io ic,Ae W' (w.heap.size+1) (i*8) ((Fw m true vs i).cs io ic)/\Ba w.heap.size W' io (Fw m true vs i).list:=by
 have G:Chg [w.heap.size+1] W (W.setCells (w.heap.size+1) (m*8) ((⟨3,zV,0,ls⟩:Rg).cs io ic)):=Chg.sets (yT.2 rfl) _ _ (Chg.refl _ _);refine⟨Below.sets _ _ h.below (by omega),h.item.chg G (by simp),yF h.own.lt G.size,fun i hi=>?_⟩;by_cases e:i=m
 ·subst e;have hr:Fw i true vs i=⟨3,zV,0,ls⟩:=by unfold Fw;rw[if_neg (Nat.lt_irrefl _),if_pos ⟨rfl,rfl⟩,hls]
  rw[hr];refine⟨io,ic,yS W (w.heap.size+1) (i*8) _ (h.own.there_at (by simp;omega)),fun k x hx=>?_⟩;obtain⟨b,o,e1,e2,e3,q0,q1,q2,q3,q4⟩:=hv k x hx;have hb:b∉[w.heap.size+1]:=by simpa using hio _ e1
  exact⟨b,o,e1,e2,yF e3 G.size,G.cell hb q0,G.cell hb q1,G.cell hb q2,G.cell hb q3,G.cell hb q4⟩
 ·have hr:Fw m true vs i=rgJ vs m i:=by unfold Fw rgJ;by_cases hl:i<m;rw[if_pos hl,if_pos hl];rw[if_neg hl,if_neg hl,if_neg (by simp;exact e)]
  have hn:(rgJ vs m i).list=[]:=by unfold rgJ;split<;>rfl
  rw[hr];exact⟨none,0,World.rangeAt_setCells_apart (h.rows i hi) _ _ _ (by simp;omega),by rw[hn];intro k x hx;simp at hx⟩
theorem A5m:(prog.info? 325).map (fun i=>(i.zero,i.size,i.bytes))=some (some (.agg #[.int .i64 0,.int .i64 0,.int .i64 0,.float .f64 0,.string ByteArray.empty,.int .i64 0,.int .i64 0,.slice none 0 0]),8,88):=by kernel_rfl
theorem A69 (bm pb po bt tc mt n m np pc:Nat) (re:Bool) (ao:Option Addr) (cap:Nat) (vs:List Vd) (nm:ByteArray) (ln:Int) (u0 k0 i0_ n0:Option Addr) (u1 u2 k1 k2 i1 i2 n1 n2:Nat) (w:World)
  (hnp:0<np) (hn:n<=250) (hmn:m<=n) (hre:re=true->m<n) (has:vs.length<=1048576) (hcap:vs.length<=cap) (c0:w.cell? ⟨bm,0,none⟩=some (.slice (some ⟨pb,po,none⟩) np pc))
  (hp:w.rangeAt pb po [.string nm,.int .i64 ln,.int .i64 (m:Int),.bool re,.int .i64 (n:Int),.slice u0 u1 u2,.slice k0 k1 k2,.slice i0_ i1 i2,.slice n0 n1 n2]) (c17:w.cell? ⟨bm,17,none⟩=some (.slice (some ⟨bt,0,none⟩) 1 tc)) (c18:w.cell? ⟨bm,18,none⟩=some (.int .i64 0)) (t6:w.cell? ⟨bt,6,none⟩=some (.slice none 0 0)) (own:Own w bt 220 mt) (ha:Ba 0 w ao vs) :
  Calls prog 132 #[.pointer (some ⟨bm,0,none⟩),.int .i64 0,.int .i64 (-1),.slice ao vs.length cap] w fun e w'=>∃bi ic ro rc,e=.returned (.tuple #[])/\w.heap.size<=bi/\bi<w'.heap.size/\Ae w' bi 0 (Gi ro n rc)/\Bp w.heap.size w' ro ((List.range n).map (Fw m re vs))/\w'.cell? ⟨bt,6,none⟩=some (.slice (some ⟨bi,0,none⟩) 1 ic)/\(∀i,i≠6->w'.cell? ⟨bt,i,none⟩=w.cell? ⟨bt,i,none⟩)/\Chg [bt] w w':=by
 have p0:w.cell? ⟨pb,po,none⟩=some (.string nm):=hp 0 _ rfl;have p1:w.cell? ⟨pb,po+1,none⟩=some (.int .i64 ln):=hp 1 _ rfl;have p2:w.cell? ⟨pb,po+2,none⟩=some (.int .i64 (m:Int)):=hp 2 _ rfl;have p3:w.cell? ⟨pb,po+3,none⟩=some (.bool re):=hp 3 _ rfl;have p4:w.cell? ⟨pb,po+4,none⟩=some (.int .i64 (n:Int)):=hp 4 _ rfl;have p5:w.cell? ⟨pb,po+5,none⟩=some (.slice u0 u1 u2):=hp 5 _ rfl;have p6:w.cell? ⟨pb,po+6,none⟩=some (.slice k0 k1 k2):=hp 6 _ rfl;have p7:w.cell? ⟨pb,po+7,none⟩=some (.slice i0_ i1 i2):=hp 7 _ rfl;have p8:w.cell? ⟨pb,po+8,none⟩=some (.slice n0 n1 n2):=hp 8 _ rfl;have hmk:=Bj (P:=prog) 224 325 _ 8 88 underlying224 A5m .i64 .i64 n (by omega) (by omega);go_in;refine wk fun K HK=>?_;go_wp2;refine HK.out _ _ ?_;clear HK K;refine wk fun K HK=>?_;refine rgL ?_;have X8:=Blk.new w #[.string nm,.int .i64 ln,.int .i64 (m:Int),.bool re,.int .i64 (n:Int),.slice u0 u1 u2,.slice k0 k1 k2,.slice i0_ i1 i2,.slice n0 n1 n2] 77;have x8:=X8.cell;repeat (refine plF rfl ⟨?_,?_,?_⟩;rotate_left;(focus go_simp;with_reducible rfl);try simp only[Act.put,yC,yJ,yK])
 refine plW rfl (.slice (some ⟨w.heap.size+1,0,none⟩) n n) ((w.alloc (.cells #[.string nm,.int .i64 ln,.int .i64 (m:Int),.bool re,.int .i64 (n:Int),.slice u0 u1 u2,.slice k0 k1 k2,.slice i0_ i1 i2,.slice n0 n1 n2] 77)).alloc (.cells (madeCells #[.int .i64 0,.int .i64 0,.int .i64 0,.float .f64 0,.string ByteArray.empty,.int .i64 0,.int .i64 0,.slice none 0 0] (n*8)) 325)) (by go_simp;try rfl) ?_;simp only[Act.put,yC,yJ,yK];refine plF rfl ⟨?_,?_,?_⟩;rotate_left
 ·go_simp
  with_reducible rfl
 simp only[Act.put,yC,yJ,yK];refine plW rfl (.pointer (some ⟨w.heap.size+2,0,none⟩)) (((w.alloc (.cells #[.string nm,.int .i64 ln,.int .i64 (m:Int),.bool re,.int .i64 (n:Int),.slice u0 u1 u2,.slice k0 k1 k2,.slice i0_ i1 i2,.slice n0 n1 n2] 77)).alloc (.cells (madeCells #[.int .i64 0,.int .i64 0,.int .i64 0,.float .f64 0,.string ByteArray.empty,.int .i64 0,.int .i64 0,.slice none 0 0] (n*8)) 325)).alloc (.cells #[.int .i64 0,.int .i64 0,.int .i64 0,.slice none 0 0,.int .i64 0,.int .i64 0,.int .i64 0,.int .i64 0,.int .i64 0,.slice none 0 0,.slice none 0 0,.slice none 0 0,.bool false,.bool false,.int .i64 0,.slice none 0 0,.string ByteArray.empty,.int .i64 0] 227)) (by go_simp;try rfl) ?_;simp only[Act.put,yC,yJ,yK];have X9:=Blk.nh (W:=((w.alloc (.cells #[.string nm,.int .i64 ln,.int .i64 (m:Int),.bool re,.int .i64 (n:Int),.slice u0 u1 u2,.slice k0 k1 k2,.slice i0_ i1 i2,.slice n0 n1 n2] 77)).alloc (.cells (madeCells #[.int .i64 0,.int .i64 0,.int .i64 0,.float .f64 0,.string ByteArray.empty,.int .i64 0,.int .i64 0,.slice none 0 0] (n*8)) 325))) (n:=w.heap.size+2) #[.int .i64 0,.int .i64 0,.int .i64 0,.slice none 0 0,.int .i64 0,.int .i64 0,.int .i64 0,.int .i64 0,.int .i64 0,.slice none 0 0,.slice none 0 0,.slice none 0 0,.bool false,.bool false,.int .i64 0,.slice none 0 0,.string ByteArray.empty,.int .i64 0] 227 (by simp);have HT:=X9.there;refine plS rfl ⟨_,Dk (b:=w.heap.size+2) (o:=0) (cells:=#[.int .i64 1,.int .i64 0,.int .i64 0,.slice none 0 0,.int .i64 0,.int .i64 (-1),.int .i64 0,.int .i64 0,.int .i64 0,.slice (some ⟨w.heap.size+1,0,none⟩) n n,.slice none 0 0,.slice none 0 0,.bool false,.bool false,.int .i64 0,.slice none 0 0,.string ByteArray.empty,.int .i64 (-1)]) (x:=.tmp 9) (y:=.tmp 25) HT (by kernel_rfl) (by simp[Value.oneCell']) rfl (by simp[Act.eval]) (by simp[Act.eval];rfl),?_⟩;refine wpList_nil ?_;refine HK.out _ _ ?_;clear HK K;have HO:Hid (Uk w ((((w.alloc (.cells #[.string nm,.int .i64 ln,.int .i64 (m:Int),.bool re,.int .i64 (n:Int),.slice u0 u1 u2,.slice k0 k1 k2,.slice i0_ i1 i2,.slice n0 n1 n2] 77)).alloc (.cells (madeCells #[.int .i64 0,.int .i64 0,.int .i64 0,.float .f64 0,.string ByteArray.empty,.int .i64 0,.int .i64 0,.slice none 0 0] (n*8)) 325)).alloc (.cells #[.int .i64 0,.int .i64 0,.int .i64 0,.slice none 0 0,.int .i64 0,.int .i64 0,.int .i64 0,.int .i64 0,.int .i64 0,.slice none 0 0,.slice none 0 0,.slice none 0 0,.bool false,.bool false,.int .i64 0,.slice none 0 0,.string ByteArray.empty,.int .i64 0] 227)).setCells (w.heap.size+2) 0 #[.int .i64 1,.int .i64 0,.int .i64 0,.slice none 0 0,.int .i64 0,.int .i64 (-1),.int .i64 0,.int .i64 0,.int .i64 0,.slice (some ⟨w.heap.size+1,0,none⟩) n n,.slice none 0 0,.slice none 0 0,.bool false,.bool false,.int .i64 0,.slice none 0 0,.string ByteArray.empty,.int .i64 (-1)].toList) n 0 vs #[.string nm,.int .i64 ln,.int .i64 (m:Int),.bool re,.int .i64 (n:Int),.slice u0 u1 u2,.slice k0 k1 k2,.slice i0_ i1 i2,.slice n0 n1 n2] [.int .i64 1,.int .i64 0,.int .i64 0,.slice none 0 0,.int .i64 0,.int .i64 (-1),.int .i64 0,.int .i64 0,.int .i64 0,.slice (some ⟨w.heap.size+1,0,none⟩) n n,.slice none 0 0,.slice none 0 0,.bool false,.bool false,.int .i64 0,.slice none 0 0,.string ByteArray.empty,.int .i64 (-1)]):=by have G:Chg [w.heap.size+2] (((w.alloc (.cells #[.string nm,.int .i64 ln,.int .i64 (m:Int),.bool re,.int .i64 (n:Int),.slice u0 u1 u2,.slice k0 k1 k2,.slice i0_ i1 i2,.slice n0 n1 n2] 77)).alloc (.cells (madeCells #[.int .i64 0,.int .i64 0,.int .i64 0,.float .f64 0,.string ByteArray.empty,.int .i64 0,.int .i64 0,.slice none 0 0] (n*8)) 325)).alloc (.cells #[.int .i64 0,.int .i64 0,.int .i64 0,.slice none 0 0,.int .i64 0,.int .i64 0,.int .i64 0,.int .i64 0,.int .i64 0,.slice none 0 0,.slice none 0 0,.slice none 0 0,.bool false,.bool false,.int .i64 0,.slice none 0 0,.string ByteArray.empty,.int .i64 0] 227)) ((((w.alloc (.cells #[.string nm,.int .i64 ln,.int .i64 (m:Int),.bool re,.int .i64 (n:Int),.slice u0 u1 u2,.slice k0 k1 k2,.slice i0_ i1 i2,.slice n0 n1 n2] 77)).alloc (.cells (madeCells #[.int .i64 0,.int .i64 0,.int .i64 0,.float .f64 0,.string ByteArray.empty,.int .i64 0,.int .i64 0,.slice none 0 0] (n*8)) 325)).alloc (.cells #[.int .i64 0,.int .i64 0,.int .i64 0,.slice none 0 0,.int .i64 0,.int .i64 0,.int .i64 0,.int .i64 0,.int .i64 0,.slice none 0 0,.slice none 0 0,.slice none 0 0,.bool false,.bool false,.int .i64 0,.slice none 0 0,.string ByteArray.empty,.int .i64 0] 227)).setCells (w.heap.size+2) 0 #[.int .i64 1,.int .i64 0,.int .i64 0,.slice none 0 0,.int .i64 0,.int .i64 (-1),.int .i64 0,.int .i64 0,.int .i64 0,.slice (some ⟨w.heap.size+1,0,none⟩) n n,.slice none 0 0,.slice none 0 0,.bool false,.bool false,.int .i64 0,.slice none 0 0,.string ByteArray.empty,.int .i64 (-1)].toList):=Chg.sets (yT.2 rfl) _ _ (Chg.refl _ _);have Y8:Blk (((w.alloc (.cells #[.string nm,.int .i64 ln,.int .i64 (m:Int),.bool re,.int .i64 (n:Int),.slice u0 u1 u2,.slice k0 k1 k2,.slice i0_ i1 i2,.slice n0 n1 n2] 77)).alloc (.cells (madeCells #[.int .i64 0,.int .i64 0,.int .i64 0,.float .f64 0,.string ByteArray.empty,.int .i64 0,.int .i64 0,.slice none 0 0] (n*8)) 325)).alloc (.cells #[.int .i64 0,.int .i64 0,.int .i64 0,.slice none 0 0,.int .i64 0,.int .i64 0,.int .i64 0,.int .i64 0,.int .i64 0,.slice none 0 0,.slice none 0 0,.slice none 0 0,.bool false,.bool false,.int .i64 0,.slice none 0 0,.string ByteArray.empty,.int .i64 0] 227)) w.heap.size #[.string nm,.int .i64 ln,.int .i64 (m:Int),.bool re,.int .i64 (n:Int),.slice u0 u1 u2,.slice k0 k1 k2,.slice i0_ i1 i2,.slice n0 n1 n2] 77:=(X8.alloc _).alloc _;have Y1:Blk (((w.alloc (.cells #[.string nm,.int .i64 ln,.int .i64 (m:Int),.bool re,.int .i64 (n:Int),.slice u0 u1 u2,.slice k0 k1 k2,.slice i0_ i1 i2,.slice n0 n1 n2] 77)).alloc (.cells (madeCells #[.int .i64 0,.int .i64 0,.int .i64 0,.float .f64 0,.string ByteArray.empty,.int .i64 0,.int .i64 0,.slice none 0 0] (n*8)) 325)).alloc (.cells #[.int .i64 0,.int .i64 0,.int .i64 0,.slice none 0 0,.int .i64 0,.int .i64 0,.int .i64 0,.int .i64 0,.int .i64 0,.slice none 0 0,.slice none 0 0,.slice none 0 0,.bool false,.bool false,.int .i64 0,.slice none 0 0,.string ByteArray.empty,.int .i64 0] 227)) (w.heap.size+1) (madeCells #[.int .i64 0,.int .i64 0,.int .i64 0,.float .f64 0,.string ByteArray.empty,.int .i64 0,.int .i64 0,.slice none 0 0] (n*8)) 325:=(Blk.nh _ _ (by simp)).alloc _;have Z1:=(G.block (w.heap.size+1) (by simp) Y1.lt).trans Y1;refine⟨Below.sets _ _ ((((yA _ _).alloc (yB _) _).alloc (by simp) _).alloc (by simp;omega) _) (by omega),(G.block _ (by simp) Y8.lt).trans Y8,yS _ _ 0 _ HT,yF X9.lt G.size,⟨_,Z1,size_madeCells _ _⟩,fun i hi=>by rw[rgJ,if_neg (Nat.not_lt_zero _)];exact Abc Z1 hi⟩
 generalize (((w.alloc (.cells #[.string nm,.int .i64 ln,.int .i64 (m:Int),.bool re,.int .i64 (n:Int),.slice u0 u1 u2,.slice k0 k1 k2,.slice i0_ i1 i2,.slice n0 n1 n2] 77)).alloc (.cells (madeCells #[.int .i64 0,.int .i64 0,.int .i64 0,.float .f64 0,.string ByteArray.empty,.int .i64 0,.int .i64 0,.slice none 0 0] (n*8)) 325)).alloc (.cells #[.int .i64 0,.int .i64 0,.int .i64 0,.slice none 0 0,.int .i64 0,.int .i64 0,.int .i64 0,.int .i64 0,.int .i64 0,.slice none 0 0,.slice none 0 0,.slice none 0 0,.bool false,.bool false,.int .i64 0,.slice none 0 0,.string ByteArray.empty,.int .i64 0] 227)).setCells (w.heap.size+2) 0 #[.int .i64 1,.int .i64 0,.int .i64 0,.slice none 0 0,.int .i64 0,.int .i64 (-1),.int .i64 0,.int .i64 0,.int .i64 0,.slice (some ⟨w.heap.size+1,0,none⟩) n n,.slice none 0 0,.slice none 0 0,.bool false,.bool false,.int .i64 0,.slice none 0 0,.string ByteArray.empty,.int .i64 (-1)].toList=w2 at *;clear X8 x8 hmk HT X9 p0 p1 p2 p3 p4 p5 p6 p7 p8;have x8:=HO.out.proto.cell;clear x8;refine wk fun K HK=>?_;go_wp2;refine HK.out _ _ ?_;clear HK K;refine wk fun K HK=>?_;go_wp2;go_loopw [10] (fun y wr=>∃j:Nat,j<=m/\y=.int .i64 j/\Hid (Uk w wr n j vs #[.string nm,.int .i64 ln,.int .i64 (m:Int),.bool re,.int .i64 (n:Int),.slice u0 u1 u2,.slice k0 k1 k2,.slice i0_ i1 i2,.slice n0 n1 n2] [.int .i64 1,.int .i64 0,.int .i64 0,.slice none 0 0,.int .i64 0,.int .i64 (-1),.int .i64 0,.int .i64 0,.int .i64 0,.slice (some ⟨w.heap.size+1,0,none⟩) n n,.slice none 0 0,.slice none 0 0,.bool false,.bool false,.int .i64 0,.slice none 0 0,.string ByteArray.empty,.int .i64 (-1)])) (fun y _=>m-(intOf y).toNat);case atStart=>exact⟨0,yE _,rfl,HO.out⟩
 case round=>
  obtain⟨j,hj,rfl,HJ⟩:=hrel;clear HO;have x8:=HJ.out.proto.cell;by_cases hlt:j<m
  ·have hjn:j<n:=by omega
   have x9:wr.cell? ⟨w.heap.size+2,9,none⟩=some (.slice (some ⟨w.heap.size+1,0,none⟩) n n):=by have h:=HJ.out.item 9 _ rfl;rwa [yM]at h
   have HAt:Hid (∀W,Below wr.heap.size wr W->Calls prog 204 #[.slice ao vs.length cap,.int .i64 j] W fun e w'=>e=.returned (vs.getD j zV).val/\Below W.heap.size W w'):=fun W hb=>Aaz ao cap vs j W (ha.l (A7.o (HJ.out.below.trans (hb.mono HJ.out.below.size))));obtain⟨u,HU⟩:∃u,Hid (vs.getD j zV=u):=⟨_,rfl⟩;rw[HU.out]at HAt;obtain⟨a0,a1,a2,a3,a4⟩:=u;dsimp only[Vd.val]at HAt;go_wp2_with fail;have Dd:Below wr.heap.size wr wr.drew:=(yA _ _).drew;refine rgN (fun W=>W.cell? ⟨w.heap.size+2,9,none⟩=some (.slice (some ⟨w.heap.size+1,0,none⟩) n n)) x9 (fun hS=>?_);repeat (refine tkF (by kernel_rfl) (by rfl) hS ⟨?_,fun W hW=>?_,?_⟩;rotate_left;(focus (have s0:=hW;go_simp;with_reducible rfl));try simp only[Act.put,yC,yJ,yK])
   refine doN (by kernel_rfl) (by rfl) (fun K hK=>?_);go_wp2_with fail;refine(HAt.out _ Dd).mono ?_;rintro e w1 ⟨rfl,hw1⟩;have HJ1:Hid _:=(HJ.out.l Dd).l hw1;have d9:w1.cell? ⟨w.heap.size+2,9,none⟩=some (.slice (some ⟨w.heap.size+1,0,none⟩) n n):=by have h:=HJ1.out.item 9 _ rfl;rwa [yM]at h
   clear hS;refine hK.out _ _ d9 (fun hS=>?_);clear hK K;try simp only[Act.put,yC,yJ,yK]
   repeat (refine tkF (by kernel_rfl) (by rfl) hS ⟨?_,fun W hW=>?_,?_⟩;rotate_left;(focus (have s0:=hW;go_simp;with_reducible rfl));try simp only[Act.put,yC,yJ,yK])
   refine doN (by kernel_rfl) (by rfl) (fun K hK=>?_);have hthere:w1.there (w.heap.size+1) (j*8) 8:=fun c hc=>by have h:=HJ1.out.own.there (j*8+c) (by omega);rwa [yM]at h
   refine wp_store_mid 325 (.tmp 50) (.tmp 49) rfl (w.heap.size+1) (j*8) #[.int .i64 1,.int .i64 a0,.int .i64 a1,.float .f64 a2,.string a3,.int .i64 a4,.int .i64 0,.slice none 0 0] (by simp[Act.eval]) (by simp[Act.eval];try rfl) hthere (by kernel_rfl) (by simp[Value.oneCell']) ?_;refine hK.out _ _ ?_ (fun _=>enD (by kernel_rfl) (NoPanic.normal ?_))
   ·rw[World.cell?_setCells_out _ _ _ _ _ (fun hb _=>absurd hb (by simp))];exact d9
   have HJ2:Hid (Uk w (w1.setCells (w.heap.size+1) (j*8) ((⟨1,⟨a0,a1,a2,a3,a4⟩,0,[]⟩:Rg).cs none 0)) n (j+1) vs #[.string nm,.int .i64 ln,.int .i64 (m:Int),.bool re,.int .i64 (n:Int),.slice u0 u1 u2,.slice k0 k1 k2,.slice i0_ i1 i2,.slice n0 n1 n2] [.int .i64 1,.int .i64 0,.int .i64 0,.slice none 0 0,.int .i64 0,.int .i64 (-1),.int .i64 0,.int .i64 0,.int .i64 0,.slice (some ⟨w.heap.size+1,0,none⟩) n n,.slice none 0 0,.slice none 0 0,.bool false,.bool false,.int .i64 0,.slice none 0 0,.string ByteArray.empty,.int .i64 (-1)]):=HJ1.out.fill hjn HU.out;clear HJ1 HJ hK K hS d9 x8 x9 HAt hthere;go_wp2;go_roundw;case rel=>exact⟨j+1,by omega,by go_num,HJ2.out⟩
   case measure=>simp[intOf];omega
  ·obtain rfl:j=m:=by omega
   go_wp2;refine HK.out _ _ ?_;clear HK;refine wp_seq_k ?_;intro K2 hK;go_cut [0,9] from 11 (fun v0 v9 wx=>v0=.pointer (some ⟨bm,0,none⟩)/\v9=.pointer (some ⟨w.heap.size+2,0,none⟩)/\Hid (Below w.heap.size w wx/\Ae wx (w.heap.size+2) 0 [.int .i64 1,.int .i64 0,.int .i64 0,.slice none 0 0,.int .i64 0,.int .i64 (-1),.int .i64 0,.int .i64 0,.int .i64 0,.slice (some ⟨w.heap.size+1,0,none⟩) n n,.slice none 0 0,.slice none 0 0,.bool false,.bool false,.int .i64 0,.slice none 0 0,.string ByteArray.empty,.int .i64 (-1)]/\w.heap.size+1<wx.heap.size/\∀i,i<n->∃io ic,Ae wx (w.heap.size+1) (i*8) ((Fw j re vs i).cs io ic)/\Ba w.heap.size wx io (Fw j re vs i).list));case first=>
    have x9:wr.cell? ⟨w.heap.size+2,9,none⟩=some (.slice (some ⟨w.heap.size+1,0,none⟩) n n):=by have h:=HJ.out.item 9 _ rfl;rwa [yM]at h
    cases re with
    | false=>
     go_wp2;go_meet;case rel=>
      refine⟨rfl,rfl,HJ.out.below,HJ.out.item,HJ.out.own.lt,fun i hi=>⟨none,0,?_,?_⟩⟩
      ·have e:Fw j false vs i=rgJ vs j i:=by unfold Fw rgJ;by_cases hl:i<j;rw[if_pos hl,if_pos hl];rw[if_neg hl,if_neg hl,if_neg (by simp)]
       rw[e];exact HJ.out.rows i hi
      ·have e:(Fw j false vs i).list=[]:=by unfold Fw;by_cases hl:i<j;rw[if_pos hl];rw[if_neg hl,if_neg (by simp)]
       rw[e];intro k x hx;simp at hx
    | true=>
     have hmn2:=hre rfl;by_cases hlong:j<vs.length
     ·obtain⟨u,huj⟩:=A8 hlong;obtain⟨ab,aof,rfl,_⟩:=ha j u huj;have HJN:Hid (∀W,Below wr.heap.size wr W->Calls prog 205 #[.slice (some ⟨ab,aof+j*5,none⟩) (vs.length-j) (cap-j),.slice none 0 0] W fun e w'=>∃v,e=.returned v/\w'.ownsRow W.heap.size 210 5 v (vs.length-j) ((vs.drop j).flatMap Vd.vals)/\Below W.heap.size W w'):=fun W hb=>by
       have h:=A5x (some ⟨ab,aof+j*5,none⟩) (cap-j) (vs.drop j) W (by simp;omega) ((ha.dropN j).l (A7.o (HJ.out.below.trans (hb.mono HJ.out.below.size))));rw[List.length_drop]at h;exact h
      go_wp2_with fail;refine(HJN.out _ (yA _ _)).mono ?_;rintro e w5 ⟨v5,rfl,ho5,hw5⟩;obtain⟨g5,c5,rfl,hge,hog,_,hrow⟩:=(Br ho5).resolve_left (fun h=>absurd h.2.1 (by omega));have HJ5:Hid _:=HJ.out.l hw5;have hgw:=HJ.out.ilt;have HFR:Hid _:=HJ5.out.rest hmn2 (vs.drop j) (some ⟨g5,0,none⟩) c5 rfl (Nw hrow (yI HJ.out.below.size hge) (fun _=>hog.lt)) (fun a h=>by injection h with h;subst h;show g5≠_;omega);have x5:w5.cell? ⟨w.heap.size+2,9,none⟩=some (.slice (some ⟨w.heap.size+1,0,none⟩) n n):=by have h:=HJ5.out.item 9 _ rfl;rwa [yM]at h
      have o9:=HJ5.out.own;have z8:=HJ5.out.proto.cell;obtain⟨v0,e0⟩:=o9.cell (i:=j*8) (by omega);obtain⟨v1,e1⟩:=o9.cell (i:=j*8+1) (by omega);obtain⟨v2,e2⟩:=o9.cell (i:=j*8+2) (by omega);obtain⟨v3,e3⟩:=o9.cell (i:=j*8+3) (by omega);obtain⟨v4,e4⟩:=o9.cell (i:=j*8+4) (by omega);obtain⟨v5,e5⟩:=o9.cell (i:=j*8+5) (by omega);obtain⟨v6,e6⟩:=o9.cell (i:=j*8+6) (by omega);obtain⟨v7,e7⟩:=o9.cell (i:=j*8+7) (by omega);have fz:=o9.frozen;clear o9 hrow hog ho5 hw5 x8 x9;go_wp2;go_meet;case rel=> refine⟨rfl,rfl,?_⟩;have h:=HFR.out;dsimp only[Rg.cs]at h;rw[List.length_drop]at h;exact h
     have hd:vs.drop j=[]:=List.drop_eq_nil_of_le (by omega);have HFR:Hid _:=HJ.out.rest hmn2 [] none 0 hd (fun i x hx=>by simp at hx) (fun a h=>by cases h);have o9:=HJ.out.own;obtain⟨v0,e0⟩:=o9.cell (i:=j*8) (by omega);obtain⟨v1,e1⟩:=o9.cell (i:=j*8+1) (by omega);obtain⟨v2,e2⟩:=o9.cell (i:=j*8+2) (by omega);obtain⟨v3,e3⟩:=o9.cell (i:=j*8+3) (by omega);obtain⟨v4,e4⟩:=o9.cell (i:=j*8+4) (by omega);obtain⟨v5,e5⟩:=o9.cell (i:=j*8+5) (by omega);obtain⟨v6,e6⟩:=o9.cell (i:=j*8+6) (by omega);obtain⟨v7,e7⟩:=o9.cell (i:=j*8+7) (by omega);have fz:=o9.frozen;clear o9;go_wp2;go_meet;case rel=>exact⟨rfl,rfl,HFR.out⟩
   case rest=>
    obtain⟨rfl,rfl,H⟩:=hcut;obtain⟨hbw,hit,hlt1,hrows⟩:=H.out;have hbt:=own.lt;have nb:w.heap.size+1∉[bt]:=by simp;omega
    have HPU:=Abn bm bt tc mt (some ⟨w.heap.size+1,0,none⟩) n n wc ((hbw.cell (p:=⟨bm,17,none⟩) (World.block_lt_of_cell? _ _ c17)).trans c17) ((hbw.cell (p:=⟨bm,18,none⟩) (World.block_lt_of_cell? _ _ c18)).trans c18) ((hbw.cell (p:=⟨bt,6,none⟩) own.lt).trans t6) (own.l hbw);have HP:Hid (∀_:Unit,_):=fun _=>HPU;have HR:Hid (∀i,i<n->∃io ic,Ae wc (w.heap.size+1) (i*8) ((Fw j re vs i).cs io ic)/\Ba w.heap.size wc io (Fw j re vs i).list):=hrows;have ld:=run_loadAt_mid (P:=prog) wc (w.heap.size+2) 0 227 _ _ hit underlying227 rfl (by kernel_rfl);clear HPU hrows H hit HJ;refine hK _ _ ?_;clear hK;refine rgL ?_;refine plF rfl ⟨?_,?_,?_⟩;rotate_left
    ·go_simp
     with_reducible rfl
    simp only[Act.put,yC,yJ,yK];refine plF rfl ⟨_,Cv (p:=.pointer (some ⟨w.heap.size+2,0,none⟩)) ld rfl (by simp[Act.eval]),?_⟩;simp only[Act.put,yC,yJ,yK];clear ld;refine wpList_plain rfl fun K3 hK3=>?_;have HK3:Hid _:=hK3;clear hK3;go_wp2_with fail;refine(HP.out ()).mono ?_;rintro e w9 ⟨bi,ic,rfl,q1,q2,q3,q4,q5,q6⟩;have hbl:bt<wc.heap.size:=yF hbt hbw.size;have F:Bp w.heap.size w9 (some ⟨w.heap.size+1,0,none⟩) ((List.range n).map (Fw j re vs)):=A9e (by omega) (yF hlt1 q6.size) fun i hi=>by
     obtain⟨io,ic,h1,h2⟩:=HR.out i hi;refine⟨io,ic,Ae.chg h1 q6 nb,fun k x hx=>?_⟩;obtain⟨b,o,e1,e2,e3,r0,r1,r2,r3,r4⟩:=h2 k x hx;have hb:b∉[bt]:=by simp;omega
     exact⟨b,o,e1,e2,yF e3 q6.size,q6.cell hb r0,q6.cell hb r1,q6.cell hb r2,q6.cell hb r3,q6.cell hb r4⟩
    have C9:Chg [bt] w w9:=((Chg.refl [bt] w).trans ⟨hbw.os,hbw.tape,hbw.output,hbw.size,fun b _ hl=>hbw.block b hl⟩ (fun _ h=>h)).trans q6 (fun _ h=>h);refine HK3.out _ _ (wpList_nil ?_);go_end0;exact⟨bi,ic,_,_,rfl,yI hbw.size q1,q2,q3,F,q4,fun i hi=>(q5 i hi).trans (hbw.cell (p:=⟨bt,i,none⟩) hbt),C9⟩
end Go.Proofs.YtjbbppblgjhapaaGreatDoor
