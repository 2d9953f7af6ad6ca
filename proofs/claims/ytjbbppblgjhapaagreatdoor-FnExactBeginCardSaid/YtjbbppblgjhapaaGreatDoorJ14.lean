import Derived.Test.YtjbbppblgjhapaaGreatDoorJ09
set_option maxRecDepth 100000
set_option maxHeartbeats 8000000
namespace Go.Proofs.YtjbbppblgjhapaaGreatDoor
open Go.Deep Go.Proofs.Tryz Go.RowKit
variable{ts:List Int}{xs:List Value}{b base gc lo r tc x:Nat}{ao go to:Option Addr}{s:St}{t:TypeId}{v:Value}{w:World}
theorem Tryz.info_next:(prog.info? 158).map (fun i=>(i.zero,i.size,i.bytes))=some (some (.agg #[(),false,nS,nS]),4,64):=by kernel_rfl
section
variable {w:World} {ops:Array Oper} {rest:List Oper} {o:Oper} {a:Act} {Q:Exit→Act→World→Prop}
theorem Km (hgd:o.guard=none) (s x:Operand) (ho:o.op=.call {callee:=.builtin .append,args:=#[s,x],argTypes:=#[155,155]})
  (base:Nat) (v:Value) (n:Nat) (xs cs:List Value) (B:Nat) (hs:a.eval s=v) (hown:w.ownsRow base 158 4 v n xs) (hx:a.eval x=.slice B 1 1) (hcl:cs.length=4) (h1:∀u∈cs,u.oneCell'=true) (hB:∀j,w.cell? ⟨B,j,none⟩=cs[j]?)
  (hn:n<=1048576) (hbase:base<=(w:Nat))
  (h:∀v' w',w'.ownsRow base 158 4 v' (n+1) (xs++cs)->w.grownBy w' v.ownBlock->wpList prog ops Q rest (a.put o.dst v') w'):wpList prog ops Q (o::rest) a w:=by
 obtain⟨i0,hi,hz0,hz1,hz2⟩:=info_parts Tryz.info_next;refine wpList_append_own w hgd s x 155 ho base 158 i0 (.agg #[(),false,nS,nS]) 4 64 underlying155 hi hz0 hz1 hz2 rfl (by decide) v n xs hs hown ⟨B,0,none⟩ 1 1 cs hx (by rw[hcl]) ?_ h1 (by unfold maxLen;omega) (by omega) hbase ?_
 ·intro j q hj;have h0:=(hB j).trans hj;by_cases hj0:j=0
  ·subst hj0;simpa[Addr.add]using h0
  ·simpa[Addr.add,hj0]using h0
 ·intro v' w' h1 h2 _;exact h v' w' h1 h2
end
def Ae3 (lo:Nat) (w:World) (b o:Nat) (x:Nat×St):Prop:=
 w.cell? (b,o)=some (.int .i64 x.1)/\w.cell? (b,o+1)=some (.bool true)/\∃to tc go gc,w.cell? (b,o+2)=some (.slice to x.2.types.length tc)/\w.cell? (b,o+3)=some (.slice go x.2.guards.length gc)/\Bl lo w to x.2.types/\Bn lo w go x.2.guards
def Jk (lo:Nat) (w:World) (ao:Option Addr) (l:List (Nat×St)):Prop:=Ah lo w ao 4 (Ae3 lo w) l
theorem Jk.l{w':World} {l:List (Nat×St)} (h:Jk lo w ao l) (hk:A7 lo w w'):Jk lo w' ao l:=
 Ah.l h hk fun _ _ _ hl hb _ ⟨h1,h2,to,tc,go,gc,h3,h4,h5,h6⟩=>⟨(hk.cell hl hb).trans h1,(hk.cell hl hb).trans h2,to,tc,go,gc,(hk.cell hl hb).trans h3,(hk.cell hl hb).trans h4,h5.l hk,h6.l hk⟩
def J2 (x:Int) (tv gv:Value):List Value:=[x,true,tv,gv]
theorem A5h {g n cap:Nat} (h:w.ownsRow base 158 4 (.slice g n cap) n xs) (j x:Nat) (s:St) (to go:Option Addr) (tc gc:Nat) (hg:lo<=base)
  (h0:xs[j*4]?=some (x:Value)) (h1:xs[j*4+1]?=some (.bool true)) (h2:xs[j*4+2]?=some (.slice to s.types.length tc)) (h3:xs[j*4+3]?=some (.slice go s.guards.length gc)) (ht:Bl lo w to s.types) (hgd:Bn lo w go s.guards) :
  ∃b off,(some ⟨g,0,none⟩:Option Addr)=some ⟨b,off,none⟩/\lo<=b/\b<(w:Nat)/\Ae3 lo w b (off+j*4) (x,s):=by
 have hl:=h.lt g rfl;refine⟨g,0,rfl,by omega,hl.2,?_⟩;rw[yM];exact⟨D9 h h0,D9 h h1,to,tc,go,gc,D9 h h2,D9 h h3,ht,hgd⟩
theorem A2t (h:w.ownsRow base 158 4 v 1 (J2 x (.slice to s.types.length tc) (.slice go s.guards.length gc))) (hg:lo<=base) (ht:Bl lo w to s.types) (hgd:Bn lo w go s.guards) :
  ∃ao cap,v=.slice ao 1 cap/\Jk lo w ao [(x,s)]:=by
 rcases Ce h with ⟨_,h2⟩|⟨g,cap,rfl,_,_⟩
 ·cases h2
 ·refine⟨_,cap,rfl,?_⟩;intro j y hy
  match j,hy with
  | 0,hy=>simp at hy;subst hy;exact A5h h 0 x s to go tc gc hg rfl rfl rfl rfl ht hgd
theorem V8{x':Nat}{s':St}{to' go':Option Addr}{tc' gc':Nat} (h:w.ownsRow base 158 4 v 2 (J2 x (.slice to s.types.length tc) (.slice go s.guards.length gc)++J2 x' (.slice to' s'.types.length tc') (.slice go' s'.guards.length gc'))) (hg:lo<=base)
  (ht:Bl lo w to s.types) (hgd:Bn lo w go s.guards) (ht':Bl lo w to' s'.types) (hgd':Bn lo w go' s'.guards):∃ao cap,v=.slice ao 2 cap/\Jk lo w ao [(x,s),(x',s')]:=by
 rcases Ce h with ⟨_,h2⟩|⟨g,cap,rfl,_,_⟩
 ·cases h2
 ·refine⟨_,cap,rfl,?_⟩;intro j y hy
  match j,hy with
  | 0,hy=>simp at hy;subst hy;exact A5h h 0 x s to go tc gc hg rfl rfl rfl rfl ht hgd
  | 1,hy=>simp at hy;subst hy;exact A5h h 1 x' s' to' go' tc' gc' hg rfl rfl rfl rfl ht' hgd'
def Lm (lo:Nat) (w:World) (l:List (Nat×St)) (e:Ending) (w':World):Prop:=(∃ao cap,e=.returned (.slice ao l.length cap)/\Jk lo w' ao l)/\Below w w w'
theorem Un {x:Int} {r:Bool} {tv gv:Value} (h:Blk w b #[x,.bool r,tv,gv] t) (hr:r=true) (j:Nat):w.cell? (b,j)=(J2 x tv gv)[j]?:=by subst hr;rw[h.cell j];unfold J2;simp
def Mw (ts:List Int) (b r:Nat):List Int:=ts.take b++(List.replicate (r-b) 0++ts.drop r)
theorem A2s : Mw ts b b=ts:=by unfold Mw;simp
theorem Yq (h1:b<=r) (h2:r<=ts.length):(Mw ts b r).length=ts.length:=by unfold Mw;simp;omega
theorem A8r (ts:List Int) (b:Nat):Mw ts b ts.length=ts.take b++List.replicate (ts.length-b) 0:=by unfold Mw;simp
theorem A8s (h1:b<=r) (h2:r<ts.length):(Mw ts b r).set r 0=Mw ts b (r+1):=by unfold Mw;rw[List.set_append_right _ _ (by simp;omega),List.set_append_right _ _ (by simp;omega),List.drop_eq_getElem_cons h2];congr 1;simp only[List.length_take,List.length_replicate];rw[show r-min b ts.length-(r-b)=0 by omega,yJ,show r+1-b=(r-b)+1 by omega,List.replicate_succ',List.append_assoc];rfl
theorem A51 (w:World) (o1 o2 o3 o4:Obj) (x:Int) (tv gv:Value) (r:Bool) (t:TypeId) (hr:r=true) (j:Nat):(((((w.alloc o1).alloc o2).alloc o3).alloc o4).alloc (.cells #[x,.bool r,tv,gv] t)).cell? ((w:Nat)+4,j)=(J2 x tv gv)[j]?:=by have h:=Blk.new ((((w.alloc o1).alloc o2).alloc o3).alloc o4) #[x,.bool r,tv,gv] t;rw[nblk_alloc,nblk_alloc,nblk_alloc,nblk_alloc]at h;exact Un h hr j
theorem U9 (p:Pd) (h:Ph) (i lo np:Nat) (n:Nd) (rb:Bool) (bo bg to go:Option Addr) (bc bgc tc gc:Nat) (s:St) (ts:List Int) (gs:List Gd) (w:World) (hi:p.ins[i]?=some n) (hz:p.ins.length<=6000) (hn:Ep np p n) (hr:p.regs<=250) (hsl:(s.types.length:Int)=p.regs) (htl:(ts.length:Int)=p.regs)
  (hp:Ck 0 w h.io p.ins) (hlo:lo<=(w:Nat)) (hbt:Bl lo w bo s.types) (hbg:Bn lo w bg s.guards) (ht:Bl lo w to ts) (hg:Bn lo w go gs) :
  Calls prog 91 #[.agg (p.cells h),i,stV rb bo s.types.length bc bg s.guards.length bgc,.slice to ts.length tc,.slice go gs.length gc] w (Lm lo w (Fg n i s ts gs)):=by
 obtain⟨ib,io,hio,_,hil,q0,q1,q2,q3,q4⟩:=hp i n hi;have hlt:=(yD.1 hi).1;obtain⟨f1,_,f3,f4,f5,_⟩:=Hr hn;have hlo1:=hn.lo;clear hp hn hi;obtain⟨op,a,b,c,d⟩:=n;obtain⟨o1,c1,o2,c2,o3,c3,o4,c4⟩:=h;dsimp only[Pd.cells]at *;subst hio;have B4:∀o1 o2 o3 o4,Below w w ((((w.alloc o1).alloc o2).alloc o3).alloc o4):=fun o1 o2 o3 o4=>((((yA _ _).alloc (yB _) o1).alloc (by simp) o2).alloc (by simp;omega) o3).alloc (by simp;omega) o4;have k1:(i:Int)<p.ins.length:=by omega
 have X4:=((Blk.new (w.alloc (.cells #[p.name,p.line,p.params,.bool p.rest,p.regs,.slice o1 p.ups.length c1,.slice o2 p.consts.length c2,.slice (some ⟨ib,io,none⟩) p.ins.length c3,.slice o4 p.named.length c4] 77)) #[.bool rb,.slice bo s.types.length bc,.slice bg s.guards.length bgc] 146).alloc (.cells #[op,a,b,c,d] 81)).alloc (.cells #[true,.slice to ts.length tc,.slice go gs.length gc] 146);have N4:=(Blk.new ((w.alloc (.cells #[p.name,p.line,p.params,.bool p.rest,p.regs,.slice o1 p.ups.length c1,.slice o2 p.consts.length c2,.slice (some ⟨ib,io,none⟩) p.ins.length c3,.slice o4 p.named.length c4] 77)).alloc (.cells #[.bool rb,.slice bo s.types.length bc,.slice bg s.guards.length bgc] 146)) #[op,a,b,c,d] 81).alloc (.cells #[true,.slice to ts.length tc,.slice go gs.length gc] 146);have S4:=Blk.new (((w.alloc (.cells #[p.name,p.line,p.params,.bool p.rest,p.regs,.slice o1 p.ups.length c1,.slice o2 p.consts.length c2,.slice (some ⟨ib,io,none⟩) p.ins.length c3,.slice o4 p.named.length c4] 77)).alloc (.cells #[.bool rb,.slice bo s.types.length bc,.slice bg s.guards.length bgc] 146)).alloc (.cells #[op,a,b,c,d] 81)) #[true,.slice to ts.length tc,.slice go gs.length gc] 146;rw[nblk_alloc]at X4;rw[nblk_alloc,nblk_alloc]at N4;rw[nblk_alloc,nblk_alloc,nblk_alloc]at S4;unfold Fg goF Ex stV;dsimp only;by_cases h19:op=19
 ·subst h19;have ha:=(f3 rfl).1;show Calls prog 91 _ w (Lm lo w [(a.toNat,⟨ts,gs⟩)]);obtain⟨aN,rfl⟩:=yN ha;go_in;go_wp2_with (at_builtin;refine Km rfl _ _ rfl (w:Nat) _ 0 [] (J2 (aN:Int) (.slice to ts.length tc) (.slice go gs.length gc)) ((w:Nat)+4) rfl (yU _ _ _ _) rfl rfl ?c0 ?c1 (by omega) ?c3 ?_);case c0=>intro u hu;simp[J2]at hu;rcases hu with rfl|rfl|rfl|rfl<;>rfl
  case c1=>intro j;rfl
  case c3=>first|omega|(simp;omega)
  ·intro v2 w2 H1 H2;have B5:=((B4 _ _ _ _).alloc (by simp;omega) _).grown H2 (by simp;omega) (fun k hk=>by cases hk);obtain⟨ao,cap,rfl,HF⟩:=A2t (x:=aN) (s:=⟨ts,gs⟩) (lo:=lo) H1 hlo (ht.l (A7.o B5)) (hg.l (A7.o B5));have HFF:Hid _:=HF;clear H1 H2 HF ht hg X4 N4 S4;go_wp2;go_ret;exact⟨⟨_,_,rfl,HFF.out⟩,B5⟩
 by_cases h29:op=29∨op=30
 ·rcases h29 with rfl|rfl;all_goals
   show Calls prog 91 _ w (Lm lo w []);go_in;clear ht hg X4 N4 S4;go_wp2;go_ret;exact⟨⟨_,_,rfl,fun j x hx=>by simp at hx⟩,B4 _ _ _ _⟩
 by_cases h20:op=20∨op=21∨op=38∨op=39
 ·rcases h20 with rfl|rfl|rfl|rfl;all_goals
   have hb:=(f4 (by simp)).1;show Calls prog 91 _ w (Lm lo w [(i+1,⟨ts,gs⟩),(b.toNat,⟨ts,gs⟩)]);obtain⟨bN,rfl⟩:=yN hb;go_in;go_wp2_with (at_builtin;refine Km rfl _ _ rfl (w:Nat) _ 0 [] (J2 ((i:Int)+1) (.slice to ts.length tc) (.slice go gs.length gc)) ((w:Nat)+4) rfl (yU _ _ _ _) rfl rfl ?c0 ?c1 (by omega) ?c3 ?_);case c0=>intro u hu;simp[J2]at hu;rcases hu with rfl|rfl|rfl|rfl<;>rfl
   case c1=>intro j;rfl
   case c3=>first|omega|(simp;omega)
   ·intro v2 w2 H1 H2;have B5:=((B4 _ _ _ _).alloc (by simp;omega) _).grown H2 (by simp;omega) (fun k hk=>by cases hk);have N5:=Am (N4.alloc _) H2 (by intro e;cases e);have S5:=Am (S4.alloc _) H2 (by intro e;cases e);have n5:=N5.cell;have s5:=S5.cell;have hs5:=B5.size;obtain⟨ao2,cap2,rfl⟩:=Aa H1;clear H2 X4 N4 S4;go_wp2_with (at_builtin;refine Km rfl _ _ rfl (w:Nat) _ 1 (J2 ((i:Int)+1) (.slice to ts.length tc) (.slice go gs.length gc)) (J2 (bN:Int) (.slice to ts.length tc) (.slice go gs.length gc)) (w2:Nat) rfl (H1.alloc _) rfl rfl ?c0 ?c1 (by omega) ?c3 ?_);case c0=>intro u hu;simp[J2]at hu;rcases hu with rfl|rfl|rfl|rfl<;>rfl
    case c1=>intro j;exact Un (Blk.new _ _ _) rfl _
    case c3=>first|omega|(simp;omega)
    ·intro v3 w3 H3 H4;have B6:=(B5.alloc hs5 _).grown H4 (by simp;omega) (fun k hk=>(H1.lt k hk).1);obtain⟨ao,cap,rfl,HF⟩:=V8 (x:=i+1) (x':=bN) (s:=⟨ts,gs⟩) (s':=⟨ts,gs⟩) (lo:=lo) H3 hlo (ht.l (A7.o B6)) (hg.l (A7.o B6)) (ht.l (A7.o B6)) (hg.l (A7.o B6));have HFF:Hid _:=HF;clear H1 H3 H4 HF ht hg N5 S5 n5 s5;go_wp2;go_ret;exact⟨⟨_,_,rfl,HFF.out⟩,B6⟩
 by_cases h41:op=41
 ·subst h41;have hb:=(f4 (by simp)).1;have hc:=(f5 rfl).1;have hcl:c<s.types.length:=by have:=f5 rfl;omega
  have hcl2:c<ts.length:=by have:=f5 rfl;omega
  have htl:ts.length<=250:=by omega
  have hbt:=Ah.w hbt (yE _);show Calls prog 91 _ w (Lm lo w [(i+1,⟨ts,gs⟩),(b.toNat,⟨ts.set c.toNat (Ca s.types c),gs⟩)]);obtain⟨bN,rfl⟩:=yN hb;obtain⟨cN,rfl⟩:=yN hc;go_in;go_wp2_with (at_builtin;refine Km rfl _ _ rfl (w:Nat) _ 0 [] (J2 ((i:Int)+1) (.slice to ts.length tc) (.slice go gs.length gc)) ((w:Nat)+4) rfl (yU _ _ _ _) rfl rfl ?c0 ?c1 (by omega) ?c3 ?_);case c0=>intro u hu;simp[J2]at hu;rcases hu with rfl|rfl|rfl|rfl<;>rfl
  case c1=>intro j;rfl
  case c3=>first|omega|(simp;omega)
  ·intro v2 w2 H1 H2;have B5:=((B4 _ _ _ _).alloc (by simp;omega) _).grown H2 (by simp;omega) (fun k hk=>by cases hk);have X5:=Am (X4.alloc _) H2 (by intro e;cases e);have N5:=Am (N4.alloc _) H2 (by intro e;cases e);have n5:=N5.cell;have hs5:=B5.size;obtain⟨ao2,cap2,rfl⟩:=Aa H1;have HST:Hid (∀(W W':World) (v:Value) (g cap:Nat),v=.slice g ts.length cap->W.ownsRow (W':Nat) 3 1 v ts.length (Az ts)->(W.drew.setCell (g,cN) (Ca s.types cN:Int)).ownsRow (W':Nat) 3 1 v ts.length (Az (ts.set cN (Ca s.types cN)))):=by rintro W W' v g cap rfl h;have h1:=(Ai h (yA _ _).drew).stored cN (Ca s.types cN:Int);rw[Dx]at h1;exact h1.1
   have htc:cN<s.types.length:=by omega
   obtain⟨xb,hxb⟩:=A8 htc;have HXB:Hid (Ca s.types cN=xb):=by show _=_;unfold Ca;simp[hxb]
   clear H2 X4 N4 S4;go_wp2_with fail;refine(Lx to tc ts w2 (by omega) ((Ah.w (ht.l (A7.o B5)) (yE _)))).mono ?_;rintro e w3 ⟨v3,rfl,H3,hw3⟩;have B6:=B5.trans (hw3.mono hs5);have X6:=X5.l hw3;have N6:=N5.l hw3;have H6:=Ai H1 hw3;rcases Ce H3 with ⟨_,h0⟩|⟨g,cap3,rfl,hg1,hg2⟩
   ·omega
   obtain⟨bb,bof,rfl,_,hbb,d0⟩:=hbt cN xb hxb;unfold Ho at d0;rw[Nat.mul_one]at d0;have d0:=(B6.cell hbb).trans d0;have hN6:=N5.lt;have hneA:¬(w:Nat)+1+1=g:=by omega
   have hneB:¬(w:Nat)+1=g:=by omega
   have hneC:¬bb=g:=by omega
   have x6:=X6.cell;have n6:=N6.cell;have t6:=(H3.cellAt cN (by omega)).trans (Co (by omega));have f6:=H3.frozenAt cN;have HS6:Hid _:=HST.out w3 w2 _ g cap3 rfl H3;have kc:(cN:Int)<s.types.length:=by omega
   have kt:(cN:Int)<ts.length:=by omega
   clear hxb X5 N5 n5;have n63:=N6.cell 3;have x61:=X6.cell 1;have HKP:Hid ((w3.setCell ⟨g,cN,none⟩ (.int .i64 xb)).drew.cell? ⟨w.heap.size+1+1,3,none⟩=some (.int .i64 cN)/\(w3.setCell ⟨g,cN,none⟩ (.int .i64 xb)).drew.cell? ⟨w.heap.size+1,1,none⟩=some (.slice (some ⟨bb,bof,none⟩) s.types.length bc)/\(w3.setCell ⟨g,cN,none⟩ (.int .i64 xb)).drew.cell? ⟨bb,bof+cN,none⟩=some (.int .i64 xb)):=
    ⟨(yG _ _ _ _ (fun e=>hneA e.symm)).trans n63,(yG _ _ _ _ (fun e=>hneB e.symm)).trans x61,(yG _ _ _ _ (fun e=>hneC e.symm)).trans d0⟩
   go_wp2_with fail;go_region_held3 (fun w'=>w'.cell? ((w:Nat)+1+1,3)=some (cN:Value)/\w'.cell? ((w:Nat)+1,1)=some (.slice (some ⟨bb,bof,none⟩) s.types.length bc)/\w'.cell? (bb,bof+cN)=some (xb:Value)) (first|exact HKP.out|(go_keep;done)) (fail);have B7:Below w w (w3.setCell (g,cN) xb).drew:=(B6.setCell (by dsimp only;omega) _).drew;have N7:Blk (w3.setCell (g,cN) xb).drew ((w:Nat)+1+1) _ _:=N6.setOther (p:=(g,cN)) hneA xb;have H7:=Aj H6 (w':=(w3.setCell (g,cN) xb).drew) (fun k hk=>yL _ _ _ _ (by have:=(H1.lt k hk).2;dsimp only;omega));have T7:(w3.setCell (g,cN) xb).drew.ownsRow (w2:Nat) 3 1 (.slice g ts.length cap3) ts.length (Az (ts.set cN xb)):=by have h1:=H3.stored cN xb;rw[Dx]at h1;exact Aj h1.1 (fun k hk=>rfl)
   have hs7:=B7.size;clear HKP hneA hneB hneC n63 x61 x6 n6 t6 f6 d0 N6 X6 H6 H3 hw3 HS6;generalize (w3.setCell (g,cN) xb).drew=w4 at *;have n7:=N7.cell;have HLT:Hid ((ts.set cN xb).length=ts.length):=by show _=_;simp
   go_wp2_with (at_builtin;refine Km rfl _ _ rfl (w:Nat) _ 1 (J2 ((i:Int)+1) (.slice to ts.length tc) (.slice go gs.length gc)) (J2 (bN:Int) (.slice g ts.length cap3) (.slice go gs.length gc)) (w4:Nat) rfl (H7.alloc _) rfl rfl ?c0 ?c1 (by omega) ?c3 ?_);case c0=>intro u hu;simp[J2]at hu;rcases hu with rfl|rfl|rfl|rfl<;>rfl
   case c1=>intro j;exact Un (Blk.new _ _ _) rfl _
   case c3=>first|omega|(simp;omega)
   ·intro v8 w8 H8 G8;have B8:=(B7.alloc hs7 _).grown G8 (by simp;omega) (fun k hk=>(H7.lt k hk).1);have T8:=D6 (T7.alloc _) G8 (fun k hk e=>by have h1:=(T7.lt k hk).1;have h2:=(H1.lt k e.symm).2;omega);have I8:=Ah.w (Dp T8).1 (show lo<=(w2:Nat) by omega);obtain⟨ao,cap,rfl,HF⟩:=V8 (x:=i+1) (x':=bN) (s:=⟨ts,gs⟩) (s':=⟨ts.set cN xb,gs⟩) (lo:=lo) (to':=some ⟨g,0,none⟩) (tc':=cap3) (by rw[HLT.out];exact H8) hlo (ht.l (A7.o B8)) (hg.l (A7.o B8)) I8 (hg.l (A7.o B8));have HFF:Hid _:=HF;clear H8 G8 HF ht hg N7 n7 H1 H7 T7 T8 I8;go_wp2;go_ret;refine⟨⟨_,_,rfl,?_⟩,B8⟩;have:=HFF.out;rw[←HXB.out]at this;exact this
 by_cases h31:op=31
 ·subst h31;have ha:=(f1 rfl).1.1;have hb:=(f1 rfl).2.1;have hbl:b+2<=s.types.length:=by have:=f1 rfl;omega
  have hbl2:s.types.length<=250:=by omega
  show Calls prog 91 _ w (Lm lo w [(i+1,⟨ts,gs⟩),(a.toNat,⟨Px b s.types,s.guards⟩)]);obtain⟨aN,rfl⟩:=yN ha;obtain⟨bN,rfl⟩:=yN hb;go_in;go_wp2_with (at_builtin;refine Km rfl _ _ rfl (w:Nat) _ 0 [] (J2 ((i:Int)+1) (.slice to ts.length tc) (.slice go gs.length gc)) ((w:Nat)+4) rfl (yU _ _ _ _) rfl rfl ?c0 ?c1 (by omega) ?c3 ?_);case c0=>intro u hu;simp[J2]at hu;rcases hu with rfl|rfl|rfl|rfl<;>rfl
  case c1=>intro j;rfl
  case c3=>first|omega|(simp;omega)
  ·intro v2 w2 H1 H2;have B5:=((B4 _ _ _ _).alloc (by simp;omega) _).grown H2 (by simp;omega) (fun k hk=>by cases hk);have X5:=Am (X4.alloc _) H2 (by intro e;cases e);have N5:=Am (N4.alloc _) H2 (by intro e;cases e);have n5:=N5.cell;have x5:=X5.cell;have hs5:=B5.size;have hN5:=N5.lt;obtain⟨ao2,cap2,rfl⟩:=Aa H1;clear H2 X4 N4 S4;go_wp2_with fail;refine(Lx bo bc s.types w2 (by omega) (Ah.w (hbt.l (A7.o B5)) (yE _))).mono ?_;rintro e w3 ⟨v3,rfl,H3,hw3⟩;have B6:=B5.trans (hw3.mono hs5);have X6:=X5.l hw3;have N6:=N5.l hw3;have H6:=Ai H1 hw3;have hw3s:=hw3.size;have n6:=N6.cell;rcases Ce H3 with ⟨_,h0⟩|⟨g,cap3,rfl,hg1,hg2⟩
   ·omega
   clear X5 N5 n5 x5 hw3;go_wp2_with fail;clear n6;go_loopw [16] (fun y wi=>∃r:Nat,y=r/\bN<=r/\r<=s.types.length/\wi.ownsRow (w2:Nat) 3 1 (.slice g s.types.length cap3) s.types.length (Az (Mw s.types bN r))/\wi.ownsRow (w:Nat) 158 4 (.slice ao2 1 cap2) 1 (J2 ((i:Int)+1) (.slice to ts.length tc) (.slice go gs.length gc))/\Blk wi ((w:Nat)+1) #[.bool rb,.slice bo s.types.length bc,.slice bg s.guards.length bgc] 146/\Blk wi ((w:Nat)+1+1) #[(31:Int),aN,bN,c,d] 81/\Below w w wi) (fun y _=>s.types.length-(intOf y).toNat);case atStart=>exact⟨bN,rfl,yB _,by omega,by rw[A2s];exact H3,H6,X6,N6,B6⟩
   case round=>
    obtain⟨r,rfl,hr1,hr2,T7,H7,X7,N7,B7⟩:=hrel;clear H3 H6 X6 N6 B6 hg2;by_cases hrl:r<s.types.length
    ·have t7:=(T7.cellAt r (by omega)).trans (Co (by rw[Yq hr1 hr2];omega));have f7:=T7.frozenAt r;have T8:=(T7.stored r ()).1;rw[Dx,A8s hr1 hrl]at T8;have H8:=Aj H7 (w':=wr.setCell (g,r) ()) (fun k hk=>yL _ _ _ _ (by have:=(H1.lt k hk).2;dsimp only;omega));have X8:=X7.setOther (p:=(g,r)) (by dsimp only;omega) ();have N8:=N7.setOther (p:=(g,r)) (by dsimp only;omega) ();have B8:=B7.setCell (p:=(g,r)) (by dsimp only;omega) ();have k2:(r:Int)<s.types.length:=by omega
     go_wp2;go_roundw;case rel=>exact⟨r+1,by go_num,by omega,by omega,T8,H8,X8,N8,B8⟩
     case measure=>simp[intOf];omega
    ·obtain rfl:r=s.types.length:=by omega
     have hlen:=Yq hr1 hr2;have t7:=(T7.cellAt bN (by omega)).trans (Co (by omega));have f7:=T7.frozenAt bN;have T8:=(T7.stored bN (1:Int)).1;rw[Dx]at T8;have t8:=(T8.cellAt (bN+1) (by omega)).trans (Co (by simp;omega));have f8:=T8.frozenAt (bN+1);have T9:=(T8.stored (bN+1) (1:Int)).1;rw[Dx]at T9;have H8:=Aj H7 (w':=wr.setCell (g,bN) (1:Int)) (fun k hk=>yL _ _ _ _ (by have:=(H1.lt k hk).2;dsimp only;omega));have H9:=Aj H8 (w':=(wr.setCell ⟨g,bN,none⟩ (.int .i64 1)).setCell ⟨g,bN+1,none⟩ (.int .i64 1)) (fun k hk=>yL _ _ _ _ (by have:=(H1.lt k hk).2;dsimp only;omega));have X9:=(X7.setOther (p:=(g,bN)) (by dsimp only;omega) (1:Int)).setOther (p:=(g,bN+1)) (by dsimp only;omega) (1:Int);have N8:=N7.setOther (p:=(g,bN)) (by dsimp only;omega) (1:Int);have N9:=N8.setOther (p:=(g,bN+1)) (by dsimp only;omega) (1:Int);have B9:=(B7.setCell (p:=(g,bN)) (by dsimp only;omega) (1:Int)).setCell (p:=(g,bN+1)) (by dsimp only;omega) (1:Int);have HTT:Hid (((Mw s.types bN s.types.length).set bN 1).set (bN+1) 1=Px bN s.types):=by show _=_;unfold Px;rw[A8r];rfl
     rw[HTT.out]at T9;have HLT:Hid ((Px bN s.types).length=s.types.length):=A4q (by simp;omega);have n7:=N7.cell 2;have n8:=N8.cell 2;have n9:=N9.cell;have x9:=X9.cell;have hs9:=B7.size;have k2:(bN:Int)+1<s.types.length:=by omega
     have k3:(bN:Int)<s.types.length:=by omega
     have k4:¬(s.types.length:Int)<s.types.length:=by omega
     clear T7 H7 X7 N7 B7 T8 H8 N8 hlen;go_wp2_with (at_builtin;refine Km rfl _ _ rfl (w:Nat) _ 1 (J2 ((i:Int)+1) (.slice to ts.length tc) (.slice go gs.length gc)) (J2 (aN:Int) (.slice g s.types.length cap3) (.slice bg s.guards.length bgc)) (wr:Nat) rfl (H9.alloc _) rfl rfl ?c0 ?c1 (by omega) ?c3 ?_);case c0=>intro u hu;simp[J2]at hu;rcases hu with rfl|rfl|rfl|rfl<;>rfl
     case c1=>intro j;rfl
     case c3=>first|omega|(simp;omega)
     ·intro v8 w8 H8 G8;have B8:=(B9.alloc (by simp;omega) _).grown G8 (by simp;omega) (fun k hk=>(H9.lt k hk).1);have T8:=D6 (T9.alloc _) G8 (fun k hk e=>by have h1:=(T9.lt k hk).1;have h2:=(H1.lt k e.symm).2;omega);have I8:=Ah.w (Dp T8).1 (show lo<=(w2:Nat) by omega);obtain⟨ao,cap,rfl,HF⟩:=V8 (x:=i+1) (x':=aN) (s:=⟨ts,gs⟩) (s':=⟨Px bN s.types,s.guards⟩) (lo:=lo) (to':=some ⟨g,0,none⟩) (tc':=cap3) (by rw[HLT.out];exact H8) hlo (ht.l (A7.o B8)) (hg.l (A7.o B8)) I8 (hbg.l (A7.o B8));have HFF:Hid _:=HF;clear H8 G8 HF ht hg T8 I8 T9 H9 X9 N9 n7 n8 n9 x9 t7 t8 f7 f8 H1;go_wp2;go_ret;exact⟨⟨_,_,rfl,HFF.out⟩,B8⟩
 have e1:(op !=19&&op !=29&&op !=30)=true:=by simp;omega
 rw[e1,if_pos rfl,if_neg h19,if_neg (by omega),if_neg h41,if_neg h31];show Calls prog 91 _ w (Lm lo w [(i+1,⟨ts,gs⟩)]);have t19:(op==19)=false:=by simp;omega
 have t29:(op==29)=false:=by simp;omega
 have t30:(op==30)=false:=by simp;omega
 have t20:(op==20)=false:=by simp;omega
 have t21:(op==21)=false:=by simp;omega
 have t38:(op==38)=false:=by simp;omega
 have t39:(op==39)=false:=by simp;omega
 have t41:(op==41)=false:=by simp;omega
 have t31:(op==31)=false:=by simp;omega
 have u19:(op !=19)=true:=by simp;omega
 have u29:(op !=29)=true:=by simp;omega
 have u30:(op !=30)=true:=by simp;omega
 clear h19 h29 h20 h41 h31 e1;go_in;go_wp2_with (at_builtin;refine Km rfl _ _ rfl (w:Nat) _ 0 [] (J2 ((i:Int)+1) (.slice to ts.length tc) (.slice go gs.length gc)) ((w:Nat)+4) rfl (yU _ _ _ _) rfl rfl ?c0 ?c1 (by omega) ?c3 ?_);case c0=>intro u hu;simp[J2]at hu;rcases hu with rfl|rfl|rfl|rfl<;>rfl
 case c1=>intro j;exact A51 _ _ _ _ _ _ _ _ _ _ rfl _
 case c3=>first|omega|(simp;omega)
 ·intro v2 w2 H1 H2;have B5:=((B4 _ _ _ _).alloc (by simp;omega) _).grown H2 (by simp;omega) (fun k hk=>by cases hk);obtain⟨ao,cap,rfl,HF⟩:=A2t (x:=i+1) (s:=⟨ts,gs⟩) (lo:=lo) H1 hlo (ht.l (A7.o B5)) (hg.l (A7.o B5));have HFF:Hid _:=HF;have N5:=Am (N4.alloc _) H2 (by intro e;cases e);have n5:=N5.cell;clear H1 H2 HF ht hg X4 N4 S4;go_wp2;go_ret;exact⟨⟨_,_,rfl,HFF.out⟩,B5⟩
end Go.Proofs.YtjbbppblgjhapaaGreatDoor
