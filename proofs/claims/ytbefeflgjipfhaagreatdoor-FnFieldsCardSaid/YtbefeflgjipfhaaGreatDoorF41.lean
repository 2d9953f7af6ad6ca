import Derived.Test.YtbefeflgjipfhaaGreatDoorF34
set_option maxRecDepth 100000
set_option maxHeartbeats 8000000
namespace Go.Proofs.YtbefeflgjipfhaaGreatDoor
open Go.Deep Go.Proofs.Tryz Go.RowKit
variable{ts xs:List Int}{b g j n off:Nat}{t:TypeId}{u:Value}{w:World}
theorem A84 (h:Cv 0 w (some ⟨b,off,none⟩) xs) (hj:(Bj xs)[j]?=some u):w.cell? ⟨b,off+j,none⟩=some u/\b<w.heap.size:=by simp only[Bj,List.getElem?_map,Option.map_eq_some_iff]at hj;obtain⟨x,hx,rfl⟩:=hj;obtain⟨b',off',e,_,hl,hc⟩:=h j x hx;simp at e;obtain⟨rfl,rfl⟩:=e;unfold Jb at hc;rw[Nat.mul_one]at hc;exact⟨hc,hl⟩
theorem A5k {xs:List Gd} (h:Er 0 w (some ⟨b,off,none⟩) xs) (hj:(gds xs)[j]?=some u):w.cell? ⟨b,off+j,none⟩=some u/\b<w.heap.size:=by
 have hl:=(yD.1 hj).1;rw[Fx]at hl;obtain⟨x,hx⟩:=Ah (show j / 3<xs.length by omega);obtain⟨b',off',e,_,hb,c0,c1,c2⟩:=h (j / 3) x hx;simp at e;obtain⟨rfl,rfl⟩:=e;have hg:=Na hx;rcases (by omega:j%3=0∨j%3=1∨j%3=2) with h3|h3|h3
 ·have:=hg 0 _ rfl;rw[show j / 3*3+0=j by omega,hj]at this;rw[yO this,show off+j=off+j / 3*3 by omega];exact⟨c0,hb⟩
 ·have:=hg 1 _ rfl;rw[show j / 3*3+1=j by omega,hj]at this;rw[yO this,show off+j=off+j / 3*3+1 by omega];exact⟨c1,hb⟩
 ·have:=hg 2 _ rfl;rw[show j / 3*3+2=j by omega,hj]at this;rw[yO this,show off+j=off+j / 3*3+2 by omega];exact⟨c2,hb⟩
theorem Io (ao:Option Addr) (cap m:Nat) (xs:List Int) (w:World) (hm:xs.length=m) (hml:m<=1048576) (hnil:ao=none->m=0) (hx:Cv 0 w ao xs) (hoff:∀a,ao=some a->∃b o,a=⟨b,o,none⟩) :
  Calls prog 318 #[.slice ao m cap] w fun e w'=>∃v,e=.returned v/\w'.ownsRow w.heap.size 3 1 v m (Bj xs)/\Below w.heap.size w w':=by
 have q22:∀(w:World) (a:Option Addr) (n c n' c':Nat),(binOp .eql 64 (.slice a n c) (.slice none n' c')).run prog w=.ok (.bool a.isNone) w:=fun w a n c n' c'=>Lib.run_eql_slice_nil w _ _ a n c n' c' underlying64;cases ao with
 | none=>
  obtain rfl:=hnil rfl;have:xs=[]:=yW.1 hm;subst this;go_in;go_wp2;go_ret;exact⟨_,rfl,yU _ _ _ _,yA _ _⟩
 | some ad=>
  obtain⟨b,off,rfl⟩:=hoff _ rfl;obtain⟨i0,hi,hz0,hz1,hz2⟩:=info_parts Tryz.info_int;have HC:Hid (∀j u,(Bj xs)[j]?=some u->w.cell? ⟨b,off+j,none⟩=some u/\b<w.heap.size):=by intro j u hj;exact A84 hx hj
  have HL:Hid ((Bj xs).length=m*1):=by show _=_;simp[Bj,hm]
  clear hx hm hoff hnil;go_in;go_wp2_with (at_builtin;refine wpList_append_own _ rfl _ _ 64 rfl w.heap.size 3 i0 (.int .i64 0) 1 8 underlying64 hi hz0 hz1 hz2 rfl (by decide) _ _ _ rfl (World.ownsRow_made w #[] 0 (yB _) (yE _) (by simp)) ⟨b,off,none⟩ m cap (Bj xs) rfl ?qc1 ?qc2 ?qc3 ?qc4 ?qc5 ?qc6 ?_);case qc1=>exact HL.out
  case qc2=> intro j u hj;rw[Addr.add_lit];obtain⟨h1,h2⟩:=HC.out j u hj;exact(((yA w.heap.size w).alloc (yB _) _).cell (p:=⟨b,off+j,none⟩) h2).trans h1
  case qc3=> intro u hu;simp[Bj]at hu;obtain⟨x,_,rfl⟩:=hu;rfl
  case qc4=>unfold maxLen;omega
  case qc5=>omega
  case qc6=>simp
  ·intro v' w1 hown hgrow _;have hown:w1.ownsRow w.heap.size 3 1 v' m (Bj xs):=by simpa using hown
   have B1:Below w.heap.size w w1:=((yA _ w).alloc (yB _) _).grown hgrow (by simp) (by intro k hk;simp[Value.ownBlock]at hk;omega);obtain⟨vo,vc,rfl⟩:=Af hown;clear hgrow;go_wp2;go_ret;exact⟨_,rfl,hown,B1⟩
theorem Xu (ao:Option Addr) (cap m:Nat) (xs:List Gd) (w:World) (hm:xs.length=m) (hml:m<=1048576) (hnil:ao=none->m=0) (hx:Er 0 w ao xs) (hoff:∀a,ao=some a->∃b o,a=⟨b,o,none⟩) :
  Calls prog 365 #[.slice ao m cap] w fun e w'=>∃v,e=.returned v/\w'.ownsRow w.heap.size 399 3 v m (gds xs)/\Below w.heap.size w w':=by
 have q22:∀(w:World) (a:Option Addr) (n c n' c':Nat),(binOp .eql 342 (.slice a n c) (.slice none n' c')).run prog w=.ok (.bool a.isNone) w:=fun w a n c n' c'=>Lib.run_eql_slice_nil w _ _ a n c n' c' underlying342;cases ao with
 | none=>
  obtain rfl:=hnil rfl;have:xs=[]:=yW.1 hm;subst this;go_in;go_wp2;go_ret;exact⟨_,rfl,yU _ _ _ _,yA _ _⟩
 | some ad=>
  obtain⟨b,off,rfl⟩:=hoff _ rfl;obtain⟨i0,hi,hz0,hz1,hz2⟩:=info_parts Tryz.info_Guard;have HC:Hid (∀j u,(gds xs)[j]?=some u->w.cell? ⟨b,off+j,none⟩=some u/\b<w.heap.size):=by intro j u hj;exact A5k hx hj
  have HL:Hid ((gds xs).length=m*3):=by show _=_;rw[Fx,hm]
  clear hx hm hoff hnil;go_in;go_wp2_with (at_builtin;refine wpList_append_own _ rfl _ _ 342 rfl w.heap.size 399 i0 (.agg #[.bool false,.int .i64 0,.int .i64 0]) 3 24 underlying342 hi hz0 hz1 hz2 rfl (by decide) _ _ _ rfl (World.ownsRow_made w #[] 0 (yB _) (yE _) (by simp)) ⟨b,off,none⟩ m cap (gds xs) rfl ?qc1 ?qc2 ?qc3 ?qc4 ?qc5 ?qc6 ?_);case qc1=>exact HL.out
  case qc2=> intro j u hj;rw[Addr.add_lit];obtain⟨h1,h2⟩:=HC.out j u hj;exact(((yA w.heap.size w).alloc (yB _) _).cell (p:=⟨b,off+j,none⟩) h2).trans h1
  case qc3=> intro u hu;simp[gds,Gd.vals]at hu;obtain⟨x,_,rfl|rfl|rfl⟩:=hu<;>rfl
  case qc4=>unfold maxLen;omega
  case qc5=>omega
  case qc6=>simp
  ·intro v' w1 hown hgrow _;have hown:w1.ownsRow w.heap.size 399 3 v' m (gds xs):=by simpa using hown
   have B1:Below w.heap.size w w1:=((yA _ w).alloc (yB _) _).grown hgrow (by simp) (by intro k hk;simp[Value.ownBlock]at hk;omega);obtain⟨vo,vc,rfl⟩:=Af hown;clear hgrow;go_wp2;go_ret;exact⟨_,rfl,hown,B1⟩
def Uw (L:Nat) (w:World) (T:St) (e:Ending) (w':World):Prop:=(∃rb to tc go gc,e=.returned (.agg #[.bool rb,.slice to T.types.length tc,.slice go T.guards.length gc])/\Ed L w' to tc T.types/\Bu L w' go gc T.guards)/\Below w.heap.size w w'
theorem Blk.three {x y z x' y' z':Value} (h:Blk w b #[x,y,z] t):Blk (((w.setCell ⟨b,0,none⟩ x').setCell ⟨b,1,none⟩ y').setCell ⟨b,2,none⟩ z') b #[x',y',z'] t:=((h.set 0 x').set 1 y').set 2 z'
def A4m:List Int->Nat->List Int->List Int
 | ts,_,[]=>ts
 | ts,o,u::us=>A4m (ts.set o u) (o+1) us
theorem A6v (us:List Int):∀(ts:List Int) (o j:Nat),o+us.length<=ts.length->(A4m ts o us)[j]?=if o<=j/\j<o+us.length then us[j-o]? else ts[j]?:=by
 induction us with
 | nil=>intro ts o j _;unfold A4m;rw[if_neg (by simp<;>omega)]
 | cons u r ih=>
  intro ts o j h;simp at h;unfold A4m;rw[ih (ts.set o u) (o+1) j (by simp;omega),List.getElem?_set];by_cases h1:o=j
  ·subst h1;rw[if_neg (by omega),if_pos rfl,if_pos (by omega),if_pos (by simp)];simp
  ·by_cases h2:o+1<=j/\j<o+1+r.length
   ·rw[if_pos h2,if_pos (by simp;omega)];rw[show j-o=(j-(o+1))+1 by omega];rfl
   ·rw[if_neg h2,if_neg h1,if_neg (by simp;omega)]
theorem A4n (hb:b<=ts.length):A4m ts b (List.replicate (ts.length-b) 0)=ts.take b++List.replicate (ts.length-b) 0:=by
 apply List.ext_getElem?;intro j;rw[A6v _ _ _ _ (by simp;omega),List.getElem?_append,List.length_take,List.length_replicate,Nat.min_eq_left hb];by_cases h1:j<b
 ·rw[if_neg (by omega),if_pos h1,List.getElem?_take_of_lt h1]
 ·rw[if_neg h1];by_cases h2:j<ts.length
  ·rw[if_pos (by omega)]
  ·rw[if_neg (by omega),List.getElem?_eq_none (by omega),List.getElem?_eq_none (by simp;omega)]
theorem A4a{base m cap:Nat} (us:List Int):∀{w:World} {ts:List Int} (o:Nat),w.ownsRow base 3 1 (.slice (some ⟨g,0,none⟩) m cap) m (Bj ts)->(w.setCells g o (us.map (Value.int .i64))).ownsRow base 3 1 (.slice (some ⟨g,0,none⟩) m cap) m (Bj (A4m ts o us)):=by
 induction us with
 | nil=>intro w ts o h;exact h
 | cons u r ih=>
  intro w ts o h;have h1:=(h.stored o (.int .i64 u)).1;rw[Ha]at h1;exact ih (o+1) h1
theorem A0h (us:List Value):∀{w w':World} (o:Nat),Below n w w'->n<=g->Below n w (w'.setCells g o us):=by
 induction us with
 | nil=>intro w w' o h _;exact h
 | cons u r ih=>intro w w' o h hg;exact ih (o+1) (h.setCell (by dsimp only;exact hg) _) hg
theorem Lr (us:List Value):∀(w:World) (g o k:Nat),k≠g->(w.setCells g o us).heap[k]?=w.heap[k]?:=by
 induction us with
 | nil=>intro w g o k _;rfl
 | cons u r ih=>intro w g o k hk;exact(ih _ g (o+1) k hk).trans (yL _ _ _ _ hk)
theorem Tryz.zero_int:∀w:World,(zeroValue 3).run prog w=.ok (.int .i64 0) w:=fun _=>by kernel_rfl
theorem Ox (op:Int) (na nb nc nd:Int) (ab bb:Bool) (ao ago bo bgo:Option Addr) (ac agc bc bgc L m:Nat) (s:St) (ts:List Int) (gs:List Gd) (w:World) (hL:L<=w.heap.size) (hm:s.types.length=m) (ht:ts.length=m) (hm2:m<=250) (_R1:Ed L w ao ac s.types) (_R2:Bu L w ago agc s.guards) (R3:Ed L w bo bc ts) (R4:Bu L w bgo bgc gs) (h41:op≠41) (h31:op≠31) :
  Calls prog 366 #[.agg #[.int .i64 op,.int .i64 na,.int .i64 nb,.int .i64 nc,.int .i64 nd],.agg #[.bool ab,.slice ao s.types.length ac,.slice ago s.guards.length agc],.agg #[.bool bb,.slice bo ts.length bc,.slice bgo gs.length bgc]] w (Uw L w ⟨ts,gs⟩):=by
 have C1:=(((Blk.new w #[.int .i64 op,.int .i64 na,.int .i64 nb,.int .i64 nc,.int .i64 nd] 58).alloc (.cells #[.bool ab,.slice ao s.types.length ac,.slice ago s.guards.length agc] 344)).alloc (.cells #[.bool bb,.slice bo ts.length bc,.slice bgo gs.length bgc] 344)).alloc (.cells #[.bool false,.slice none 0 0,.slice none 0 0] 344);have C2:=((Blk.new (w.alloc (.cells #[.int .i64 op,.int .i64 na,.int .i64 nb,.int .i64 nc,.int .i64 nd] 58)) #[.bool ab,.slice ao s.types.length ac,.slice ago s.guards.length agc] 344).alloc (.cells #[.bool bb,.slice bo ts.length bc,.slice bgo gs.length bgc] 344)).alloc (.cells #[.bool false,.slice none 0 0,.slice none 0 0] 344);have C3:=(Blk.new ((w.alloc (.cells #[.int .i64 op,.int .i64 na,.int .i64 nb,.int .i64 nc,.int .i64 nd] 58)).alloc (.cells #[.bool ab,.slice ao s.types.length ac,.slice ago s.guards.length agc] 344)) #[.bool bb,.slice bo ts.length bc,.slice bgo gs.length bgc] 344).alloc (.cells #[.bool false,.slice none 0 0,.slice none 0 0] 344);have C4:=Blk.new (((w.alloc (.cells #[.int .i64 op,.int .i64 na,.int .i64 nb,.int .i64 nc,.int .i64 nd] 58)).alloc (.cells #[.bool ab,.slice ao s.types.length ac,.slice ago s.guards.length agc] 344)).alloc (.cells #[.bool bb,.slice bo ts.length bc,.slice bgo gs.length bgc] 344)) #[.bool false,.slice none 0 0,.slice none 0 0] 344;simp only[nblk_alloc]at C2 C3 C4;have B4:Below w.heap.size w ((((w.alloc (.cells #[.int .i64 op,.int .i64 na,.int .i64 nb,.int .i64 nc,.int .i64 nd] 58)).alloc (.cells #[.bool ab,.slice ao s.types.length ac,.slice ago s.guards.length agc] 344)).alloc (.cells #[.bool bb,.slice bo ts.length bc,.slice bgo gs.length bgc] 344)).alloc (.cells #[.bool false,.slice none 0 0,.slice none 0 0] 344)):=((((yA _ _).alloc (yB _) _).alloc (by simp) _).alloc (by simp;omega) _).alloc (by simp;omega) _;have HB4:Hid (∀o,Below w.heap.size w ((((w.alloc (.cells #[.int .i64 op,.int .i64 na,.int .i64 nb,.int .i64 nc,.int .i64 nd] 58)).alloc (.cells #[.bool ab,.slice ao s.types.length ac,.slice ago s.guards.length agc] 344)).alloc (.cells #[.bool bb,.slice bo ts.length bc,.slice bgo gs.length bgc] 344)).alloc o)):=fun o=>((((yA _ _).alloc (yB _) _).alloc (by simp) _).alloc (by simp;omega) _).alloc (by simp;omega) _;have e41:(op==41)=false:=by simpa using h41
 have e31:(op==31)=false:=by simpa using h31
 have _u:=hL;have _u2:=hm;have _u3:=ht;have _u4:=hm2;clear h41 h31 _u _u2 _u3 _u4 hm ht hm2 hL B4;have c1:=C1.cell;have c3:=C3.cell;have c4:=C4.cell;have f4:=C4.frozen;go_in;go_wp2_with fail;refine bodyPost_ret (v:=.agg #[.bool bb,.slice bo ts.length bc,.slice bgo gs.length bgc]) ?_ rfl ⟨⟨bb,bo,bc,bgo,bgc,rfl,R3.l (Ad.o (HB4.out _)),R4.l (Ad.o (HB4.out _))⟩,HB4.out _⟩;simp[results,results366,go_sem]
theorem Tt (na nb nd:Int) (cN gb gof:Nat) (ab bb:Bool) (ago bo bgo:Option Addr) (ac agc bc bgc L m:Nat) (s:St) (ts:List Int) (gs:List Gd) (w:World) (hL:L<=w.heap.size) (hm:s.types.length=m) (ht:ts.length=m) (hm2:m<=250) (R1:Ed L w (some ⟨gb,gof,none⟩) ac s.types) (_R2:Bu L w ago agc s.guards) (R3:Ed L w bo bc ts) (R4:Bu L w bgo bgc gs) (hcm:cN<m) :
  Calls prog 366 #[.agg #[.int .i64 41,.int .i64 na,.int .i64 nb,.int .i64 ((cN:Nat):Int),.int .i64 nd],.agg #[.bool ab,.slice (some ⟨gb,gof,none⟩) s.types.length ac,.slice ago s.guards.length agc],.agg #[.bool bb,.slice bo ts.length bc,.slice bgo gs.length bgc]] w (Uw L w ⟨ts.set cN (D7 s.types cN),gs⟩):=by
 have C1:=(((Blk.new w #[.int .i64 41,.int .i64 na,.int .i64 nb,.int .i64 ((cN:Nat):Int),.int .i64 nd] 58).alloc (.cells #[.bool ab,.slice (some ⟨gb,gof,none⟩) s.types.length ac,.slice ago s.guards.length agc] 344)).alloc (.cells #[.bool bb,.slice bo ts.length bc,.slice bgo gs.length bgc] 344)).alloc (.cells #[.bool false,.slice none 0 0,.slice none 0 0] 344);have C2:=((Blk.new (w.alloc (.cells #[.int .i64 41,.int .i64 na,.int .i64 nb,.int .i64 ((cN:Nat):Int),.int .i64 nd] 58)) #[.bool ab,.slice (some ⟨gb,gof,none⟩) s.types.length ac,.slice ago s.guards.length agc] 344).alloc (.cells #[.bool bb,.slice bo ts.length bc,.slice bgo gs.length bgc] 344)).alloc (.cells #[.bool false,.slice none 0 0,.slice none 0 0] 344);have C3:=(Blk.new ((w.alloc (.cells #[.int .i64 41,.int .i64 na,.int .i64 nb,.int .i64 ((cN:Nat):Int),.int .i64 nd] 58)).alloc (.cells #[.bool ab,.slice (some ⟨gb,gof,none⟩) s.types.length ac,.slice ago s.guards.length agc] 344)) #[.bool bb,.slice bo ts.length bc,.slice bgo gs.length bgc] 344).alloc (.cells #[.bool false,.slice none 0 0,.slice none 0 0] 344);have C4:=Blk.new (((w.alloc (.cells #[.int .i64 41,.int .i64 na,.int .i64 nb,.int .i64 ((cN:Nat):Int),.int .i64 nd] 58)).alloc (.cells #[.bool ab,.slice (some ⟨gb,gof,none⟩) s.types.length ac,.slice ago s.guards.length agc] 344)).alloc (.cells #[.bool bb,.slice bo ts.length bc,.slice bgo gs.length bgc] 344)) #[.bool false,.slice none 0 0,.slice none 0 0] 344;simp only[nblk_alloc]at C2 C3 C4;have B4:Below w.heap.size w ((((w.alloc (.cells #[.int .i64 41,.int .i64 na,.int .i64 nb,.int .i64 ((cN:Nat):Int),.int .i64 nd] 58)).alloc (.cells #[.bool ab,.slice (some ⟨gb,gof,none⟩) s.types.length ac,.slice ago s.guards.length agc] 344)).alloc (.cells #[.bool bb,.slice bo ts.length bc,.slice bgo gs.length bgc] 344)).alloc (.cells #[.bool false,.slice none 0 0,.slice none 0 0] 344)):=((((yA _ _).alloc (yB _) _).alloc (by simp) _).alloc (by simp;omega) _).alloc (by simp;omega) _;obtain⟨xb,hxb⟩:=Ah (show cN<s.types.length by omega);have HXB:Hid (D7 s.types cN=xb):=by show _=_;unfold D7;simp[hxb]
 obtain⟨gb',gof',heq,_,hgb,d0⟩:=R1.at_ cN xb hxb;obtain⟨rfl,rfl⟩:gb=gb'/\gof=gof':=by simpa using heq
 unfold Jb at d0;rw[Nat.mul_one]at d0;have HCL:Hid (∀_:Unit,_):=fun _=>Io bo bc ts.length ts ((((w.alloc (.cells #[.int .i64 41,.int .i64 na,.int .i64 nb,.int .i64 ((cN:Nat):Int),.int .i64 nd] 58)).alloc (.cells #[.bool ab,.slice (some ⟨gb,gof,none⟩) s.types.length ac,.slice ago s.guards.length agc] 344)).alloc (.cells #[.bool bb,.slice bo ts.length bc,.slice bgo gs.length bgc] 344)).alloc (.cells #[.bool false,.slice none 0 0,.slice none 0 0] 344)) rfl (by omega) R3.nil (Ay.w (R3.l (Ad.o B4)).at_ (yE _)) R3.form;have HR4:Hid (∀W,Below w.heap.size w W->Bu L W bgo bgc gs):=fun W hb=>R4.l (Ad.o hb);have d4:=(B4.cell (p:=⟨gb,gof+cN,none⟩) hgb).trans d0;have c1:=C1.cell;have c3:=C3.cell;have _u1:=hL;have hcs:cN<s.types.length:=by omega
 have hct:cN<ts.length:=by omega
 have htl:ts.length<=250:=by omega
 clear R1 R3 R4 hxb d0 heq hm ht;go_in;go_wp2_with fail;generalize ((((w.alloc (.cells #[.int .i64 41,.int .i64 na,.int .i64 nb,.int .i64 ((cN:Nat):Int),.int .i64 nd] 58)).alloc (.cells #[.bool ab,.slice (some ⟨gb,gof,none⟩) s.types.length ac,.slice ago s.guards.length agc] 344)).alloc (.cells #[.bool bb,.slice bo ts.length bc,.slice bgo gs.length bgc] 344)).alloc (.cells #[.bool false,.slice none 0 0,.slice none 0 0] 344))=w4 at *;clear c1 c3;refine(HCL.out ()).mono ?_;rintro e w5 ⟨v5,rfl,T5,hw5⟩;have hs4:=C4.lt;have D1:=C1.l hw5;have D2:=C2.l hw5;have D3:=C3.l hw5;have D4:=C4.l hw5;have B5:=B4.trans (hw5.mono B4.size);have d5:=(hw5.cell (p:=⟨gb,gof+cN,none⟩) (yF hgb B4.size)).trans d4;rcases Aj T5 with ⟨_,h0⟩|⟨g,cap5,rfl,hg1,hg2⟩
 ·omega
 clear C1 C2 C3 C4 B4 hw5 HCL d4;have hne1:¬g=w.heap.size:=by omega
 have hne2:¬g=w.heap.size+1:=by omega
 have hne3:¬g=gb:=by omega
 have hne4:¬g=w.heap.size+1+1:=by omega
 have hne5:¬g=w.heap.size+1+1+1:=by omega
 have e1:=D1.cell 3;have e2:=D2.cell 1;have t5:=(T5.cellAt cN (by omega)).trans (De (by omega));have z5:=T5.frozenAt cN;have k1:(cN:Int)<s.types.length:=by omega
 have k2:(cN:Int)<ts.length:=by omega
 have T6:=(T5.stored cN (.int .i64 xb)).1;rw[Ha]at T6;have HKP:Hid ((w5.setCell ⟨g,cN,none⟩ (.int .i64 xb)).drew.cell? ⟨w.heap.size,3,none⟩=some (.int .i64 cN)/\(w5.setCell ⟨g,cN,none⟩ (.int .i64 xb)).drew.cell? ⟨w.heap.size+1,1,none⟩=some (.slice (some ⟨gb,gof,none⟩) s.types.length ac)/\(w5.setCell ⟨g,cN,none⟩ (.int .i64 xb)).drew.cell? ⟨gb,gof+cN,none⟩=some (.int .i64 xb)):=
  ⟨(yG _ _ _ _ hne1).trans e1,(yG _ _ _ _ hne2).trans e2,(yG _ _ _ _ hne3).trans d5⟩
 have HT6:Hid ((w5.setCell ⟨g,cN,none⟩ (.int .i64 xb)).drew.ownsRow w4.heap.size 3 1 (.slice (some ⟨g,0,none⟩) ts.length cap5) ts.length (Bj (ts.set cN xb))):=Ae T6 (fun k hk=>rfl);have HD3:Hid (Blk (w5.setCell ⟨g,cN,none⟩ (.int .i64 xb)).drew (w.heap.size+1+1) #[.bool bb,.slice bo ts.length bc,.slice bgo gs.length bgc] 344):=D3.setOther (p:=⟨g,cN,none⟩) (fun e=>hne4 e.symm) _;have HD4:Hid (Blk (w5.setCell ⟨g,cN,none⟩ (.int .i64 xb)).drew (w.heap.size+1+1+1) #[.bool false,.slice none 0 0,.slice none 0 0] 344):=D4.setOther (p:=⟨g,cN,none⟩) (fun e=>hne5 e.symm) _;have HB6:Hid (Below w.heap.size w (w5.setCell ⟨g,cN,none⟩ (.int .i64 xb)).drew):=(B5.setCell (by dsimp only;omega) _).drew;have hLg:L<=w4.heap.size:=by omega
 clear T5 T6 D1 D2 D3 D4 B5 hne1 hne2 hne3;go_wp2_with fail;go_region_held3 (fun w'=>w'.cell? ⟨w.heap.size,3,none⟩=some (.int .i64 cN)/\w'.cell? ⟨w.heap.size+1,1,none⟩=some (.slice (some ⟨gb,gof,none⟩) s.types.length ac)/\w'.cell? ⟨gb,gof+cN,none⟩=some (.int .i64 xb)) (first|exact⟨e1,e2,d5⟩|exact HKP.out|(go_keep;done)) (fail);clear HKP e1 e2 t5 z5 d5;generalize (w5.setCell ⟨g,cN,none⟩ (.int .i64 xb)).drew=w6 at *;have c6:=HD3.out.cell;have r6:=HD4.out.cell;have f6:=HD4.out.frozen;go_wp2_with fail;have HD7:=HD4.out.three (x':=.bool false) (y':=.slice (some ⟨g,0,none⟩) ts.length cap5) (z':=.slice bgo gs.length bgc);have HB7:Below w.heap.size w (((w6.setCell ⟨w.heap.size+1+1+1,0,none⟩ (.bool false)).setCell ⟨w.heap.size+1+1+1,1,none⟩ (.slice (some ⟨g,0,none⟩) ts.length cap5)).setCell ⟨w.heap.size+1+1+1,2,none⟩ (.slice bgo gs.length bgc)):=((HB6.out.setCell (by dsimp only;omega) _).setCell (by dsimp only;omega) _).setCell (by dsimp only;omega) _;have HT7:=Ae HT6.out (w':=((w6.setCell ⟨w.heap.size+1+1+1,0,none⟩ (.bool false)).setCell ⟨w.heap.size+1+1+1,1,none⟩ (.slice (some ⟨g,0,none⟩) ts.length cap5)).setCell ⟨w.heap.size+1+1+1,2,none⟩ (.slice bgo gs.length bgc)) (fun k hk=>by
  have hkg:k=g:=by simpa[Value.ownBlock]using hk.symm
  have hk3:k≠w.heap.size+1+1+1:=by rw[hkg];exact hne5
  rw[yL _ _ _ _ hk3,yL _ _ _ _ hk3,yL _ _ _ _ hk3])
 have c7:=HD7.cell;refine bodyPost_ret (v:=.agg #[.bool false,.slice (some ⟨g,0,none⟩) ts.length cap5,.slice bgo gs.length bgc]) ?_ rfl ⟨⟨false,some ⟨g,0,none⟩,cap5,bgo,bgc,?_,?_,HR4.out _ HB7⟩,HB7⟩
 ·simp[results,results366,go_sem,c7]
 ·simp
 ·rw[HXB.out];exact(Ed.of_owns HT7).w hLg
theorem Tq (na nc nd:Int) (bN:Nat) (ab bb:Bool) (ao ago bo bgo:Option Addr) (ac agc bc bgc L m:Nat) (s:St) (ts:List Int) (gs:List Gd) (w:World) (hL:L<=w.heap.size) (hm:s.types.length=m) (ht:ts.length=m) (hm2:m<=250) (R1:Ed L w ao ac s.types) (R2:Bu L w ago agc s.guards) (_R3:Ed L w bo bc ts) (_R4:Bu L w bgo bgc gs) (hbm:bN+2<=m) :
  Calls prog 366 #[.agg #[.int .i64 31,.int .i64 na,.int .i64 ((bN:Nat):Int),.int .i64 nc,.int .i64 nd],.agg #[.bool ab,.slice ao s.types.length ac,.slice ago s.guards.length agc],.agg #[.bool bb,.slice bo ts.length bc,.slice bgo gs.length bgc]] w (Uw L w ⟨Xf bN s.types,s.guards⟩):=by
 have C1:=(((Blk.new w #[.int .i64 31,.int .i64 na,.int .i64 ((bN:Nat):Int),.int .i64 nc,.int .i64 nd] 58).alloc (.cells #[.bool ab,.slice ao s.types.length ac,.slice ago s.guards.length agc] 344)).alloc (.cells #[.bool bb,.slice bo ts.length bc,.slice bgo gs.length bgc] 344)).alloc (.cells #[.bool false,.slice none 0 0,.slice none 0 0] 344);have C2:=((Blk.new (w.alloc (.cells #[.int .i64 31,.int .i64 na,.int .i64 ((bN:Nat):Int),.int .i64 nc,.int .i64 nd] 58)) #[.bool ab,.slice ao s.types.length ac,.slice ago s.guards.length agc] 344).alloc (.cells #[.bool bb,.slice bo ts.length bc,.slice bgo gs.length bgc] 344)).alloc (.cells #[.bool false,.slice none 0 0,.slice none 0 0] 344);have C3:=(Blk.new ((w.alloc (.cells #[.int .i64 31,.int .i64 na,.int .i64 ((bN:Nat):Int),.int .i64 nc,.int .i64 nd] 58)).alloc (.cells #[.bool ab,.slice ao s.types.length ac,.slice ago s.guards.length agc] 344)) #[.bool bb,.slice bo ts.length bc,.slice bgo gs.length bgc] 344).alloc (.cells #[.bool false,.slice none 0 0,.slice none 0 0] 344);have C4:=Blk.new (((w.alloc (.cells #[.int .i64 31,.int .i64 na,.int .i64 ((bN:Nat):Int),.int .i64 nc,.int .i64 nd] 58)).alloc (.cells #[.bool ab,.slice ao s.types.length ac,.slice ago s.guards.length agc] 344)).alloc (.cells #[.bool bb,.slice bo ts.length bc,.slice bgo gs.length bgc] 344)) #[.bool false,.slice none 0 0,.slice none 0 0] 344;simp only[nblk_alloc]at C2 C3 C4;have B4:Below w.heap.size w ((((w.alloc (.cells #[.int .i64 31,.int .i64 na,.int .i64 ((bN:Nat):Int),.int .i64 nc,.int .i64 nd] 58)).alloc (.cells #[.bool ab,.slice ao s.types.length ac,.slice ago s.guards.length agc] 344)).alloc (.cells #[.bool bb,.slice bo ts.length bc,.slice bgo gs.length bgc] 344)).alloc (.cells #[.bool false,.slice none 0 0,.slice none 0 0] 344)):=((((yA _ _).alloc (yB _) _).alloc (by simp) _).alloc (by simp;omega) _).alloc (by simp;omega) _;have HCL:Hid (∀_:Unit,_):=fun _=>Io ao ac s.types.length s.types ((((w.alloc (.cells #[.int .i64 31,.int .i64 na,.int .i64 ((bN:Nat):Int),.int .i64 nc,.int .i64 nd] 58)).alloc (.cells #[.bool ab,.slice ao s.types.length ac,.slice ago s.guards.length agc] 344)).alloc (.cells #[.bool bb,.slice bo ts.length bc,.slice bgo gs.length bgc] 344)).alloc (.cells #[.bool false,.slice none 0 0,.slice none 0 0] 344)) rfl (by omega) R1.nil (Ay.w (R1.l (Ad.o B4)).at_ (yE _)) R1.form;have HR2:Hid (∀W,Below w.heap.size w W->Bu L W ago agc s.guards):=fun W hb=>R2.l (Ad.o hb);have c1:=C1.cell;have c2:=C2.cell;have hcs:bN+2<=s.types.length:=by omega
 have hsl:s.types.length<=250:=by omega
 have HT:Hid (ts.length=m):=ht;clear R1 R2 hm ht HT;go_in;go_wp2_with fail;generalize ((((w.alloc (.cells #[.int .i64 31,.int .i64 na,.int .i64 ((bN:Nat):Int),.int .i64 nc,.int .i64 nd] 58)).alloc (.cells #[.bool ab,.slice ao s.types.length ac,.slice ago s.guards.length agc] 344)).alloc (.cells #[.bool bb,.slice bo ts.length bc,.slice bgo gs.length bgc] 344)).alloc (.cells #[.bool false,.slice none 0 0,.slice none 0 0] 344))=w4 at *;clear c1 c2;refine(HCL.out ()).mono ?_;rintro e w5 ⟨v5,rfl,T5,hw5⟩;have hs4:=C4.lt;have D1:=C1.l hw5;have D2:=C2.l hw5;have D4:=C4.l hw5;have B5:=B4.trans (hw5.mono B4.size);have hlen5:=Np T5;rcases Aj T5 with ⟨_,h0⟩|⟨g,cap5,rfl,hg1,hg2⟩
 ·omega
 have hcp5:s.types.length<=cap5:=hlen5 _ _ rfl;clear C1 C2 C3 C4 B4 hw5 HCL hlen5;have hne1:¬g=w.heap.size:=by omega
 have hne2:¬g=w.heap.size+1:=by omega
 have hne5:¬g=w.heap.size+1+1+1:=by omega
 have hcl:∀ty,(Builtin.clear_ #[64] ty #[.slice (some ⟨g,bN,none⟩) (s.types.length-bN) (cap5-bN)]).run prog w5=.ok (.tuple #[]) (w5.setCells g bN (List.replicate (s.types.length-bN) (.int .i64 0))):=
  fun ty=>Lib.run_clear_slice w5 _ _ ty _ underlying64 Tryz.zero_int rfl rfl g bN _ _ (by omega) (fun j hj=>by rw[(T5.cellAt (bN+j) (by omega)).trans (De (by omega))];rfl) (fun j hj=>T5.frozenAt (bN+j))
 have T6:=A4a (List.replicate (s.types.length-bN) 0) bN T5;rw[List.map_replicate,A4n (by omega)]at T6;have D16:Blk (w5.setCells g bN (List.replicate (s.types.length-bN) (.int .i64 0))) w.heap.size _ _:=(Lr _ w5 g bN _ (fun e=>hne1 e.symm)).trans D1;have D26:Blk (w5.setCells g bN (List.replicate (s.types.length-bN) (.int .i64 0))) (w.heap.size+1) _ _:=(Lr _ w5 g bN _ (fun e=>hne2 e.symm)).trans D2;have D46:Blk (w5.setCells g bN (List.replicate (s.types.length-bN) (.int .i64 0))) (w.heap.size+1+1+1) _ _:=(Lr _ w5 g bN _ (fun e=>hne5 e.symm)).trans D4;have B6:Below w.heap.size w (w5.setCells g bN (List.replicate (s.types.length-bN) (.int .i64 0))):=A0h _ bN B5 (by omega);have d1:=D1.cell;have k1:(bN:Int)<=s.types.length:=by omega
 have kc:bN<=cap5:=by omega
 have HT6:Hid ((w5.setCells g bN (List.replicate (s.types.length-bN) (.int .i64 0))).ownsRow w4.heap.size 3 1 (.slice (some ⟨g,0,none⟩) s.types.length cap5) s.types.length (Bj (s.types.take bN++List.replicate (s.types.length-bN) 0))):=T6;have HD16:Hid (Blk (w5.setCells g bN (List.replicate (s.types.length-bN) (.int .i64 0))) w.heap.size #[.int .i64 31,.int .i64 na,.int .i64 ((bN:Nat):Int),.int .i64 nc,.int .i64 nd] 58):=D16;have HD26:Hid (Blk (w5.setCells g bN (List.replicate (s.types.length-bN) (.int .i64 0))) (w.heap.size+1) #[.bool ab,.slice ao s.types.length ac,.slice ago s.guards.length agc] 344):=D26;have HD46:Hid (Blk (w5.setCells g bN (List.replicate (s.types.length-bN) (.int .i64 0))) (w.heap.size+1+1+1) #[.bool false,.slice none 0 0,.slice none 0 0] 344):=D46;have HB6:Hid _:=B6;clear T5 T6 D1 D2 D4 D16 D26 D46 B5 B6;go_wp2_with fail;generalize w5.setCells g bN (List.replicate (s.types.length-bN) (.int .i64 0))=w6 at *;clear hcl d1;have HLN:Hid ((s.types.take bN++List.replicate (s.types.length-bN) 0).length=s.types.length):=by show _=_;simp;omega
 have p6:=HD16.out.cell 2;have c6:=(HT6.out.cellAt bN (by omega)).trans (De (by rw[HLN.out];omega));have d6:=(HT6.out.cellAt (bN+1) (by omega)).trans (De (by rw[HLN.out];omega));have z6:=HT6.out.frozenAt;have T7:=(HT6.out.stored bN (.int .i64 1)).1;rw[Ha]at T7;have T8:=(T7.stored (bN+1) (.int .i64 1)).1;rw[Ha]at T8;have HTR:Hid (Xf bN s.types=((s.types.take bN++List.replicate (s.types.length-bN) 0).set bN 1).set (bN+1) 1):=by show _=_;unfold Xf;simp
 rw[←HTR.out]at T8;have k2:(bN:Int)<s.types.length:=by omega
 have k3:(bN:Int)+1<s.types.length:=by omega
 have k4:(0:Int)<=(bN:Int)+1:=by omega
 have k5:IntKind.i64.wrap ((bN:Int)+1)=(bN:Int)+1:=by unfold IntKind.wrap;simp[IntKind.signed,IntKind.bits];omega
 have HT8:Hid (((w6.setCell ⟨g,bN,none⟩ (.int .i64 1)).setCell ⟨g,bN+1,none⟩ (.int .i64 1)).drew.ownsRow w4.heap.size 3 1 (.slice (some ⟨g,0,none⟩) s.types.length cap5) s.types.length (Bj (Xf bN s.types))):=Ae T8 (fun k hk=>rfl);have HB8:Hid (Below w.heap.size w ((w6.setCell ⟨g,bN,none⟩ (.int .i64 1)).setCell ⟨g,bN+1,none⟩ (.int .i64 1)).drew):=((HB6.out.setCell (by dsimp only;omega) _).setCell (by dsimp only;omega) _).drew;have HD28:Hid (Blk ((w6.setCell ⟨g,bN,none⟩ (.int .i64 1)).setCell ⟨g,bN+1,none⟩ (.int .i64 1)).drew (w.heap.size+1) #[.bool ab,.slice ao s.types.length ac,.slice ago s.guards.length agc] 344):=(HD26.out.setOther (p:=⟨g,bN,none⟩) (fun e=>hne2 e.symm) _).setOther (p:=⟨g,bN+1,none⟩) (fun e=>hne2 e.symm) _;have HD48:Hid (Blk ((w6.setCell ⟨g,bN,none⟩ (.int .i64 1)).setCell ⟨g,bN+1,none⟩ (.int .i64 1)).drew (w.heap.size+1+1+1) #[.bool false,.slice none 0 0,.slice none 0 0] 344):=(HD46.out.setOther (p:=⟨g,bN,none⟩) (fun e=>hne5 e.symm) _).setOther (p:=⟨g,bN+1,none⟩) (fun e=>hne5 e.symm) _;clear T7 T8 HT6 HD16 HD26 HD46 HB6;go_wp2_with fail;go_region_held3 (fun w'=>w'.cell? ⟨w.heap.size,2,none⟩=some (.int .i64 bN)) (first|exact p6|(exact(yG _ _ _ _ hne1).trans p6)|(exact((yG _ _ _ _ hne1).trans (yG _ _ _ _ hne1)).trans p6)|(go_keep;done)) (fail);clear p6 c6 d6 z6;generalize ((w6.setCell ⟨g,bN,none⟩ (.int .i64 1)).setCell ⟨g,bN+1,none⟩ (.int .i64 1)).drew=w8 at *;have c8:=HD28.out.cell;have r8:=HD48.out.cell;have f8:=HD48.out.frozen;have hLg:L<=w4.heap.size:=by have:=hL;omega
 go_wp2_with fail;have HD9:=HD48.out.three (x':=.bool false) (y':=.slice (some ⟨g,0,none⟩) s.types.length cap5) (z':=.slice ago s.guards.length agc);have HB9:Below w.heap.size w (((w8.setCell ⟨w.heap.size+1+1+1,0,none⟩ (.bool false)).setCell ⟨w.heap.size+1+1+1,1,none⟩ (.slice (some ⟨g,0,none⟩) s.types.length cap5)).setCell ⟨w.heap.size+1+1+1,2,none⟩ (.slice ago s.guards.length agc)):=((HB8.out.setCell (by dsimp only;omega) _).setCell (by dsimp only;omega) _).setCell (by dsimp only;omega) _;have HT9:=Ae HT8.out (w':=((w8.setCell ⟨w.heap.size+1+1+1,0,none⟩ (.bool false)).setCell ⟨w.heap.size+1+1+1,1,none⟩ (.slice (some ⟨g,0,none⟩) s.types.length cap5)).setCell ⟨w.heap.size+1+1+1,2,none⟩ (.slice ago s.guards.length agc)) (fun k hk=>by
  have hkg:k=g:=by simpa[Value.ownBlock]using hk.symm
  have hk3:k≠w.heap.size+1+1+1:=by rw[hkg];exact hne5
  rw[yL _ _ _ _ hk3,yL _ _ _ _ hk3,yL _ _ _ _ hk3])
 have c9:=HD9.cell;have htl:(Xf bN s.types).length=s.types.length:=by rw[HTR.out];simp;omega
 refine bodyPost_ret (v:=.agg #[.bool false,.slice (some ⟨g,0,none⟩) s.types.length cap5,.slice ago s.guards.length agc]) ?_ rfl ⟨⟨false,some ⟨g,0,none⟩,cap5,ago,agc,?_,?_,HR2.out _ HB9⟩,HB9⟩
 ·simp[results,results366,go_sem,c9]
 ·dsimp only;rw[htl]
 ·exact(Ed.of_owns HT9).w hLg
theorem Jv (np:Nat) (p:Pd) (n:Nd) (ab bb:Bool) (ao ago bo bgo:Option Addr) (ac agc bc bgc L m:Nat) (s:St) (ts:List Int) (gs:List Gd) (w:World) (hL:L<=w.heap.size) (hm:s.types.length=m) (ht:ts.length=m) (hm2:m<=250) (R1:Ed L w ao ac s.types) (R2:Bu L w ago agc s.guards) (R3:Ed L w bo bc ts) (R4:Bu L w bgo bgc gs) (hn:El np p n) (hmr:(m:Int)=p.regs) :
  Calls prog 366 #[n.val,.agg #[.bool ab,.slice ao s.types.length ac,.slice ago s.guards.length agc],.agg #[.bool bb,.slice bo ts.length bc,.slice bgo gs.length bgc]] w (Uw L w (Ga n s ts gs)):=by
 obtain⟨f1,f2,f3,f4,f5,f6⟩:=Ht hn;obtain⟨op,na,nb,nc,nd⟩:=n;dsimp only at *;unfold Nd.val Ga;dsimp only;by_cases h41:op=41
 ·subst h41;have hc:=f5 rfl;obtain⟨cN,rfl⟩:=yN hc.1;rw[if_pos rfl,Int.toNat_natCast];have hcm:cN<m:=by omega
  cases ao with
  | none=>have:=R1.nil rfl;omega
  | some a=>
   obtain⟨gb,gof,rfl⟩:=R1.form a rfl;exact Tt na nb nd cN gb gof ab bb ago bo bgo ac agc bc bgc L m s ts gs w hL hm ht hm2 R1 R2 R3 R4 hcm
 ·rw[if_neg h41];by_cases h31:op=31
  ·subst h31;have hb:=(f1 rfl).2;obtain⟨bN,rfl⟩:=yN hb.1;rw[if_pos rfl];exact Tq na nc nd bN ab bb ao ago bo bgo ac agc bc bgc L m s ts gs w hL hm ht hm2 R1 R2 R3 R4 (by omega)
  ·rw[if_neg h31];exact Ox op na nb nc nd ab bb ao ago bo bgo ac agc bc bgc L m s ts gs w hL hm ht hm2 R1 R2 R3 R4 h41 h31
end Go.Proofs.YtbefeflgjipfhaaGreatDoor
