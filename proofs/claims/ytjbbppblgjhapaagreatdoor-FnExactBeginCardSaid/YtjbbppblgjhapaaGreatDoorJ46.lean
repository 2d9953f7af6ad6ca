import Derived.Test.YtjbbppblgjhapaaGreatDoorJ45
set_option maxRecDepth 100000
set_option maxHeartbeats 4000000
namespace Go.Proofs.YtjbbppblgjhapaaGreatDoor
open Go.Deep Go.Proofs.Tryz Go.RowKit
variable{A:Array Value}{e:Ending}{pace:Int}{ss:List ByteArray}{rs:List Rg}{cs:List Value}{vs:List Vd}{b g ic j jc n:Nat}{io jo:Option Addr}{r:Rg}{t:TypeId}{v:Value}{u:Vd}{W w:World}
attribute [local go_sem] Ac
theorem Mq.kept{W0 W':World}{cn:Nat} (h:Mq W0 cn n rs pace e W) (hk:A7 (W0:Nat) W W') (hl:(w:Nat)<=(W0:Nat)) (hb:Below w w W'):Mq w cn n rs pace e W':=by obtain⟨co,cc,bt,tc,bf,fc,ro,rc,he,hT,hbt,hF,hbf,hR,hC,_⟩:=h;exact⟨co,cc,bt,tc,bf,fc,ro,rc,he,hT.keep hk hbt.1 hbt.2,⟨by omega,yF hbt.2 hk.size⟩,hF.keep hk hbf.1 hbf.2,⟨by omega,yF hbf.2 hk.size⟩,(Bp.l hR hk).w hl,D8 (Aj hC (fun q hq=>hk.block q (World.ownsRow.lt hC q hq).1 (World.ownsRow.lt hC q hq).2)) hl,hb⟩
theorem Il{lo:Nat} (h:g<lo):A7 lo W (W.setCells g 0 cs):=by have hc:=Chg.sets (L:=[g]) (yT.2 rfl) cs 0 (Chg.refl [g] W);exact⟨hc.size,fun b h1 h2=>hc.block b (by simp;omega) h2⟩
theorem Yf (cd inp:Array Value) (hcd:∃v,cd=#[v]/\v.oneCell'=true) (hin:∃a1 n1 c1 a2 n2 c2 ti de ce,inp=#[.slice a1 n1 c1,.slice a2 n2 c2,.int .i64 ti,.int .i64 de,.int .i64 ce]) (pace:Int) (ok:Bool) (cn n:Nat) (rs:List Rg) (w:World)
  (HOK:Hid (∀W,Below w w W->Kw 54 #[.agg cd,.agg inp,pace] W (.bool ok)))
  (HB:Hid (ok=true->∀W,Below w w W->Calls prog 56 #[.agg cd,.agg inp,pace,(-1:Int)] W fun e w'=>∃bm,e=.returned (.pointer (some ⟨bm,0,none⟩))/\Below W.heap.size W w'/\Calls prog 55 #[.pointer (some ⟨bm,0,none⟩)] w' fun e2 w2=>Mq w' cn n rs pace e2 w2)) :
  Calls prog 23 #[.agg cd,.agg inp,pace] w fun e w'=>(if ok then Mq w cn n rs pace e w' else e=.returned (.agg mz))/\Below w w w':=by
 obtain⟨v,rfl,hv⟩:=hcd;obtain⟨a1,n1,c1,a2,n2,c2,ti,de,ce,rfl⟩:=hin;have X0:=((Blk.new w #[v] 31).alloc (.cells #[.slice a1 n1 c1,.slice a2 n2 c2,ti,de,ce] 60)).alloc (.cells mz 58);have Y0:=(Blk.nh (W:=w.alloc (.cells #[v] 31)) (n:=(w:Nat)+1) #[.slice a1 n1 c1,.slice a2 n2 c2,ti,de,ce] 60 (by simp)).alloc (.cells mz 58);have R0:=Blk.nh (W:=(w.alloc (.cells #[v] 31)).alloc (.cells #[.slice a1 n1 c1,.slice a2 n2 c2,ti,de,ce] 60)) (n:=(w:Nat)+1+1) mz 58 (by simp);have B0:Below w w (((w.alloc (.cells #[v] 31)).alloc (.cells #[.slice a1 n1 c1,.slice a2 n2 c2,ti,de,ce] 60)).alloc (.cells mz 58)):=(((yA _ _).alloc (yB _) _).alloc (by simp) _).alloc (by simp;omega) _;have HR0:Hid _:=R0;have HX0:Hid _:=X0;have HY0:Hid _:=Y0;have HB0:Hid _:=B0;clear R0 X0 Y0 B0;(try unfold Kw);go_in;refine wk fun K HK=>?_;go_wp2_with fail;refine Ki (S:=fun W=>Below w w W/\Blk W (w:Nat) #[v] 31/\Blk W ((w:Nat)+1) #[.slice a1 n1 c1,.slice a2 n2 c2,ti,de,ce] 60/\Blk W ((w:Nat)+1+1) mz 58) ⟨HB0.out,HX0.out,HY0.out,HR0.out⟩ (fun W hS=>HK.out _ _ ?_);clear HK K HB0 HX0 HY0 HR0;obtain⟨B0,X0,Y0,R0⟩:=hS;have HR0:Hid (Blk W ((w:Nat)+1+1) mz 58):=R0;clear R0;have x0:=X0.cell;have y0:=Y0.cell;refine wk fun K HK1=>?_;refine wk fun K HK2=>?_;go_wp2_with fail;refine(HOK.out _ B0).mono ?_;rintro e w1 ⟨rfl,hw1⟩;have X1:=X0.l hw1;have Y1:=Y0.l hw1;have HR1:Hid (Blk w1 ((w:Nat)+1+1) mz 58):=HR0.out.l hw1;have B1:=B0.trans (hw1.mono B0.size);clear X0 Y0 HR0 x0 y0 B0 hw1;cases ok
 ·go_wp2;refine HK2.out _ _ ?_;refine wp_cond_true (by simp[Act.eval]) ?_;refine wk fun K HK3=>?_;refine rgL ?_;refine plF rfl ⟨?_,?_,?_⟩;rotate_left
  (focus go_simp;with_reducible rfl);try simp only[Act.put,yC,yJ,yK]
  refine plS rfl ⟨_,Dk (b:=(w:Nat)+1+1) (o:=0) (cells:=mz) (x:=.tmp 6) (y:=.tmp 12) HR1.out.there (by kernel_rfl) (by simp[Value.oneCell',mcs]) rfl (by simp[Act.eval]) (by simp[Act.eval];rfl),?_⟩;refine wpList_nil ?_;refine HK3.out _ _ ?_;have HR:=yS w1 ((w:Nat)+1+1) 0 mz.toList HR1.out.there;go_wp2_with fail;exact bodyPost_ret (Fv (b:=(w:Nat)+1+1) (cs:=mz.toList) results23 rfl HR underlying58 rfl (by kernel_rfl)) rfl ⟨rfl,Below.sets _ _ B1 (by omega)⟩
 ·go_wp2;refine HK2.out _ _ ?_;refine wp_cond_false (by simp[Act.eval]) ?_;go_wp2;refine HK1.out _ _ ?_;have x1:=X1.cell;have y1:=Y1.cell;refine wk fun K HK3=>?_;refine rgL ?_;repeat (refine plF rfl ⟨?_,?_,?_⟩;rotate_left;(focus go_simp;with_reducible rfl);try simp only[Act.put,yC,yJ,yK])
  refine wpList_plain rfl fun K hK=>?_;have HK4:Hid _:=hK;clear hK;go_wp2_with fail;refine(HB.out trivial _ B1).mono ?_;rintro e w2 ⟨bm,rfl,hw2,HO⟩;have HR2:Hid (Blk w2 ((w:Nat)+1+1) mz 58):=HR1.out.l hw2;have B2:=B1.trans (hw2.mono B1.size);clear X1 Y1 HR1 x1 y1 hw2;go_wp2;refine HK4.out _ _ ?_;refine wpList_plain rfl fun K hK=>?_;have HK5:Hid _:=hK;clear hK;go_wp2_with fail;refine HO.mono ?_;intro e w3 hL;have hL0:=hL;obtain⟨co,cc,bt,tc,bf,fc,ro,rc,rfl,_,_,_,_,_,_,hw3⟩:=hL0;have HR3:Hid (Blk w3 ((w:Nat)+1+1) mz 58):=HR2.out.l hw3;have HL:Hid _:=hL;clear hL;go_wp2;refine HK5.out _ _ ?_;refine plS rfl ⟨_,Dk (b:=(w:Nat)+1+1) (o:=0) (cells:=mcs pace co cn cc bt 1 tc) (x:=.tmp 6) (y:=.tmp 17) HR3.out.there (by kernel_rfl) (by simp[Value.oneCell',mcs]) rfl (by simp[Act.eval]) (by simp[Act.eval];try rfl),?_⟩;refine wpList_nil ?_;refine HK3.out _ _ ?_;have HR:=yS w3 ((w:Nat)+1+1) 0 (mcs pace co cn cc bt 1 tc).toList HR3.out.there;have B3:=Below.sets (g:=(w:Nat)+1+1) (mcs pace co cn cc bt 1 tc).toList 0 (B2.trans (hw3.mono B2.size)) (by omega);have hlt:=HR2.out.lt;go_wp2_with fail;exact bodyPost_ret (Fv (b:=(w:Nat)+1+1) (cs:=(mcs pace co cn cc bt 1 tc).toList) results23 rfl HR underlying58 rfl (by kernel_rfl)) rfl ⟨Mq.kept HL.out (Il hlt) B2.size B3,B3⟩
theorem Cg{i:Nat} (h:W.cell? (b,i)=some v):W.setCell (b,i) v=W:=by
 unfold World.setCell;unfold World.cell? at h;dsimp only at h ⊢;have hh:(W.heap.modify b fun|.cells c elem frozen=>.cells (if (none:Option Nat).isSome then c else c.setIfInBounds i v) elem frozen|o=>o)=W.heap:=by
  apply Array.ext_getElem?;intro j;rw[Array.getElem?_modify];split
  ·rename_i e;subst e;revert h;cases W.heap[b]? with
   | none=>intro h;rfl
   | some o=>
    cases o with
    | cells c t f=>
     intro h;simp at h;simp only[Option.map_some,Option.isSome_none,Bool.false_eq_true,if_false];congr 2;apply Array.ext_getElem?;intro k;rw[Array.getElem?_setIfInBounds];split
     ·rename_i e2;subst e2;obtain⟨hlt,_⟩:=Array.getElem?_eq_some_iff.1 h;rw[if_pos hlt,h]
     ·rfl
    | _=>intro h;simp at h
  ·rfl
 exact congrArg (fun h=>({W with heap:=h} : World)) hh
def Jy:Obj:=.map #[{key:=.pointer none,val:=(-1:Int),born:=0}] 1
theorem Qf (e:Bool) (w:World):(Instr.checkKey e 10000 342 (.pointer none)).run prog w=.ok () w:=by show (Instr.checkKey e (9999+1) 342 (.pointer none)).run prog w=_;unfold Instr.checkKey;simp[run_underlying underlying342]
theorem Abo (h:Array Obj) (a o:Obj):(h.push a).setIfInBounds h.size o=h.push o:=by
 apply Array.ext_getElem?;intro i;rw[Array.getElem?_setIfInBounds,Array.getElem?_push,Array.getElem?_push];by_cases e:i=h.size
 ·subst e;simp
 ·simp[e,Ne.symm e]
theorem Wl (w:World) (hn:(w:Nat)=n):(Instr.mapUpdate 349 (.map (some n)) (.pointer none) (-1:Int)).run prog (w.alloc (.map #[] 0))=.ok () (w.alloc Jy):=by
 subst hn;have hh:(w.alloc (.map #[] 0)).heap[(w:Nat)]?=some (.map #[] 0):=blk_alloc_new _ _;have g:=Go.run_getObj_map (P:=prog) (w:=w.alloc (.map #[] 0)) (hb:=hh);have g2:∀o,(setObj (w:Nat) o).run prog (w.alloc (.map #[] 0))=.ok () (w.alloc o):=fun o=>by
  show (match (w.alloc (.map #[] 0)).heap[(w:Nat)]? with|some (.cells _ _ _)=>_|some _=>_|none=>_)=_;rw[hh];exact congrArg (fun h=>Result.ok () {w with heap:=h}) (Abo w.heap _ o)
 simp only[Instr.mapUpdate,Sem.run_bind,run_underlying underlying349,Result.andThen_ok,g,Qf,Instr.findKey,run_underlying underlying342,Instr.findNow,Sem.run_pure,g2];simp[Jy]
theorem Wm (h:W.heap[b]?=some Jy):(Instr.lookup 349 (.map (some b)) (.pointer none) false).run prog W=.ok (-1:Int) W:=by unfold Jy at h;have g:=Go.run_getObj_map (P:=prog) (w:=W) (hb:=h);simp only[Instr.lookup,Sem.run_bind,run_underlying underlying349,Result.andThen_ok,g,Qf,Instr.findKey,run_underlying underlying342,Instr.findNow,Instr.sameNow,Instr.findAsking,Sem.run_pure];rw[run_equal_pointer_nil W 342 none (by kernel_rfl)];rfl
theorem A41 (bm:Nat) (w:World) (hm:bm<(w:Nat)) (h5:w.cell? (bm,5)=some (.slice none 0 0)) :
  Calls prog 210 #[.pointer bm,nS] w fun e w'=>∃bp,e=.returned (.agg #[nS,.map (some bp)])/\bp<w'.heap.size/\w'.heap[bp]?=some Jy/\Below w w w':=by
 have hmm:=@run_makeMap prog;have hin:=Wl (w.alloc (.cells #[nS,.map none] 351)) (n:=(w:Nat)+1) (by simp);have h5a:∀o,(w.alloc o).cell? (bm,5)=some (.slice none 0 0):=fun o=>(((yA (w:Nat) w).alloc (yB _) o).cell (p:=(bm,5)) hm).trans h5;go_in;go_wp2;go_loop [17] (fun i=>i=()) (fun _=>0);case atStart=>rfl
 case round=> obtain rfl:=hrel;go_wp2_with fail;refine bodyPost_ret (v:=.agg #[nS,.map (some ((w:Nat)+1))]) (by simp[results,results210,go_sem]) rfl ⟨(w:Nat)+1,rfl,by simp,?_,(((yA _ _).alloc (yB _) _).alloc (by simp) _).alloc (by simp;omega) _⟩;refine(((yA _ _).alloc (yB _) _).block ((w:Nat)+1) (by simp)).trans ?_;have:=blk_alloc_new (w.alloc (.cells #[nS,.map (some ((w:Nat)+1))] 351)) Jy;simpa using this
abbrev plV (bp:Nat):Value:=.agg #[nS,.map (some bp)]
abbrev plA (bp:Nat):Array Value:=#[nS,.map (some bp)]
theorem Mf (bp:Nat) (v:Vd) (w:World) (h5:v.kind≠5) (h6:v.kind≠6):Kw 269 #[plV bp,.agg #[v.kind,v.num,.float .f64 v.flt,v.str,v.ref]] w (.agg #[v.kind,v.num,.float .f64 v.flt,v.str,v.ref]):=by
 obtain⟨kd,nu,fl,st,rf⟩:=v;dsimp only at h5 h6 ⊢;have e5:(kd==5)=false:=by simp[h5]
 have e6:(kd==6)=false:=by simp[h6]
 (try unfold Kw);go_in;go_wp2_with fail;refine bodyPost_ret (v:=.agg #[kd,nu,.float .f64 fl,st,rf]) (by simp[results,results269,go_sem]) rfl ⟨rfl,?_⟩;repeat (first|exact yA _ _|refine Below.alloc ?_ (by simp;try omega) _|refine yP ?_ (by simp;try omega) _)
theorem Gb (bp:Nat) (w:World):Kw 212 #[plV bp,nS] w nS:=by
 (try unfold Kw);go_in;go_wp2_with fail;refine(Uv _).mono ?_;rintro e w1 ⟨rfl,rfl⟩;go_wp2;go_loop [11] (fun i=>i=()) (fun _=>0);case atStart=>rfl
 case round=> obtain rfl:=hrel;go_wp2;go_ret;exact⟨rfl,(yA _ _).alloc (yB _) _⟩
theorem Ady (h:Ae W g 0 (vs.flatMap Vd.vals)) (hu:vs[j]?=some u):∀c v,u.vals[c]?=some v->W.cell? ⟨g,j*5+c,none⟩=some v:=fun c v hv=>by
 have:=h (j*5+c) v (Js (f:=Vd.vals) (m:=5) (fun _=>rfl) hu hv)
 rwa [yM]at this
theorem Ya (bp b o cap:Nat) (vs:List Vd) (w:World) (hn:vs.length<=1048576) (HK:Hid (∀u∈vs,u.kind≠5/\u.kind≠6)) (h:Ba 0 w (some ⟨b,o,none⟩) vs) :
  Calls prog 212 #[plV bp,.slice (some ⟨b,o,none⟩) vs.length cap] w fun e w'=>∃v,e=.returned v/\w'.ownsRow (w:Nat) 210 5 v vs.length (vs.flatMap Vd.vals)/\Below w w w':=by
 have HP:Hid (Blk (w.alloc (.cells (plA bp) 351)) (w:Nat) (plA bp) 351):=Blk.new _ _ _;have B0:=(yA (w:Nat) w).alloc (yB _) (.cells (plA bp) 351);have HV:Hid (Ba 0 (w.alloc (.cells (plA bp) 351)) (some ⟨b,o,none⟩) vs):=h.l (A7.o B0);go_in;go_wp2_with fail;refine(Uu b o cap vs _ hn HV.out).mono ?_;rintro e w1 ⟨v,rfl,HO,hw1⟩;have B1:=B0.trans (hw1.mono B0.size);have HP1:Hid (Blk w1 w (plA bp) 351):=HP.out.l hw1;have hO:Hid (w1.ownsRow (w:Nat) 210 5 v vs.length (vs.flatMap Vd.vals)):=D8 HO B0.size;clear HP HV h;rcases Br HO with ⟨rfl,h0,_⟩|⟨g,c,rfl,h1,ho,h3,h4⟩
 ·go_wp2;go_loopw [11] (fun i wr=>i=()/\wr=w1) (fun _ _=>0);case atStart=>exact⟨rfl,rfl⟩
  case round=> obtain⟨rfl,rfl⟩:=hrel;go_wp2;go_ret;exact⟨_,rfl,hO.out,B1⟩
 ·clear HO;have HC:Hid _:=h4;clear h4;go_wp2;go_loopw [11] (fun i wr=>∃j:Nat,j<=vs.length/\i=j/\Hid (Below w1 w1 wr)) (fun i _=>vs.length-(intOf i).toNat);case atStart=>exact⟨0,yE _,rfl,yA _ _⟩
  case round=>
   obtain⟨j,hj,rfl,HB⟩:=hrel;by_cases hlt:j<vs.length
   ·obtain⟨u,hu⟩:=A8 hlt;have HU:Hid _:=Ady HC.out hu;have hku:=HK.out u (yH hu);obtain⟨kd,nu,fl,st,rf⟩:=u;have hb:=HB.out;have HQ:Hid (∀W,Below w1 w1 W->W.cell? (g,j*5)=some (kd:Value)/\W.cell? (g,j*5+1)=some (nu:Value)/\W.cell? (g,j*5+2)=some (.float .f64 fl)/\W.cell? (g,j*5+3)=some (.string st)/\W.cell? (g,j*5+4)=some (rf:Value)/\(∀i,W.frozen? ⟨g,i,none⟩=false)/\Blk W (w:Nat) (plA bp) 351):=fun W hb=>⟨(hb.cell (p:=(g,j*5)) ho.lt).trans (HU.out 0 _ rfl),(hb.cell (p:=(g,j*5+1)) ho.lt).trans (HU.out 1 _ rfl),(hb.cell (p:=(g,j*5+2)) ho.lt).trans (HU.out 2 _ rfl),(hb.cell (p:=(g,j*5+3)) ho.lt).trans (HU.out 3 _ rfl),(hb.cell (p:=(g,j*5+4)) ho.lt).trans (HU.out 4 _ rfl),(ho.l hb).frozen,HP1.out.l hb⟩;have hj5:j<vs.length:=hlt;obtain⟨q0,q1,q2,q3,q4,qf,P⟩:=HQ.out _ (hb.alloc hb.size (.cells #[kd,nu,.float .f64 fl,st,rf] 210));obtain⟨r0,r1,r2,r3,r4,_,_⟩:=HQ.out _ hb;have p:=P.cell;clear hu;go_wp2_with fail;refine(Mf bp ⟨kd,nu,fl,st,rf⟩ _ hku.1 hku.2).mono ?_;rintro e w2 ⟨rfl,hw2⟩;have hb2:Below w1 w1 w2:=(hb.alloc hb.size (.cells #[kd,nu,.float .f64 fl,st,rf] 210)).trans (hw2.mono (by have:=hb.size;simp;omega));clear q0 q1 q2 q3 q4 qf P p r0 r1 r2 r3 r4;obtain⟨q0,q1,q2,q3,q4,qf,_⟩:=HQ.out _ hb2;go_wp2;go_roundw;case rel=> refine⟨j+1,by omega,by go_num,?_⟩;rw[Cg q0,Cg q1,Cg q2,Cg q3,Cg q4];exact hb2
    case measure=>simp[intOf];omega
   ·obtain rfl:j=vs.length:=by omega
    have hjj:¬(vs.length:Int)<vs.length:=by omega
    have hb:=HB.out;go_wp2;go_ret;exact⟨_,rfl,Ai hO.out hb,B1.trans (hb.mono B1.size)⟩
theorem Nj (bp:Nat) (w:World):Kw 213 #[plV bp,.agg #[(),nS,ByteArray.empty]] w (.agg #[(),nS,ByteArray.empty]):=by have X0:=(Blk.nh (W:=w.alloc (.cells (plA bp) 351)) (n:=(w:Nat)+1) #[(),nS,ByteArray.empty] 53 (by simp)).alloc (.cells #[(),nS,ByteArray.empty] 53);have B0:Below w w (((w.alloc (.cells (plA bp) 351)).alloc (.cells #[(),nS,ByteArray.empty] 53)).alloc (.cells #[(),nS,ByteArray.empty] 53)):=(((yA _ _).alloc (yB _) _).alloc (by simp) _).alloc (by simp;omega) _;(try unfold Kw);go_in;have x0:=X0.cell;go_wp2_with fail;refine(Gb bp _).mono ?_;rintro e w1 ⟨rfl,hw1⟩;have X1:=X0.l hw1;have B1:=B0.trans (hw1.mono B0.size);have R1:=(Blk.nh (W:=(w.alloc (.cells (plA bp) 351)).alloc (.cells #[(),nS,ByteArray.empty] 53)) (n:=(w:Nat)+1+1) #[(),nS,ByteArray.empty] 53 (by simp)).l hw1;clear X0 B0 x0;have x1:=X1.cell;have xf:=X1.frozen;have r1:=R1.cell;have rf:=R1.frozen;go_wp2_with fail;rw[Cg (v:=.slice none 0 0) (x1 1),Cg (v:=.int .i64 0) (r1 0),Cg (v:=.slice none 0 0) (r1 1),Cg (v:=.string ByteArray.empty) (r1 2)];refine bodyPost_ret (v:=.agg #[(),nS,ByteArray.empty]) (by simp[results,results213,go_sem,r1]) rfl ⟨rfl,B1⟩
abbrev frH (h:Int):Array Value:=#[h,(),(),false,nS,(),(),(),(),(),nS,nS,false,false,(),nS,ByteArray.empty,()]
theorem Nb (h:Int) (bp:Nat) (w:World):Kw 366 #[.agg #[h],plV bp] w (.agg (frH h)):=by
 have X0:=Blk.nh (W:=(w.alloc (.cells #[h] 344)).alloc (.cells (plA bp) 351)) (n:=(w:Nat)+1+1) (frH 0) 231 (by simp);have HT:=X0.there;(try unfold Kw);go_in;refine wk fun K HK=>?_;go_wp2;refine HK.out _ _ ?_;clear HK K;refine wk fun K HK=>?_;refine rgL ?_;repeat (refine plF rfl ⟨?_,?_,?_⟩;rotate_left;(focus go_simp;with_reducible rfl);try simp only[Act.put,yC,yJ,yK])
 refine plS rfl ⟨_,Dk (b:=(w:Nat)+1+1) (o:=0) (cells:=frH h) (x:=.tmp 4) (y:=.tmp 7) HT (by kernel_rfl) (by simp[Value.oneCell']) rfl (by simp[Act.eval]) (by simp[Act.eval];rfl),?_⟩;refine wpList_nil ?_;refine HK.out _ _ ?_;have HR:=yS _ _ 0 (frH h).toList HT;have B0:Below w w (((w.alloc (.cells #[h] 344)).alloc (.cells (plA bp) 351)).alloc (.cells (frH 0) 231)):=(((yA _ _).alloc (yB _) _).alloc (by simp) _).alloc (by simp;omega) _;have B1:=Below.sets (g:=(w:Nat)+1+1) (frH h).toList 0 B0 (by omega);go_wp2_with fail;exact bodyPost_ret (Fv (b:=(w:Nat)+1+1) (cs:=(frH h).toList) results366 rfl HR underlying231 rfl (by kernel_rfl)) rfl ⟨rfl,B1⟩
def Ld (w:World) (io:Option Addr) (ic:Nat) (vs:List Vd):Prop:=(io=none/\ic=0/\vs=[])∨∃b o,io=some ⟨b,o,none⟩/\Ba 0 w io vs
theorem Ld.l{w':World} (h:Ld w io ic vs) (hb:Below w w w'):Ld w' io ic vs:=h.imp id fun ⟨b,o,e,h⟩=>⟨b,o,e,h.l (A7.o hb)⟩
def Yj (vs:List Vd):Prop:=∀u∈vs,u.kind≠5/\u.kind≠6
theorem A18 (bp:Nat) (io:Option Addr) (ic:Nat) (vs:List Vd) (w:World) (hn:vs.length<=1048576) (hk:Yj vs) (h:Ld w io ic vs) :
  Calls prog 212 #[plV bp,.slice io vs.length ic] w fun e w'=>∃jo jc,e=.returned (.slice jo vs.length jc)/\Ez (w:Nat) w' jo vs/\Below w w w':=by
 rcases h with ⟨rfl,rfl,rfl⟩|⟨b,o,rfl,h⟩
 ·refine(Gb bp w).mono ?_;rintro e w1 ⟨rfl,hb⟩;exact⟨none,0,rfl,.inl rfl,hb⟩
 ·refine(Ya bp b o ic vs w hn hk h).mono ?_;rintro e w1 ⟨v,rfl,ho,hb⟩;obtain⟨jo,jc,rfl⟩:=Aa ho;exact⟨jo,jc,rfl,Ez.ow ho,hb⟩
abbrev rgZ:Array Value:=#[(),(),(),.float .f64 0,ByteArray.empty,(),(),nS]
abbrev Rg.ins (r:Rg) (io:Option Addr) (ic:Nat):Array Value:=#[r.ty,r.v.kind,r.v.num,.float .f64 r.v.flt,r.v.str,r.v.ref,.pointer none,.slice io r.list.length ic]
theorem Blk.setsFar (h:Blk W b A t) (hn:b≠g) (cs:List Value):Blk (W.setCells g 0 cs) b A t:=((Chg.sets (L:=[g]) (yT.2 rfl) cs 0 (Chg.refl [g] W)).block b (by simpa using hn) h.lt).trans h
structure A1x (w W:World) (bo:Nat) (r:Rg) (io:Option Addr) (ic:Nat):Prop where
 below:Below w w W
 reg:Blk W w (r.ins io ic) 413
 res:Blk W ((w:Nat)+2) rgZ 327
 out:∃jo jc,Ae W bo 0 (r.cs jo jc)/\Ez ((w:Nat)+3) W jo r.list
theorem A1x.sets{bo:Nat} (hb:Below w w W) (hx:Blk W w (r.ins io ic) 413) (hr:Blk W ((w:Nat)+2) rgZ 327) (ho:Blk W bo rgZ 327) (hl:(w:Nat)+2<bo) (hv:Ez (bo+1) W jo r.list):A1x w (W.setCells bo 0 (r.cs jo jc)) bo r io ic:=
 have hc:=Chg.sets (L:=[bo]) (yT.2 rfl) (r.cs jo jc) 0 (Chg.refl [bo] W)
 ⟨Below.sets _ _ hb (by omega),(hc.block _ (by simp;omega) hx.lt).trans hx,(hc.block _ (by simp;omega) hr.lt).trans hr,jo,jc,yS _ _ 0 _ ho.there,(hv.chg hc (by simp)).w (by omega)⟩
theorem A1x.new (hb:Below w w W) (hx:Blk W w (r.ins io ic) 413) (hr:Blk W ((w:Nat)+2) rgZ 327) (hv:Ez ((w:Nat)+3) W jo r.list):A1x w (W.alloc (.cells (r.cs jo jc).toArray 327)) (W:Nat) r io ic:=
 ⟨hb.alloc hb.size _,hx.alloc _,hr.alloc _,jo,jc,fun i v hi=>by rw[yM,(Blk.new _ _ _).cell];simpa using hi,hv.l (A7.o ((yA _ _).alloc (yB _) _))⟩
theorem A46 (bp:Nat) (r:Rg) (io:Option Addr) (ic:Nat) (w:World) (HC:Hid (RgC r)) (HN:Hid (Yj (r.v::r.list))) (HL:Hid (Ld w io ic r.list)) (hln:r.list.length<=1048576) :
  Calls prog 367 #[.agg (r.ins io ic),plV bp] w fun e w'=>∃jo jc,e=.returned (.agg (r.cs jo jc).toArray)/\Ez (w:Nat) w' jo r.list/\Below w w w':=by
 obtain⟨ty,v,box,list⟩:=r;obtain⟨kd,nu,fl,st,rf⟩:=v;have hbox:box=0:=by rcases HC.out with ⟨_,h,_⟩|⟨_,_,h,_⟩|⟨_,_,h,_⟩<;>exact h
 have hty:(ty==2)=false:=by rcases HC.out with ⟨h,_⟩|⟨h,_⟩|⟨h,_⟩<;>(dsimp only at h;subst h;rfl)
 subst hbox;dsimp only at hln ⊢;go_in;refine wk fun K HK=>?_;go_wp2_with fail;refine Ki (S:=fun W=>Below w w W/\Blk W (w:Nat) ((Rg.mk ty ⟨kd,nu,fl,st,rf⟩ 0 list).ins io ic) 413/\Blk W ((w:Nat)+1) (plA bp) 351/\Blk W ((w:Nat)+2) rgZ 327) ⟨(((yA _ _).alloc (yB _) _).alloc (by simp) _).alloc (by simp;omega) _,((Blk.new w _ _).alloc _).alloc _,(Blk.nh _ _ (by simp)).alloc _,Blk.nh _ _ (by simp)⟩ (fun W hS=>HK.out _ _ ?_);clear HK K;obtain⟨B0,X0,P0,R0⟩:=hS;have HB0:Hid (Below w w W):=B0;have HR0:Hid (Blk W ((w:Nat)+2) rgZ 327):=R0;have HX0:Hid (Blk W w ((Rg.mk ty ⟨kd,nu,fl,st,rf⟩ 0 list).ins io ic) 413):=X0;have HL0:Hid (Ld W io ic list):=HL.out.l ⟨B0.os,B0.tape,B0.output,B0.size,B0.block⟩;have HP0:Hid (Blk W ((w:Nat)+1) (plA bp) 351):=P0;have hd:∀o,W.drew.cell? ⟨(w:Nat),o,none⟩=_:=X0.cell;have hp:∀o,W.drew.cell? ⟨(w:Nat)+1,o,none⟩=_:=P0.cell;have hlt:=R0.lt;clear B0 R0 X0 P0;refine wk fun K HK=>?_;go_cut [2,3,4,5] from 6 (fun v2 v3 v4 v5 wx=>∃bo:Nat,v2=.pointer (w:Nat)/\v3=.pointer (some ⟨(w:Nat)+1,0,none⟩)/\v4=.pointer (some ⟨(w:Nat)+2,0,none⟩)/\v5=.pointer bo/\Hid (A1x w wx bo ⟨ty,⟨kd,nu,fl,st,rf⟩,0,list⟩ io ic));case first=>
  go_region_held3 (fun W=>(∀o,W.cell? ⟨(w:Nat),o,none⟩=((Rg.mk ty ⟨kd,nu,fl,st,rf⟩ 0 list).ins io ic)[o]?)/\(∀o,W.cell? ⟨(w:Nat)+1,o,none⟩=(plA bp)[o]?)) (first|with_reducible exact⟨e1,e2⟩|with_reducible exact⟨d1,d2⟩|with_reducible exact⟨hd,hp⟩|with_reducible exact⟨((HX0.out.l HB2.out).alloc _).cell,((HP0.out.l HB2.out).alloc _).cell⟩|with_reducible exact⟨((HX0.out.l HB1.out).alloc _).cell,((HP0.out.l HB1.out).alloc _).cell⟩|with_reducible exact⟨((HX0.out.alloc _).l (yA _ _).drew).cell,((HP0.out.alloc _).l (yA _ _).drew).cell⟩|(have h2:=HB2.out;have h1:=O1.out;exact⟨((HX0.out.l h2).setsFar (g:=W.heap.size) (by have:=HB1.out.size;omega) ((Rg.mk ty ⟨kd,nu,fl,st,rf⟩ 0 list).cs jo jc)).cell,((HP0.out.l h2).setsFar (g:=W.heap.size) (by have:=HB1.out.size;omega) ((Rg.mk ty ⟨kd,nu,fl,st,rf⟩ 0 list).cs jo jc)).cell⟩)|(have h2:=HB2.out;exact⟨((HX0.out.l h2).setsFar (g:=(w1:Nat)) (by have:=HB1.out.size;omega) ((Rg.mk ty ⟨kd,nu,fl,st,rf⟩ 0 list).cs jo jc)).cell,((HP0.out.l h2).setsFar (g:=(w1:Nat)) (by have:=HB1.out.size;omega) ((Rg.mk ty ⟨kd,nu,fl,st,rf⟩ 0 list).cs jo jc)).cell⟩))
   (first|(go_at_call 269;refine(Mf bp ⟨kd,nu,fl,st,rf⟩ _ (HN.out _ (List.mem_cons_self)).1 (HN.out _ (List.mem_cons_self)).2).mono ?_;rintro e w1 ⟨rfl,hw1⟩;have HB1:Hid (Below W W w1):=(by first|exact((yA _ W).drew).trans (hw1.mono (yB _))|exact((yA _ W).alloc (yB _) _).drew.trans (hw1.mono (by simp)));have d1:=(HX0.out.l HB1.out).cell;have d2:=(HP0.out.l HB1.out).cell;try (have O1:Hid (Blk w1 W rgZ 327):=((Blk.new W rgZ 327).l (yA _ _).drew).l hw1))|(go_at_call 212;refine(A18 bp io ic list _ hln (fun u hu=>HN.out u (List.mem_cons_of_mem _ hu)) (HL0.out.l (by first|exact HB1.out|exact HB1.out.alloc HB1.out.size _))).mono ?_;rintro e w2 ⟨jo,jc,rfl,hv,hw2⟩;have HB2:Hid (Below W W w2):=(by first|exact HB1.out.trans (hw2.mono HB1.out.size)|exact(HB1.out.alloc HB1.out.size _).trans (hw2.mono (by have:=HB1.out.size;simp;omega)));have e1:=(HX0.out.l HB2.out).cell;have e2:=(HP0.out.l HB2.out).cell;have HV:Hid (Ez _ w2 jo list):=hv;clear hv;try (first|(have O2:Hid (Blk w2 w1 rgZ 327):=(Blk.new w1 rgZ 327).l hw2;have o_:=O2.out.cell;have of_:=O2.out.frozen)|(have O2:Hid (Blk w2 W rgZ 327):=O1.out.l hw2;have o_:=O2.out.cell;have of_:=O2.out.frozen))))
  all_goals (go_wp2_with fail)
  all_goals go_meet
  case rel=>exact⟨_,rfl,rfl,rfl,rfl,A1x.new (W:=w2) (jo:=jo) (jc:=jc) (r:=⟨ty,⟨kd,nu,fl,st,rf⟩,0,list⟩) (HB0.out.trans (HB2.out.mono HB0.out.size)) (HX0.out.l HB2.out) (HR0.out.l HB2.out) (HV.out.w (by have:=HB1.out.size;omega))⟩
  case rel=>exact⟨_,rfl,rfl,rfl,rfl,A1x.sets (W:=w2) (bo:=(w1:Nat)) (jo:=jo) (jc:=jc) (r:=⟨ty,⟨kd,nu,fl,st,rf⟩,0,list⟩) (HB0.out.trans (HB2.out.mono HB0.out.size)) (HX0.out.l HB2.out) (HR0.out.l HB2.out) O2.out (by have:=HB1.out.size;omega) (HV.out.w (by simp))⟩
  case rel=>exact⟨_,rfl,rfl,rfl,rfl,A1x.sets (W:=w2) (bo:=(W:Nat)) (jo:=jo) (jc:=jc) (r:=⟨ty,⟨kd,nu,fl,st,rf⟩,0,list⟩) (HB0.out.trans (HB2.out.mono HB0.out.size)) (HX0.out.l HB2.out) (HR0.out.l HB2.out) O2.out (by omega) (HV.out.w (by have:=hw1.size;simpa using this))⟩
 case rest=> obtain⟨bo,rfl,rfl,rfl,rfl,HF⟩:=hcut;obtain⟨hb,hx,hr,jo,jc,hc,hv⟩:=HF.out;obtain⟨c0,c1,c2,c3,c4,c5,c6,c7⟩:=And.intro (hc 0 _ rfl) (And.intro (hc 1 _ rfl) (And.intro (hc 2 _ rfl) (And.intro (hc 3 _ rfl) (And.intro (hc 4 _ rfl) (And.intro (hc 5 _ rfl) (And.intro (hc 6 _ rfl) (hc 7 _ rfl)))))));rw[yM]at c0 c1 c2 c3 c4 c5 c6 c7;have x_:=hx.cell;have r_:=hr.cell;have rf_:=hr.frozen;have HV:Hid (Ez ((w:Nat)+3) wc jo list):=hv;have HBx:Hid (Below w w wc):=hb;have HRx:Hid (Blk wc ((w:Nat)+2) rgZ 327):=hr;clear hc hv hb hr hx;go_wp2;refine HK.out _ _ ?_;go_wp2_with fail;have hcg:=Chg.sets (L:=[(w:Nat)+2]) (yT.2 rfl) ((Rg.mk ty ⟨kd,nu,fl,st,rf⟩ 0 list).cs jo jc) 0 (Chg.refl [(w:Nat)+2] wc);have HR:=yS wc ((w:Nat)+2) 0 ((Rg.mk ty ⟨kd,nu,fl,st,rf⟩ 0 list).cs jo jc) HRx.out.there;exact bodyPost_ret (w:=wc.setCells ((w:Nat)+2) 0 ((Rg.mk ty ⟨kd,nu,fl,st,rf⟩ 0 list).cs jo jc)) (Fv (b:=(w:Nat)+2) (cs:=(Rg.mk ty ⟨kd,nu,fl,st,rf⟩ 0 list).cs jo jc) results367 rfl HR underlying327 rfl (by kernel_rfl)) rfl ⟨jo,jc,rfl,(HV.out.chg hcg (by simp)).w (by omega),Below.sets _ _ HBx.out (by omega)⟩
abbrev Rq (w:World) (b:Nat) (ss:List ByteArray):Prop:=w.rowIs b 9 ss.length (fun i=>.string (ss.getD i ByteArray.empty))
theorem Rq.own (h:Rq w b ss):Own w b 9 ss.length:=by obtain⟨c,h1,h2,_⟩:=h;exact⟨c,h1,h2⟩
theorem A1n (a1 a2:Option Addr) (c1 c2:Nat) (s1 s2:List ByteArray) (t d c:Int) (w:World)
  (hm1:s1.length<=1048576) (hc1:Ch w a1 s1) (hm2:s2.length<=1048576) (hc2:Ch w a2 s2) :
  Calls prog 24 #[.agg #[.slice a1 s1.length c1,.slice a2 s2.length c2,t,d,c]] w fun e w'=>∃b1 b2,e=.returned (.agg #[.slice (some ⟨b1,0,none⟩) s1.length s1.length,.slice (some ⟨b2,0,none⟩) s2.length s2.length,t,d,c])/\
   (w:Nat)<=b1/\b1<b2/\Rq w' b1 s1/\Rq w' b2 s2/\Below w w w':=by
 have hb1:∀o,Below w w (w.alloc o):=fun o=>(yA _ _).alloc (yB _) o;have hb3:∀o1 o2 o3,Below w w (((w.alloc o1).alloc o2).alloc o3):=fun o1 o2 o3=>((hb1 o1).alloc (by simp) o2).alloc (by simp;omega) o3;go_in;go_wp2_with fail;refine(Ow a1 c1 s1 _ hm1 (hc1.l (hb3 _ _ _))).mono ?_;rintro e w1 ⟨rfl,hr1,hw1,hz1⟩;obtain⟨k1,k2⟩:=Oe hw1;have z1:(w1:Nat)=(w:Nat)+1+1+1+1:=by rw[hz1];simp
 have B1:Below w w w1:=(hb3 _ _ _).trans (hw1.mono (by simp;omega));have r1:w1.rowIs ((w:Nat)+1+1+1) 9 s1.length (fun i=>.string (s1.getD i ByteArray.empty)):=by simpa using hr1
 clear hr1 hz1;go_wp2_with fail;refine(Ow a2 c2 s2 _ hm2 (hc2.l (B1.setCell (by show (w:Nat)<=(w:Nat)+1+1;omega) _))).mono ?_;rintro e w2 ⟨rfl,hr2,hw2,hz2⟩;obtain⟨k3,k4⟩:=Oe hw2;have S1:=(r1.setOther (a:=((w:Nat)+1+1,0)) (by show (w:Nat)+1+1+1≠(w:Nat)+1+1;omega) (Value.slice (some ⟨(w:Nat)+1+1+1,0,none⟩) s1.length s1.length)).of_block (hw2.block _ (by simp[z1]));have B2:=(B1.setCell (p:=((w:Nat)+1+1,0)) (by show (w:Nat)<=(w:Nat)+1+1;omega) (Value.slice (some ⟨(w:Nat)+1+1+1,0,none⟩) s1.length s1.length)).trans (hw2.mono (by simp[z1];omega));have S2:w2.rowIs ((w:Nat)+1+1+1+1) 9 s2.length (fun i=>.string (s2.getD i ByteArray.empty)):=by simpa[z1]using hr2
 have z2:(w2:Nat)=(w:Nat)+1+1+1+1+1:=by rw[hz2];simp[z1]
 clear r1 hr2 hw2 hz2;go_wp2_with fail;refine bodyPost_ret (v:=.agg #[.slice (some ⟨(w:Nat)+1+1+1,0,none⟩) s1.length s1.length,.slice (some ⟨(w:Nat)+1+1+1+1,0,none⟩) s2.length s2.length,t,d,c]) (by simp[results,results24,go_sem,k1,k3,z1]) rfl ⟨_,_,rfl,by omega,by omega,?_,?_,?_⟩
 ·iterate 9 (refine World.rowIs.setOther ?_ (by first|(simp;done)|(simp;omega)) _)
  exact S1
 ·iterate 9 (refine World.rowIs.setOther ?_ (by first|(simp;done)|(simp;omega)) _)
  exact S2
 ·iterate 9 (refine yP ?_ (by first|(simp;done)|(simp;omega)) _)
  exact B2
theorem Mk (b cap n k:Nat) (w:World) (hk:k+n<=1152921504606846976) (hn:n<=1048576) (h:Own w b 9 n) :
  Calls prog 67 #[.slice b n cap,k] w fun e w'=>e=.returned ((k+n:Nat):Int)/\Chg [b] w w':=by
 go_in;go_wp2;go_loopw [1,5] (fun x y wr=>∃j:Nat,j<=n/\x=((k+j:Nat):Int)/\y=j/\Hid (Chg [b] w wr)/\Hid (Own wr b 9 n)) (fun _ y _=>n-(intOf y).toNat);case atStart=>exact⟨0,yE _,rfl,rfl,Chg.refl _ _,h⟩
 case round=>
  obtain⟨j,hj,rfl,rfl,HC,HO⟩:=hrel;by_cases hlt:j<n
  ·have hji:(j:Int)<n:=by omega
   go_wp2_with fail;refine(Te (k+j) wr (by omega)).mono ?_;rintro e w1 ⟨rfl,hw1⟩;have O1:=HO.out.l hw1;have HC1:Hid (Chg [b] w (w1.setCell (b,j) (.string (mt (k+j))))):=(HC.out.below hw1).set (yT.2 rfl) _ _;have HO1:Hid (Own (w1.setCell (b,j) (.string (mt (k+j)))) b 9 n):=O1.set _ _;obtain⟨v,hv⟩:=O1.cell hlt;have fz:=O1.frozen;clear O1 HC HO hw1;go_wp2;go_roundw;case rel=>exact⟨j+1,by omega,by go_num,by go_num,HC1.out,HO1.out⟩
   case measure=>simp[intOf];omega
  ·obtain rfl:j=n:=by omega
   have hjj:¬(j:Int)<j:=by omega
   go_wp2;go_ret;exact⟨rfl,HC.out⟩
theorem Xy (b1 b2 c1 c2 n1 n2 k:Nat) (t d c:Int) (w:World) (hk:k+n1+n2<=1152921504606846976) (hn1:n1<=1048576) (hn2:n2<=1048576) (hne:b2≠b1) (h1:Own w b1 9 n1) (h2:Own w b2 9 n2) :
  Calls prog 28 #[.agg #[.slice b1 n1 c1,.slice b2 n2 c2,t,d,c],k] w fun e w'=>e=.returned ((k+n1+n2:Nat):Int)/\Chg [b1,b2] w w':=by
 have hb:∀o,Below w w (w.alloc o):=fun o=>(yA _ _).alloc (yB _) o;have X0:=Blk.new w #[.slice b1 n1 c1,.slice b2 n2 c2,t,d,c] 60;have hl:=h1.lt;go_in;have x0:=X0.cell;go_wp2_with fail;refine(Mk b1 c1 n1 k _ (by omega) hn1 (h1.l (hb _))).mono ?_;rintro e w1 ⟨rfl,hw1⟩;have X1:=(hw1.block (w:Nat) (by simp;omega) X0.lt).trans X0;have C1:Chg [b1,b2] w w1:=((Chg.refl _ _).below (hb _)).trans hw1 (by simp);have O2:Own w1 b2 9 n2:=hw1.own (by simpa using hne) (h2.l (hb _));clear x0 X0;have x1:∀o,w1.cell? ⟨(w:Nat),o,none⟩=_:=Blk.cell X1;go_wp2_with fail;refine(Mk b2 c2 n2 (k+n1) _ (by omega) hn2 O2).mono ?_;rintro e w2 ⟨rfl,hw2⟩;go_wp2;go_ret;exact⟨rfl,C1.trans hw2 (by simp)⟩
end Go.Proofs.YtjbbppblgjhapaaGreatDoor
