import Derived.Test.YtbefeflgjipfhaaGreatDoorF37
import Derived.Test.YtbefeflgjipfhaaGreatDoorF43
set_option maxRecDepth 1000000
set_option maxHeartbeats 8000000
namespace Go.Proofs.YtbefeflgjipfhaaGreatDoor
open Go.Deep Go.Proofs.Tryz Go.RowKit
variable{a:Act}{gs l:List Gd}{cap lo np:Nat}{n:Nd}{ao:Option Addr}{p:Pd}{E:Prop}{w:World}
def L6 (lo:Nat) (w:World) (l:List Gd) (e:Ending) (w':World):Prop:=(∃ao cap,e=.returned (.slice ao l.length cap)/\Bu lo w' ao cap l)/\Below w.heap.size w w'
theorem Bu.of_own{base n:Nat} (h:w.ownsRow base 399 3 (.slice ao n cap) n (gds l)):Bu base w ao cap l/\l.length=n:=by obtain⟨h1,h2⟩:=Zo h;exact⟨Bu.of_post (by rw[←h2];exact Np h _ _ rfl) h1 (Zp h),h2.symm⟩
theorem Bu.most (h:Bu lo w ao cap l):Bu lo w ao cap l.dropLast:=by refine⟨yI (by simp) h.cap,fun e=>by have:=h.nil e;simp;omega,h.form,Ay.dropLast h.at_,fun b o e hl=>h.tag b o e (by simp at hl;omega)⟩
theorem Bu.vals{b o:Nat} (h:Bu lo w (some ⟨b,o,none⟩) cap l):∀j u,(gds l)[j]?=some u->w.cell? ⟨b,o+j,none⟩=some u:=by intro j u hj;exact(A5k (Ay.w h.at_ (yE _)) hj).1
theorem Xt (ao:Option Addr) (m cap:Nat) (w:World) (hc:m<=cap) (hnil:ao=none->m=0) (hoff:∀x,ao=some x->∃b o,x=⟨b,o,none⟩) :
  Calls prog 364 #[.slice ao m cap] w fun e w'=>e=.returned (.slice ao m m)/\w'=w:=by
 have k1:(m:Int)<=cap:=by omega
 cases ao with
 | none=>
  obtain rfl:=hnil rfl;go_in;go_wp2;go_ret;exact⟨rfl,rfl⟩
 | some x=>
  obtain⟨b,o,rfl⟩:=hoff x rfl;go_in;go_wp2;go_ret;exact⟨rfl,rfl⟩
theorem Lf (op:Int) (lo:Nat) (a b c d:Int) (ao:Option Addr) (cap m:Nat) (gs:List Gd) (w:World) (hm:Hid (gs.length=m)) (hml:m<=50) (_hlo:lo<=w.heap.size) (hx:Bu lo w ao cap gs) (h31:op≠31) (h33:op≠33) (h32:op≠32) (h36:op≠36) (h34:op≠34) :
  Calls prog 323 #[.agg #[.int .i64 op,.int .i64 a,.int .i64 b,.int .i64 c,.int .i64 d],.slice ao m cap] w (L6 lo w (Dc ⟨op,a,b,c,d⟩ gs)):=by
 have N0:=Blk.new w #[.int .i64 op,.int .i64 a,.int .i64 b,.int .i64 c,.int .i64 d] 58;have B0:=(yA w.heap.size w).alloc (yB _) (.cells #[.int .i64 op,.int .i64 a,.int .i64 b,.int .i64 c,.int .i64 d] 58);have HC:Hid (Dc ⟨op,a,b,c,d⟩ gs=gs):=by show _=_;unfold Dc;simp[h31,h33,h32,h36,h34]
 have HX1:Hid (Bu lo (w.alloc (.cells #[.int .i64 op,.int .i64 a,.int .i64 b,.int .i64 c,.int .i64 d] 58)) ao cap gs):=hx.l (Ad.o B0);have t31:(op==31)=false:=by simpa using h31
 have t33:(op==33)=false:=by simpa using h33
 have t32:(op==32)=false:=by simpa using h32
 have t36:(op==36)=false:=by simpa using h36
 have t34:(op==34)=false:=by simpa using h34
 clear h31 h33 h32 h36 h34 hx N0;go_in;go_wp2;go_ret;rw[HC.out];refine⟨⟨ao,cap,?_,HX1.out⟩,B0⟩;rw[hm.out];rfl
theorem Pv (lo:Nat) (a b c d:Int) (ao:Option Addr) (cap m:Nat) (gs:List Gd) (w:World) (hm:Hid (gs.length=m)) (hml:m<=50) (_hlo:lo<=w.heap.size) (hx:Bu lo w ao cap gs) (hne:m≠0) :
  Calls prog 323 #[.agg #[.int .i64 32,.int .i64 a,.int .i64 b,.int .i64 c,.int .i64 d],.slice ao m cap] w (L6 lo w (Dc ⟨32,a,b,c,d⟩ gs)):=by
 have N0:=Blk.new w #[.int .i64 32,.int .i64 a,.int .i64 b,.int .i64 c,.int .i64 d] 58;have B0:=(yA w.heap.size w).alloc (yB _) (.cells #[.int .i64 32,.int .i64 a,.int .i64 b,.int .i64 c,.int .i64 d] 58);have HC:Hid (Dc ⟨32,a,b,c,d⟩ gs=gs.dropLast):=by show _=_;unfold Dc;simp
 have HX1:Hid (Bu lo (w.alloc (.cells #[.int .i64 32,.int .i64 a,.int .i64 b,.int .i64 c,.int .i64 d] 58)) ao cap gs):=hx.l (Ad.o B0);obtain⟨k,rfl⟩:∃k,m=k+1:=⟨m-1,by omega⟩;have k1:((k:Int)+1-1)=k:=by omega
 have k2:(k:Int)<=cap:=by have:=hx.cap;have:=hm.out;omega
 have HK:Hid (gs.dropLast.length=k):=by show _=_;have:=hm.out;simp;omega
 obtain⟨y,rfl⟩:∃y,ao=some y:=by cases ao with|none=>(have h1:=hx.nil rfl;have h2:=hm.out;omega)|some y=>exact⟨y,rfl⟩
 obtain⟨yb,yo,rfl⟩:=hx.form y rfl;clear hx N0 hne;go_in;go_wp2;go_ret;rw[HC.out];refine⟨⟨some ⟨yb,yo,none⟩,cap,?_,HX1.out.most⟩,B0⟩;rw[HK.out];rfl
theorem Py (lo:Nat) (a b c d:Int) (ao:Option Addr) (cap m:Nat) (gs:List Gd) (w:World) (hm:Hid (gs.length=m)) (hml:m<=50) (_hlo:lo<=w.heap.size) (hx:Bu lo w ao cap gs) (hne:m≠0) :
  Calls prog 323 #[.agg #[.int .i64 36,.int .i64 a,.int .i64 b,.int .i64 c,.int .i64 d],.slice ao m cap] w (L6 lo w (Dc ⟨36,a,b,c,d⟩ gs)):=by
 have N0:=Blk.new w #[.int .i64 36,.int .i64 a,.int .i64 b,.int .i64 c,.int .i64 d] 58;have B0:=(yA w.heap.size w).alloc (yB _) (.cells #[.int .i64 36,.int .i64 a,.int .i64 b,.int .i64 c,.int .i64 d] 58);have HC:Hid (Dc ⟨36,a,b,c,d⟩ gs=gs.dropLast):=by show _=_;unfold Dc;simp
 have HX1:Hid (Bu lo (w.alloc (.cells #[.int .i64 36,.int .i64 a,.int .i64 b,.int .i64 c,.int .i64 d] 58)) ao cap gs):=hx.l (Ad.o B0);obtain⟨k,rfl⟩:∃k,m=k+1:=⟨m-1,by omega⟩;have k1:((k:Int)+1-1)=k:=by omega
 have k2:(k:Int)<=cap:=by have:=hx.cap;have:=hm.out;omega
 have HK:Hid (gs.dropLast.length=k):=by show _=_;have:=hm.out;simp;omega
 obtain⟨y,rfl⟩:∃y,ao=some y:=by cases ao with|none=>(have h1:=hx.nil rfl;have h2:=hm.out;omega)|some y=>exact⟨y,rfl⟩
 obtain⟨yb,yo,rfl⟩:=hx.form y rfl;clear hx N0 hne;go_in;go_wp2;go_ret;rw[HC.out];refine⟨⟨some ⟨yb,yo,none⟩,cap,?_,HX1.out.most⟩,B0⟩;rw[HK.out];rfl
theorem Px (lo:Nat) (a b c d:Int) (ao:Option Addr) (cap m:Nat) (gs:List Gd) (w:World) (hm:Hid (gs.length=m)) (hml:m<=50) (hlo:lo<=w.heap.size) (hx:Bu lo w ao cap gs) (hne:m≠0) :
  Calls prog 323 #[.agg #[.int .i64 34,.int .i64 a,.int .i64 b,.int .i64 c,.int .i64 d],.slice ao m cap] w (L6 lo w (Dc ⟨34,a,b,c,d⟩ gs)):=by
 have N0:=Blk.new w #[.int .i64 34,.int .i64 a,.int .i64 b,.int .i64 c,.int .i64 d] 58;have B0:=(yA w.heap.size w).alloc (yB _) (.cells #[.int .i64 34,.int .i64 a,.int .i64 b,.int .i64 c,.int .i64 d] 58);have HC:Hid (Dc ⟨34,a,b,c,d⟩ gs=Gi gs a):=by show _=_;unfold Dc;simp
 have HX1:Hid (Bu lo (w.alloc (.cells #[.int .i64 34,.int .i64 a,.int .i64 b,.int .i64 c,.int .i64 d] 58)) ao cap gs):=hx.l (Ad.o B0);have n0:=N0.cell;have HCL:Hid (∀_:Unit,_):=fun _=>Xu ao cap m gs (w.alloc (.cells #[.int .i64 34,.int .i64 a,.int .i64 b,.int .i64 c,.int .i64 d] 58)) hm.out (by omega) (fun e=>by have h1:=hx.nil e;have h2:=hm.out;omega) (Ay.w HX1.out.at_ (yE _)) hx.form;go_in;go_wp2_with fail;refine(HCL.out ()).mono ?_;rintro e w1 ⟨v,rfl,hown,hw1⟩;have B1:=B0.trans (hw1.mono (by simp));have N1:=N0.l hw1;have n1:=N1.cell;clear hw1 N0 B0 hx n0 HCL;rcases m with _|k
 ·exact absurd rfl hne
 ·obtain⟨g,cap1,q,rfl,hg1,hg2,hcap,hq,hqa,hfr,HG0,HS⟩:=A49 hown hm.out;have hgw:w.heap.size<g:=by simp at hg1;omega
  have HO:Hid ((w1.setCell ⟨g,k*3+1,none⟩ (.int .i64 a)).ownsRow (w.alloc (.cells #[.int .i64 34,.int .i64 a,.int .i64 b,.int .i64 c,.int .i64 d] 58)).heap.size 399 3 (.slice (some ⟨g,0,none⟩) (k+1) cap1) (k+1) (gds (Gi gs a))):=by have h0:=HS a;rw[A82 hm.out]at h0;exact h0
  have HB3:Hid (Below w.heap.size w (w1.setCell ⟨g,k*3+1,none⟩ (.int .i64 a))):=B1.setCell (by dsimp only;omega) _;have HLO:Hid (lo<=w.heap.size):=hlo;obtain⟨q0,q1,q2⟩:=hqa;have f1:=hfr (k*3+1);have k1:((k:Int)+1-1)=k:=by omega
  clear hq HS HG0 hown hfr hg1 hgw hne hlo;go_wp2;go_ret;rw[HC.out];obtain⟨h1,h2⟩:=Bu.of_own HO.out;exact⟨⟨some ⟨g,0,none⟩,cap1,by rw[h2];rfl,h1.w (by have:=HLO.out;simp;omega)⟩,HB3.out⟩
theorem A30 {ops:Array Oper} {o:Oper} {K:Act->World->Prop} {Q:Exit->Act->World->Prop} (hgd:o.guard=none) (s x:Operand) (ho:o.op=.call {callee:=.builtin .append,args:=#[s,x],argTypes:=#[342,342]})
  (lo:Nat) (ao:Option Addr) (n cap:Nat) (xs:List Gd) (u:Gd) (B:Nat) (hs:a.eval s=.slice ao n n) (hr:Bu lo w ao cap xs) (hl:xs.length=n) (hx:a.eval x=.slice (some ⟨B,0,none⟩) 1 1) (hB:GdAt w B 0 u) (hn:n<=1048576)
  (h:∀v' w',w'.ownsRow w.heap.size 399 3 v' (n+1) (gds (xs++[u]))->w.grownBy w' none->K (a.put o.dst v') w') :
  if Region.wanted o (yielded ops a.tmps)=true then Oper.wp prog o a w K Q else E:=by
 have hw:Region.wanted o (yielded ops a.tmps)=true:=by simp[Region.wanted,hgd]
 rw[if_pos hw];obtain⟨i0,hi,hz0,hz1,hz2⟩:=info_parts Tryz.info_Guard;obtain⟨b0,b1,b2⟩:=hB;have hnews:∀j q,u.vals[j]?=some q->w.cell? ((⟨B,0,none⟩:Addr).add j)=some q:=by
  intro j q hj
  match j,hj with
  | 0,hj=>simp[Gd.vals]at hj;subst hj;simpa[Addr.add]using b0
  | 1,hj=>simp[Gd.vals]at hj;subst hj;simpa[Addr.add]using b1
  | 2,hj=>simp[Gd.vals]at hj;subst hj;simpa[Addr.add]using b2
 have hone:∀q∈u.vals,q.oneCell'=true:=by intro q hq;simp[Gd.vals]at hq;rcases hq with rfl|rfl|rfl<;>rfl
 have hrun:∃v' w',(Builtin.append_ #[342,342] o.type #[.slice ao n n,.slice (some ⟨B,0,none⟩) 1 1]).run prog w=.ok v' w'/\w'.ownsRow w.heap.size 399 3 v' (n+1) (gds xs++u.vals)/\w.grownBy w' none:=by
  cases ao with
  | none=>
   obtain rfl:n=0:=by have:=hr.nil rfl;omega
   obtain rfl:xs=[]:=List.eq_nil_of_length_eq_zero hl;obtain⟨v',w',h1,h2,h3,_⟩:=run_append_own (P:=prog) w w.heap.size 342 o.type 399 i0 (.agg #[.bool false,.int .i64 0,.int .i64 0]) 3 24 underlying342 hi hz0 hz1 hz2 rfl (by decide) (.slice none 0 0) 0 [] (yU w _ _ _) ⟨B,0,none⟩ 1 1 u.vals rfl hnews hone (by unfold maxLen;omega) (by omega) (yB _);exact⟨v',w',h1,h2,h3⟩
  | some ad=>
   obtain⟨b,off,rfl⟩:=hr.form _ rfl;exact run_append_arg_grows (P:=prog) w 342 o.type 399 i0 (.agg #[.bool false,.int .i64 0,.int .i64 0]) 3 24 underlying342 hi hz0 hz1 hz2 rfl (by decide) ⟨b,off,none⟩ n n (gds xs) (by rw[Fx,hl]) (fun j q hj=>by rw[Addr.add_lit];exact hr.vals j q hj) ⟨B,0,none⟩ 1 1 u.vals rfl hnews (by omega) (by unfold maxLen;omega) (by omega)
 obtain⟨v',w',hrr,h2,h3⟩:=hrun;unfold Oper.wp execOp;simp only[ho,resolve,invoke,builtin,Sem.run_bind,Sem.run_pure,Result.andThen_ok,List.map_toArray,List.map_cons,List.map_nil,hs,hx,hrr];refine h v' w' ?_ h3;rw[Le];simpa[gds]using h2
theorem Pt (lo:Nat) (a b c d:Int) (ao:Option Addr) (cap m:Nat) (gs:List Gd) (w:World) (hm:Hid (gs.length=m)) (hml:m<=50) (hlo:lo<=w.heap.size) (hx:Bu lo w ao cap gs) :
  Calls prog 323 #[.agg #[.int .i64 31,.int .i64 a,.int .i64 b,.int .i64 c,.int .i64 d],.slice ao m cap] w (L6 lo w (Dc ⟨31,a,b,c,d⟩ gs)):=by
 have N0:=Blk.new w #[.int .i64 31,.int .i64 a,.int .i64 b,.int .i64 c,.int .i64 d] 58;have B0:=(yA w.heap.size w).alloc (yB _) (.cells #[.int .i64 31,.int .i64 a,.int .i64 b,.int .i64 c,.int .i64 d] 58);have HC:Hid (Dc ⟨31,a,b,c,d⟩ gs=gs++[(⟨true,b,a⟩:Gd)]):=by show _=_;unfold Dc;simp
 have HX1:Hid (Bu lo (w.alloc (.cells #[.int .i64 31,.int .i64 a,.int .i64 b,.int .i64 c,.int .i64 d] 58)) ao cap gs):=hx.l (Ad.o B0);have HCL:Hid (∀w',_):=fun w'=>Xt ao m cap w' (by have:=hx.cap;have:=hm.out;omega) (fun e=>by have h1:=hx.nil e;have h2:=hm.out;omega) hx.form;have n0:=N0.cell 1;have n2:=N0.cell 2;have HLO:Hid (lo<=w.heap.size):=hlo;have hz:(w.alloc (.cells #[.int .i64 31,.int .i64 a,.int .i64 b,.int .i64 c,.int .i64 d] 58)).heap.size=w.heap.size+1:=by simp
 clear hx hlo N0;go_in;go_wp2_with fail;generalize w.alloc (.cells #[.int .i64 31,.int .i64 a,.int .i64 b,.int .i64 c,.int .i64 d] 58)=w1 at *;have P1:=Blk.new w1.drew #[.bool true,.int .i64 b,.int .i64 a] 399;have hz1:w1.drew.heap.size=w.heap.size+1:=hz;rw[hz1]at P1;have D1:Below w1.heap.size w1 (w1.drew.alloc (.cells #[.bool true,.int .i64 b,.int .i64 a] 399)):=(yA _ _).drew.alloc (yB _) _;have HXD:Hid _:=HX1.out.l (Ad.o D1);have hd:w1.heap.size<=(w1.drew.alloc (.cells #[.bool true,.int .i64 b,.int .i64 a] 399)).heap.size:=D1.size;have HP1:Hid (∀o,_):=P1.cell;have HD1:Hid _:=D1;have HHD:Hid _:=hd;have HHZ:Hid _:=hz;have HB0:Hid _:=B0;clear P1 D1 hd hz hz1 B0;go_region_held3 (fun w'=>w'.cell? ⟨w.heap.size,1,none⟩=some (.int .i64 a)/\w'.cell? ⟨w.heap.size,2,none⟩=some (.int .i64 b)) (first|exact⟨n0,n2⟩|exact⟨s0,s2⟩|(go_keep;done))
  (first
   | (go_at_call 364;refine(HCL.out _).mono ?_;rintro e wq ⟨rfl,rfl⟩)
   | (refine A30 rfl _ _ rfl lo ao m cap gs (⟨true,b,a⟩:Gd) (w.heap.size+1) rfl HXD.out hm.out (by first|rfl|(rw[←HHZ.out];rfl)) ⟨HP1.out 0,HP1.out 1,HP1.out 2⟩ (by omega) ?_;intro v' w2 H2 G2;obtain⟨ao2,cap2,rfl⟩:=Af H2;have B2:Below w1.heap.size w1 w2:=HD1.out.grown G2 HHD.out (fun k hk=>by cases hk);have HH2:Hid _:=H2;have hw1:w.heap.size<w1.heap.size:=(by have:=HHZ.out;omega);have s0:=(B2.cell (p:=⟨w.heap.size,1,none⟩) hw1).trans n0;have s2:=(B2.cell (p:=⟨w.heap.size,2,none⟩) hw1).trans n2;have HB2:Hid (Below w.heap.size w w2):=HB0.out.trans (B2.mono (Nat.le_of_lt hw1));clear H2 G2 B2))
 all_goals
  go_wp2;go_ret;rw[HC.out];obtain⟨h1,h2⟩:=Bu.of_own HH2.out;exact⟨⟨ao2,cap2,by rw[h2];rfl,h1.w (yI (yI HLO.out (by have:=HHZ.out;omega)) HHD.out)⟩,HB2.out⟩
theorem Pw (lo:Nat) (a b c d:Int) (ao:Option Addr) (cap m:Nat) (gs:List Gd) (w:World) (hm:Hid (gs.length=m)) (hml:m<=50) (hlo:lo<=w.heap.size) (hx:Bu lo w ao cap gs) :
  Calls prog 323 #[.agg #[.int .i64 33,.int .i64 a,.int .i64 b,.int .i64 c,.int .i64 d],.slice ao m cap] w (L6 lo w (Dc ⟨33,a,b,c,d⟩ gs)):=by
 have N0:=Blk.new w #[.int .i64 33,.int .i64 a,.int .i64 b,.int .i64 c,.int .i64 d] 58;have B0:=(yA w.heap.size w).alloc (yB _) (.cells #[.int .i64 33,.int .i64 a,.int .i64 b,.int .i64 c,.int .i64 d] 58);have HC:Hid (Dc ⟨33,a,b,c,d⟩ gs=gs++[(⟨false,a,0⟩:Gd)]):=by show _=_;unfold Dc;simp
 have HX1:Hid (Bu lo (w.alloc (.cells #[.int .i64 33,.int .i64 a,.int .i64 b,.int .i64 c,.int .i64 d] 58)) ao cap gs):=hx.l (Ad.o B0);have HCL:Hid (∀w',_):=fun w'=>Xt ao m cap w' (by have:=hx.cap;have:=hm.out;omega) (fun e=>by have h1:=hx.nil e;have h2:=hm.out;omega) hx.form;have n0:=N0.cell 1;have n2:=N0.cell 2;have HLO:Hid (lo<=w.heap.size):=hlo;have hz:(w.alloc (.cells #[.int .i64 33,.int .i64 a,.int .i64 b,.int .i64 c,.int .i64 d] 58)).heap.size=w.heap.size+1:=by simp
 clear hx hlo N0;go_in;go_wp2_with fail;generalize w.alloc (.cells #[.int .i64 33,.int .i64 a,.int .i64 b,.int .i64 c,.int .i64 d] 58)=w1 at *;have P1:=Blk.new w1.drew #[.bool false,.int .i64 a,.int .i64 0] 399;have hz1:w1.drew.heap.size=w.heap.size+1:=hz;rw[hz1]at P1;have D1:Below w1.heap.size w1 (w1.drew.alloc (.cells #[.bool false,.int .i64 a,.int .i64 0] 399)):=(yA _ _).drew.alloc (yB _) _;have HXD:Hid _:=HX1.out.l (Ad.o D1);have hd:w1.heap.size<=(w1.drew.alloc (.cells #[.bool false,.int .i64 a,.int .i64 0] 399)).heap.size:=D1.size;have HP1:Hid (∀o,_):=P1.cell;have HD1:Hid _:=D1;have HHD:Hid _:=hd;have HHZ:Hid _:=hz;have HB0:Hid _:=B0;clear P1 D1 hd hz hz1 B0;go_region_held3 (fun w'=>w'.cell? ⟨w.heap.size,1,none⟩=some (.int .i64 a)/\w'.cell? ⟨w.heap.size,2,none⟩=some (.int .i64 b)) (first|exact⟨n0,n2⟩|exact⟨s0,s2⟩|(go_keep;done))
  (first
   | (go_at_call 364;refine(HCL.out _).mono ?_;rintro e wq ⟨rfl,rfl⟩)
   | (refine A30 rfl _ _ rfl lo ao m cap gs (⟨false,a,0⟩:Gd) (w.heap.size+1) rfl HXD.out hm.out (by first|rfl|(rw[←HHZ.out];rfl)) ⟨HP1.out 0,HP1.out 1,HP1.out 2⟩ (by omega) ?_;intro v' w2 H2 G2;obtain⟨ao2,cap2,rfl⟩:=Af H2;have B2:Below w1.heap.size w1 w2:=HD1.out.grown G2 HHD.out (fun k hk=>by cases hk);have HH2:Hid _:=H2;have hw1:w.heap.size<w1.heap.size:=(by have:=HHZ.out;omega);have s0:=(B2.cell (p:=⟨w.heap.size,1,none⟩) hw1).trans n0;have s2:=(B2.cell (p:=⟨w.heap.size,2,none⟩) hw1).trans n2;have HB2:Hid (Below w.heap.size w w2):=HB0.out.trans (B2.mono (Nat.le_of_lt hw1));clear H2 G2 B2))
 all_goals
  go_wp2;go_ret;rw[HC.out];obtain⟨h1,h2⟩:=Bu.of_own HH2.out;exact⟨⟨ao2,cap2,by rw[h2];rfl,h1.w (yI (yI HLO.out (by have:=HHZ.out;omega)) HHD.out)⟩,HB2.out⟩
theorem Oj (lo:Nat) (n:Nd) (ao:Option Addr) (cap m:Nat) (gs:List Gd) (w:World) (hm:Hid (gs.length=m)) (hml:m<=50) (hlo:lo<=w.heap.size) (hx:Bu lo w ao cap gs) (hne:n.op=32∨n.op=34∨n.op=36->m≠0) :
  Calls prog 323 #[n.val,.slice ao m cap] w (L6 lo w (Dc n gs)):=by
 obtain⟨op,a,b,c,d⟩:=n;dsimp only at hne;by_cases h31:op=31
 ·subst h31;exact Pt lo a b c d ao cap m gs w hm hml hlo hx
 by_cases h33:op=33
 ·subst h33;exact Pw lo a b c d ao cap m gs w hm hml hlo hx
 by_cases h32:op=32
 ·subst h32;exact Pv lo a b c d ao cap m gs w hm hml hlo hx (hne (by simp))
 by_cases h36:op=36
 ·subst h36;exact Py lo a b c d ao cap m gs w hm hml hlo hx (hne (by simp))
 by_cases h34:op=34
 ·subst h34;exact Px lo a b c d ao cap m gs w hm hml hlo hx (hne (by simp))
 exact Lf op lo a b c d ao cap m gs w hm hml hlo hx h31 h33 h32 h36 h34
theorem Aai (x5 x6 x7 x8 L m:Nat) (ro ago:Option Addr) (rc agc:Nat) (op na nb nc nd:Int) (s:St) (ts2:List Int) (gs2:List Gd) (w:World) (c0 c1 c2 c3 c4 c9 c10 c11 c12 c13 c14 c15 c16 c17 c18 c19 c20 c21 c22 c23 c24 c25 c26 c27 c28 c29 c30 c31 c32 c33 c34 c35 c36 c37 c38 c39 c40 c41 c42 c43 c44 c45 c46 c47 c48 c49 c50 c51 c52 c53 c54 c55 c56 c57 c58 c59 c60 c61 c62 c63 c64 c65 c66 c67 c68 c69 c70 c71 c72 c73 c74 c75 c76 c77 c78 c79 c80 c81 c82 c83 c84 c85 c86 c87 c88 c89 c90 c91 c92 c93 c94 c95 c96 c97 c98 c99 c100:Value) (Q:Exit->Act->World->Prop)
  (hq:∀(u76 u77 u78 u79 u80 u81 u82:Value) (x9:Nat) (wx:World) (bgo:Option Addr) (bgc:Nat),w.heap.size<=x9->Blk wx x9 #[.bool false,.slice ro m rc,.slice bgo gs2.length bgc] 344->Ed L wx ro rc ts2->Bu L wx bgo bgc gs2->Below w.heap.size w wx->Q .normal ⟨List.toArray (c0::c1::c2::c3::c4::.pointer (some ⟨x5,0,none⟩)::.pointer (some ⟨x6,0,none⟩)::.pointer (some ⟨x7,0,none⟩)::.pointer (some ⟨x8,0,none⟩)::.pointer (some ⟨x9,0,none⟩)::c10::c11::c12::c13::c14::c15::c16::c17::c18::c19::c20::c21::c22::c23::c24::c25::c26::c27::c28::c29::c30::c31::c32::c33::c34::c35::c36::c37::c38::c39::c40::c41::c42::c43::c44::c45::c46::c47::c48::c49::c50::c51::c52::c53::c54::c55::c56::c57::c58::c59::c60::c61::c62::c63::c64::c65::c66::c67::c68::c69::c70::c71::c72::c73::c74::c75::u76::u77::u78::u79::u80::u81::u82::c83::c84::c85::c86::c87::c88::c89::c90::c91::c92::c93::c94::c95::c96::c97::c98::c99::c100::[]),[]⟩ wx)
  (hrt:Ed L w ro rc ts2) (hLw:L<=w.heap.size)
  (hgb:∀W,Below w.heap.size w W->Calls prog 323 #[.agg #[.int .i64 op,.int .i64 na,.int .i64 nb,.int .i64 nc,.int .i64 nd],.slice ago s.guards.length agc] W fun e w'=>(∃bgo bgc,e=.returned (.slice bgo gs2.length bgc)/\Bu L w' bgo bgc gs2)/\Below w.heap.size w w'/\Below W.heap.size W w')
  (hS:∀w',Below w.heap.size w w'->w'.cell? ⟨x8,0,none⟩=some (.slice ro m rc)/\w'.cell? ⟨x5,0,none⟩=some (.int .i64 op)/\w'.cell? ⟨x5,1,none⟩=some (.int .i64 na)/\w'.cell? ⟨x5,2,none⟩=some (.int .i64 nb)/\w'.cell? ⟨x5,3,none⟩=some (.int .i64 nc)/\w'.cell? ⟨x5,4,none⟩=some (.int .i64 nd)/\w'.cell? ⟨x6,2,none⟩=some (.slice ago s.guards.length agc)) :
  Code.wp prog pcS8 Q ⟨List.toArray (c0::c1::c2::c3::c4::.pointer (some ⟨x5,0,none⟩)::.pointer (some ⟨x6,0,none⟩)::.pointer (some ⟨x7,0,none⟩)::.pointer (some ⟨x8,0,none⟩)::c9::c10::c11::c12::c13::c14::c15::c16::c17::c18::c19::c20::c21::c22::c23::c24::c25::c26::c27::c28::c29::c30::c31::c32::c33::c34::c35::c36::c37::c38::c39::c40::c41::c42::c43::c44::c45::c46::c47::c48::c49::c50::c51::c52::c53::c54::c55::c56::c57::c58::c59::c60::c61::c62::c63::c64::c65::c66::c67::c68::c69::c70::c71::c72::c73::c74::c75::c76::c77::c78::c79::c80::c81::c82::c83::c84::c85::c86::c87::c88::c89::c90::c91::c92::c93::c94::c95::c96::c97::c98::c99::c100::[]),[]⟩ w:=by
 conv=>arg 2;whnf
 have HQ:Hid _:=hq;have HGB:Hid _:=hgb;have HS:Hid _:=hS;have HRT:Hid _:=hrt;have HLw:Hid _:=hLw;obtain⟨e0,e1,e2,e3,e4,e5,e6⟩:=hS w (yA _ _);clear hq hgb hS hrt hLw;go_region_held3 (fun w'=>w'.cell? ⟨x8,0,none⟩=some (.slice ro m rc)/\w'.cell? ⟨x5,0,none⟩=some (.int .i64 op)/\w'.cell? ⟨x5,1,none⟩=some (.int .i64 na)/\w'.cell? ⟨x5,2,none⟩=some (.int .i64 nb)/\w'.cell? ⟨x5,3,none⟩=some (.int .i64 nc)/\w'.cell? ⟨x5,4,none⟩=some (.int .i64 nd)/\w'.cell? ⟨x6,2,none⟩=some (.slice ago s.guards.length agc)) (first|(refine HS.out _ ?_;(repeat (first|assumption|exact HB3.out|exact yA _ _|refine Below.drew ?_|refine Ak ?_ _|refine Cj ?_ (by dsimp only;omega) _))))
  (first
   | (go_at_call 323;refine(HGB.out _ (by (repeat (first|assumption|exact HB3.out|exact yA _ _|refine Below.drew ?_|refine Ak ?_ _|refine Cj ?_ (by dsimp only;omega) _)))).mono ?_;rintro e w3 ⟨⟨bgo,bgc,rfl,RG3⟩,hw3,hw3b⟩;have HB3:Hid (Below w.heap.size w w3):=hw3;have HRG3:Hid (Bu L w3 bgo bgc gs2):=RG3;have hs3:w.heap.size<=w3.heap.size:=hw3.size;have zz:Blk w3 w.heap.size #[.bool false,.slice none 0 0,.slice none 0 0] 344:=Blk.l (w:=(w.alloc (.cells #[.bool false,.slice none 0 0,.slice none 0 0] 344)).drew) (Blk.new w #[.bool false,.slice none 0 0,.slice none 0 0] 344) hw3b;have z0:=zz.cell;have zf:=zz.frozen)
   | (go_at_call 323;refine(HGB.out _ (by (repeat (first|assumption|exact HB3.out|exact yA _ _|refine Below.drew ?_|refine Ak ?_ _|refine Cj ?_ (by dsimp only;omega) _)))).mono ?_;rintro e w3 ⟨⟨bgo,bgc,rfl,RG3⟩,hw3,hw3b⟩;have HB3:Hid (Below w.heap.size w w3):=hw3;have HRG3:Hid (Bu L w3 bgo bgc gs2):=RG3;have hs3:w.heap.size<=w3.heap.size:=hw3.size))
 ·have hB:Below w.heap.size w (w3.alloc (.cells #[.bool false,.slice ro m rc,.slice bgo gs2.length bgc] 344)):=Ak HB3.out _;exact HQ.out _ _ _ _ _ _ _ w3.heap.size _ bgo bgc hs3 (Blk.new w3 #[.bool false,.slice ro m rc,.slice bgo gs2.length bgc] 344) (HRT.out.l (Ad.o hB)) (HRG3.out.l (Ad.o ((yA _ _).alloc (yB _) _))) hB
 ·have hB:=Cj (Cj (Cj HB3.out (p:=⟨w.heap.size,0,none⟩) (yB _) (.bool false)) (p:=⟨w.heap.size,1,none⟩) (yB _) (.slice ro m rc)) (p:=⟨w.heap.size,2,none⟩) (yB _) (.slice bgo gs2.length bgc);exact HQ.out _ _ _ _ _ _ _ w.heap.size _ bgo bgc (yB _) (zz.three) (HRT.out.l (Ad.o hB)) (((HRG3.out.store zz (by decide) 0 _).store (zz.set 0 _) (by decide) 1 _).store ((zz.set 0 _).set 1 _) (by decide) 2 _) hB
noncomputable def pcSF:Code:=Fu [1,1,1,1,1] (Tryz.f261.body.getD .skip)
theorem A9z (hn:El np p n) (s:St) (ts:List Int) (gs:List Gd):∀y∈goF n s ts gs,y.1<p.ins.length:=by
 obtain⟨f1,f2,f3,f4,f5,f6⟩:=Ht hn;intro y hy;unfold goF at hy;split at hy
 ·rename_i ho;have:=f3 ho;simp at hy;subst hy;dsimp only;omega
 split at hy
 ·rename_i ho;have:=f4 (by omega);simp at hy;subst hy;dsimp only;omega
 split at hy
 ·rename_i ho;have:=f4 (by omega);simp at hy;subst hy;dsimp only;omega
 split at hy
 ·rename_i ho;have:=(f1 ho).1;simp at hy;subst hy;dsimp only;omega
 ·simp at hy
theorem Rz:∀(rs:List Nat) (xs:List Int) (ts:List Int),(Ez rs xs ts).length=ts.length
 | [],_,_=>by unfold Ez;rfl
 | _::_,[],_=>by unfold Ez;rfl
 | r::rs,x::xs,ts=>by unfold Ez;rw[Rz rs xs,A33]
theorem A3s (h:Ct n gs=true) (ho:n.op=32∨n.op=34∨n.op=36):gs.length≠0:=by intro h0;have:gs=[]:=yW.1 h0;subst this;unfold Ct Cb at h;rcases ho with ho|ho|ho<;>simp[ho]at h
theorem A9p (w0:World) (B L vb sb db:Nat) (cao:Option Addr) (ccap:Nat) (ps:List Pd) (p:Pd) (h:Ph) (c:Cf) (l i m:Nat) (op na nb nc nd:Int) (s:St) (ao ago:Option Addr) (ac agc b0 x5 x6 x7:Nat) (t0 t1' t2 t3:TypeId) (v0 v1 v2 v3:Value) (wS w3:World) (x8 r0 r1 r2 r3:Nat) (ro ko:Option Addr) (rc kc:Nat) (vr:Value) (rd:Rd) (W:World) (c2 c3 c9 c10 c11 c12 c13 c14 c15 c16 c17 c18 c19 c20 c21 c22 c23 c24 c25 c26 c27 c28 c29 c30 c31 c32 c33 c34 c35 c36 c37 c38 c39 c40 c41 c42 c43 c44 c45 c46 c47 c48 c49 c50 c51 c52 c53 c54 c55 c56 c57 c58 c59 c60 c61 c62 c63 c64 c65 c66 c67 c68 c69 c70 c71 c72 c73 c74 c75 c76 c77 c78 c79 c80 c81 c82 c83 c84 c85 c86 c87 c88 c89 c90 c91 c92 c93 c94 c95 c96 c97 c98 c99 c100:Value) (Q:Exit->Act->World->Prop) (hq:∀a' w',bodyPost prog Tryz.f261 (Ky B L vb sb db cao ccap ps p h wS (if Dl (Ap s.guards) rd.taken s.types (Ez [r0,r1,r2,r3] [na,nb,nc,nd] rd.types) then Au c (En ⟨op,na,nb,nc,nd⟩ i s (Ez [r0,r1,r2,r3] [na,nb,nc,nd] rd.types) (Dc ⟨op,na,nb,nc,nd⟩ s.guards)) else .error (12,i))) .ret a' w'->Q .ret a' w')
  (D:A36 w0 B L vb sb db cao ccap ps p h c l i m op na nb nc nd s ao ago ac agc b0 x5 x6 x7 t0 t1' t2 t3 v0 v1 v2 v3 wS w3) (hB3:Below w3.heap.size w3 W) (R8:Cu w3.heap.size x8 m W rd (.slice ro m rc) vr (.slice ko rd.taken.length kc)) (ht1:rd.types.length=m) (htk:rd.taken.length<=1000) (hgf:Ct ⟨op,na,nb,nc,nd⟩ s.guards=true) (e0:Al ps.length p r0 na=.iface t0 v0) (g0:r0<=23) (f0:Bd ps.length p (Bp r0) na=true) (e1:Al ps.length p r1 nb=.iface t1' v1) (g1:r1<=23) (f1:Bd ps.length p (Bp r1) nb=true) (e2:Al ps.length p r2 nc=.iface t2 v2) (g2:r2<=23) (f2:Bd ps.length p (Bp r2) nc=true) (e3:Al ps.length p r3 nd=.iface t3 v3) (g3:r3<=23) (f3:Bd ps.length p (Bp r3) nd=true) :
  Code.wp prog pcSF Q ⟨List.toArray (.pointer (some ⟨vb,0,none⟩)::.int .i64 i::c2::c3::.pointer (some ⟨b0,0,none⟩)::.pointer (some ⟨x5,0,none⟩)::.pointer (some ⟨x6,0,none⟩)::.pointer (some ⟨x7,0,none⟩)::.pointer (some ⟨x8,0,none⟩)::c9::c10::c11::c12::c13::c14::c15::c16::c17::c18::c19::c20::c21::c22::c23::c24::c25::c26::c27::c28::c29::c30::c31::c32::c33::c34::c35::c36::c37::c38::c39::c40::c41::c42::c43::c44::c45::c46::c47::c48::c49::c50::c51::c52::c53::c54::c55::c56::c57::c58::c59::c60::c61::c62::c63::c64::c65::c66::c67::c68::c69::c70::c71::c72::c73::c74::c75::c76::c77::c78::c79::c80::c81::c82::c83::c84::c85::c86::c87::c88::c89::c90::c91::c92::c93::c94::c95::c96::c97::c98::c99::c100::[]),[]⟩ W:=by
 conv=>arg 2;whnf
 obtain⟨hm2,hmr⟩:=D.m2;have hNF:=D.X.fit.fit i _ D.hi;have hL3:L<=w3.heap.size:=yI D.hL D.off.size;have hso2:Sa p ⟨(Ez [r0,r1,r2,r3] [na,nb,nc,nd] rd.types),(Dc ⟨op,na,nb,nc,nd⟩ s.guards)⟩:=by have hc:=Ty hNF s.guards;rw[hgf,if_pos rfl]at hc;obtain⟨h1,h2⟩:=Qi hNF D.hs.few D.hs.keep hc;refine⟨?_,h1,h2⟩;dsimp only;rw[Rz,ht1];exact hmr
 have HPUT:Hid (∀_:Unit,_):=fun _=>A8l ps.length p w3.heap.size x8 m r0 r1 r2 r3 na nb nc nd t0 t1' t2 t3 v0 v1 v2 v3 rd ro rc vr (.slice ko rd.taken.length kc) W R8 ht1 hm2 hmr g0 g1 g2 g3 f0 f1 f2 f3 e0 e1 e2 e3;have HQ:Hid _:=hq;have f8:=(D.F.l hB3).cell;refine wp_seq_k ?_;intro K1 hK1;have HK1:Hid _:=hK1;clear hK1 hq R8;go_wp2_with fail;refine(HPUT.out ()).mono ?_;rintro e w8 ⟨rfl,R8',hb8⟩;have hB8:=hB3.trans hb8;clear f8 HPUT;have hrt:=(Ed.of_owns R8'.types).w hL3;have hk8:Cv 0 w8 ko rd.taken:=Ay.w (K8 R8'.taken).1 (yE _);have HR8:Hid _:=R8';have HRT:Hid _:=hrt;clear hrt R8';go_wp2;refine HK1.out _ _ ?_;clear HK1;have R8':=HR8.out;refine wp_seq_k ?_;intro K2 hK2;refine Aai x5 x6 x7 x8 L m ro ago rc agc op na nb nc nd s (Ez [r0,r1,r2,r3] [na,nb,nc,nd] rd.types) (Dc ⟨op,na,nb,nc,nd⟩ s.guards) w8 _ _ _ _ _ _ _ _ _ _ _ _ _ _ _ _ _ _ _ _ _ _ _ _ _ _ _ _ _ _ _ _ _ _ _ _ _ _ _ _ _ _ _ _ _ _ _ _ _ _ _ _ _ _ _ _ _ _ _ _ _ _ _ _ _ _ _ _ _ _ _ _ _ _ _ _ _ _ _ _ _ _ _ _ _ _ _ _ _ _ _ _ _ _ _ _ _ _ ?_ HRT.out (yI hL3 hB8.size) ?_ ?_
 ·intro u76 u77 u78 u79 u80 u81 u82 x9 wx bgo bgc hx9 R9 RT2 RG2 hbx;refine hK2 _ _ ?_;exact A8w w0 B L vb sb db cao ccap ps p h c l i m op na nb nc nd s ao ago ac agc b0 x5 x6 x7 t0 t1' t2 t3 v0 v1 v2 v3 wS w3 x8 x9 ko ro bgo kc rc bgc _ vr rd.taken (Ez [r0,r1,r2,r3] [na,nb,nc,nd] rd.types) (Dc ⟨op,na,nb,nc,nd⟩ s.guards) wx _ _ _ _ _ _ _ _ _ _ _ _ _ _ _ _ _ _ _ _ _ _ _ _ _ _ _ _ _ _ _ _ _ _ _ _ _ _ _ _ _ _ _ _ _ _ _ _ _ _ _ _ _ _ _ _ _ _ _ _ _ _ _ _ _ _ _ _ _ _ _ _ _ _ _ _ _ _ _ _ _ _ _ _ _ _ _ _ _ _ _ _ _ _ _ _ HQ.out D (hB8.trans (hbx.mono hB8.size)) (R8'.blk.l hbx) (hk8.l (Ad.o hbx)) htk R9 RT2 RG2 (by rw[Rz,ht1]) hso2 (A9z hNF _ _ _)
 ·intro W2 hb2;have hL2:L<=W2.heap.size:=yI (yI hL3 hB8.size) hb2.size;have hRG:=D.RG.l (Ad.o (hB8.trans (hb2.mono hB8.size)));have hc:=Oj L ⟨op,na,nb,nc,nd⟩ ago agc s.guards.length s.guards W2 rfl D.hs.few hL2 hRG (A3s hgf);refine hc.mono ?_;rintro e w' ⟨⟨bgo,bgc,rfl,h1⟩,hb⟩;exact⟨⟨bgo,bgc,rfl,h1⟩,hb2.trans (hb.mono hb2.size),hb⟩
 ·intro W2 hb2;have hB4:=hB8.trans (hb2.mono hB8.size);have hN:=D.N.l hB4;exact⟨(R8'.blk.l hb2).cell 0,hN.cell 0,hN.cell 1,hN.cell 2,hN.cell 3,hN.cell 4,(D.A.l hB4).cell 2⟩
end Go.Proofs.YtbefeflgjipfhaaGreatDoor
