import Derived.Test.YtjbbppblgjhapaaGreatDoorJ15
import Derived.Test.YtjbbppblgjhapaaGreatDoorJ18
set_option maxRecDepth 1000000
set_option maxHeartbeats 16000000
namespace Go.Proofs.YtjbbppblgjhapaaGreatDoor
open Go.Deep Go.Proofs.Tryz Go.RowKit
variable{a:Act}{c:Cf}{na nb nc nd op:Int}{S:List Bool}{gs l:List Gd}{L rs xs:List Nat}{ins:List Nd}{ps:List Pd}{B b0 cap ccap db i k lo np opN sb vb x:Nat}{n:Nd}{ao cao:Option Addr}{p:Pd}{h:Ph}{E:Prop}{rd:Rd}{s:St}{w w0:World}
def Oy (lo:Nat) (w:World) (l:List Gd) (e:Ending) (w':World):Prop:=(∃ao cap,e=.returned (.slice ao l.length cap)/\Dl lo w' ao cap l)/\Below w w w'
theorem Dl.of_own{base n:Nat} (h:w.ownsRow base 280 3 (.slice ao n cap) n (gds l)):Dl base w ao cap l/\l.length=n:=by obtain⟨h1,h2⟩:=Jz h;exact⟨Dl.of_post (by rw[←h2];exact Qy h _ _ rfl) h1 (A3z h),h2.symm⟩
theorem Dl.most (h:Dl lo w ao cap l):Dl lo w ao cap l.dropLast:=by refine⟨yI (by simp) h.cap,fun e=>by have:=h.nil e;simp;omega,h.form,Ah.dropLast h.at_,fun b o e hl=>h.tag b o e (by simp at hl;omega)⟩
theorem Dl.vals{b o:Nat} (h:Dl lo w (some ⟨b,o,none⟩) cap l):∀j u,(gds l)[j]?=some u->w.cell? ⟨b,o+j,none⟩=some u:=by intro j u hj;exact(Aau (Ah.w h.at_ (yE _)) hj).1
theorem A2a (ao:Option Addr) (m cap:Nat) (w:World) (hc:m<=cap) (hnil:ao=none->m=0) (hoff:∀x,ao=some x->∃b o,x=⟨b,o,none⟩) :
  Calls prog 252 #[.slice ao m cap] w fun e w'=>e=.returned (.slice ao m m)/\w'=w:=by
 have k1:(m:Int)<=cap:=by omega
 cases ao with
 | none=>
  obtain rfl:=hnil rfl;go_in;go_wp2;go_ret;exact⟨rfl,rfl⟩
 | some x=>
  obtain⟨b,o,rfl⟩:=hoff x rfl;go_in;go_wp2;go_ret;exact⟨rfl,rfl⟩
theorem Pk (op:Int) (lo:Nat) (a b c d:Int) (ao:Option Addr) (cap m:Nat) (gs:List Gd) (w:World) (hm:Hid (gs.length=m)) (hml:m<=50) (_hlo:lo<=(w:Nat)) (hx:Dl lo w ao cap gs) (h31:op≠31) (h33:op≠33) (h32:op≠32) (h36:op≠36) (h34:op≠34) :
  Calls prog 189 #[.agg #[op,a,b,c,d],.slice ao m cap] w (Oy lo w (El ⟨op,a,b,c,d⟩ gs)):=by
 have N0:=Blk.new w #[op,a,b,c,d] 81;have B0:=(yA (w:Nat) w).alloc (yB _) (.cells #[op,a,b,c,d] 81);have HC:Hid (El ⟨op,a,b,c,d⟩ gs=gs):=by show _=_;unfold El;simp[h31,h33,h32,h36,h34]
 have HX1:Hid _:=hx.l (A7.o B0);have t31:(op==31)=false:=by simpa using h31
 have t33:(op==33)=false:=by simpa using h33
 have t32:(op==32)=false:=by simpa using h32
 have t36:(op==36)=false:=by simpa using h36
 have t34:(op==34)=false:=by simpa using h34
 clear h31 h33 h32 h36 h34 hx N0;go_in;go_wp2;go_ret;rw[HC.out];refine⟨⟨ao,cap,?_,HX1.out⟩,B0⟩;rw[hm.out];rfl
theorem Tw (lo:Nat) (a b c d:Int) (ao:Option Addr) (cap m:Nat) (gs:List Gd) (w:World) (hm:Hid (gs.length=m)) (hml:m<=50) (_hlo:lo<=(w:Nat)) (hx:Dl lo w ao cap gs) (hne:m≠0) :
  Calls prog 189 #[.agg #[(32:Int),a,b,c,d],.slice ao m cap] w (Oy lo w (El ⟨32,a,b,c,d⟩ gs)):=by
 have N0:=Blk.new w #[(32:Int),a,b,c,d] 81;have B0:=(yA (w:Nat) w).alloc (yB _) (.cells #[(32:Int),a,b,c,d] 81);have HC:Hid (El ⟨32,a,b,c,d⟩ gs=gs.dropLast):=by show _=_;unfold El;simp
 have HX1:Hid _:=hx.l (A7.o B0);obtain⟨k,rfl⟩:∃k,m=k+1:=⟨m-1,by omega⟩;have k1:((k:Int)+1-1)=k:=by omega
 have k2:(k:Int)<=cap:=by have:=hx.cap;have:=hm.out;omega
 have HK:Hid (gs.dropLast.length=k):=by show _=_;have:=hm.out;simp;omega
 obtain⟨y,rfl⟩:∃y,ao=some y:=by cases ao with|none=>(have h1:=hx.nil rfl;have h2:=hm.out;omega)|some y=>exact⟨y,rfl⟩
 obtain⟨yb,yo,rfl⟩:=hx.form y rfl;clear hx N0 hne;go_in;go_wp2;go_ret;rw[HC.out];refine⟨⟨some ⟨yb,yo,none⟩,cap,?_,HX1.out.most⟩,B0⟩;rw[HK.out];rfl
theorem Tz (lo:Nat) (a b c d:Int) (ao:Option Addr) (cap m:Nat) (gs:List Gd) (w:World) (hm:Hid (gs.length=m)) (hml:m<=50) (_hlo:lo<=(w:Nat)) (hx:Dl lo w ao cap gs) (hne:m≠0) :
  Calls prog 189 #[.agg #[(36:Int),a,b,c,d],.slice ao m cap] w (Oy lo w (El ⟨36,a,b,c,d⟩ gs)):=by
 have N0:=Blk.new w #[(36:Int),a,b,c,d] 81;have B0:=(yA (w:Nat) w).alloc (yB _) (.cells #[(36:Int),a,b,c,d] 81);have HC:Hid (El ⟨36,a,b,c,d⟩ gs=gs.dropLast):=by show _=_;unfold El;simp
 have HX1:Hid _:=hx.l (A7.o B0);obtain⟨k,rfl⟩:∃k,m=k+1:=⟨m-1,by omega⟩;have k1:((k:Int)+1-1)=k:=by omega
 have k2:(k:Int)<=cap:=by have:=hx.cap;have:=hm.out;omega
 have HK:Hid (gs.dropLast.length=k):=by show _=_;have:=hm.out;simp;omega
 obtain⟨y,rfl⟩:∃y,ao=some y:=by cases ao with|none=>(have h1:=hx.nil rfl;have h2:=hm.out;omega)|some y=>exact⟨y,rfl⟩
 obtain⟨yb,yo,rfl⟩:=hx.form y rfl;clear hx N0 hne;go_in;go_wp2;go_ret;rw[HC.out];refine⟨⟨some ⟨yb,yo,none⟩,cap,?_,HX1.out.most⟩,B0⟩;rw[HK.out];rfl
theorem Ty (lo:Nat) (a b c d:Int) (ao:Option Addr) (cap m:Nat) (gs:List Gd) (w:World) (hm:Hid (gs.length=m)) (hml:m<=50) (hlo:lo<=(w:Nat)) (hx:Dl lo w ao cap gs) (hne:m≠0) :
  Calls prog 189 #[.agg #[(34:Int),a,b,c,d],.slice ao m cap] w (Oy lo w (El ⟨34,a,b,c,d⟩ gs)):=by
 have N0:=Blk.new w #[(34:Int),a,b,c,d] 81;have B0:=(yA (w:Nat) w).alloc (yB _) (.cells #[(34:Int),a,b,c,d] 81);have HC:Hid (El ⟨34,a,b,c,d⟩ gs=Eu gs a):=by show _=_;unfold El;simp
 have HX1:Hid _:=hx.l (A7.o B0);have n0:=N0.cell;have HCL:Hid (∀_:Unit,_):=fun _=>A2b ao cap m gs (w.alloc (.cells #[(34:Int),a,b,c,d] 81)) hm.out (by omega) (fun e=>by have h1:=hx.nil e;have h2:=hm.out;omega) (Ah.w HX1.out.at_ (yE _)) hx.form;go_in;go_wp2_with fail;refine(HCL.out ()).mono ?_;rintro e w1 ⟨v,rfl,hown,hw1⟩;have B1:=B0.trans (hw1.mono (by simp));have N1:=N0.l hw1;have n1:=N1.cell;clear hw1 N0 B0 hx n0 HCL;rcases m with _|k
 ·exact absurd rfl hne
 ·obtain⟨g,cap1,q,rfl,hg1,hg2,hcap,hq,hqa,hfr,HG0,HS⟩:=Lg hown hm.out;have hgw:(w:Nat)<g:=by simp at hg1;omega
  have HO:Hid ((w1.setCell (g,k*3+1) a).ownsRow (w.alloc (.cells #[(34:Int),a,b,c,d] 81)).heap.size 280 3 (.slice g (k+1) cap1) (k+1) (gds (Eu gs a))):=by have h0:=HS a;rw[A79 hm.out]at h0;exact h0
  have HB3:Hid (Below w w (w1.setCell (g,k*3+1) a)):=B1.setCell (by dsimp only;omega) _;have HLO:Hid _:=hlo;obtain⟨q0,q1,q2⟩:=hqa;have f1:=hfr (k*3+1);have k1:((k:Int)+1-1)=k:=by omega
  clear hq HS HG0 hown hfr hg1 hgw hne hlo;go_wp2;go_ret;rw[HC.out];obtain⟨h1,h2⟩:=Dl.of_own HO.out;exact⟨⟨some ⟨g,0,none⟩,cap1,by rw[h2];rfl,h1.w (by have:=HLO.out;simp;omega)⟩,HB3.out⟩
theorem A7t {ops:Array Oper} {o:Oper} {K:Act->World->Prop} {Q:Exit->Act->World->Prop} (hgd:o.guard=none) (s x:Operand) (ho:o.op=.call {callee:=.builtin .append,args:=#[s,x],argTypes:=#[144,144]})
  (lo:Nat) (ao:Option Addr) (n cap:Nat) (xs:List Gd) (u:Gd) (B:Nat) (hs:a.eval s=.slice ao n n) (hr:Dl lo w ao cap xs) (hl:xs.length=n) (hx:a.eval x=.slice B 1 1) (hB:GdAt w B 0 u) (hn:n<=1048576)
  (h:∀v' w',w'.ownsRow (w:Nat) 280 3 v' (n+1) (gds (xs++[u]))->w.grownBy w' none->K (a.put o.dst v') w') :
  if Region.wanted o (yielded ops a.tmps)=true then Oper.wp prog o a w K Q else E:=by
 have hw:Region.wanted o (yielded ops a.tmps)=true:=by simp[Region.wanted,hgd]
 rw[if_pos hw];obtain⟨i0,hi,hz0,hz1,hz2⟩:=info_parts Tryz.info_Guard;obtain⟨b0,b1,b2⟩:=hB;have hnews:∀j q,u.vals[j]?=some q->w.cell? ((⟨B,0,none⟩:Addr).add j)=some q:=by
  intro j q hj
  match j,hj with
  | 0,hj=>simp[Gd.vals]at hj;subst hj;simpa[Addr.add]using b0
  | 1,hj=>simp[Gd.vals]at hj;subst hj;simpa[Addr.add]using b1
  | 2,hj=>simp[Gd.vals]at hj;subst hj;simpa[Addr.add]using b2
 have hone:∀q∈u.vals,q.oneCell'=true:=by intro q hq;simp[Gd.vals]at hq;rcases hq with rfl|rfl|rfl<;>rfl
 have hrun:∃v' w',(Builtin.append_ #[144,144] o.type #[.slice ao n n,.slice B 1 1]).run prog w=.ok v' w'/\w'.ownsRow (w:Nat) 280 3 v' (n+1) (gds xs++u.vals)/\w.grownBy w' none:=by
  cases ao with
  | none=>
   obtain rfl:n=0:=by have:=hr.nil rfl;omega
   obtain rfl:xs=[]:=List.eq_nil_of_length_eq_zero hl;obtain⟨v',w',h1,h2,h3,_⟩:=run_append_own (P:=prog) w (w:Nat) 144 o.type 280 i0 (.agg #[false,(),()]) 3 24 underlying144 hi hz0 hz1 hz2 rfl (by decide) nS 0 [] (yU w _ _ _) ⟨B,0,none⟩ 1 1 u.vals rfl hnews hone (by unfold maxLen;omega) (by omega) (yB _);exact⟨v',w',h1,h2,h3⟩
  | some ad=>
   obtain⟨b,off,rfl⟩:=hr.form _ rfl;exact run_append_arg_grows (P:=prog) w 144 o.type 280 i0 (.agg #[false,(),()]) 3 24 underlying144 hi hz0 hz1 hz2 rfl (by decide) ⟨b,off,none⟩ n n (gds xs) (by rw[Ij,hl]) (fun j q hj=>by rw[Addr.add_lit];exact hr.vals j q hj) ⟨B,0,none⟩ 1 1 u.vals rfl hnews (by omega) (by unfold maxLen;omega) (by omega)
 obtain⟨v',w',hrr,h2,h3⟩:=hrun;unfold Oper.wp execOp;simp only[ho,resolve,invoke,builtin,Sem.run_bind,Sem.run_pure,Result.andThen_ok,List.map_toArray,List.map_cons,List.map_nil,hs,hx,hrr];refine h v' w' ?_ h3;rw[Ju];simpa[gds]using h2
theorem Tv (lo:Nat) (a b c d:Int) (ao:Option Addr) (cap m:Nat) (gs:List Gd) (w:World) (hm:Hid (gs.length=m)) (hml:m<=50) (hlo:lo<=(w:Nat)) (hx:Dl lo w ao cap gs) :
  Calls prog 189 #[.agg #[(31:Int),a,b,c,d],.slice ao m cap] w (Oy lo w (El ⟨31,a,b,c,d⟩ gs)):=by
 have N0:=Blk.new w #[(31:Int),a,b,c,d] 81;have B0:=(yA (w:Nat) w).alloc (yB _) (.cells #[(31:Int),a,b,c,d] 81);have HC:Hid (El ⟨31,a,b,c,d⟩ gs=gs++[(⟨true,b,a⟩:Gd)]):=by show _=_;unfold El;simp
 have HX1:Hid _:=hx.l (A7.o B0);have HCL:Hid (∀w',_):=fun w'=>A2a ao m cap w' (by have:=hx.cap;have:=hm.out;omega) (fun e=>by have h1:=hx.nil e;have h2:=hm.out;omega) hx.form;have n0:=N0.cell 1;have n2:=N0.cell 2;have HLO:Hid _:=hlo;have hz:(w.alloc (.cells #[(31:Int),a,b,c,d] 81)).heap.size=(w:Nat)+1:=by simp
 clear hx hlo N0;go_in;go_wp2_with fail;generalize w.alloc (.cells #[(31:Int),a,b,c,d] 81)=w1 at *;have P1:=Blk.new w1.drew #[true,b,a] 280;have hz1:w1.drew.heap.size=(w:Nat)+1:=hz;rw[hz1]at P1;have D1:Below w1 w1 (w1.drew.alloc (.cells #[true,b,a] 280)):=(yA _ _).drew.alloc (yB _) _;have HXD:Hid _:=HX1.out.l (A7.o D1);have hd:=D1.size;have HP1:Hid (∀o,_):=P1.cell;have HD1:Hid _:=D1;have HHD:Hid _:=hd;have HHZ:Hid _:=hz;have HB0:Hid _:=B0;clear P1 D1 hd hz hz1 B0;go_region_held3 (fun w'=>w'.cell? ((w:Nat),1)=some (a:Value)/\w'.cell? ((w:Nat),2)=some (b:Value)) (first|exact⟨n0,n2⟩|exact⟨s0,s2⟩|(go_keep;done))
  (first
   | (go_at_call 252;refine(HCL.out _).mono ?_;rintro e wq ⟨rfl,rfl⟩)
   | (refine A7t rfl _ _ rfl lo ao m cap gs (⟨true,b,a⟩:Gd) ((w:Nat)+1) rfl HXD.out hm.out (by first|rfl|(rw[←HHZ.out];rfl)) ⟨HP1.out 0,HP1.out 1,HP1.out 2⟩ (by omega) ?_;intro v' w2 H2 G2;obtain⟨ao2,cap2,rfl⟩:=Aa H2;have B2:Below w1 w1 w2:=HD1.out.grown G2 HHD.out (fun k hk=>by cases hk);have HH2:Hid _:=H2;have hw1:(w:Nat)<(w1:Nat):=(by have:=HHZ.out;omega);have s0:=(B2.cell (p:=((w:Nat),1)) hw1).trans n0;have s2:=(B2.cell (p:=((w:Nat),2)) hw1).trans n2;have HB2:Hid (Below w w w2):=HB0.out.trans (B2.mono (Nat.le_of_lt hw1));clear H2 G2 B2))
 all_goals
  go_wp2;go_ret;rw[HC.out];obtain⟨h1,h2⟩:=Dl.of_own HH2.out;exact⟨⟨ao2,cap2,by rw[h2];rfl,h1.w (yI (yI HLO.out (by have:=HHZ.out;omega)) HHD.out)⟩,HB2.out⟩
theorem Tx (lo:Nat) (a b c d:Int) (ao:Option Addr) (cap m:Nat) (gs:List Gd) (w:World) (hm:Hid (gs.length=m)) (hml:m<=50) (hlo:lo<=(w:Nat)) (hx:Dl lo w ao cap gs) :
  Calls prog 189 #[.agg #[(33:Int),a,b,c,d],.slice ao m cap] w (Oy lo w (El ⟨33,a,b,c,d⟩ gs)):=by
 have N0:=Blk.new w #[(33:Int),a,b,c,d] 81;have B0:=(yA (w:Nat) w).alloc (yB _) (.cells #[(33:Int),a,b,c,d] 81);have HC:Hid (El ⟨33,a,b,c,d⟩ gs=gs++[(⟨false,a,0⟩:Gd)]):=by show _=_;unfold El;simp
 have HX1:Hid _:=hx.l (A7.o B0);have HCL:Hid (∀w',_):=fun w'=>A2a ao m cap w' (by have:=hx.cap;have:=hm.out;omega) (fun e=>by have h1:=hx.nil e;have h2:=hm.out;omega) hx.form;have n0:=N0.cell 1;have n2:=N0.cell 2;have HLO:Hid _:=hlo;have hz:(w.alloc (.cells #[(33:Int),a,b,c,d] 81)).heap.size=(w:Nat)+1:=by simp
 clear hx hlo N0;go_in;go_wp2_with fail;generalize w.alloc (.cells #[(33:Int),a,b,c,d] 81)=w1 at *;have P1:=Blk.new w1.drew #[false,a,()] 280;have hz1:w1.drew.heap.size=(w:Nat)+1:=hz;rw[hz1]at P1;have D1:Below w1 w1 (w1.drew.alloc (.cells #[false,a,()] 280)):=(yA _ _).drew.alloc (yB _) _;have HXD:Hid _:=HX1.out.l (A7.o D1);have hd:=D1.size;have HP1:Hid (∀o,_):=P1.cell;have HD1:Hid _:=D1;have HHD:Hid _:=hd;have HHZ:Hid _:=hz;have HB0:Hid _:=B0;clear P1 D1 hd hz hz1 B0;go_region_held3 (fun w'=>w'.cell? ((w:Nat),1)=some (a:Value)/\w'.cell? ((w:Nat),2)=some (b:Value)) (first|exact⟨n0,n2⟩|exact⟨s0,s2⟩|(go_keep;done))
  (first
   | (go_at_call 252;refine(HCL.out _).mono ?_;rintro e wq ⟨rfl,rfl⟩)
   | (refine A7t rfl _ _ rfl lo ao m cap gs (⟨false,a,0⟩:Gd) ((w:Nat)+1) rfl HXD.out hm.out (by first|rfl|(rw[←HHZ.out];rfl)) ⟨HP1.out 0,HP1.out 1,HP1.out 2⟩ (by omega) ?_;intro v' w2 H2 G2;obtain⟨ao2,cap2,rfl⟩:=Aa H2;have B2:Below w1 w1 w2:=HD1.out.grown G2 HHD.out (fun k hk=>by cases hk);have HH2:Hid _:=H2;have hw1:(w:Nat)<(w1:Nat):=(by have:=HHZ.out;omega);have s0:=(B2.cell (p:=((w:Nat),1)) hw1).trans n0;have s2:=(B2.cell (p:=((w:Nat),2)) hw1).trans n2;have HB2:Hid (Below w w w2):=HB0.out.trans (B2.mono (Nat.le_of_lt hw1));clear H2 G2 B2))
 all_goals
  go_wp2;go_ret;rw[HC.out];obtain⟨h1,h2⟩:=Dl.of_own HH2.out;exact⟨⟨ao2,cap2,by rw[h2];rfl,h1.w (yI (yI HLO.out (by have:=HHZ.out;omega)) HHD.out)⟩,HB2.out⟩
theorem Rz (lo:Nat) (n:Nd) (ao:Option Addr) (cap m:Nat) (gs:List Gd) (w:World) (hm:Hid (gs.length=m)) (hml:m<=50) (hlo:lo<=(w:Nat)) (hx:Dl lo w ao cap gs) (hne:n.op=32∨n.op=34∨n.op=36->m≠0) :
  Calls prog 189 #[n.val,.slice ao m cap] w (Oy lo w (El n gs)):=by
 obtain⟨op,a,b,c,d⟩:=n;dsimp only at hne;by_cases h31:op=31
 ·subst h31;exact Tv lo a b c d ao cap m gs w hm hml hlo hx
 by_cases h33:op=33
 ·subst h33;exact Tx lo a b c d ao cap m gs w hm hml hlo hx
 by_cases h32:op=32
 ·subst h32;exact Tw lo a b c d ao cap m gs w hm hml hlo hx (hne (by simp))
 by_cases h36:op=36
 ·subst h36;exact Tz lo a b c d ao cap m gs w hm hml hlo hx (hne (by simp))
 by_cases h34:op=34
 ·subst h34;exact Ty lo a b c d ao cap m gs w hm hml hlo hx (hne (by simp))
 exact Pk op lo a b c d ao cap m gs w hm hml hlo hx h31 h33 h32 h36 h34
def unB (l:List Bool):Nat:=(l.filter fun b=>!b).length
theorem Adx {l:List Bool} (hx:x<l.length) (h:l.getD x false=false):unB (l.set x true)+1=unB l:=by
 induction l generalizing x with
 | nil=>simp at hx
 | cons a r ih=>
  cases x with
  | zero=>simp at h;subst h;simp[unB]
  | succ x=>
   simp at hx;have:=ih hx (by simpa using h);cases a<;>simp[unB]at *<;>omega
theorem Aez (l:List Bool):unB l<=l.length:=List.length_filter_le _ _
structure Bf (ins:List Nd) (i:Nat) (L:List Nat) (k:Nat) (S:List Bool):Prop where
 len:S.length=ins.length
 lt:∀x∈L,x<ins.length
 src:∀x∈L,∃c,Sil ins i c/\Pth (Sil ins) c x
 first:∀y,Sil ins i y->y∈L
 past:∀j x,j<k->L[j]?=some x->x≠i
 past2:∀j x,j<k->L[j]?=some x->S.getD x false=true
 clo:∀x,S.getD x false=true->∀y,Sil ins x y->y∈L
theorem Bf.found (h:Bf ins i L k S) (hx:L[k]?=some i):OnC (Sil ins) i:=by obtain⟨c,h1,h2⟩:=h.src i (yH hx);exact⟨c,h1,h2⟩
theorem Bf.done (h:Bf ins i L k S) (hk:L.length<=k):¬OnC (Sil ins) i:=by
 rintro⟨c,h1,h2⟩;have hcl:∀{a b:Nat},Pth (Sil ins) a b->a∈L->b∈L:=by
  intro a b hp
  induction hp with
  | refl=>exact fun h=>h
  | step e _ ih=>
   intro ha;obtain⟨j,hj⟩:=List.getElem?_of_mem ha;have hjl:=(yD.1 hj).1;exact ih (h.clo _ (h.past2 j _ (by omega) hj) _ e)
 have hi:=hcl h2 (h.first c h1);obtain⟨j,hj⟩:=List.getElem?_of_mem hi;have hjl:=(yD.1 hj).1;exact h.past j i (by omega) hj rfl
theorem Bf.seen (h:Bf ins i L k S) (hx:L[k]?=some x) (hn:x≠i) (hs:S.getD x false=true):Bf ins i L (k+1) S:=by
 refine⟨h.len,h.lt,h.src,h.first,?_,?_,h.clo⟩
 ·intro j y hj hy;by_cases hjk:j=k
  ·subst hjk;rw[hx]at hy;obtain rfl:=yO hy;exact hn
  ·exact h.past j y (by omega) hy
 ·intro j y hj hy;by_cases hjk:j=k
  ·subst hjk;rw[hx]at hy;obtain rfl:=yO hy;exact hs
  ·exact h.past2 j y (by omega) hy
theorem Bf.more (h:Bf ins i L k S) (hx:L[k]?=some x) (hn:x≠i) (hi:ins[x]?=some n) (hlt:∀y∈Lh n x,y<ins.length):Bf ins i (L++Lh n x) (k+1) (S.set x true):=by
 have hxl:=(yD.1 hi).1;have hkl:=(yD.1 hx).1;have hd:=fun j=>Ko S x j true;refine⟨by simp[h.len],?_,?_,fun y hy=>by simp[h.first y hy],?_,?_,?_⟩
 ·intro y hy;rcases yZ.1 hy with hy|hy
  ·exact h.lt y hy
  ·exact hlt y hy
 ·intro y hy;rcases yZ.1 hy with hy|hy
  ·exact h.src y hy
  ·obtain⟨c,h1,h2⟩:=h.src x (yH hx);exact⟨c,h1,h2.trans (.one ⟨n,hi,hy⟩)⟩
 ·intro j y hj hy;rw[List.getElem?_append_left (by omega)]at hy;by_cases hjk:j=k
  ·subst hjk;rw[hx]at hy;obtain rfl:=yO hy;exact hn
  ·exact h.past j y (by omega) hy
 ·intro j y hj hy;rw[List.getElem?_append_left (by omega)]at hy;rw[hd];split
  ·rfl
  ·rename_i hc;by_cases hjk:j=k
   ·subst hjk;rw[hx]at hy;obtain rfl:=yO hy;exact absurd ⟨rfl,by rw[h.len];exact hxl⟩ hc
   ·exact h.past2 j y (by omega) hy
 ·intro y hy z hz;rw[hd]at hy;split at hy
  ·rename_i hc;obtain⟨rfl,_⟩:=hc;obtain⟨m,h1,h2⟩:=hz;rw[hi]at h1;obtain rfl:=yO h1;simp[h2]
  ·simp[h.clo y hy z hz]
theorem A6j (hp:Oz np p){y:Nat} (hn:p.ins[x]?=some n) (hy:y∈Lh n x):y<p.ins.length:=by
 obtain⟨z,hz,rfl⟩:=A7q ⟨[],[]⟩ [] [] hy;obtain⟨f1,_,f3,f4,f5,_⟩:=Hr (hp.fit x n hn);unfold Fg at hz;rcases yZ.1 hz with hz|hz
 ·split at hz
  ·rename_i h;simp at hz;subst hz;exact hp.next x n hn h
  ·simp at hz
 ·unfold goF at hz;split at hz
  ·rename_i ho;simp at hz;subst hz;have:=f3 ho;dsimp only;omega
  split at hz
  ·rename_i ho;simp at hz;subst hz;have:=f4 (by omega);dsimp only;omega
  split at hz
  ·rename_i ho;simp at hz;subst hz;have:=f4 (by omega);dsimp only;omega
  split at hz
  ·rename_i ho;simp at hz;subst hz;have:=f1 ho;dsimp only;omega
  ·simp at hz
theorem A4b (n:Nd) (x:Nat):(Lh n x).length<=2:=by unfold Lh;repeat (first|split|simp)
theorem Aa9 (hp:Oz np p) (hn:p.ins[i]?=some n):Bf p.ins i (Lh n i) 0 (List.replicate p.ins.length false):=by
 refine⟨by simp,fun x hx=>A6j hp hn hx,fun x hx=>⟨x,⟨n,hn,hx⟩,.refl _⟩,?_,fun j x hj=>absurd hj (by omega),fun j x hj=>absurd hj (by omega),?_⟩
 ·rintro y ⟨m,h1,h2⟩;rw[hn]at h1;obtain rfl:=yO h1;exact h2
 ·intro x hx;simp[List.getD_eq_getElem?_getD,List.getElem?_replicate]at hx;split at hx<;>simp at hx
theorem A3s (xs ys:List Nat):Qx (xs++ys)=Qx xs++Qx ys:=by simp[Qx]
theorem A3t (h:xs[k]?=some x):(Qx xs)[k]?=some (x:Int):=by simp[Qx,h]
theorem A39 (p:Pd) (h:Ph) (i np:Nat) (w:World) (hp:Oz np p) (hi:i<p.ins.length) (hz:p.ins.length<=6000) (hI:Ck 0 w h.io p.ins) :
  Calls prog 85 #[.agg (p.cells h),i] w fun e w'=>(∃r:Bool,e=.returned (.bool r)/\(r=true ↔ OnC (Sil p.ins) i))/\Below w w w':=by
 have hmk:=Bj 141 4 _ 1 1 underlying141 Tryz.info_bool .i64 .i64 p.ins.length (by omega) (by omega);simp only[Nat.mul_one]at hmk;obtain⟨n,hn⟩:=A8 hi;have HP:Hid _:=hp;have HSI:Hid (∀(x:Nat) (m:Nd) (W:World),p.ins[x]?=some m->Below w w W->Calls prog 167 #[.agg (p.cells h),x] W (Jf (Lh m x) W)):=
  fun x m W hx hb=>A0l p h x m np W hx (by omega) (hp.fit x m hx) (hI.l (A7.o hb))
 have HB0:Hid _:=Aa9 hp hn;have HL0:Hid _:=A4b n i;have HN0:Hid _:=hn;clear hp hn hI;have P0:=(Blk.new w #[p.name,p.line,p.params,.bool p.rest,p.regs,.slice h.uo p.ups.length h.uc,.slice h.co p.consts.length h.cc,.slice h.io p.ins.length h.ic,.slice h.no p.named.length h.nc] 77).alloc (.cells (madeCells #[false] p.ins.length) 4);have M0:=J3 (w.alloc (.cells #[p.name,p.line,p.params,.bool p.rest,p.regs,.slice h.uo p.ups.length h.uc,.slice h.co p.consts.length h.cc,.slice h.io p.ins.length h.ic,.slice h.no p.named.length h.nc] 77)) p.ins.length;simp only[nblk_alloc]at M0;have B0:Below w w ((w.alloc (.cells #[p.name,p.line,p.params,.bool p.rest,p.regs,.slice h.uo p.ups.length h.uc,.slice h.co p.consts.length h.cc,.slice h.io p.ins.length h.ic,.slice h.no p.named.length h.nc] 77)).alloc (.cells (madeCells #[false] p.ins.length) 4)):=((yA _ _).alloc (yB _) _).alloc (by simp) _;unfold Pd.cells;go_in;go_wp2_with fail;refine(HSI.out i n _ HN0.out B0).mono ?_;rintro e w1 ⟨vl,rfl,H1,hw1⟩;have B1:=B0.trans (hw1.mono (by simp;omega));have P1:=P0.l hw1;have M1:=M0.l hw1;rw[nblk_alloc,nblk_alloc]at H1;obtain⟨lo,lc,rfl⟩:=Aa H1;clear hw1 P0 M0 B0 hmk;go_wp2;go_loopg [6,7] (3+3*p.ins.length) (fun gk vl y wr=>∃(L:List Nat) (k:Nat) (S:List Bool),y=k/\k<=L.length/\Hid (Bf p.ins i L k S)/\Hid ((L.length-k)+3*unB S<=gk)/\Hid (L.length+2*unB S<=2+2*p.ins.length)/\wr.ownsRow ((w:Nat)+1+1) 3 1 vl L.length (Az (Qx L))/\Blk wr (w:Nat) #[p.name,p.line,p.params,.bool p.rest,p.regs,.slice h.uo p.ups.length h.uc,.slice h.co p.consts.length h.cc,.slice h.io p.ins.length h.ic,.slice h.no p.named.length h.nc] 77/\Blk wr ((w:Nat)+1) (Cc S) 4/\Below w w wr);case atStart=> have hu:=Aez (List.replicate p.ins.length false);have hl:=HL0.out;simp at hu;exact⟨Lh n i,0,List.replicate p.ins.length false,rfl,yE _,HB0,by show _<=_;omega,by show _<=_;omega,H1,P1,M1,B1⟩
 case round=>
  obtain⟨L,k,S,rfl,hk,HBF,HM1,HM2,H2,P2,M2,B2⟩:=hrel;obtain⟨lo,lc,rfl⟩:=Aa H2;clear H1 P1 M1 B1;have hLl:L.length<=12002:=by have:=HM2.out;omega
  by_cases hkl:k<L.length
  ·obtain⟨x,hx⟩:=A8 hkl;have hxl:=HBF.out.lt x (yH hx);obtain⟨lb,lof,rfl,_,hlb,c0⟩:=(Dp H2).1 k x (A3t hx);unfold Ho at c0;rw[Nat.mul_one]at c0;have k1:(k:Int)<L.length:=by omega
   by_cases hxi:x=i
   ·subst hxi;have HC:Hid (OnC (Sil p.ins) x):=HBF.out.found hx;clear hx HBF;go_wp2;go_ret;exact⟨⟨true,rfl,by simp[HC.out]⟩,B2⟩
   ·have k2:((x:Int)==(i:Int))=false:=by simp;omega
    have HS:Hid _:=HBF.out.len;have m0:=(M2.cell x).trans (Bo (by rw[HS.out];exact hxl));have f0:=M2.frozen x;have k3:(x:Int)<p.ins.length:=by omega
    cases hsx:S.getD x false
    ·rw[hsx]at m0;obtain⟨m,hm⟩:=A8 hxl;have HBN:Hid _:=HBF.out.more hx hxi hm (fun y hy=>A6j HP.out hm hy);have hun:=Adx (by rw[HS.out];exact hxl) hsx;have hsl:=A4b m x;have HM3:Hid ((L++Lh m x).length-(k+1)+3*unB (S.set x true)<=gk-1/\gk-1<gk):=by have:=HM1.out;show _/\_;simp;omega
     have HM4:Hid ((L++Lh m x).length+2*unB (S.set x true)<=2+2*p.ins.length):=by have:=HM2.out;show _<=_;simp;omega
     have HMM:Hid _:=hm;have HSL:Hid _:=hsl;have M3:=M2.set x (true);rw[E8]at M3;have P3:=P2.setOther (p:=((w:Nat)+1,x)) (by simp) (true);have B3:=B2.setCell (p:=((w:Nat)+1,x)) (by simp) (true);have H3:=Aj H2 (w':=wr.setCell ((w:Nat)+1,x) (true)) (fun k hk=>yL _ _ _ _ (by have:=(H2.lt k hk).1;dsimp only;omega));clear hsx hun hsl hm hx HBF HM1 HM2;have p2:=P2.cell;go_wp2_with fail;refine(HSI.out x m _ HMM.out B3).mono ?_;rintro e w4 ⟨vs,rfl,V4,hw4⟩;have B4:=B3.trans (hw4.mono B3.size);have P4:=P3.l hw4;have M4:=M3.l hw4;have H4:=Ai H3 hw4;have hvs:∀k,vs.ownBlock=some k->(wr:Nat)<=k:=fun k hk=>by have:=(V4.lt k hk).1;rwa [Cr]at this
     have hls:=fun k hk=>(H2.lt k hk).2;have hw4s:(wr:Nat)<=(w4:Nat):=by have:=hw4.size;rwa [Cr]at this
     rw[Cr]at V4;obtain⟨so,sc,rfl⟩:=Aa V4;generalize hS0:Lh m x=sl at *;clear hw4 P3 M3 B3 H3 H2 P2 M2 B2 c0 m0 f0 p2;go_wp2_with fail;generalize (wr:Nat)=W3 at *;generalize hS5:S.set x true=S5 at *;go_loopw [6,43] (fun vl y wi=>∃j:Nat,j<=sl.length/\y=j/\wi.ownsRow ((w:Nat)+1+1) 3 1 vl (L.length+j) (Az (Qx (L++sl.take j)))/\(∀k,vl.ownBlock=some k->(Value.slice so sl.length sc).ownBlock≠some k)/\wi.ownsRow W3 3 1 (.slice so sl.length sc) sl.length (Az (Qx sl))/\Blk wi (w:Nat) #[p.name,p.line,p.params,.bool p.rest,p.regs,.slice h.uo p.ups.length h.uc,.slice h.co p.consts.length h.cc,.slice h.io p.ins.length h.ic,.slice h.no p.named.length h.nc] 77/\Blk wi ((w:Nat)+1) (Cc S5) 4/\Below w w wi) (fun _ y _=>sl.length-(intOf y).toNat);case atStart=>exact⟨0,yE _,rfl,by simpa using H4,fun k h1 h2=>by have:=hls k h1;have:=hvs k h2;omega,V4,P4,M4,B4⟩
     case round=>
      obtain⟨j,hj,rfl,H5,hsep,V5,P5,M5,B5⟩:=hrel;obtain⟨lo5,lc5,rfl⟩:=Aa H5;have hsl2:=HSL.out;clear H4 V4 P4 M4 B4 hls hvs;by_cases hjl:j<sl.length
      ·obtain⟨y,hy⟩:=A8 hjl;obtain⟨sb,sof,rfl,_,hsb,d0⟩:=(Dp V5).1 j y (A3t hy);unfold Ho at d0;rw[Nat.mul_one]at d0;have HT:Hid (Qx (L++sl.take j)++[(y:Int)]=Qx (L++sl.take (j+1))):=by show _=_;rw[List.take_add_one,hy,←List.append_assoc,A3s (L++sl.take j)];rfl
       have hsz:=B5.size;have hb5:=M5.lt;clear hy;go_wp2_with (at_builtin;refine Df rfl _ _ rfl ((w:Nat)+1+1) _ (L.length+j) (Qx (L++sl.take j)) y (wr:Nat) rfl (H5.alloc _) rfl ?c1 (by omega) ?c3 ?_);case c1=>simp
       case c3=>first|omega|(simp;omega)
       ·intro v6 w6 H6 G6 A6;rw[HT.out]at H6;have hlt5:=fun k hk=>(H5.lt k hk).1;have V6:=D6 (V5.alloc _) G6 (fun k hk e=>hsep k e.symm hk);have P6:=Am (P5.alloc _) G6 (fun e=>by have:=hlt5 _ e.symm;omega);have M6:=Am (M5.alloc _) G6 (fun e=>by have:=hlt5 _ e.symm;omega);have B6:=(B5.alloc hsz _).grown G6 (by simp;omega) (fun k hk=>by have:=hlt5 k hk;omega);have hsep6:∀k,v6.ownBlock=some k->(Value.slice (some ⟨sb,sof,none⟩) sl.length sc).ownBlock≠some k:=by
         intro k h1 h2;rcases A6 with A6|A6
         ·exact hsep k (A6▸h1) h2
         ·have:=(V5.lt k h2).2;rw[A6]at h1;simp at h1;omega
        obtain⟨lo6,lc6,rfl⟩:=Aa H6;clear G6 A6 H5 V5 P5 M5 B5 d0 HT;go_wp2;go_roundw;case rel=>exact⟨j+1,by omega,by go_num,H6,hsep6,V6,P6,M6,B6⟩
        case measure=>simp[intOf];omega
      ·obtain rfl:j=sl.length:=by omega
       rw[List.take_length]at H5;have HH:Hid (wr.ownsRow ((w:Nat)+1+1) 3 1 (.slice lo5 (L.length+sl.length) lc5) (L++sl).length (Az (Qx (L++sl)))):=by show World.ownsRow _ _ _ _ _ _ _;rw[List.length_append];exact H5
       go_wp2;go_roundg (gk-1);case measure=>exact HM3.out.2
       case rel=>exact⟨L++sl,k+1,S5,by go_num,by simp;omega,HBN,HM3.out.1,HM4,HH.out,P5,M5,B5⟩
    ·rw[hsx]at m0;have HBN:Hid _:=HBF.out.seen hx hxi hsx;have HM3:Hid (L.length-(k+1)+3*unB S<=gk-1/\gk-1<gk):=by have:=HM1.out;show _/\_;omega
     clear hsx hx HBF HM1;go_wp2;go_roundg (gk-1);case measure=>exact HM3.out.2
     case rel=>exact⟨L,k+1,S,by go_num,by omega,HBN,HM3.out.1,HM2,H2,P2,M2,B2⟩
  ·have HC:Hid (¬OnC (Sil p.ins) i):=HBF.out.done (by omega);clear HBF;go_wp2;go_ret;exact⟨⟨false,rfl,by simp[HC.out]⟩,B2⟩
structure A82 (w0:World) (B L vb sb db:Nat) (cao:Option Addr) (ccap:Nat) (ps:List Pd) (p:Pd) (h:Ph) (c:Cf) (l i m:Nat) (op na nb nc nd:Int) (s:St) (ao ago:Option Addr) (ac agc b0 x5 x6 x7:Nat) (t0 t1 t2 t3:TypeId) (v0 v1 v2 v3:Value) (wS w3:World):Prop where
 X:Zn w0 B L vb sb db ps p h
 H:Es L vb sb db cao ccap ps p h w3 c l
 hl:l<=p.ins.length
 hL:L<=(wS:Nat)
 hb0:Below w0 w0 w3
 off:Off B L wS w3
 hok:L6 p c
 hi:p.ins[i]?=some ⟨op,na,nb,nc,nd⟩
 hs:Rp p s
 hm:s.types.length=m
 R0:Blk w3 b0 #[(),(),()] 27
 N:Blk w3 x5 #[op,na,nb,nc,nd] 81
 A:Blk w3 x6 #[true,.slice ao m ac,.slice ago s.guards.length agc] 146
 F:Blk w3 x7 #[.iface t0 v0,.iface t1 v1,.iface t2 v2,.iface t3 v3] 296
 hb:(wS:Nat)<=b0
 RT:Gp L w3 ao ac s.types
 RG:Dl L w3 ago agc s.guards
theorem A82.m2{L:Nat}{l m:Nat}{ago:Option Addr}{ac agc x5 x6 x7:Nat} {t0 t1 t2 t3:TypeId} {v0 v1 v2 v3:Value} {wS w3:World} (x:A82 w0 B L vb sb db cao ccap ps p h c l i m op na nb nc nd s ao ago ac agc b0 x5 x6 x7 t0 t1 t2 t3 v0 v1 v2 v3 wS w3):m<=250/\(m:Int)=p.regs:=by have h1:=x.hs.len;have h2:=x.X.fit.regs;have h3:=x.hm;omega
theorem A65{L:Nat} {a b:World} (h:Off B L a b) (hB:B<=a.heap.size) (hb:a.heap.size<=b0) (v1 v2 v3:Value):Off B L a (((b.setCell ⟨b0,0,none⟩ v1).setCell ⟨b0,1,none⟩ v2).setCell ⟨b0,2,none⟩ v3):=
 ((h.setNew hB v1 (by dsimp only;omega)).setNew hB v2 (by dsimp only;omega)).setNew hB v3 (by dsimp only;omega)
noncomputable def pcSE:Code:=Gt [1,1,1,1,1,1,1] (Tryz.f104.body.getD .skip)
theorem Ado (w0:World) (B L vb sb db:Nat) (cao:Option Addr) (ccap:Nat) (ps:List Pd) (p:Pd) (h:Ph) (c:Cf) (l i m:Nat) (op na nb nc nd:Int) (s:St) (ao ago:Option Addr) (ac agc b0 x5 x6 x7:Nat) (t0 t1 t2 t3:TypeId) (v0 v1 v2 v3:Value) (wS w3:World) (x8 x9:Nat) (ko bo bgo:Option Addr) (kc bc bgc:Nat) (vt vr:Value) (tk ts2:List Int) (gs2:List Gd) (W:World) (c2 c3 c5 c7 c10 c11 c12 c13 c14 c15 c16 c17 c18 c19 c20 c21 c22 c23 c24 c25 c26 c27 c28 c29 c30 c31 c32 c33 c34 c35 c36 c37 c38 c39 c40 c41 c42 c43 c44 c45 c46 c47 c48 c49 c50 c51 c52 c53 c54 c55 c56 c57 c58 c59 c60 c61 c62 c63 c64 c65 c66 c67 c68 c69 c70 c71 c72 c73 c74 c75 c76 c77 c78 c79 c80 c81 c82 c83 c84 c85 c86 c87 c88 c89 c90 c91 c92 c93 c94 c95 c96 c97 c98 c99 c100:Value) (Q:Exit->Act->World->Prop) (hq:∀a' w',bodyPost prog Tryz.f104 (Ox B L vb sb db cao ccap ps p h wS (if Fx (Bc s.guards) tk s.types ts2 then Al c (Fg ⟨op,na,nb,nc,nd⟩ i s ts2 gs2) else .error (12,i))) .ret a' w'->Q .ret a' w')
  (D:A82 w0 B L vb sb db cao ccap ps p h c l i m op na nb nc nd s ao ago ac agc b0 x5 x6 x7 t0 t1 t2 t3 v0 v1 v2 v3 wS w3) (hB3:Below w3 w3 W) (R8:Blk W x8 #[vt,vr,.slice ko tk.length kc] 299) (hk:Bl 0 W ko tk) (htk:tk.length<=1000) (R9:Blk W x9 #[false,.slice bo m bc,.slice bgo gs2.length bgc] 146) (RT2:Gp L W bo bc ts2) (RG2:Dl L W bgo bgc gs2) (ht2:ts2.length=m) (hso2:Rp p ⟨ts2,gs2⟩) (hfk:∀y∈goF ⟨op,na,nb,nc,nd⟩ s ts2 gs2,y.1<p.ins.length) :
  Code.wp prog pcSE Q ⟨List.toArray (.pointer vb::i::c2::c3::.pointer b0::c5::.pointer x6::c7::.pointer x8::.pointer x9::c10::c11::c12::c13::c14::c15::c16::c17::c18::c19::c20::c21::c22::c23::c24::c25::c26::c27::c28::c29::c30::c31::c32::c33::c34::c35::c36::c37::c38::c39::c40::c41::c42::c43::c44::c45::c46::c47::c48::c49::c50::c51::c52::c53::c54::c55::c56::c57::c58::c59::c60::c61::c62::c63::c64::c65::c66::c67::c68::c69::c70::c71::c72::c73::c74::c75::c76::c77::c78::c79::c80::c81::c82::c83::c84::c85::c86::c87::c88::c89::c90::c91::c92::c93::c94::c95::c96::c97::c98::c99::c100::[]),[]⟩ W:=by
 conv=>arg 2;whnf
 have HQ:Hid _:=hq;clear hq;obtain⟨hm2,hmr⟩:=D.m2;have hOW:=D.off.trans (Off.o hB3 (yI (yI D.X.hBL D.hL) D.off.size));have hBW:=yI D.X.hBL D.hL;obtain⟨mk,hmk⟩:∃mk:Nat,Bc s.guards=mk:=yN (Po s.guards).1;have hmkm:mk<=m:=by
  rcases (Po s.guards).2 with h0|⟨g,hg,_,hg2⟩
  ·omega
  ·have:=(D.hs.keep g hg).2;omega
 refine wk fun K1 HK1=>?_;refine wk fun K2 HK2=>?_;refine Aeu x6 x8 x9 m mk (Fx mk tk s.types ts2) ao ago ko bo ac agc kc bc s tk W _ _ _ _ _ _ _ _ _ _ _ _ _ _ _ _ _ _ _ _ _ _ _ _ _ _ _ _ _ _ _ _ _ _ _ _ _ _ _ _ _ _ _ _ _ _ _ _ _ _ _ _ _ _ _ _ _ _ _ _ _ _ _ _ _ _ _ _ _ _ _ _ _ _ _ _ _ _ _ _ _ _ _ _ _ _ _ _ _ _ _ _ _ _ _ _ _ _ _ ?_ ?_ ?_ ?_
 ·intro u83 u84 u85 u86 u87 u88 u89 u90 u91 u92 wx hbx;refine HK2.out _ _ ?_;clear HK2;have hB4:=hB3.trans (hbx.mono hB3.size);have HR0:Hid (Blk wx b0 #[(),(),()] 27):=D.R0.l hB4;have HO:Hid _:=hOW.trans (Off.o hbx (yI hBW hOW.size));cases hst:Fx mk tk s.types ts2
  ·have HRE:Hid ((if Fx (Bc s.guards) tk s.types ts2 then Al c (Fg ⟨op,na,nb,nc,nd⟩ i s ts2 gs2) else .error (12,i):Except (Nat×Nat) Cf)=.error (12,i)):=by show _=_;rw[hmk,hst];rfl
   clear hst;have r9:=HR0.out.cell;have f9:=HR0.out.frozen;go_wp2_with fail;have c9:=(HR0.out.three (x':=(12:Int)) (y':=()) (z':=i)).cell;refine HQ.out _ _ (bodyPost_ret (v:=.agg #[(12:Int),(),i]) ?_ rfl ⟨?_,A65 HO.out hBW D.hb _ _ _⟩)
   ·simp[results,results104,go_sem,c9]
   ·rw[HRE.out];try rfl
  ·have HRE:Hid ((if Fx (Bc s.guards) tk s.types ts2 then Al c (Fg ⟨op,na,nb,nc,nd⟩ i s ts2 gs2) else .error (12,i):Except (Nat×Nat) Cf)=Al c (Fg ⟨op,na,nb,nc,nd⟩ i s ts2 gs2)):=by show _=_;rw[hmk,hst];rfl
   clear hst;have HFW:Hid (∀_:Unit,_):=fun _=>A5j w0 B L vb sb db cao ccap ps p h c l wx i m ⟨op,na,nb,nc,nd⟩ true false ao ago bo bgo ac agc bc bgc s ts2 gs2 D.X (D.H.below hB4) D.hl (yI D.hL HO.out.size) (D.hb0.trans (hB4.mono D.hb0.size)) D.hok D.hi hso2 hfk D.hm ht2 hm2 hmr (D.RT.l (A7.o hB4)) (D.RG.l (A7.o hB4)) (RT2.l (A7.o hbx)) (RG2.l (A7.o hbx));rw[D.hm,ht2]at HFW;have a6:=(D.A.l hB4).cell;have a9:=(R9.l hbx).cell;go_wp2;refine HK1.out _ _ ?_;clear HK1;go_wp2_with fail;refine(HFW.out ()).mono ?_;unfold Ox;cases hfo:Al c (Fg ⟨op,na,nb,nc,nd⟩ i s ts2 gs2) with
   | error kx=>
    obtain⟨k,x⟩:=kx;rintro e w6 ⟨rfl,hO6⟩;have HRE2:Hid _:=HRE.out.trans hfo;have HR0b:=hO6.blk HR0.out (yI D.hL D.hb);have HO6:Hid _:=HO.out.trans hO6;clear HR0;have HR0:Hid (Blk w6 b0 #[(),(),()] 27):=HR0b;clear hfo HFW HRE a6 a9 HR0b;have r9:=HR0.out.cell;have f9:=HR0.out.frozen;go_wp2_with fail;have c9:=(HR0.out.three (x':=k) (y':=()) (z':=x)).cell;refine HQ.out _ _ (bodyPost_ret (v:=.agg #[k,(),x]) ?_ rfl ⟨?_,A65 HO6.out hBW D.hb _ _ _⟩)
    ·simp[results,results104,go_sem,c9]
    ·rw[HRE2.out];try rfl
   | ok c2=>
    rintro e w6 ⟨⟨rfl,l2,hl2,H6⟩,hO6⟩;have HRE2:Hid _:=HRE.out.trans hfo;have HR0b:=hO6.blk HR0.out (yI D.hL D.hb);have HO6:Hid _:=HO.out.trans hO6;clear HR0;have HR0:Hid (Blk w6 b0 #[(),(),()] 27):=HR0b;have HH6:Hid _:=H6;clear hfo HFW HRE a6 a9 HR0b H6;have r9:=HR0.out.cell;have f9:=HR0.out.frozen;go_wp2_with fail;have c9:=(HR0.out.three (x':=()) (y':=()) (z':=())).cell;refine HQ.out _ _ (bodyPost_ret (v:=.agg #[(),(),()]) ?_ rfl ⟨?_,A65 HO6.out hBW D.hb _ _ _⟩)
    ·simp[results,results104,go_sem,c9]
    ·rw[HRE2.out];exact⟨rfl,_,hl2,HH6.out.fault D.X.V HR0.out (yI D.hL D.hb) _ _ _⟩
 ·intro W2 hb2;have:=Ol ago agc s.guards W2 (by have:=D.hs.few;omega) (Ah.w (D.RG.l (A7.o (hB3.trans (hb2.mono hB3.size)))).at_ (yE _));rw[hmk]at this;exact this.mono fun e w' hh=>⟨hh.1,hb2.trans (hh.2.mono hb2.size)⟩
 ·intro W2 hb2;have hr1:=D.RT.l (A7.o (hB3.trans (hb2.mono hB3.size)));have hr2:=RT2.l (A7.o hb2);have:=A0g mk ko ao bo kc ac bc tk s.types ts2 W2 htk (by rw[D.hm];exact hmkm) (by rw[ht2];exact hmkm) (by rw[D.hm];exact hm2) (yI (by rw[D.hm];exact hmkm) hr1.cap) (yI (by rw[ht2];exact hmkm) hr2.cap) (hk.l (A7.o hb2)) (Ah.w hr1.at_ (yE _)) (Ah.w hr2.at_ (yE _));rw[D.hm,ht2]at this;exact this.mono fun e w' hh=>⟨hh.1,hb2.trans (hh.2.mono hb2.size)⟩
 ·intro W2 hb2;have hB4:=hB3.trans (hb2.mono hB3.size);exact⟨(D.A.l hB4).cell 1,(D.A.l hB4).cell 2,(R8.l hb2).cell 2,(R9.l hb2).cell 1⟩
noncomputable def pcSF:Code:=Gt [1,1,1,1,1] (Tryz.f104.body.getD .skip)
theorem Aeb (hn:Ep np p n) (s:St) (ts:List Int) (gs:List Gd):∀y∈goF n s ts gs,y.1<p.ins.length:=by
 obtain⟨f1,f2,f3,f4,f5,f6⟩:=Hr hn;intro y hy;unfold goF at hy;split at hy
 ·rename_i ho;have:=f3 ho;simp at hy;subst hy;dsimp only;omega
 split at hy
 ·rename_i ho;have:=f4 (by omega);simp at hy;subst hy;dsimp only;omega
 split at hy
 ·rename_i ho;have:=f4 (by omega);simp at hy;subst hy;dsimp only;omega
 split at hy
 ·rename_i ho;have:=(f1 ho).1;simp at hy;subst hy;dsimp only;omega
 ·simp at hy
theorem Wz:∀(rs:List Nat) (xs:List Int) (ts:List Int),(Hy rs xs ts).length=ts.length
 | [],_,_=>by unfold Hy;rfl
 | _::_,[],_=>by unfold Hy;rfl
 | r::rs,x::xs,ts=>by unfold Hy;rw[Wz rs xs,A7z]
theorem A8t (h:E9 n gs=true) (ho:n.op=32∨n.op=34∨n.op=36):gs.length≠0:=by intro h0;have:gs=[]:=yW.1 h0;subst this;unfold E9 Cz at h;rcases ho with ho|ho|ho<;>simp[ho]at h
theorem Ae6 (w0:World) (B L vb sb db:Nat) (cao:Option Addr) (ccap:Nat) (ps:List Pd) (p:Pd) (h:Ph) (c:Cf) (l i m:Nat) (op na nb nc nd:Int) (s:St) (ao ago:Option Addr) (ac agc b0 x5 x6 x7:Nat) (t0 t1' t2 t3:TypeId) (v0 v1 v2 v3:Value) (wS w3:World) (x8 r0 r1 r2 r3:Nat) (ro ko:Option Addr) (rc kc:Nat) (vr:Value) (rd:Rd) (W:World) (c2 c3 c9 c10 c11 c12 c13 c14 c15 c16 c17 c18 c19 c20 c21 c22 c23 c24 c25 c26 c27 c28 c29 c30 c31 c32 c33 c34 c35 c36 c37 c38 c39 c40 c41 c42 c43 c44 c45 c46 c47 c48 c49 c50 c51 c52 c53 c54 c55 c56 c57 c58 c59 c60 c61 c62 c63 c64 c65 c66 c67 c68 c69 c70 c71 c72 c73 c74 c75 c76 c77 c78 c79 c80 c81 c82 c83 c84 c85 c86 c87 c88 c89 c90 c91 c92 c93 c94 c95 c96 c97 c98 c99 c100:Value) (Q:Exit->Act->World->Prop) (hq:∀a' w',bodyPost prog Tryz.f104 (Ox B L vb sb db cao ccap ps p h wS (if Fx (Bc s.guards) rd.taken s.types (Hy [r0,r1,r2,r3] [na,nb,nc,nd] rd.types) then Al c (Fg ⟨op,na,nb,nc,nd⟩ i s (Hy [r0,r1,r2,r3] [na,nb,nc,nd] rd.types) (El ⟨op,na,nb,nc,nd⟩ s.guards)) else .error (12,i))) .ret a' w'->Q .ret a' w')
  (D:A82 w0 B L vb sb db cao ccap ps p h c l i m op na nb nc nd s ao ago ac agc b0 x5 x6 x7 t0 t1' t2 t3 v0 v1 v2 v3 wS w3) (hB3:Below w3 w3 W) (R8:Er (w3:Nat) x8 m W rd (.slice ro m rc) vr (.slice ko rd.taken.length kc)) (ht1:rd.types.length=m) (htk:rd.taken.length<=1000) (hgf:E9 ⟨op,na,nb,nc,nd⟩ s.guards=true) (e0:Aq ps.length p r0 na=.iface t0 v0) (g0:r0<=23) (f0:Bg ps.length p (Cm r0) na=true) (e1:Aq ps.length p r1 nb=.iface t1' v1) (g1:r1<=23) (f1:Bg ps.length p (Cm r1) nb=true) (e2:Aq ps.length p r2 nc=.iface t2 v2) (g2:r2<=23) (f2:Bg ps.length p (Cm r2) nc=true) (e3:Aq ps.length p r3 nd=.iface t3 v3) (g3:r3<=23) (f3:Bg ps.length p (Cm r3) nd=true) :
  Code.wp prog pcSF Q ⟨List.toArray (.pointer vb::i::c2::c3::.pointer b0::.pointer x5::.pointer x6::.pointer x7::.pointer x8::c9::c10::c11::c12::c13::c14::c15::c16::c17::c18::c19::c20::c21::c22::c23::c24::c25::c26::c27::c28::c29::c30::c31::c32::c33::c34::c35::c36::c37::c38::c39::c40::c41::c42::c43::c44::c45::c46::c47::c48::c49::c50::c51::c52::c53::c54::c55::c56::c57::c58::c59::c60::c61::c62::c63::c64::c65::c66::c67::c68::c69::c70::c71::c72::c73::c74::c75::c76::c77::c78::c79::c80::c81::c82::c83::c84::c85::c86::c87::c88::c89::c90::c91::c92::c93::c94::c95::c96::c97::c98::c99::c100::[]),[]⟩ W:=by
 conv=>arg 2;whnf
 obtain⟨hm2,hmr⟩:=D.m2;have hNF:=D.X.fit.fit i _ D.hi;have hL3:L<=(w3:Nat):=yI D.hL D.off.size;have hso2:Rp p ⟨(Hy [r0,r1,r2,r3] [na,nb,nc,nd] rd.types),(El ⟨op,na,nb,nc,nd⟩ s.guards)⟩:=by have hc:=Yn hNF s.guards;rw[hgf,if_pos rfl]at hc;obtain⟨h1,h2⟩:=Uq hNF D.hs.few D.hs.keep hc;refine⟨?_,h1,h2⟩;dsimp only;rw[Wz,ht1];exact hmr
 have HPUT:Hid (∀_:Unit,_):=fun _=>Adi ps.length p (w3:Nat) x8 m r0 r1 r2 r3 na nb nc nd t0 t1' t2 t3 v0 v1 v2 v3 rd ro rc vr (.slice ko rd.taken.length kc) W R8 ht1 hm2 hmr g0 g1 g2 g3 f0 f1 f2 f3 e0 e1 e2 e3;have HQ:Hid _:=hq;have f8:=(D.F.l hB3).cell;refine wp_seq_k ?_;intro K1 hK1;have HK1:Hid _:=hK1;clear hK1 hq R8;go_wp2_with fail;refine(HPUT.out ()).mono ?_;rintro e w8 ⟨rfl,R8',hb8⟩;have hB8:=hB3.trans hb8;clear f8 HPUT;have hrt:=(Gp.of_owns R8'.types).w hL3;have hk8:Bl 0 w8 ko rd.taken:=Ah.w (Dp R8'.taken).1 (yE _);have HR8:Hid _:=R8';have HRT:Hid _:=hrt;clear hrt R8';go_wp2;refine HK1.out _ _ ?_;clear HK1;have R8':=HR8.out;refine wp_seq_k ?_;intro K2 hK2;refine Aet x5 x6 x7 x8 L m ro ago rc agc op na nb nc nd s (Hy [r0,r1,r2,r3] [na,nb,nc,nd] rd.types) (El ⟨op,na,nb,nc,nd⟩ s.guards) w8 _ _ _ _ _ _ _ _ _ _ _ _ _ _ _ _ _ _ _ _ _ _ _ _ _ _ _ _ _ _ _ _ _ _ _ _ _ _ _ _ _ _ _ _ _ _ _ _ _ _ _ _ _ _ _ _ _ _ _ _ _ _ _ _ _ _ _ _ _ _ _ _ _ _ _ _ _ _ _ _ _ _ _ _ _ _ _ _ _ _ _ _ _ _ _ _ _ _ ?_ HRT.out (yI hL3 hB8.size) ?_ ?_
 ·intro u76 u77 u78 u79 u80 u81 u82 x9 wx bgo bgc hx9 R9 RT2 RG2 hbx;refine hK2 _ _ ?_;exact Ado w0 B L vb sb db cao ccap ps p h c l i m op na nb nc nd s ao ago ac agc b0 x5 x6 x7 t0 t1' t2 t3 v0 v1 v2 v3 wS w3 x8 x9 ko ro bgo kc rc bgc _ vr rd.taken (Hy [r0,r1,r2,r3] [na,nb,nc,nd] rd.types) (El ⟨op,na,nb,nc,nd⟩ s.guards) wx _ _ _ _ _ _ _ _ _ _ _ _ _ _ _ _ _ _ _ _ _ _ _ _ _ _ _ _ _ _ _ _ _ _ _ _ _ _ _ _ _ _ _ _ _ _ _ _ _ _ _ _ _ _ _ _ _ _ _ _ _ _ _ _ _ _ _ _ _ _ _ _ _ _ _ _ _ _ _ _ _ _ _ _ _ _ _ _ _ _ _ _ _ _ _ _ HQ.out D (hB8.trans (hbx.mono hB8.size)) (R8'.blk.l hbx) (hk8.l (A7.o hbx)) htk R9 RT2 RG2 (by rw[Wz,ht1]) hso2 (Aeb hNF _ _ _)
 ·intro W2 hb2;have hL2:L<=(W2:Nat):=yI (yI hL3 hB8.size) hb2.size;have hRG:=D.RG.l (A7.o (hB8.trans (hb2.mono hB8.size)));have hc:=Rz L ⟨op,na,nb,nc,nd⟩ ago agc s.guards.length s.guards W2 rfl D.hs.few hL2 hRG (A8t hgf);refine hc.mono ?_;rintro e w' ⟨⟨bgo,bgc,rfl,h1⟩,hb⟩;exact⟨⟨bgo,bgc,rfl,h1⟩,hb2.trans (hb.mono hb2.size),hb⟩
 ·intro W2 hb2;have hB4:=hB8.trans (hb2.mono hB8.size);have hN:=D.N.l hB4;exact⟨(R8'.blk.l hb2).cell 0,hN.cell 0,hN.cell 1,hN.cell 2,hN.cell 3,hN.cell 4,(D.A.l hB4).cell 2⟩
theorem Adr (vb x5 x6 x7 x8:Nat) (op nb:Int)  (t0 t1 t2 t3:TypeId) (v0 v1 v2 v3:Value) (w:World) (c1 c2 c3 c4 c9 c10 c11 c12 c13 c14 c15 c16 c17 c18 c19 c20 c21 c22 c23 c24 c25 c26 c27 c28 c29 c30 c31 c32 c33 c34 c35 c36 c37 c38 c39 c40 c41 c42 c43 c44 c45 c46 c47 c48 c49 c50 c51 c52 c53 c54 c55 c56 c57 c58 c59 c60 c61 c62 c63 c64 c65 c66 c67 c68 c69 c70 c71 c72 c73 c74 c75 c76 c77 c78 c79 c80 c81 c82 c83 c84 c85 c86 c87 c88 c89 c90 c91 c92 c93 c94 c95 c96 c97 c98 c99 c100:Value) (Q:Exit->Act->World->Prop) (PO:World->Prop)
  (hq:∀(u40 u41 u42 u43 u44 u45 u46 u47 u48 u49 u50 u51 u52 u53 u54 u55 u56 u57 u58 u59 u60 u61 u62 u63:Value) (wx:World),PO wx->Q .normal ⟨List.toArray (.pointer vb::c1::c2::c3::c4::.pointer x5::.pointer x6::.pointer x7::.pointer x8::c9::c10::c11::c12::c13::c14::c15::c16::c17::c18::c19::c20::c21::c22::c23::c24::c25::c26::c27::c28::c29::c30::c31::c32::c33::c34::c35::c36::c37::c38::false::u40::u41::u42::u43::u44::u45::u46::u47::u48::u49::u50::u51::u52::u53::u54::u55::u56::u57::u58::u59::u60::u61::u62::u63::c64::c65::c66::c67::c68::c69::c70::c71::c72::c73::c74::c75::c76::c77::c78::c79::c80::c81::c82::c83::c84::c85::c86::c87::c88::c89::c90::c91::c92::c93::c94::c95::c96::c97::c98::c99::c100::[]),[]⟩ wx)
  (hall:Calls prog 185 #[.pointer x8,.agg #[.iface t0 v0,.iface t1 v1,.iface t2 v2,.iface t3 v3]] w.drew fun e w'=>e=.returned (true)/\PO w'/\w'.cell? (x7,0)=some (.iface t0 v0)/\w'.cell? (x7,1)=some (.iface t1 v1)/\w'.cell? (x7,2)=some (.iface t2 v2)/\w'.cell? (x7,3)=some (.iface t3 v3)/\w'.cell? (x5,0)=some (op:Value)/\w'.cell? (x5,2)=some (nb:Value))
  (hop:(op==11)=false)
  (hS0:w.drew.cell? (x7,0)=some (.iface t0 v0)/\w.drew.cell? (x7,1)=some (.iface t1 v1)/\w.drew.cell? (x7,2)=some (.iface t2 v2)/\w.drew.cell? (x7,3)=some (.iface t3 v3)/\w.drew.cell? (x5,0)=some (op:Value)/\w.drew.cell? (x5,2)=some (nb:Value)) :
  Code.wp prog pcS4 Q ⟨List.toArray (.pointer vb::c1::c2::c3::c4::.pointer x5::.pointer x6::.pointer x7::.pointer x8::c9::c10::c11::c12::c13::c14::c15::c16::c17::c18::c19::c20::c21::c22::c23::c24::c25::c26::c27::c28::c29::c30::c31::c32::c33::c34::c35::c36::c37::c38::c39::c40::c41::c42::c43::c44::c45::c46::c47::c48::c49::c50::c51::c52::c53::c54::c55::c56::c57::c58::c59::c60::c61::c62::c63::c64::c65::c66::c67::c68::c69::c70::c71::c72::c73::c74::c75::c76::c77::c78::c79::c80::c81::c82::c83::c84::c85::c86::c87::c88::c89::c90::c91::c92::c93::c94::c95::c96::c97::c98::c99::c100::[]),[]⟩ w:=by
 conv=>arg 2;whnf
 have HQ:Hid _:=hq;clear hq;refine rgN (fun w'=>w'.cell? (x7,0)=some (.iface t0 v0)/\w'.cell? (x7,1)=some (.iface t1 v1)/\w'.cell? (x7,2)=some (.iface t2 v2)/\w'.cell? (x7,3)=some (.iface t3 v3)/\w'.cell? (x5,0)=some (op:Value)/\w'.cell? (x5,2)=some (nb:Value)) hS0 (fun hS=>?_);iterate 1 (refine tkF (by kernel_rfl) (by rfl) hS ⟨?_,fun W hW=>?_,?_⟩;rotate_left;(focus ((try dsimp only at hW);go_simp;try with_reducible rfl));try simp only[Act.put,yC,yJ,yK])
 refine doN (by kernel_rfl) (by rfl) (fun K hK=>?_);go_simp;refine(hall).mono ?_;rintro e w2 ⟨rfl,hpo,hS2⟩;go_wp2;refine hK.out _ _ hS2 (fun hS=>?_);clear hK K;try simp only[Act.put,yC,yJ,yK]
 iterate 6 (refine tkF (by kernel_rfl) (by rfl) hS ⟨?_,fun W hW=>?_,?_⟩;rotate_left;(focus ((try dsimp only at hW);go_simp;try with_reducible rfl));try simp only[Act.put,yC,yJ,yK])
 iterate 14 (refine tkG (by kernel_rfl) (by rfl) hS ?_;try simp only[Act.put,yC,yJ,yK])
 iterate 3 (refine tkF (by kernel_rfl) (by rfl) hS ⟨?_,fun W hW=>?_,?_⟩;rotate_left;(focus ((try dsimp only at hW);go_simp;try with_reducible rfl));try simp only[Act.put,yC,yJ,yK])
 refine enD (by kernel_rfl) (NoPanic.normal ?_);exact HQ.out _ _ _ _ _ _ _ _ _ _ _ _ _ _ _ _ _ _ _ _ _ _ _ _ _ hpo
theorem A3u (B L vb sb db:Nat) (cao:Option Addr) (ccap:Nat) (ps:List Pd) (p:Pd) (h:Ph) (c:Cf) (l0:Nat) (w:World) (V:Zo B L vb sb db) (hz:p.ins.length<=6000) (H0:Es L vb sb db cao ccap ps p h w c l0) (hl0:l0<=p.ins.length) :
  Calls prog 103 #[.pointer vb] w fun e w'=>(∃l:Nat,l<=p.ins.length/\((Dh c.due=none/\e=.returned (-1:Int)/\Es L vb sb db cao ccap ps p h w' c l)∨(Dh c.due=some l/\e=.returned l/\Es L vb sb db cao ccap ps p h w' ⟨c.sts,c.due.set l false⟩ l)))/\Off B L w w':=by
 have HVI:Hid _:=V;have hneV:¬vb=db:=V.vd;have hneD:¬db=vb:=V.vd.symm;clear V;go_in;go_wp2;go_loopg [] (p.ins.length+1) (fun g wr=>∃l:Nat,l<=p.ins.length/\Hid (p.ins.length+1-l<=g)/\Es L vb sb db cao ccap ps p h wr c l/\Off B L w wr);case atStart=>exact⟨l0,hl0,(by show _<=_;omega),H0,Off.refl _ _ _⟩
 case round=>
  obtain⟨l,hl,HG,H1,O1⟩:=hrel;clear H0;have v1:=H1.blk.cell;have HB1:Hid _:=yI HVI.out.v1 (Nat.le_of_lt H1.blk.lt);have HD1:Hid (∀n,Below wr wr (wr.drewN n)):=fun n=>below_drewN (yA _ _) n;by_cases hll:l<p.ins.length
  ·have k1:(l:Int)<p.ins.length:=by omega
   have HH1:Hid _:=H1;have HO1:Hid _:=O1;clear H1 O1;go_wp2_with fail;go_quiet (fail);have H2:=HH1.out.below (HD1.out nq);have O2:=HO1.out.trans (Off.o (HD1.out nq) HB1.out);have HB2:Hid _:=yI HB1.out (HD1.out nq).size;generalize wr.drewN nq=w2 at *;clear v1 HH1 HO1 HB1 HD1;have v2:=H2.blk.cell;have d2:=(H2.due.cell l).trans (Bo (by rw[H2.lenD];exact hll));obtain⟨b,hb⟩:∃b,b=c.due.getD l false:=⟨_,rfl⟩;rw[←hb]at d2;have HB:Hid _:=hb.symm;have HH2:Hid _:=H2;have HO2:Hid _:=O2;have HD2:Hid (∀n,Below w2 w2 (w2.drewN n)):=fun n=>below_drewN (yA _ _) n;clear hb H2 O2;go_wp2_with fail;go_quiet (fail);have H3:=HH2.out.below (HD2.out nq);have O3:=HO2.out.trans (Off.o (HD2.out nq) HB2.out);have HB3:Hid _:=yI HB2.out (HD2.out nq).size;generalize w2.drewN nq=w3 at *;clear v2 d2 HH2 HO2 HB2 HD2;cases b
   ·have HG2:Hid (p.ins.length+1-(l+1)<=gk-1/\gk-1<gk):=by have:=HG.out;show _/\_;omega
    have HLW:Hid (∀j,j<l+1->c.due.getD j false=false):=by
     intro j hj;by_cases hjl:j=l
     ·rw[hjl];exact HB.out
     ·exact H3.low j (by omega)
    have v3:=H3.blk.cell;have f3:=H3.blk.frozen 12;clear HG HB;go_wp2;go_roundg (gk-1);case measure=>exact HG2.out.2
    case rel=>exact⟨l+1,by omega,HG2.out.1,H3.move HVI.out (l+1) HLW.out,O3.set _ HVI.out.v1 HVI.out.v2⟩
   ·have HLD:Hid _:=Td H3.low HB.out;have v311:=H3.blk.cell 11;have v312:=H3.blk.cell 12;have d3:=(H3.due.cell l).trans (Bo (by rw[H3.lenD];exact hll));have f3:=H3.due.frozen l;have HKP:Hid ((w3.setCell (db,l) (false)).drew.cell? (vb,11)=some (.slice db p.ins.length p.ins.length)/\(w3.setCell (db,l) (false)).drew.cell? (vb,12)=some (l:Value)):=
     ⟨(yG _ _ _ _ hneD).trans v311,(yG _ _ _ _ hneD).trans v312⟩
    clear HG HB;go_wp2_with fail;go_region_held3 (fun w'=>w'.cell? (vb,11)=some (.slice db p.ins.length p.ins.length)/\w'.cell? (vb,12)=some (l:Value)) (first|exact HKP.out|(go_keep;done)) (fail);have H4:=(H3.take HVI.out l).below (yA _ _).drew;have O4:=(O3.set (false) (p:=(db,l)) HVI.out.d1 HVI.out.d2).trans (Off.o (L:=L) (w':=(w3.setCell (db,l) (false)).drew) (yA _ _).drew (by rw[Cr];exact HB3.out));have x12:=HKP.out.2;have H4b:Hid _:=H4;have O4b:Hid _:=O4;clear HKP v311 v312 d3 f3 H3 O3 H4 O4;generalize (w3.setCell (db,l) (false)).drew=w4 at *;go_wp2;go_ret;exact⟨⟨l,hl,.inr ⟨HLD.out,rfl,H4b.out⟩⟩,O4b.out⟩
  ·have HLD:Hid _:=M7 (fun j hj=>H1.low j (by rw[H1.lenD]at hj;omega));have k1:¬(l:Int)<p.ins.length:=by omega
   have kd:decide ((l:Int)<p.ins.length)=false:=by simpa using k1
   have HH1:Hid _:=H1;have HO1:Hid _:=O1;clear H1 O1 HG;go_wp2_with fail;go_quiet (fail);have H2:=HH1.out.below (HD1.out nq);have O2:=HO1.out.trans (Off.o (HD1.out nq) HB1.out);have H2b:Hid _:=H2;have O2b:Hid _:=O2;clear v1 HH1 HO1 HB1 HD1 H2 O2;generalize wr.drewN nq=w2 at *;go_wp2;go_ret;exact⟨⟨l,hl,.inl ⟨HLD.out,rfl,H2b.out⟩⟩,O2b.out⟩
theorem A6r (ps:List Pd) (pi:Nat) (p:Pd) (h:Ph) (cao:Option Addr) (ccap:Nat) (c:Cf) (w wr:World) (c0 c2 c3 c4 c8 c9 c10 c11 c12 c13 c14 c15 c16 c17 c18 c19 c20 c21 c22 c23 c24 c25 c26 c27 c28 c29 c30 c31 c32 c33 c34 c35 c36 c37 c38 c39 c40 c41 c42 c43 c44 c45 c46 c47 c48 c49 c50 c51 c52 c53 c54 c55 c56 c57 c58 c59 c60 c61 c62 c63 c64 c65 c66 c67 c68 c69 c70 c71 c72 c73 c74 c77 c78 c79 c80 c81 c82 c83 c84 c85 c86 c87 c88 c89 c90 c91 c92 c93 c94 c95 c96 c97 c98 c99 c100 c101 c102 c103 c104 c105 c106 c107 c108 c109 c110 c111 c112 c113 c114 c115 c116 c117 c118 c119 c120 c121 c122 c123 c124 c125 c126 c127 c128 c129 c130 c131 c132 c133 c134 c135 c136 c137 c138 c139 c140 c141 c142 c143 c144 c145 c146 c147 c148 c149 c150 c151 c152 c153 c154 c155 c156 c157 c158 c159 c160 c161 c162 c163 c164 c165 c166 c167 c168 c169 c170 c171 c172 c173 c174 c175 c176 c177 c178 c179 c180 c181 c182 c183 c184 c185 c186 c187 c188 c189 c190 c191 c192 c193 c194 c195 c196 c197 c198 c199 c200 c201 c202 c203 c204 c205 c206 c207 c208 c209:Value) (Q:Exit->Act->World->Prop) (hq:∀a' w',bodyPost prog Tryz.f34 (Jo w ps p pi) .ret a' w'->Q .ret a' w') (hx:∀(u4 u12 u76 u77 u78 u79 u80 u81 u82 u83 u84 u85 u86 u87 u88 u89 u90 u91 u92:Value) (w':World),Hw ps p pi=(0,0,0)->Iw w cao ccap ps p h w' c->Q (.exit 6) ⟨List.toArray (c0::pi::c2::c3::u4::.pointer (some ⟨(w:Nat)+1,0,none⟩)::.pointer (some ⟨(w:Nat)+1+1,0,none⟩)::.slice (some ⟨(w:Nat)+1+1+1,0,none⟩) p.ins.length p.ins.length::c8::c9::c10::c11::u12::c13::c14::c15::c16::c17::c18::c19::c20::c21::c22::c23::c24::c25::c26::c27::c28::c29::c30::c31::c32::c33::c34::c35::c36::c37::c38::c39::c40::c41::c42::c43::c44::c45::c46::c47::c48::c49::c50::c51::c52::c53::c54::c55::c56::c57::c58::c59::c60::c61::c62::c63::c64::c65::c66::c67::c68::c69::c70::c71::c72::c73::c74::p.ins.length::u76::u77::u78::u79::u80::u81::u82::u83::u84::u85::u86::u87::u88::u89::u90::u91::u92::c93::c94::c95::c96::c97::c98::c99::c100::c101::c102::c103::c104::c105::c106::c107::c108::c109::c110::c111::c112::c113::c114::c115::c116::c117::c118::c119::c120::c121::c122::c123::c124::c125::c126::c127::c128::c129::c130::c131::c132::c133::c134::c135::c136::c137::c138::c139::c140::c141::c142::c143::c144::c145::c146::c147::c148::c149::c150::c151::c152::c153::c154::c155::c156::c157::c158::c159::c160::c161::c162::c163::c164::c165::c166::c167::c168::c169::c170::c171::c172::c173::c174::c175::c176::c177::c178::c179::c180::c181::c182::c183::c184::c185::c186::c187::c188::c189::c190::c191::c192::c193::c194::c195::c196::c197::c198::c199::c200::c201::c202::c203::c204::c205::c206::c207::c208::c209::[]),[]⟩ w')
  (hp:Oz ps.length p) (hz:p.ins.length<=6000) (hpi:Ck 0 w h.io p.ins) (hwo:Gu ps p (2*p.ins.length+2) (Dc p)=.ok c) (hci:∀i,OnC (c.E p) i ↔ ((c.st i).isSome=true/\OnC (Sil p.ins) i)) (hsl:c.sts.length=p.ins.length) (W1:Iw w cao ccap ps p h wr c) :
  Code.wp prog Adf Q ⟨List.toArray (c0::pi::c2::c3::c4::.pointer (some ⟨(w:Nat)+1,0,none⟩)::.pointer (some ⟨(w:Nat)+1+1,0,none⟩)::.slice (some ⟨(w:Nat)+1+1+1,0,none⟩) p.ins.length p.ins.length::c8::c9::c10::c11::c12::c13::c14::c15::c16::c17::c18::c19::c20::c21::c22::c23::c24::c25::c26::c27::c28::c29::c30::c31::c32::c33::c34::c35::c36::c37::c38::c39::c40::c41::c42::c43::c44::c45::c46::c47::c48::c49::c50::c51::c52::c53::c54::c55::c56::c57::c58::c59::c60::c61::c62::c63::c64::c65::c66::c67::c68::c69::c70::c71::c72::c73::c74::p.ins.length::()::c77::c78::c79::c80::c81::c82::c83::c84::c85::c86::c87::c88::c89::c90::c91::c92::c93::c94::c95::c96::c97::c98::c99::c100::c101::c102::c103::c104::c105::c106::c107::c108::c109::c110::c111::c112::c113::c114::c115::c116::c117::c118::c119::c120::c121::c122::c123::c124::c125::c126::c127::c128::c129::c130::c131::c132::c133::c134::c135::c136::c137::c138::c139::c140::c141::c142::c143::c144::c145::c146::c147::c148::c149::c150::c151::c152::c153::c154::c155::c156::c157::c158::c159::c160::c161::c162::c163::c164::c165::c166::c167::c168::c169::c170::c171::c172::c173::c174::c175::c176::c177::c178::c179::c180::c181::c182::c183::c184::c185::c186::c187::c188::c189::c190::c191::c192::c193::c194::c195::c196::c197::c198::c199::c200::c201::c202::c203::c204::c205::c206::c207::c208::c209::[]),[]⟩ wr:=by
 conv=>arg 2;whnf
 have HP:Hid _:=hp;have HPI:Hid (Ck 0 w h.io p.ins):=hpi;have HWO:Hid _:=hwo;have HCI:Hid _:=hci;have HSL:Hid _:=hsl;have HQ:Hid _:=hq;have HX:Hid _:=hx;clear hp hpi hwo hci hsl hq hx;go_loopg [76] (p.ins.length+1) (fun g y wi=>∃i:Nat,i<=p.ins.length/\y=i/\Hid (∀j,j<i->¬OnC (c.E p) j)/\Hid (p.ins.length+1-i<=g)/\Iw w cao ccap ps p h wi c);case atStart=>exact⟨0,yE _,rfl,fun j hj=>absurd hj (Nat.not_lt_zero _),yB _,W1⟩
 case round=>
  obtain⟨i,hi,rfl,HI,HG3,W2⟩:=hrel;clear W1;by_cases hil:i<p.ins.length
  ·obtain⟨o,ho⟩:=A8 (show i<c.sts.length by rw[HSL.out];exact hil);obtain⟨to,tc,go,gc,s0,_,_,_,_⟩:=W2.sts.at_ i o ho;have HO:Hid _:=Ac2 ho;have k9:(i:Int)<p.ins.length:=by omega
   clear ho;cases o with
   | none=>
    have HI2:Hid (∀j,j<i+1->¬OnC (c.E p) j):=by
     intro j hj;by_cases hji:j=i
     ·subst hji;rw[HCI.out,HO.out];simp
     ·exact HI.out j (by omega)
    clear HI HO;have HG4:Hid (p.ins.length+1-(i+1)<=gk-1/\gk-1<gk):=by have:=HG3.out;show _/\_;omega
    go_wp2;go_roundg (gk-1);case measure=>exact HG4.out.2
    case rel=>exact⟨i+1,by omega,by go_num,HI2.out,HG4.out.1,W2⟩
   | some s=>
    have HRD:Hid _:=fun (W:World) (hb:Below w w W)=>A39 p h i ps.length W HP.out hil hz (HPI.out.l (A7.o hb));have p2:=W2.proto.cell;unfold Pd.cells at p2 HRD;have HW2:Hid _:=W2;clear W2;go_wp2_with fail;refine(HRD.out wr HW2.out.below).mono ?_;rintro e w3 ⟨⟨rr,rfl,hrr⟩,hw3⟩;have W3:=HW2.out.l hw3;have HRR:Hid (rr=true ↔ OnC (c.E p) i):=by show _ ↔ _;rw[HCI.out,HO.out];simpa using hrr
    clear hrr hw3 HW2 s0 HRD HO p2;cases rr
    ·have HI2:Hid (∀j,j<i+1->¬OnC (c.E p) j):=by
      intro j hj;by_cases hji:j=i
      ·subst hji;intro hc;have:=HRR.out.2 hc;cases this
      ·exact HI.out j (by omega)
     clear HI HRR;have HG4:Hid (p.ins.length+1-(i+1)<=gk-1/\gk-1<gk):=by have:=HG3.out;show _/\_;omega
     go_wp2;go_roundg (gk-1);case measure=>exact HG4.out.2
     case rel=>exact⟨i+1,by omega,by go_num,HI2.out,HG4.out.1,W3⟩
    ·have HVF:Hid (Hw ps p pi=(14,(pi:Int),(i:Int))):=Zf HWO.out ⟨.inr ⟨hil,HRR.out.1 rfl⟩,fun j _ hc=>Nat.le_of_not_lt fun hlt=>HI.out j hlt hc⟩ hil;clear HI HRR HWO HCI;go_wp2_with fail;refine(Bv _ _ _ _).mono ?_;rintro e w4 ⟨rfl,hw4⟩;have W4:=W3.l hw4;have c4:=W4.flt.cell;have f4:=W4.flt.frozen;clear W3 hw4;go_wp2_with fail;refine HQ.out _ _ (bodyPost_ret (v:=.tuple #[nS,.agg #[(14:Int),pi,i]]) ?_ rfl ⟨⟨nS,?_⟩,?_⟩)
     ·simp[results,results34,go_sem,c4]
     ·rw[HVF.out];rfl
     ·iterate 3 (refine yP ?_ (by simp) _)
      exact W4.below
  ·obtain rfl:i=p.ins.length:=by omega
   have HVF:Hid (Hw ps p pi=(0,0,0)):=Zg HWO.out ⟨.inl rfl,fun j hj hc=>absurd hc (HI.out j (by omega))⟩;have k9:¬(p.ins.length:Int)<p.ins.length:=by omega
   clear HI HWO HCI;go_wp2_with fail;exact HX.out _ _ _ _ _ _ _ _ _ _ _ _ _ _ _ _ _ _ _ _ HVF.out W2
noncomputable def pcSS:Code:=Gt [1,1,1,1] (Tryz.f104.body.getD .skip)
def Gy (ps:List Pd) (n:Nd) (i:Nat) (s:St) (c:Cf):Except (Nat×Nat) Cf:=match Ou ps n i s with|.bad k=>.error (k,i)|.go y=>Al c y
theorem A4d (hop:n.op.toNat=opN) (hfo:Ci opN=rs) (hrd:J5 rs n.fs ⟨s.types,[],[]⟩=some rd) (hub:Au s.types (Cy ps n)=true) (hgf:E9 n s.guards=true) :
  Gy ps n i s c=if Fx (Bc s.guards) rd.taken s.types (Hy rs n.fs rd.types) then Al c (Fg n i s (Hy rs n.fs rd.types) (El n s.guards)) else .error (12,i):=by
 subst hop hfo;unfold Gy Ou;rw[hrd];dsimp only[Option.map,Rd.two];rw[hub,if_pos rfl,hgf,if_pos rfl];by_cases hst:Fx (Bc s.guards) rd.taken s.types (Hy (Ci n.op.toNat) n.fs rd.types)=true
 ·rw[if_pos hst,if_pos hst]
 ·rw[if_neg hst,if_neg hst]
theorem Z8:∀{rs:List Nat} {xs:List Int} {s s':Rd},J5 rs xs s=some s'->s'.types.length=s.types.length/\s'.taken.length<=s.taken.length+rs.length
 | [],_,s,s',h=>by unfold J5 at h;obtain rfl:=yO h;simp
 | _::_,[],s,s',h=>by unfold J5 at h;obtain rfl:=yO h;simp
 | r::rs,x::xs,s,s',h=>by
  unfold J5 at h;cases h1:rdI r x s with
  | none=>rw[h1]at h;cases h
  | some s1=>
   rw[h1]at h;obtain⟨a1,a2⟩:=Z8 (rs:=rs) (xs:=xs) h;obtain⟨b1,b2,b3⟩:=A7k h1;exact⟨a1.trans b1,by simp;omega⟩
theorem Aev (w0:World) (B L vb sb db:Nat) (cao:Option Addr) (ccap:Nat) (ps:List Pd) (p:Pd) (h:Ph) (c:Cf) (l i m:Nat) (op na nb nc nd:Int) (s:St) (ao ago:Option Addr) (ac agc b0 x5 x6 x7:Nat) (t0 t1' t2 t3:TypeId) (v0 v1 v2 v3:Value) (wS w3:World) (x8 r0 r1 r2 r3 opN:Nat) (ro:Option Addr) (rc:Nat) (vr vk:Value) (W:World) (c2 c3 c9 c10 c11 c12 c13 c14 c15 c16 c17 c18 c19 c20 c21 c22 c23 c24 c25 c26 c27 c28 c29 c30 c31 c32 c33 c34 c35 c36 c37 c38 c39 c40 c41 c42 c43 c44 c45 c46 c47 c48 c49 c50 c51 c52 c53 c54 c55 c56 c57 c58 c59 c60 c61 c62 c63 c64 c65 c66 c67 c68 c69 c70 c71 c72 c73 c74 c75 c76 c77 c78 c79 c80 c81 c82 c83 c84 c85 c86 c87 c88 c89 c90 c91 c92 c93 c94 c95 c96 c97 c98 c99 c100:Value) (Q:Exit->Act->World->Prop) (hq:∀a' w',bodyPost prog Tryz.f104 (Ox B L vb sb db cao ccap ps p h wS (Gy ps ⟨op,na,nb,nc,nd⟩ i s c)) .ret a' w'->Q .ret a' w')
  (D:A82 w0 B L vb sb db cao ccap ps p h c l i m op na nb nc nd s ao ago ac agc b0 x5 x6 x7 t0 t1' t2 t3 v0 v1 v2 v3 wS w3) (hB3:Below w3.heap.size w3 W) (R8:Er w3.heap.size x8 m W ⟨s.types,[],[]⟩ (.slice ro m rc) vr vk) (hopN:op.toNat=opN) (hfo:Ci opN=[r0,r1,r2,r3]) (hv:Ad 0 w0 cao ps) (hu:∀u∈Cy ps ⟨op,na,nb,nc,nd⟩,u.loc=true->0<=u.idx/\u.idx<p.regs) (hul:(Cy ps ⟨op,na,nb,nc,nd⟩).length<=1048576) (e0:Aq ps.length p r0 na=.iface t0 v0) (g0:r0<=23) (f0:Bg ps.length p (Cm r0) na=true) (e1:Aq ps.length p r1 nb=.iface t1' v1) (g1:r1<=23) (f1:Bg ps.length p (Cm r1) nb=true) (e2:Aq ps.length p r2 nc=.iface t2 v2) (g2:r2<=23) (f2:Bg ps.length p (Cm r2) nc=true) (e3:Aq ps.length p r3 nd=.iface t3 v3) (g3:r3<=23) (f3:Bg ps.length p (Cm r3) nd=true) :
  Code.wp prog pcSS Q ⟨List.toArray (.pointer vb::i::c2::c3::.pointer b0::.pointer x5::.pointer x6::.pointer x7::.pointer x8::c9::c10::c11::c12::c13::c14::c15::c16::c17::c18::c19::c20::c21::c22::c23::c24::c25::c26::c27::c28::c29::c30::c31::c32::c33::c34::c35::c36::c37::c38::c39::c40::c41::c42::c43::c44::c45::c46::c47::c48::c49::c50::c51::c52::c53::c54::c55::c56::c57::c58::c59::c60::c61::c62::c63::c64::c65::c66::c67::c68::c69::c70::c71::c72::c73::c74::c75::c76::c77::c78::c79::c80::c81::c82::c83::c84::c85::c86::c87::c88::c89::c90::c91::c92::c93::c94::c95::c96::c97::c98::c99::c100::[]),[]⟩ W:=by
 conv=>arg 2;whnf
 have HQ:Hid _:=hq;clear hq;obtain⟨hm2,hmr⟩:=D.m2;have hBW:=yI D.X.hBL D.hL;have hOff:∀w',Below w3 w3 w'->Off B L wS w':=fun w' hb=>D.off.trans (Off.o hb (yI hBW D.off.size));have hWd:Below W W W.drew:=(yA _ _).drew;have hB3d:=hB3.trans (hWd.mono hB3.size);have hall:=Acn ps.length p (w3:Nat) x8 m r0 r1 r2 r3 na nb nc nd s.types ro rc vr vk W.drew (R8.l hWd) hB3d.size D.hm hm2 hmr g0 g1 g2 g3 f0 f1 f2 f3;rw[e0,e1,e2,e3]at hall;have hS:∀w',Below w3 w3 w'->w'.cell? (x7,0)=some (.iface t0 v0)/\w'.cell? (x7,1)=some (.iface t1' v1)/\w'.cell? (x7,2)=some (.iface t2 v2)/\w'.cell? (x7,3)=some (.iface t3 v3)/\w'.cell? (x5,0)=some (op:Value)/\w'.cell? (x5,2)=some (nb:Value):=fun w' hb=>⟨(D.F.l hb).cell 0,(D.F.l hb).cell 1,(D.F.l hb).cell 2,(D.F.l hb).cell 3,(D.N.l hb).cell 0,(D.N.l hb).cell 2⟩;refine wk fun K1 HK1=>?_;refine wp_block ?_;refine wk fun K2 HK2=>?_;unfold Eh at hall;cases hrd:J5 [r0,r1,r2,r3] [na,nb,nc,nd] ⟨s.types,[],[]⟩ with
 | none=>
  rw[hrd]at hall;refine Adq vb x5 x6 x7 x8 op nb t0 t1' t2 t3 v0 v1 v2 v3 W _ _ _ _ _ _ _ _ _ _ _ _ _ _ _ _ _ _ _ _ _ _ _ _ _ _ _ _ _ _ _ _ _ _ _ _ _ _ _ _ _ _ _ _ _ _ _ _ _ _ _ _ _ _ _ _ _ _ _ _ _ _ _ _ _ _ _ _ _ _ _ _ _ _ _ _ _ _ _ _ _ _ _ _ _ _ _ _ _ _ _ _ _ _ _ _ _ (fun w'=>Below w3 w3 w') ?_ (hall.mono fun e w' hh=>⟨hh.1,hB3d.trans hh.2,hS w' (hB3d.trans hh.2)⟩) (hS _ hB3d);intro u40 u41 u42 u43 u44 u45 u46 u47 u48 u49 u50 u51 u52 u53 u54 u55 u56 u57 u58 u59 u60 u61 u62 u63 wx hbx;refine HK2.out _ _ ?_;clear HK2;have HRE:Hid (Gy ps ⟨op,na,nb,nc,nd⟩ i s c=.error (10,i)):=by show _=_;unfold Gy Ou;dsimp only;rw[hopN,hfo];dsimp only[Nd.fs];rw[hrd];rfl
  have HR0:Hid (Blk wx b0 #[(),(),()] 27):=D.R0.l hbx;have HO:Hid _:=hOff wx hbx;clear hall hrd;have r9:=HR0.out.cell;have f9:=HR0.out.frozen;go_wp2_with fail;have c9:=(HR0.out.three (x':=(10:Int)) (y':=()) (z':=i)).cell;refine HQ.out _ _ (bodyPost_ret (v:=.agg #[(10:Int),(),i]) ?_ rfl ⟨?_,A65 HO.out hBW D.hb _ _ _⟩)
  ·simp[results,results104,go_sem,c9]
  ·rw[HRE.out];try rfl
 | some rd=>
  rw[hrd]at hall;dsimp only at hall;have hrl:rd.types.length=m/\rd.taken.length<=1000:=by have:=Z8 hrd;have h1:=D.hm;dsimp only at this;simp at this;exact⟨by rw[this.1,h1],by omega⟩
  by_cases h11:op=11
  ·have hnf:=(Hr (D.X.fit.fit i _ D.hi)).2.2.2.2.2 h11;dsimp only at hnf;obtain⟨bN,hbN⟩:=yN hnf.1;obtain⟨q,hq⟩:=A8 (show bN<ps.length by omega);have hfu:Cy ps ⟨op,na,nb,nc,nd⟩=q.ups:=by unfold Cy;rw[if_pos h11];dsimp only;rw[hbN,Int.toNat_natCast,hq]
   rw[hfu]at hu hul;obtain⟨pb,pof,hcao,_,_,hh,NN,PI⟩:=hv bN q hq;have hN5:∀w',Below w3 w3 w'->w'.cell? (pb,pof+bN*9+5)=some (.slice hh.uo q.ups.length hh.uc)/\Je 0 w' hh.uo q.ups:=by
    intro w' hb;have hb0:=D.hb0.trans (hb.mono D.hb0.size);obtain⟨pb',pof',hc',_,_,h2,N2,P2⟩:=(hv.l (A7.o hb0)) bN q hq;rw[hcao]at hc';obtain⟨rfl,rfl⟩:pb=pb'/\pof=pof':=by simpa using hc'
    have e1:=NN.2.2.2.2.2.1;have e2:w'.cell? (pb,pof+bN*9+5)=some (.slice hh.uo q.ups.length hh.uc):=(hb0.cell (p:=(pb,pof+bN*9+5)) (World.block_lt_of_cell? _ _ e1)).trans e1;exact⟨e2,PI.ups.l (A7.o hb0)⟩
   have hSC:∀w',Below w3 w3 w'->w'.cell? (x7,0)=some (.iface t0 v0)/\w'.cell? (x7,1)=some (.iface t1' v1)/\w'.cell? (x7,2)=some (.iface t2 v2)/\w'.cell? (x7,3)=some (.iface t3 v3)/\w'.cell? (x5,0)=some (.int .i64 11)/\w'.cell? (x5,2)=some (bN:Value)/\w'.cell? (x6,1)=some (.slice ao m ac)/\w'.cell? (vb,0)=some (.slice (some ⟨pb,pof,none⟩) ps.length ccap)/\w'.cell? (pb,pof+bN*9+5)=some (.slice hh.uo q.ups.length hh.uc):=fun w' hb=>⟨(D.F.l hb).cell 0,(D.F.l hb).cell 1,(D.F.l hb).cell 2,(D.F.l hb).cell 3,by have:=(D.N.l hb).cell 0;rw[h11]at this;exact this,by have:=(D.N.l hb).cell 2;rw[hbN]at this;exact this,(D.A.l hb).cell 1,by have:=(D.H.below hb).blk.cell 0;rw[hcao]at this;exact this,(hN5 w' hb).1⟩;refine Ads vb x5 x6 x7 x8 bN pb pof m ac ccap hh.uc (Au s.types q.ups) ao hh.uo ps q.ups t0 t1' t2 t3 v0 v1 v2 v3 W _ _ _ _ _ _ _ _ _ _ _ _ _ _ _ _ _ _ _ _ _ _ _ _ _ _ _ _ _ _ _ _ _ _ _ _ _ _ _ _ _ _ _ _ _ _ _ _ _ _ _ _ _ _ _ _ _ _ _ _ _ _ _ _ _ _ _ _ _ _ _ _ _ _ _ _ _ _ _ _ _ _ _ _ _ _ _ _ _ _ _ _ _ _ _ _ _ (fun w'=>Below w3 w3 w'/\∃vr vk,Er (w3:Nat) x8 m w' rd (.slice ro m rc) vr vk) ?_ (hall.mono fun e w' hh2=>⟨hh2.1.1,⟨hB3d.trans hh2.2,hh2.1.2⟩,hSC w' (hB3d.trans hh2.2)⟩) ?_ (by omega) (hSC _ hB3d)
   ·intro u40 u41 u42 u43 u44 u45 u46 u47 u48 u49 u50 u51 u52 u53 u54 u55 u56 u57 u58 u59 u60 u61 u62 u63 wx hbx;refine HK2.out _ _ ?_;clear HK2;obtain⟨hbx,vr2,vk2,RX⟩:=hbx;have HH11:Hid _:=h11;have HHbN:Hid _:=hbN;clear hall h11 hbN hnf hSC hN5 NN PI hcao;cases hub0:Au s.types q.ups
    ·have HRE:Hid (Gy ps ⟨op,na,nb,nc,nd⟩ i s c=.error (10,i)):=by show _=_;unfold Gy Ou;dsimp only;rw[hopN,hfo];dsimp only[Nd.fs];rw[hrd];dsimp only[Option.map,Rd.two];rw[hfu,hub0];rfl
     have HR0:Hid (Blk wx b0 #[(),(),()] 27):=D.R0.l hbx;have HO:Hid _:=hOff wx hbx;clear hub0 hrd RX;have r9:=HR0.out.cell;have f9:=HR0.out.frozen;go_wp2_with fail;have c9:=(HR0.out.three (x':=(10:Int)) (y':=()) (z':=i)).cell;refine HQ.out _ _ (bodyPost_ret (v:=.agg #[(10:Int),(),i]) ?_ rfl ⟨?_,A65 HO.out hBW D.hb _ _ _⟩)
     ·simp[results,results104,go_sem,c9]
     ·rw[HRE.out];try rfl
    ·have hub:Au s.types (Cy ps ⟨op,na,nb,nc,nd⟩)=true:=by rw[hfu];exact hub0
     clear hub0;have HGF:Hid (∀_:Unit,_):=fun _=>Oj ⟨op,na,nb,nc,nd⟩ ago agc s.guards.length s.guards wx rfl D.hs.few (Ah.w (D.RG.l (A7.o hbx)).at_ (yE _));unfold Nd.val at HGF;have n6:=(D.N.l hbx).cell;have a6:=(D.A.l hbx).cell;go_wp2_with fail;refine(HGF.out ()).mono ?_;rintro e w7 ⟨rfl,hw7⟩;have hB7:=(hbx).trans (hw7.mono (hbx).size);have R7:=(RX).l hw7;clear n6 a6 HGF;cases hgf:E9 ⟨op,na,nb,nc,nd⟩ s.guards
     ·have HRE:Hid (Gy ps ⟨op,na,nb,nc,nd⟩ i s c=.error (11,i)):=by show _=_;unfold Gy Ou;dsimp only;rw[hopN,hfo];dsimp only[Nd.fs];rw[hrd];dsimp only[Option.map,Rd.two];rw[hub,if_pos rfl,hgf];rfl
      have HR0:Hid (Blk w7 b0 #[(),(),()] 27):=D.R0.l hB7;have HO:Hid _:=hOff w7 hB7;clear hgf R7;have r9:=HR0.out.cell;have f9:=HR0.out.frozen;go_wp2_with fail;have c9:=(HR0.out.three (x':=(11:Int)) (y':=()) (z':=i)).cell;refine HQ.out _ _ (bodyPost_ret (v:=.agg #[(11:Int),(),i]) ?_ rfl ⟨?_,A65 HO.out hBW D.hb _ _ _⟩)
      ·simp[results,results104,go_sem,c9]
      ·rw[HRE.out];try rfl
     ·have HRE:Hid (Gy ps ⟨op,na,nb,nc,nd⟩ i s c=if Fx (Bc s.guards) rd.taken s.types (Hy [r0,r1,r2,r3] [na,nb,nc,nd] rd.types) then Al c (Fg ⟨op,na,nb,nc,nd⟩ i s (Hy [r0,r1,r2,r3] [na,nb,nc,nd] rd.types) (El ⟨op,na,nb,nc,nd⟩ s.guards)) else .error (12,i)):=by exact A4d (n:=⟨op,na,nb,nc,nd⟩) hopN hfo hrd hub hgf
      obtain⟨ko,kc,hko⟩:=Aa R7.taken;rw[hko]at R7;go_wp2;refine HK1.out _ _ ?_;exact Ae6 w0 B L vb sb db cao ccap ps p h c l i m op na nb nc nd s ao ago ac agc b0 x5 x6 x7 t0 t1' t2 t3 v0 v1 v2 v3 wS w3 x8 r0 r1 r2 r3 ro ko rc kc _ rd w7 _ _ _ _ _ _ _ _ _ _ _ _ _ _ _ _ _ _ _ _ _ _ _ _ _ _ _ _ _ _ _ _ _ _ _ _ _ _ _ _ _ _ _ _ _ _ _ _ _ _ _ _ _ _ _ _ _ _ _ _ _ _ _ _ _ _ _ _ _ _ _ _ _ _ _ _ _ _ _ _ _ _ _ _ _ _ _ _ _ _ _ _ _ _ _ (fun a' w' hb=>HQ.out a' w' (by rw[HRE.out];exact hb)) D hB7 R7 hrl.1 hrl.2 hgf e0 g0 f0 e1 g1 f1 e2 g2 f2 e3 g3 f3
   ·rintro W2 ⟨hb2,vr2,vk2,RX2⟩ hS2;have:=A1s ao hh.uo ac hh.uc s.types q.ups W2 hul (fun u hu2 hl2=>by have:=hu u hu2 hl2;have h1:=D.hm;omega) (Ah.w (D.RT.l (A7.o hb2)).at_ (yE _)) (hN5 W2 hb2).2;rw[D.hm]at this;exact this.mono fun e w' hh2=>⟨hh2.1,⟨hb2.trans (hh2.2.mono hb2.size),vr2,vk2,RX2.l hh2.2⟩,hSC w' (hb2.trans (hh2.2.mono hb2.size))⟩
  ·have hub:Au s.types (Cy ps ⟨op,na,nb,nc,nd⟩)=true:=by unfold Cy;rw[if_neg h11];rfl
   refine Adr vb x5 x6 x7 x8 op nb t0 t1' t2 t3 v0 v1 v2 v3 W _ _ _ _ _ _ _ _ _ _ _ _ _ _ _ _ _ _ _ _ _ _ _ _ _ _ _ _ _ _ _ _ _ _ _ _ _ _ _ _ _ _ _ _ _ _ _ _ _ _ _ _ _ _ _ _ _ _ _ _ _ _ _ _ _ _ _ _ _ _ _ _ _ _ _ _ _ _ _ _ _ _ _ _ _ _ _ _ _ _ _ _ _ _ _ _ _ (fun w'=>Below w3 w3 w'/\∃vr vk,Er (w3:Nat) x8 m w' rd (.slice ro m rc) vr vk) ?_ (hall.mono fun e w' hh=>⟨hh.1.1,⟨hB3d.trans hh.2,hh.1.2⟩,hS w' (hB3d.trans hh.2)⟩) (by simpa using h11) (hS _ hB3d);intro u40 u41 u42 u43 u44 u45 u46 u47 u48 u49 u50 u51 u52 u53 u54 u55 u56 u57 u58 u59 u60 u61 u62 u63 wx hbx;refine HK2.out _ _ ?_;clear HK2;obtain⟨hbx,vr2,vk2,RX⟩:=hbx;clear hall;have HGF:Hid (∀_:Unit,_):=fun _=>Oj ⟨op,na,nb,nc,nd⟩ ago agc s.guards.length s.guards wx rfl D.hs.few (Ah.w (D.RG.l (A7.o hbx)).at_ (yE _));unfold Nd.val at HGF;have n6:=(D.N.l hbx).cell;have a6:=(D.A.l hbx).cell;go_wp2_with fail;refine(HGF.out ()).mono ?_;rintro e w7 ⟨rfl,hw7⟩;have hB7:=(hbx).trans (hw7.mono (hbx).size);have R7:=(RX).l hw7;clear n6 a6 HGF;cases hgf:E9 ⟨op,na,nb,nc,nd⟩ s.guards
   ·have HRE:Hid (Gy ps ⟨op,na,nb,nc,nd⟩ i s c=.error (11,i)):=by show _=_;unfold Gy Ou;dsimp only;rw[hopN,hfo];dsimp only[Nd.fs];rw[hrd];dsimp only[Option.map,Rd.two];rw[hub,if_pos rfl,hgf];rfl
    have HR0:Hid (Blk w7 b0 #[(),(),()] 27):=D.R0.l hB7;have HO:Hid _:=hOff w7 hB7;clear hgf R7;have r9:=HR0.out.cell;have f9:=HR0.out.frozen;go_wp2_with fail;have c9:=(HR0.out.three (x':=(11:Int)) (y':=()) (z':=i)).cell;refine HQ.out _ _ (bodyPost_ret (v:=.agg #[(11:Int),(),i]) ?_ rfl ⟨?_,A65 HO.out hBW D.hb _ _ _⟩)
    ·simp[results,results104,go_sem,c9]
    ·rw[HRE.out];try rfl
   ·have HRE:Hid (Gy ps ⟨op,na,nb,nc,nd⟩ i s c=if Fx (Bc s.guards) rd.taken s.types (Hy [r0,r1,r2,r3] [na,nb,nc,nd] rd.types) then Al c (Fg ⟨op,na,nb,nc,nd⟩ i s (Hy [r0,r1,r2,r3] [na,nb,nc,nd] rd.types) (El ⟨op,na,nb,nc,nd⟩ s.guards)) else .error (12,i)):=by exact A4d (n:=⟨op,na,nb,nc,nd⟩) hopN hfo hrd hub hgf
    obtain⟨ko,kc,hko⟩:=Aa R7.taken;rw[hko]at R7;go_wp2;refine HK1.out _ _ ?_;exact Ae6 w0 B L vb sb db cao ccap ps p h c l i m op na nb nc nd s ao ago ac agc b0 x5 x6 x7 t0 t1' t2 t3 v0 v1 v2 v3 wS w3 x8 r0 r1 r2 r3 ro ko rc kc _ rd w7 _ _ _ _ _ _ _ _ _ _ _ _ _ _ _ _ _ _ _ _ _ _ _ _ _ _ _ _ _ _ _ _ _ _ _ _ _ _ _ _ _ _ _ _ _ _ _ _ _ _ _ _ _ _ _ _ _ _ _ _ _ _ _ _ _ _ _ _ _ _ _ _ _ _ _ _ _ _ _ _ _ _ _ _ _ _ _ _ _ _ _ _ _ _ _ (fun a' w' hb=>HQ.out a' w' (by rw[HRE.out];exact hb)) D hB7 R7 hrl.1 hrl.2 hgf e0 g0 f0 e1 g1 f1 e2 g2 f2 e3 g3 f3
theorem Acf{L:Nat} {l nb':Nat} (H:Es L vb sb db cao ccap ps p h w c l) (N:Blk w nb' #[op,na,nb,nc,nd] 81):w.cell? (vb,0)=some (.slice cao ps.length ccap)/\w.cell? (vb,1)=some (.string p.name)/\w.cell? (vb,2)=some (p.line:Value)/\w.cell? (vb,3)=some (p.params:Value)/\w.cell? (vb,4)=some (.bool p.rest)/\w.cell? (vb,5)=some (p.regs:Value)/\w.cell? (vb,6)=some (.slice h.uo p.ups.length h.uc)/\w.cell? (vb,7)=some (.slice h.co p.consts.length h.cc)/\w.cell? (vb,8)=some (.slice h.io p.ins.length h.ic)/\w.cell? (vb,9)=some (.slice h.no p.named.length h.nc)/\w.cell? (nb',0)=some (op:Value)/\w.cell? (nb',1)=some (na:Value)/\w.cell? (nb',2)=some (nb:Value)/\w.cell? (nb',3)=some (nc:Value)/\w.cell? (nb',4)=some (nd:Value):=
 ⟨H.blk.cell 0,H.blk.cell 1,H.blk.cell 2,H.blk.cell 3,H.blk.cell 4,H.blk.cell 5,H.blk.cell 6,H.blk.cell 7,H.blk.cell 8,H.blk.cell 9,N.cell 0,N.cell 1,N.cell 2,N.cell 3,N.cell 4⟩
theorem Ni (w:World) (B e:Nat):w.ownsRow B e 1 nS 0 (Az []):=⟨by simp[Az],.inl ⟨rfl,rfl⟩⟩
theorem Ac3 (w0:World) (B L vb sb db:Nat) (cao:Option Addr) (ccap:Nat) (ps:List Pd) (p:Pd) (h:Ph) (c:Cf) (l:Nat) (w:World) (i:Nat) (n:Nd) (s:St)
  (X:Zn w0 B L vb sb db ps p h) (H0:Es L vb sb db cao ccap ps p h w c l) (hl:l<=p.ins.length) (hL:L<=(w:Nat)) (hb0:Below w0 w0 w) (hok:L6 p c) (hi:p.ins[i]?=some n) (hs:c.st i=some s) (hv:Ad 0 w0 cao ps) (hu:∀u∈Cy ps n,u.loc=true->0<=u.idx/\u.idx<p.regs) (hul:(Cy ps n).length<=1048576) :
  Calls prog 104 #[.pointer vb,i] w (Ox B L vb sb db cao ccap ps p h w (Gy ps n i s c)):=by
 have hNF:=X.fit.fit i n hi;have hso:=hok.ok i s hs;have hil:=(yD.1 hi).1;have hsx:c.sts[i]?=some (some s):=by
  have hl2:i<c.sts.length:=by rw[hok.lenS];exact hil
  have:=hs;unfold Cf.st at this;rw[yR,yV hl2]at this;rw[yV hl2];simpa using this
 have hBw:=yI X.hBL hL;obtain⟨op,na,nb,nc,nd⟩:=n;have hoplo:=hNF.lo;have hophi:=hNF.hi;dsimp only at hoplo hophi;obtain⟨opN,hopn⟩:=yN (show 0<=op by omega);obtain⟨r0,r1,r2,r3,hfo,g0,g1,g2,g3⟩:=Lf (show opN<=42 by omega);have hfit:=hNF.fit;dsimp only at hfit;rw[hopn,Int.toNat_natCast,←Ls opN (by omega) (by omega),hfo]at hfit;simp only[List.map_cons,List.map_nil,Nd.fs,Da,yY]at hfit;obtain⟨f0,f1,f2,f3,_⟩:=hfit;have hfl:=fun W hF=>Qm cao ccap ps.length p h ⟨op,na,nb,nc,nd⟩ opN r0 r1 r2 r3 W hopn (by omega) hfo g0 g1 g2 g3 X.few X.hpl X.fit.regs hF;obtain⟨t0,v0,e0⟩:=Cb ps.length p r0 na;obtain⟨t1',v1,e1⟩:=Cb ps.length p r1 nb;obtain⟨t2,v2,e2⟩:=Cb ps.length p r2 nc;obtain⟨t3,v3,e3⟩:=Cb ps.length p r3 nd;dsimp only at hfl;rw[e0,e1,e2,e3]at hfl;unfold Pd.cells Nd.val at hfl;have BR:=Af (yA (w:Nat) w) (.cells #[(),(),()] 27);have HR:=H0.below BR;have R0:=Blk.new w #[(),(),()] 27;go_in;refine wk fun K0 HK0=>?_;go_wp2;refine HK0.out _ _ ?_;clear HK0;generalize w.alloc (.cells #[(),(),()] 27)=wR at *;obtain⟨ib,iof,hio,_,hibl,q0,q1,q2,q3,q4⟩:=(X.ins.l (A7.o (hb0.trans (BR.mono hb0.size)))) i _ hi;obtain⟨ao,ac,ago,agc,z0,z1,z2,RT,RG⟩:=HR.sts.at_ i (some s) hsx;dsimp only[stT,stG,Option.isSome]at z0 z1 z2 RT RG;have v8:=HR.blk.cell 8;simp only[List.getElem?_toArray,List.getElem?_cons_succ,List.getElem?_cons_zero]at v8;rw[hio]at v8;refine wp_seq_k ?_;intro K1 hK1;refine Aer vb sb ib iof i p h op na nb nc nd s ao ago ac agc wR _ _ _ _ _ _ _ _ _ _ _ _ _ _ _ _ _ _ _ _ _ _ _ _ _ _ _ _ _ _ _ _ _ _ _ _ _ _ _ _ _ _ _ _ _ _ _ _ _ _ _ _ _ _ _ _ _ _ _ _ _ _ _ _ _ _ _ _ _ _ _ _ _ _ _ _ _ _ _ _ _ _ _ _ _ _ _ _ _ _ _ _ _ _ _ _ _ _ _ _ ?_ (by omega) HR.blk.lt HR.sts.own.lt hibl v8 (HR.blk.cell 10) q0 q1 q2 q3 q4 z0 z1 z2;intro u10 u11 u12 u13 u14 u15 u16 u17 u18 u19 u20 u21 u22 u23 u24 x5 x6 wx hne h5 h6 N5 A6 bx;refine hK1 _ _ ?_;clear hK1;refine wp_seq_k ?_;intro K2 hK2;have Bx:=BR.trans (bx.mono BR.size);refine Aes vb x5 cao ccap ps p h op na nb nc nd t0 t1' t2 t3 v0 v1 v2 v3 wx _ _ _ _ _ _ _ _ _ _ _ _ _ _ _ _ _ _ _ _ _ _ _ _ _ _ _ _ _ _ _ _ _ _ _ _ _ _ _ _ _ _ _ _ _ _ _ _ _ _ _ _ _ _ _ _ _ _ _ _ _ _ _ _ _ _ _ _ _ _ _ _ _ _ _ _ _ _ _ _ _ _ _ _ _ _ _ _ _ _ _ _ _ _ _ _ _ _ _ _ ?_ ?_ ?_
 ·intro y25 y26 y27 y28 y29 y30 y31 y32 y33 y34 x7 wy h7 F7 bY;refine hK2 _ _ ?_;clear hK2;have Bxy:=bx.trans (bY.mono bx.size);have By:=BR.trans (Bxy.mono BR.size);have D:A82 w0 B L vb sb db cao ccap ps p h c l i s.types.length op na nb nc nd s ao ago ac agc (w:Nat) x5 x6 x7 t0 t1' t2 t3 v0 v1 v2 v3 w wy:=⟨X,H0.below By,hl,hL,hb0.trans (By.mono hb0.size),Off.o By hBw,hok,hi,hso,rfl,R0.l Bxy,N5.l bY,A6.l bY,F7,yB _,RT.l (A7.o Bxy),RG.l (A7.o Bxy)⟩;obtain⟨hm2,hmr⟩:=D.m2;have HCL:Hid (∀_:Unit,_):=fun _=>Lr ao ac s.types.length s.types wy rfl (by omega) RT.nil (Ah.w D.RT.at_ (yE _)) RT.form;have a6:=D.A.cell;have HD:Hid _:=D;clear D BR HR R0 q0 q1 q2 q3 q4 z0 z1 z2 v8 N5 A6 F7 bx bY Bx Bxy hfl;refine wk fun K3 HK3=>?_;go_wp2_with fail;refine(HCL.out ()).mono ?_;rintro e w8 ⟨vv,rfl,T8,hw8⟩;obtain⟨ro,rc,rfl⟩:=Aa T8;clear a6 HCL;go_wp2;refine HK3.out _ _ ?_;have hal:=(yA (w8:Nat) w8).alloc (yB _) (.cells #[.slice ro s.types.length rc,nS,nS] 299);have RX:Er (wy:Nat) (w8:Nat) s.types.length (w8.alloc (.cells #[.slice ro s.types.length rc,nS,nS] 299)) ⟨s.types,[],[]⟩ (.slice ro s.types.length rc) nS nS:=
   ⟨Blk.new w8 #[.slice ro s.types.length rc,nS,nS] 299,hw8.size,T8.alloc _,Ni _ _ _,Ni _ _ _,fun e=>by have:=(T8.lt _ e).2;omega,(by simp[Value.ownBlock]),(by simp[Value.ownBlock]),(by simp[Value.ownBlock]),(by simp[Value.ownBlock]),(by simp[Value.ownBlock])⟩
  exact Aev w0 B L vb sb db cao ccap ps p h c l i s.types.length op na nb nc nd s ao ago ac agc (w:Nat) x5 x6 x7 t0 t1' t2 t3 v0 v1 v2 v3 w wy (w8:Nat) r0 r1 r2 r3 opN ro rc _ _ _ _ _ _ _ _ _ _ _ _ _ _ _ _ _ _ _ _ _ _ _ _ _ _ _ _ _ _ _ _ _ _ _ _ _ _ _ _ _ _ _ _ _ _ _ _ _ _ _ _ _ _ _ _ _ _ _ _ _ _ _ _ _ _ _ _ _ _ _ _ _ _ _ _ _ _ _ _ _ _ _ _ _ _ _ _ _ _ _ _ _ _ _ _ _ _ (fun a' w' hb=>hb) HD.out (hw8.trans (hal.mono hw8.size)) RX (by rw[hopn];rfl) hfo hv hu hul e0 g0 f0 e1 g1 f1 e2 g2 f2 e3 g3 f3
 ·intro W2 hb2;have hbw:=Bx.trans (hb2.mono Bx.size);exact(hfl W2 (X.forms.l (hb0.trans (hbw.mono hb0.size)))).mono fun e w' hh=>⟨hh.1,hb2.trans (hh.2.mono hb2.size),hh.2⟩
 ·intro W2 hb2;have hbw:=Bx.trans (hb2.mono Bx.size);exact Acf (H0.below hbw) (N5.l hb2)
end Go.Proofs.YtjbbppblgjhapaaGreatDoor
