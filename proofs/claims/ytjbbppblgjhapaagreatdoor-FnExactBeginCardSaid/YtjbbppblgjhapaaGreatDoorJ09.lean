import Derived.Test.YtjbbppblgjhapaaGreatDoorJ07
set_option maxRecDepth 100000
set_option maxHeartbeats 4000000
namespace Go.Proofs.YtjbbppblgjhapaaGreatDoor
open Go.Deep Go.Proofs.Tryz Go.RowKit
variable{z:Array Value}{e:Bool}{c:Cf}{g q:Gd}{K keep x:Int}{gs:List Gd}{a b taken tk ts:List Int}{ps:List Pd}{i j k lo m n np pi r sb:Nat}{ao:Option Addr}{o:Option St}{p:Pd}{s s':Rd}{α:Type}{t:TypeId}{v:Value}{w w':World}
def stT (o:Option St):List Int:=match o with|none=>[]|some s=>s.types
def stG (o:Option St):List Gd:=match o with|none=>[]|some s=>s.guards
def StAt (lo:Nat) (w:World) (sb j:Nat) (o:Option St):Prop:=
 ∃to tc go gc,w.cell? (sb,j*3)=some (.bool o.isSome)/\w.cell? (sb,j*3+1)=some (.slice to (stT o).length tc)/\w.cell? (sb,j*3+2)=some (.slice go (stG o).length gc)/\Bl lo w to (stT o)/\Bn lo w go (stG o)
structure Jn (lo:Nat) (w:World) (sb:Nat) (sts:List (Option St)):Prop where
 own:Own w sb 146 (sts.length*3)
 at_:∀j o,sts[j]?=some o->StAt lo w sb j o
theorem StAt.l (h:StAt lo w sb j o) (hk:A7 lo w w') (hb:w'.heap[sb]?=w.heap[sb]?):StAt lo w' sb j o:=by obtain⟨to,tc,go,gc,h1,h2,h3,h4,h5⟩:=h;have hc:∀i,w'.cell? ⟨sb,i,none⟩=w.cell? ⟨sb,i,none⟩:=fun i=>yX (w:=w) (a:=⟨sb,i,none⟩) hb;exact⟨to,tc,go,gc,(hc _).trans h1,(hc _).trans h2,(hc _).trans h3,h4.l hk,h5.l hk⟩
theorem Jn.l {sts:List (Option St)} (h:Jn lo w sb sts) (hk:A7 lo w w') (hb:w'.heap[sb]?=w.heap[sb]?):Jn lo w' sb sts:=
 ⟨h.own.of_block hb,fun j o ho=>(h.at_ j o ho).l hk hb⟩
theorem Jn.below {sts:List (Option St)} (h:Jn lo w sb sts) (hb:Below w w w'):Jn lo w' sb sts:=h.l (A7.o hb) (hb.block sb h.own.lt)
theorem Ap{b:Nat} (h:i≠j):(w.setCell (b,i) v).cell? (b,j)=w.cell? (b,j):=by
 simp[World.cell?,World.setCell,Array.getElem?_modify];cases hb:w.heap[b]? with
 | none=>simp
 | some o=>cases o<;>simp[h]
theorem Fq{b:Nat} (h:Own w b t n) (hi:i<n):(w.setCell (b,i) v).cell? (b,i)=some v:=by obtain⟨c,hc,rfl⟩:=h;simp[World.cell?,World.setCell,Array.getElem?_modify,hc,hi]
theorem Jn.put {sts:List (Option St)} (h:Jn lo w sb sts) {x:Nat} (hx:x<sts.length) (hsb:sb<lo) {s:St} {to go:Option Addr} {tc gc:Nat} (ht:Bl lo w to s.types) (hg:Bn lo w go s.guards) :
  Jn lo (((w.setCell ⟨sb,x*3,none⟩ (.bool true)).setCell ⟨sb,x*3+1,none⟩ (.slice to s.types.length tc)).setCell ⟨sb,x*3+2,none⟩ (.slice go s.guards.length gc)) sb (sts.set x (some s)):=by
 have hk:A7 lo w (((w.setCell ⟨sb,x*3,none⟩ (.bool true)).setCell ⟨sb,x*3+1,none⟩ (.slice to s.types.length tc)).setCell ⟨sb,x*3+2,none⟩ (.slice go s.guards.length gc)):=
  (((A7.refl lo w).setCell (p:=⟨sb,x*3,none⟩) hsb _).setCell (p:=⟨sb,x*3+1,none⟩) hsb _).setCell (p:=⟨sb,x*3+2,none⟩) hsb _
 have ho:=((h.own.set (x*3) (true)).set (x*3+1) (.slice to s.types.length tc)).set (x*3+2) (.slice go s.guards.length gc);refine⟨by rw[List.length_set];exact ho,?_⟩;intro j o hj;rw[List.getElem?_set]at hj;by_cases hxj:x=j
 ·subst hxj;simp[hx]at hj;subst hj;have o1:=h.own.set (x*3) (true);have o2:=o1.set (x*3+1) (.slice to s.types.length tc);refine⟨to,tc,go,gc,?_,?_,Fq o2 (by omega),ht.l hk,hg.l hk⟩
  ·rw[Ap (by omega),Ap (by omega)];exact Fq h.own (by omega)
  ·rw[Ap (by omega)];exact Fq o1 (by omega)
 ·rw[if_neg hxj]at hj;obtain⟨to',tc',go',gc',h1,h2,h3,h4,h5⟩:=h.at_ j o hj;refine⟨to',tc',go',gc',?_,?_,?_,h4.l hk,h5.l hk⟩
  ·rw[Ap (by omega),Ap (by omega),Ap (by omega)];exact h1
  ·rw[Ap (by omega),Ap (by omega),Ap (by omega)];exact h2
  ·rw[Ap (by omega),Ap (by omega),Ap (by omega)];exact h3
theorem Tryz.info_State:(prog.info? 146).map (fun i=>(i.zero,i.size,i.bytes))=some (some (.agg #[false,nS,nS]),3,56):=by kernel_rfl
theorem Ns (hi:i<z.size) (hj:j*z.size+i<n):(madeCells z n)[j*z.size+i]?=z[i]?:=by
 have hm:(j*z.size+i)%z.size=i:=by rw[Nat.add_comm,Nat.add_mul_mod_self_right,Nat.mod_eq_of_lt hi]
 unfold madeCells;simp[hj,hm,hi]
theorem Ac4 (lo:Nat) (w:World) (n:Nat):Jn lo (w.alloc (.cells (madeCells #[false,nS,nS] (n*3)) 146)) (w:Nat) (List.replicate n none):=by
 refine⟨by simpa using Own.made w #[false,nS,nS] (n*3) 146,?_⟩;intro j o hj;rw[List.getElem?_replicate]at hj;split at hj
 ·rename_i hjn;obtain rfl:=(yO hj).symm;have hb:=blk_alloc_new w (.cells (madeCells #[false,nS,nS] (n*3)) 146);have hc:∀i,i<3->(w.alloc (.cells (madeCells #[false,nS,nS] (n*3)) 146)).cell? ⟨(w:Nat),j*3+i,none⟩=(#[false,nS,nS]:Array Value)[i]?:=by intro i hi;have:=Ns (z:=#[false,nS,nS]) (n:=n*3) (j:=j) (i:=i) (by simpa using hi) (by simp;omega);simp only[World.cell?,hb];simpa using this
  exact⟨none,0,none,0,hc 0 (by omega),hc 1 (by omega),hc 2 (by omega),fun i x hx=>by simp[stT]at hx,fun i x hx=>by simp[stG]at hx⟩
 ·cases hj
open Classical in
noncomputable def A5z (P:Nat->Prop) (N:Nat):Nat:=((List.range N).find? fun i=>decide (P i)).getD N
open Classical in
theorem Yx {E:Nat->Nat->Prop}{N:Nat} (h:Lp E N m):A5z (OnC E) N=m:=by
 unfold A5z;obtain⟨h1,h2⟩:=h;rcases h1 with rfl|⟨h3,h4⟩
 ·rw[List.find?_eq_none.2]
  ·rfl
  ·intro i hi;simp at hi ⊢;intro hc;have:=h2 i hi hc;omega
 ·have:(List.range N).find? (fun i=>decide (OnC E i))=some m:=by rw[List.find?_range_eq_some];refine⟨by simpa using h4,by simpa using h3,?_⟩;intro j hj;simp;intro hc;have:=h2 j (by omega) hc;omega
  rw[this];rfl
def Cf.E (c:Cf) (p:Pd) (a b:Nat):Prop:=(c.st a).isSome=true/\Sil p.ins a b
noncomputable def A75 (p:Pd) (c:Cf):Nat:=A5z (OnC (c.E p)) p.ins.length
noncomputable def Hw (ps:List Pd) (p:Pd) (pi:Nat):Int×Int×Int:=
 match Gu ps p (2*p.ins.length+2) (Dc p) with
 | .error (k,x)=>(k,pi,x)
 | .ok c=>if A75 p c<p.ins.length then (14,pi,A75 p c) else (0,0,0)
theorem Wt{x:Nat} (h:Gu ps p (2*p.ins.length+2) (Dc p)=.error (k,x)):Hw ps p pi=((k:Int),(pi:Int),(x:Int)):=by unfold Hw;rw[h]
theorem Zf (h:Gu ps p (2*p.ins.length+2) (Dc p)=.ok c) (hm:Lp (c.E p) p.ins.length m) (hl:m<p.ins.length):Hw ps p pi=(14,(pi:Int),(m:Int)):=by unfold Hw A75;rw[h];dsimp only;rw[Yx hm,if_pos hl]
theorem Zg (h:Gu ps p (2*p.ins.length+2) (Dc p)=.ok c) (hm:Lp (c.E p) p.ins.length p.ins.length):Hw ps p pi=(0,0,0):=by unfold Hw A75;rw[h];dsimp only;rw[Yx hm,if_neg (Nat.lt_irrefl _)]
theorem Pi (hp:Oz np p):((Dz p).length:Int)=p.regs:=by have h1:=hp.regs;have h2:=hp.params;unfold Dz;dsimp only;split<;>simp<;>omega
theorem A4c (hp:Oz np p):L6 p (Dc p)/\Hl p (Dc p) none/\(Dc p).meas<2*p.ins.length+2:=by
 have hs:=hp.some;have hst:∀i,(Dc p).st i=if 0=i then some ⟨Dz p,[]⟩ else none:=by
  intro i;have:=Si ⟨List.replicate p.ins.length none,[]⟩ 0 i ⟨Dz p,[]⟩ ((List.replicate p.ins.length false).set 0 true);unfold Dc;rw[this];unfold Cf.st;simp only[List.length_replicate,yR,List.getElem?_replicate];by_cases h0:0=i
  ·rw[if_pos ⟨h0,hs⟩,if_pos h0]
  ·rw[if_neg (fun h=>h0 h.1),if_neg h0];split<;>rfl
 have hdu:∀i,(Dc p).due.getD i false=if 0=i then true else false:=by
  intro i;unfold Dc;rw[Ko];simp only[List.length_replicate,yR,List.getElem?_replicate];by_cases h0:0=i
  ·rw[if_pos ⟨h0,hs⟩,if_pos h0]
  ·rw[if_neg (fun h=>h0 h.1),if_neg h0];split<;>rfl
 refine⟨⟨by simp[Dc],by simp[Dc],?_,?_⟩,?_,?_⟩
 ·intro i s hi;rw[hst]at hi;split at hi
  ·obtain rfl:=yO hi;exact⟨Pi hp,by simp,by simp⟩
  ·cases hi
 ·intro i hi;rw[hdu]at hi;rw[hst];split at hi
  ·rename_i h;rw[if_pos h];rfl
  ·cases hi
 ·intro i n hn hi hd;rw[hst]at hi;rw[hdu]at hd;split at hi
  ·rename_i h;rw[if_pos h]at hd;cases hd
  ·cases hi
 ·unfold Cf.meas Dc;dsimp only;have h1:Py ((List.replicate p.ins.length none).set 0 (some ⟨Dz p,[]⟩))<=p.ins.length:=by unfold Py;exact yI (List.length_filter_le _ _) (by simp)
  have h2:=@Yp (List.replicate p.ins.length false) 0;have h3:Tu (List.replicate p.ins.length false)=0:=by unfold Tu;simp
  omega
theorem Aaf (hk:Hl p c none) (hd:∀i,c.due.getD i false=false) (i:Nat):OnC (c.E p) i ↔ ((c.st i).isSome=true/\OnC (Sil p.ins) i):=by refine Ad7 (fun a b=>Iff.rfl) ?_;rintro a b ha ⟨n,hn,hb⟩;exact hk a n hn ha (hd a) (by simp) b hb
theorem A5p (h:gs[k]?=some g) :
  Gs e tk b a (gs.drop k)=((!g.tr||(Di g.keep tk&&((e&&(gs.drop (k+1)).isEmpty)||Dr g.keep b a)))&&Gs e tk b a (gs.drop (k+1))):=by
 rw[Ao h];rfl
theorem Oo (h:tk[j]?=some x):Di keep (tk.drop j)=(!decide (x<keep)&&Di keep (tk.drop (j+1))):=by rw[Ao h];rfl
theorem A9f (h:∀j:Nat,(j:Int)<K->b[j]?=a[j]?):Dr K b a=true:=by
 unfold Dr;rw[decide_eq_true_iff];apply List.ext_getElem?;intro j;rw[List.getElem?_take,List.getElem?_take];split
 ·exact h j (by omega)
 ·rfl
theorem A6i{y:Int} (hj:(j:Int)<K) (hx:b[j]?=some x) (hy:a[j]?=some y) (hn:¬x=y):Dr K b a=false:=by
 unfold Dr;rw[decide_eq_false_iff_not];intro h;have:=congrArg (fun l=>l[j]?) h;have hj':j<K.toNat:=by omega
 simp only[List.getElem?_take,if_pos hj',hx,hy,Option.some.injEq]at this;exact hn this
theorem A57 {l:List α} (hk:k<l.length):(l.drop (k+1)).isEmpty=decide (k+1=l.length):=by rw[Bool.eq_iff_iff,List.isEmpty_iff,List.drop_eq_nil_iff,decide_eq_true_iff];omega
theorem A5t (n:Nd) (go to bo ao:Option Addr) (gc tc bc ac:Nat) (gs:List Gd) (tk bs cs:List Int) (w:World) (hg:gs.length<=50) (ht:tk.length<=1000) (hb1:bs.length<=250) (hla:cs.length=bs.length) (hk:∀g∈gs,g.keep<=bs.length)
  (h1:Bn 0 w go gs) (h2:Bl 0 w to tk) (h3:Bl 0 w bo bs) (h4:Bl 0 w ao cs) :
  Kw 90 #[n.val,.slice go gs.length gc,.slice to tk.length tc,.slice bo bs.length bc,.slice ao cs.length ac] w (.bool (Tc n gs tk bs cs)):=by
 have HLA:Hid _:=hla;have HK:Hid _:=hk;clear hla hk;obtain⟨op,a,b,c,d⟩:=n;unfold Nd.val Tc;dsimp only;have N0:=Blk.new w #[op,a,b,c,d] 81;have B0:=(yA (w:Nat) w).alloc (yB _) (.cells #[op,a,b,c,d] 81);unfold Kw;go_in;go_wp2;go_loopw [18] (fun y wr=>∃k:Nat,k<=gs.length/\y=k/\Hid (Gs (op==32) tk bs cs (gs.drop k)=Gs (op==32) tk bs cs gs)/\Below w w wr/\Blk wr (w:Nat) #[op,a,b,c,d] 81) (fun y _=>gs.length-(intOf y).toNat);case atStart=>exact⟨0,yE _,rfl,rfl,B0,N0⟩
 case round=>
  obtain⟨k,hk,rfl,HQ,hb,N1⟩:=hrel;clear B0 N0;by_cases hkl:k<gs.length
  ·obtain⟨x,hxk⟩:=A8 hkl;obtain⟨bb,off,rfl,_,hbl,q0,q1,q2⟩:=h1.l (A7.o hb) k x hxk;have HD:Hid _:=HQ.out.symm.trans (A5p hxk);rw[A57 hkl]at HD;have HX:Hid _:=HK.out x (yH hxk);have hba:=fun o=>hb.alloc hb.size o;obtain⟨x0,x1,x2⟩:=x;dsimp only at *;have n1:=N1.cell;clear hxk HQ;cases x0
   ·have HN:Hid (Gs (op==32) tk bs cs (gs.drop (k+1))=Gs (op==32) tk bs cs gs):=by show _=_;rw[HD.out];simp
    clear HD;go_wp2;go_roundw;case rel=>exact⟨k+1,by omega,by go_num,HN.out,hba _,N1.alloc _⟩
    case measure=>simp[intOf];omega
   ·have G1:=Blk.new wr #[true,x1,x2] 280;have N1a:=N1.alloc (.cells #[true,x1,x2] 280);have B1a:=hba (.cells #[true,x1,x2] 280);go_wp2_with fail;clear n1 q0 q1 q2 hba hbl;generalize hGB:(wr:Nat)=GB at *;clear hGB;go_loopw [28] (fun y wi=>∃j:Nat,j<=tk.length/\y=j/\Hid (Di x1 (tk.drop j)=Di x1 tk)/\Below w w wi/\Blk wi (w:Nat) #[op,a,b,c,d] 81/\Blk wi GB #[true,x1,x2] 280) (fun y _=>tk.length-(intOf y).toNat);case atStart=>exact⟨0,yE _,rfl,rfl,B1a,N1a,G1⟩
    case round=>
     obtain⟨j,hj,rfl,HQ2,hb2,N2,G2⟩:=hrel;clear N1 N1a B1a G1 hb;have g2:=G2.cell;have n2:=N2.cell;by_cases hjl:j<tk.length
     ·obtain⟨t,htk⟩:=A8 hjl;obtain⟨bb,off,rfl,_,hbl2,p0⟩:=h2.l (A7.o hb2) j t htk;unfold Ho at p0;rw[Nat.mul_one]at p0;have HD2:Hid _:=HQ2.out.symm.trans (Oo htk);clear htk HQ2;by_cases hlt:t<x1
      ·have HN:Hid (Gs (op==32) tk bs cs gs=false):=by show _=_;rw[HD.out,HD2.out];simp[hlt]
       clear HD HD2;go_wp2;go_ret;exact⟨Ab HN.out.symm,hb2⟩
      ·have HN:Hid (Di x1 (tk.drop (j+1))=Di x1 tk):=by show _=_;rw[HD2.out];simp[hlt]
       clear HD2;go_wp2;go_roundw;case rel=>exact⟨j+1,by omega,by go_num,HN.out,hb2,N2,G2⟩
       case measure=>simp[intOf];omega
     ·have HT:Hid (Di x1 tk=true):=by have h:=HQ2.out;rw[yQ (by omega)]at h;exact h.symm
      clear HQ2;by_cases hend:op=32/\k+1=gs.length
      ·have HN:Hid (Gs (op==32) tk bs cs (gs.drop (k+1))=Gs (op==32) tk bs cs gs):=by show _=_;rw[HD.out,HT.out,hend.1];simp[hend.2]
       obtain⟨rfl,hend2⟩:=hend;have k1:((k:Int)==(gs.length:Int)-1)=true:=by simp;omega
       clear HD HT hend2;go_wp2;go_roundw;case rel=>exact⟨k+1,by omega,by go_num,HN.out,hb2,N2⟩
       case measure=>simp[intOf];omega
      ·have HS:Hid (Gs (op==32) tk bs cs gs=(Dr x1 bs cs&&Gs (op==32) tk bs cs (gs.drop (k+1)))):=by
        show _=_;rw[HD.out,HT.out];have:((op==32)&&decide (k+1=gs.length))=false:=by
         by_cases h32:op=32
         ·have:¬(k+1=gs.length):=fun h=>hend ⟨h32,h⟩;simp[this]
         ·simp[h32]
        rw[this];simp
       have k1:(op==32)=false∨((op==32)=true/\((k:Int)==(gs.length:Int)-1)=false):=by
        by_cases h32:op=32
        ·exact .inr ⟨by simpa using h32,by simp;omega⟩
        ·exact .inl (by simpa using h32)
       have HE:Hid (∀W,Below w w W->Blk W (w:Nat) #[op,a,b,c,d] 81->True):=fun _ _ _=>trivial;clear HD HT hend HE;rcases k1 with k1|⟨k1,k2⟩;all_goals
        go_wp2;go_loopw [15] (fun y wi=>∃r:Nat,y=r/\r<=bs.length/\Hid (∀j:Nat,j<r->bs[j]?=cs[j]?)/\Below w w wi/\Blk wi (w:Nat) #[op,a,b,c,d] 81/\Blk wi GB #[true,x1,x2] 280) (fun y _=>bs.length-(intOf y).toNat);case atStart=>exact⟨0,rfl,yE _,fun j hj=>absurd hj (Nat.not_lt_zero _),hb2,N2,G2⟩
        case round=>
         obtain⟨r,rfl,hrl,HR,hb3,N3,G3⟩:=hrel;clear g2 n2 N2 G2 hb2;have g3:=G3.cell;by_cases hrk:(r:Int)<x1
         ·have hrb:r<bs.length:=by have:=HX.out;omega
          have hra:r<cs.length:=by have:=HLA.out;omega
          obtain⟨x,hxr⟩:=A8 hrb;obtain⟨y,hyr⟩:=A8 hra;obtain⟨bb,off,rfl,_,hbl3,p0⟩:=h3.l (A7.o hb3) r x hxr;obtain⟨bb',off',rfl,_,hbl4,p1⟩:=h4.l (A7.o hb3) r y hyr;unfold Ho at p0 p1;rw[Nat.mul_one]at p0 p1;have k3:(r:Int)<bs.length:=by omega
          have k4:(r:Int)<cs.length:=by omega
          by_cases hxy:x=y
          ·have HN:Hid (∀j:Nat,j<r+1->bs[j]?=cs[j]?):=by
            intro j hj;by_cases hjr:j=r
            ·rw[hjr,hxr,hyr,hxy]
            ·exact HR.out j (by omega)
           subst hxy;clear HR hxr hyr;go_wp2_with fail;go_quiet (fail);go_wp2;go_roundw;case rel=>exact⟨r+1,by go_num,by omega,HN.out,below_drewN hb3 _,N3,G3⟩
           case measure=>simp[intOf];omega
          ·have HN:Hid (Gs (op==32) tk bs cs gs=false):=by show _=_;rw[HS.out,A6i hrk hxr hyr hxy];rfl
           have k5:(x !=y)=true:=by simpa using hxy
           clear HR hxr hyr hxy;go_wp2_with fail;go_quiet (fail);go_wp2;go_ret;exact⟨Ab HN.out.symm,below_drewN hb3 _⟩
         ·have HN:Hid (Gs (op==32) tk bs cs (gs.drop (k+1))=Gs (op==32) tk bs cs gs):=by show _=_;rw[HS.out,A9f fun j hj=>HR.out j (by omega)];rfl
          clear HR;go_wp2;go_roundw;case rel=>exact⟨k+1,by omega,by go_num,HN.out,hb3,N3⟩
          case measure=>simp[intOf];omega
  ·have HN:Hid (Gs (op==32) tk bs cs gs=true):=by have h:=HQ.out;rw[yQ (by omega)]at h;exact h.symm
   clear HQ;go_wp2;go_ret;exact⟨Ab HN.out.symm,hb⟩
section
variable {w:World} {ops:Array Oper} {rest:List Oper} {o:Oper} {a:Act} {Q:Exit→Act→World→Prop}
theorem Df (hgd:o.guard=none) (s x:Operand) (ho:o.op=.call {callee:=.builtin .append,args:=#[s,x],argTypes:=#[99,99]})
  (base:Nat) (v:Value) (n:Nat) (xs:List Int) (u:Int) (B:Nat) (hs:a.eval s=v) (hown:w.ownsRow base 3 1 v n (Az xs)) (hx:a.eval x=.slice B 1 1) (hB:w.cell? (B,0)=some (u:Value))
  (hn:n<=1048576) (hbase:base<=(w:Nat))
  (h:∀v' w',w'.ownsRow base 3 1 v' (n+1) (Az (xs++[u]))->w.grownBy w' v.ownBlock->(v'.ownBlock=v.ownBlock∨v'.ownBlock=some (w:Nat))->wpList prog ops Q rest (a.put o.dst v') w'):wpList prog ops Q (o::rest) a w:=by
 obtain⟨i0,hi,hz0,hz1,hz2⟩:=info_parts Tryz.info_int;refine wpList_append_own_at w hgd s x 99 ho base 3 i0 () 1 8 underlying99 hi hz0 hz1 hz2 rfl (by decide) v n (Az xs) hs hown ⟨B,0,none⟩ 1 1 [u] hx rfl ?_ ?_ (by unfold maxLen;omega) (by omega) hbase ?_
 ·intro j q hj
  match j,hj with
  | 0,hj=>simp at hj;subst hj;simpa[Addr.add]using hB
 ·intro q hq;simp at hq;subst hq;rfl
 ·intro v' w' h1 h2 _ h4;refine h v' w' ?_ h2 h4;rw[Ta];exact h1
theorem Aa5 (hgd:o.guard=none) (s x:Operand) (ho:o.op=.call {callee:=.builtin .append,args:=#[s,x],argTypes:=#[144,144]})
  (base:Nat) (v:Value) (n:Nat) (xs:List Gd) (u:Gd) (B:Nat) (hs:a.eval s=v) (hown:w.ownsRow base 280 3 v n (gds xs)) (hx:a.eval x=.slice B 1 1) (hB:GdAt w B 0 u)
  (hn:n<=1048576) (hbase:base<=(w:Nat))
  (h:∀v' w',w'.ownsRow base 280 3 v' (n+1) (gds (xs++[u]))->w.grownBy w' v.ownBlock->(v'.ownBlock=v.ownBlock∨v'.ownBlock=some (w:Nat))->wpList prog ops Q rest (a.put o.dst v') w'):wpList prog ops Q (o::rest) a w:=by
 obtain⟨i0,hi,hz0,hz1,hz2⟩:=info_parts Tryz.info_Guard;obtain⟨b0,b1,b2⟩:=hB;refine wpList_append_own_at w hgd s x 144 ho base 280 i0 (.agg #[false,(),()]) 3 24 underlying144 hi hz0 hz1 hz2 rfl (by decide) v n (gds xs) hs hown ⟨B,0,none⟩ 1 1 u.vals hx rfl ?_ ?_ (by unfold maxLen;omega) (by omega) hbase ?_
 ·intro j q hj
  match j,hj with
  | 0,hj=>simp[Gd.vals]at hj;subst hj;simpa[Addr.add]using b0
  | 1,hj=>simp[Gd.vals]at hj;subst hj;simpa[Addr.add]using b1
  | 2,hj=>simp[Gd.vals]at hj;subst hj;simpa[Addr.add]using b2
 ·intro q hq;simp[Gd.vals]at hq;rcases hq with rfl|rfl|rfl<;>rfl
 ·intro v' w' h1 h2 _ h4;refine h v' w' ?_ h2 h4;rw[Ju];simpa[gds]using h1
end
def Gf (w:World) (r:Option (List Gd)) (e:Ending) (w':World):Prop:=
 match r with
 | none=>∃v,e=.returned (.tuple #[v,false])
 | some gs=>∃ao cap,e=.returned (.tuple #[.slice ao gs.length cap,true])/\Bn (w:Nat) w' ao gs
theorem Ah.dropLast {at1:Nat->Nat->α->Prop} {xs:List α} (h:Ah lo w ao k at1 xs):Ah lo w ao k at1 xs.dropLast:=by
 intro i x hx;refine h i x ?_;rw[List.dropLast_eq_take,List.getElem?_take]at hx;split at hx
 ·exact hx
 ·cases hx
theorem Ah.take {at1:Nat->Nat->α->Prop} {xs:List α} (h:Ah lo w ao k at1 xs) (n:Nat):Ah lo w ao k at1 (xs.take n):=by
 intro i x hx;refine h i x ?_;rw[List.getElem?_take]at hx;split at hx
 ·exact hx
 ·cases hx
theorem Gj (ao:Option Addr) (cap m:Nat) (gs:List Gd) (w:World) (hm:Hid (gs.length=m)) (hml:m<=50) (hx:Bn 0 w ao gs) :
  Calls prog 92 #[.slice ao m cap] w fun e w'=>∃v,e=.returned v/\w'.ownsRow (w:Nat) 280 3 v m (gds gs)/\Below w w w':=by
 obtain rfl:=hm.out;exact Qq ao cap gs w (by omega) hx
theorem Pn (ao:Option Addr) (cap m:Nat) (gs:List Gd) (keep:Int) (w:World) (hm:Hid (gs.length=m)) (hml:m<=50) (hx:Bn 0 w ao gs) :
  Kw 171 #[.slice ao m cap,keep] w (.bool (Dt gs keep)):=by
 obtain rfl:=hm.out;exact A2z ao cap gs keep w (by omega) hx
theorem Lg{base:Nat} (h:w.ownsRow base 280 3 v (k+1) (gds gs)) (hm:gs.length=k+1) :
  ∃g cap q,v=.slice (some ⟨g,0,none⟩) (k+1) cap/\base<=g/\g<(w:Nat)/\k+1<=cap/\gs[k]?=some q/\GdAt w g (k*3) q/\(∀i,w.frozen? ⟨g,i,none⟩=false)/\Bn base w (some ⟨g,0,none⟩) gs/\
   (∀x,(w.setCell (g,k*3+1) (.int .i64 x)).ownsRow base 280 3 v (k+1) ((gds gs).set (k*3+1) (.int .i64 x))):=by
 obtain⟨q,hq⟩:=A8 (show k<gs.length by omega);rcases Ce h with ⟨h1,h2⟩|⟨g,cap,rfl,h2,h3⟩
 ·omega
 ·obtain⟨G1,G2⟩:=Jz h;have hcap:k+1<=cap:=by
   obtain⟨_,hh|⟨g',cap',cur,e1,_,_,hc,_⟩⟩:=h
   ·obtain⟨hh,_⟩:=hh;cases hh
   ·simp only[Value.slice.injEq]at e1;omega
  refine⟨g,cap,q,rfl,h2,h3,hcap,hq,?_,fun i=>h.frozenAt i,G1,?_⟩
  ·obtain⟨b,off,e,_,_,hg⟩:=G1 k q hq;simp at e;obtain⟨rfl,rfl⟩:=e;simpa using hg
  ·intro x;exact(h.stored (k*3+1) x).1
theorem Y9 (ys:List Gd) (q:Gd) (f:Gd->Gd):(ys++[q]).modify ys.length f=ys++[f q]:=by
 induction ys with
 | nil=>rfl
 | cons a r ih=>
  show a::(r++[q]).modify r.length f=_;rw[ih];rfl
theorem A79 (hm:gs.length=k+1) (x:Int):(gds gs).set (k*3+1) x=gds (Eu gs x):=by obtain⟨ys,q,rfl⟩:∃ys q,gs=ys++[q]:=⟨gs.dropLast,gs.getLast (by intro h;subst h;simp at hm),(List.dropLast_concat_getLast _).symm⟩;simp at hm;subst hm;unfold Eu;rw[Ju,List.set_append_right _ _ (by rw[Ij];omega),Ij];rw[show (ys++[q]).length-1=ys.length by simp];rw[Y9,Ju];congr 1;simp[gds,Gd.vals]
theorem Ev (hm:gs.length=k+1) (hq:gs[k]?=some q):Cz gs=some q.tr:=by unfold Cz;rw[List.getLast?_eq_getElem?,hm];simp[hq]
theorem A30 (a b c d:Int) (ao:Option Addr) (cap m:Nat) (gs:List Gd) (w:World) (hm:Hid (gs.length=m)) (hml:m<=50) (hx:Bn 0 w ao gs) :
  Calls prog 88 #[.agg #[(31:Int),a,b,c,d],.slice ao m cap] w fun e w'=>Gf w (Aw ⟨31,a,b,c,d⟩ gs) e w'/\Below w w w':=by
 have N0:=Blk.new w #[(31:Int),a,b,c,d] 81;have B0:=(yA (w:Nat) w).alloc (yB _) (.cells #[(31:Int),a,b,c,d] 81);have HC:Hid (Aw ⟨31,a,b,c,d⟩ gs=if decide (m<50)&&Dt gs b then some (gs++[(⟨true,b,a⟩:Gd)]) else none):=by show _=_;rw[←hm.out];rfl
 go_in;go_wp2_with fail;refine(Gj ao cap m gs _ hm hml (hx.l (A7.o B0))).mono ?_;rintro e w1 ⟨v,rfl,hown,hw1⟩;have B1:=B0.trans (hw1.mono (by simp));have N1:=N0.l hw1;have H1:=Ct hown (A7.refl _ _);have hbw:(w:Nat)<=(w.alloc (.cells #[(31:Int),a,b,c,d] 81)).heap.size:=by simp
 have n1:=N1.cell;obtain⟨ao1,cap1,rfl⟩:=Aa hown;clear hw1 N0 B0 hown;go_wp2_with (at_builtin;refine Aa5 rfl _ _ rfl _ _ m gs (⟨true,b,a⟩:Gd) (w1:Nat) rfl (H1.alloc _) rfl ?c1 (by omega) ?c2 ?_);case c1=>exact⟨by simp,by simp,by simp⟩
 case c2=>have:=B1.size;have:=N1.lt;simp at *;omega
 ·intro v' w2 H2 G2 _;obtain⟨ao2,cap2,rfl⟩:=Aa H2;have B2:Below w w w2:=(B1.alloc B1.size _).grown G2 (by have:=B1.size;simp;omega) (fun k hk=>by have:=(H1.lt k hk).1;omega);have n2:=(Am (N1.alloc _) G2 (by intro e;have:=(H1.lt _ e.symm).1;rw[show (w.alloc (.cells #[(31:Int),a,b,c,d] 81)).heap.size=(w:Nat)+1 by simp]at this;omega)).cell;have hx2:=hx.l (A7.o B2);have HG:Hid (Bn (w:Nat) w2 ao2 (gs++[(⟨true,b,a⟩:Gd)])):=Ah.w (Jz H2).1 (by simp);clear n1 N1 H1 G2 B1 H2;by_cases hl:m<50
  ·have k1:(m:Int)<50:=by omega
   go_wp2_with fail;refine(Pn ao cap m gs b w2 hm hml hx2).mono ?_;rintro e w3 ⟨rfl,hw3⟩;have B3:=B2.trans (hw3.mono B2.size);go_wp2;go_ret2;refine⟨?_,B3⟩;rw[HC.out];simp only[hl,decide_true,Bool.true_and];cases Dt gs b
   ·exact⟨_,rfl⟩
   ·refine⟨ao2,cap2,?_,HG.out.l (A7.o hw3)⟩;have e1:(gs++[(⟨true,b,a⟩:Gd)]).length=m+1:=by have:=hm.out;simp;omega
    rw[e1];rfl
  ·have k1:¬(m:Int)<50:=by omega
   go_wp2;go_ret2;refine⟨?_,B2⟩;rw[HC.out];simp only[hl,decide_false,Bool.false_and];exact⟨_,rfl⟩
theorem A32 (a b c d:Int) (ao:Option Addr) (cap m:Nat) (gs:List Gd) (w:World) (hm:Hid (gs.length=m)) (hml:m<=50) (hx:Bn 0 w ao gs) :
  Calls prog 88 #[.agg #[(33:Int),a,b,c,d],.slice ao m cap] w fun e w'=>Gf w (Aw ⟨33,a,b,c,d⟩ gs) e w'/\Below w w w':=by
 have N0:=Blk.new w #[(33:Int),a,b,c,d] 81;have B0:=(yA (w:Nat) w).alloc (yB _) (.cells #[(33:Int),a,b,c,d] 81);have HC:Hid (Aw ⟨33,a,b,c,d⟩ gs=if decide (m<50)&&Dt gs a then some (gs++[(⟨false,a,0⟩:Gd)]) else none):=by show _=_;rw[←hm.out];rfl
 go_in;go_wp2_with fail;refine(Gj ao cap m gs _ hm hml (hx.l (A7.o B0))).mono ?_;rintro e w1 ⟨v,rfl,hown,hw1⟩;have B1:=B0.trans (hw1.mono (by simp));have N1:=N0.l hw1;have H1:=Ct hown (A7.refl _ _);have hbw:(w:Nat)<=(w.alloc (.cells #[(33:Int),a,b,c,d] 81)).heap.size:=by simp
 have n1:=N1.cell;obtain⟨ao1,cap1,rfl⟩:=Aa hown;clear hw1 N0 B0 hown;go_wp2_with (at_builtin;refine Aa5 rfl _ _ rfl _ _ m gs (⟨false,a,0⟩:Gd) (w1:Nat) rfl (H1.alloc _) rfl ?c1 (by omega) ?c2 ?_);case c1=>exact⟨by simp,by simp,by simp⟩
 case c2=>have:=B1.size;have:=N1.lt;simp at *;omega
 ·intro v' w2 H2 G2 _;obtain⟨ao2,cap2,rfl⟩:=Aa H2;have B2:Below w w w2:=(B1.alloc B1.size _).grown G2 (by have:=B1.size;simp;omega) (fun k hk=>by have:=(H1.lt k hk).1;omega);have n2:=(Am (N1.alloc _) G2 (by intro e;have:=(H1.lt _ e.symm).1;rw[show (w.alloc (.cells #[(33:Int),a,b,c,d] 81)).heap.size=(w:Nat)+1 by simp]at this;omega)).cell;have hx2:=hx.l (A7.o B2);have HG:Hid (Bn (w:Nat) w2 ao2 (gs++[(⟨false,a,0⟩:Gd)])):=Ah.w (Jz H2).1 (by simp);clear n1 N1 H1 G2 B1 H2;by_cases hl:m<50
  ·have k1:(m:Int)<50:=by omega
   go_wp2_with fail;refine(Pn ao cap m gs a w2 hm hml hx2).mono ?_;rintro e w3 ⟨rfl,hw3⟩;have B3:=B2.trans (hw3.mono B2.size);go_wp2;go_ret2;refine⟨?_,B3⟩;rw[HC.out];simp only[hl,decide_true,Bool.true_and];cases Dt gs a
   ·exact⟨_,rfl⟩
   ·refine⟨ao2,cap2,?_,HG.out.l (A7.o hw3)⟩;have e1:(gs++[(⟨false,a,0⟩:Gd)]).length=m+1:=by have:=hm.out;simp;omega
    rw[e1];rfl
  ·have k1:¬(m:Int)<50:=by omega
   go_wp2;go_ret2;refine⟨?_,B2⟩;rw[HC.out];simp only[hl,decide_false,Bool.false_and];exact⟨_,rfl⟩
theorem A31 (a b c d:Int) (ao:Option Addr) (cap m:Nat) (gs:List Gd) (w:World) (hm:Hid (gs.length=m)) (hml:m<=50) (hx:Bn 0 w ao gs) :
  Calls prog 88 #[.agg #[(32:Int),a,b,c,d],.slice ao m cap] w fun e w'=>Gf w (Aw ⟨32,a,b,c,d⟩ gs) e w'/\Below w w w':=by
 have N0:=Blk.new w #[(32:Int),a,b,c,d] 81;have B0:=(yA (w:Nat) w).alloc (yB _) (.cells #[(32:Int),a,b,c,d] 81);have HC:Hid (Aw ⟨32,a,b,c,d⟩ gs=if Cz gs=some true then some gs.dropLast else none):=by show _=_;unfold Aw;simp
 go_in;go_wp2_with fail;refine(Gj ao cap m gs _ hm hml (hx.l (A7.o B0))).mono ?_;rintro e w1 ⟨v,rfl,hown,hw1⟩;have B1:=B0.trans (hw1.mono (by simp));have n1:=(N0.l hw1).cell;have N1:=N0.l hw1;have hx1:=hx.l (A7.o B1);clear hw1 N0 B0;rcases m with _|k
 ·obtain⟨ao1,cap1,rfl⟩:=Aa hown;clear hown;have HN:Hid (Aw ⟨32,a,b,c,d⟩ gs=none):=by have:gs=[]:=yW.1 hm.out;show _=_;rw[HC.out,this];simp[Cz]
  clear HC;go_wp2;go_ret2;refine⟨?_,B1⟩;rw[HN.out];exact⟨_,rfl⟩
 ·obtain⟨g,cap1,q,rfl,hg1,hg2,hcap,hq,hqa,hfr,HG0,HS⟩:=Lg hown hm.out;have HL:Hid _:=Ev hm.out hq;have HG:Hid (Bn (w:Nat) w1 g gs):=Ah.w HG0 (by simp);have hgw:(w:Nat)<g:=by simp at hg1;omega
  obtain⟨q0,q1,q2⟩:=hqa;obtain⟨t0,t1,t2⟩:=q;dsimp only at *;have HSS:Hid _:=HS;have HF:Hid _:=hfr;have k1:((k:Int)+1-1)=k:=by omega
  have k2:(k:Int)<=cap1:=by omega
  have k3:(((k:Int)+1)==0)=false:=by simp;omega
  clear hq HS HG0 hown hfr hg1;cases t0
  ·have HN:Hid (Aw ⟨32,a,b,c,d⟩ gs=none):=by show _=_;rw[HC.out,HL.out];simp
   clear HC HL HG HSS HF;go_wp2;go_ret2;refine⟨?_,B1⟩;rw[HN.out];exact⟨_,rfl⟩
  ·have HN:Hid (Aw ⟨32,a,b,c,d⟩ gs=some gs.dropLast):=by show _=_;rw[HC.out,HL.out];simp
   have HK:Hid (gs.dropLast.length=k):=by show _=_;have:=hm.out;simp;omega
   clear HC HL HSS HF hgw;go_wp2;go_ret2;refine⟨?_,B1⟩;rw[HN.out];refine⟨some ⟨g,0,none⟩,cap1,?_,Ah.dropLast HG.out⟩;rw[HK.out];rfl
theorem A35 (a b c d:Int) (ao:Option Addr) (cap m:Nat) (gs:List Gd) (w:World) (hm:Hid (gs.length=m)) (hml:m<=50) (hx:Bn 0 w ao gs) :
  Calls prog 88 #[.agg #[(36:Int),a,b,c,d],.slice ao m cap] w fun e w'=>Gf w (Aw ⟨36,a,b,c,d⟩ gs) e w'/\Below w w w':=by
 have N0:=Blk.new w #[(36:Int),a,b,c,d] 81;have B0:=(yA (w:Nat) w).alloc (yB _) (.cells #[(36:Int),a,b,c,d] 81);have HC:Hid (Aw ⟨36,a,b,c,d⟩ gs=if Cz gs=some false then some gs.dropLast else none):=by show _=_;unfold Aw;simp
 go_in;go_wp2_with fail;refine(Gj ao cap m gs _ hm hml (hx.l (A7.o B0))).mono ?_;rintro e w1 ⟨v,rfl,hown,hw1⟩;have B1:=B0.trans (hw1.mono (by simp));have n1:=(N0.l hw1).cell;have N1:=N0.l hw1;have hx1:=hx.l (A7.o B1);clear hw1 N0 B0;rcases m with _|k
 ·obtain⟨ao1,cap1,rfl⟩:=Aa hown;clear hown;have HN:Hid (Aw ⟨36,a,b,c,d⟩ gs=none):=by have:gs=[]:=yW.1 hm.out;show _=_;rw[HC.out,this];simp[Cz]
  clear HC;go_wp2;go_ret2;refine⟨?_,B1⟩;rw[HN.out];exact⟨_,rfl⟩
 ·obtain⟨g,cap1,q,rfl,hg1,hg2,hcap,hq,hqa,hfr,HG0,HS⟩:=Lg hown hm.out;have HL:Hid _:=Ev hm.out hq;have HG:Hid (Bn (w:Nat) w1 g gs):=Ah.w HG0 (by simp);have hgw:(w:Nat)<g:=by simp at hg1;omega
  obtain⟨q0,q1,q2⟩:=hqa;obtain⟨t0,t1,t2⟩:=q;dsimp only at *;have HSS:Hid _:=HS;have HF:Hid _:=hfr;have k1:((k:Int)+1-1)=k:=by omega
  have k2:(k:Int)<=cap1:=by omega
  have k3:(((k:Int)+1)==0)=false:=by simp;omega
  clear hq HS HG0 hown hfr hg1;cases t0
  ·have HN:Hid (Aw ⟨36,a,b,c,d⟩ gs=some gs.dropLast):=by show _=_;rw[HC.out,HL.out];simp
   have HK:Hid (gs.dropLast.length=k):=by show _=_;have:=hm.out;simp;omega
   clear HC HL HSS HF hgw;go_wp2;go_ret2;refine⟨?_,B1⟩;rw[HN.out];refine⟨some ⟨g,0,none⟩,cap1,?_,Ah.dropLast HG.out⟩;rw[HK.out];rfl
  ·have HN:Hid (Aw ⟨36,a,b,c,d⟩ gs=none):=by show _=_;rw[HC.out,HL.out];simp
   clear HC HL HG HSS HF;go_wp2;go_ret2;refine⟨?_,B1⟩;rw[HN.out];exact⟨_,rfl⟩
theorem A34 (a b c d:Int) (ao:Option Addr) (cap m:Nat) (gs:List Gd) (w:World) (hm:Hid (gs.length=m)) (hml:m<=50) (hx:Bn 0 w ao gs) :
  Calls prog 88 #[.agg #[(35:Int),a,b,c,d],.slice ao m cap] w fun e w'=>Gf w (Aw ⟨35,a,b,c,d⟩ gs) e w'/\Below w w w':=by
 have N0:=Blk.new w #[(35:Int),a,b,c,d] 81;have B0:=(yA (w:Nat) w).alloc (yB _) (.cells #[(35:Int),a,b,c,d] 81);have HC:Hid (Aw ⟨35,a,b,c,d⟩ gs=if Cz gs=some false then some gs else none):=by show _=_;unfold Aw;simp
 go_in;go_wp2_with fail;refine(Gj ao cap m gs _ hm hml (hx.l (A7.o B0))).mono ?_;rintro e w1 ⟨v,rfl,hown,hw1⟩;have B1:=B0.trans (hw1.mono (by simp));have n1:=(N0.l hw1).cell;have N1:=N0.l hw1;have hx1:=hx.l (A7.o B1);clear hw1 N0 B0;rcases m with _|k
 ·obtain⟨ao1,cap1,rfl⟩:=Aa hown;clear hown;have HN:Hid (Aw ⟨35,a,b,c,d⟩ gs=none):=by have:gs=[]:=yW.1 hm.out;show _=_;rw[HC.out,this];simp[Cz]
  clear HC;go_wp2;go_ret2;refine⟨?_,B1⟩;rw[HN.out];exact⟨_,rfl⟩
 ·obtain⟨g,cap1,q,rfl,hg1,hg2,hcap,hq,hqa,hfr,HG0,HS⟩:=Lg hown hm.out;have HL:Hid _:=Ev hm.out hq;have HG:Hid (Bn (w:Nat) w1 g gs):=Ah.w HG0 (by simp);have hgw:(w:Nat)<g:=by simp at hg1;omega
  obtain⟨q0,q1,q2⟩:=hqa;obtain⟨t0,t1,t2⟩:=q;dsimp only at *;have HSS:Hid _:=HS;have HF:Hid _:=hfr;have k1:((k:Int)+1-1)=k:=by omega
  have k2:(k:Int)<=cap1:=by omega
  have k3:(((k:Int)+1)==0)=false:=by simp;omega
  clear hq HS HG0 hown hfr hg1;cases t0
  ·have HN:Hid (Aw ⟨35,a,b,c,d⟩ gs=some gs):=by show _=_;rw[HC.out,HL.out];simp
   clear HC HL HSS HF hgw;go_wp2;go_ret2;refine⟨?_,B1⟩;rw[HN.out];refine⟨some ⟨g,0,none⟩,cap1,?_,HG.out⟩;rw[hm.out];simp
  ·have HN:Hid (Aw ⟨35,a,b,c,d⟩ gs=none):=by show _=_;rw[HC.out,HL.out];simp
   clear HC HL HG HSS HF;go_wp2;go_ret2;refine⟨?_,B1⟩;rw[HN.out];exact⟨_,rfl⟩
theorem A33 (a b c d:Int) (ao:Option Addr) (cap m:Nat) (gs:List Gd) (w:World) (hm:Hid (gs.length=m)) (hml:m<=50) (hx:Bn 0 w ao gs) :
  Calls prog 88 #[.agg #[(34:Int),a,b,c,d],.slice ao m cap] w fun e w'=>Gf w (Aw ⟨34,a,b,c,d⟩ gs) e w'/\Below w w w':=by
 have N0:=Blk.new w #[(34:Int),a,b,c,d] 81;have B0:=(yA (w:Nat) w).alloc (yB _) (.cells #[(34:Int),a,b,c,d] 81);have HC:Hid (Aw ⟨34,a,b,c,d⟩ gs=if Cz gs=some false/\Dt gs a=true then some (Eu gs a) else none):=by show _=_;unfold Aw;simp
 go_in;go_wp2_with fail;refine(Gj ao cap m gs _ hm hml (hx.l (A7.o B0))).mono ?_;rintro e w1 ⟨v,rfl,hown,hw1⟩;have B1:=B0.trans (hw1.mono (by simp));have n1:=(N0.l hw1).cell;have N1:=N0.l hw1;have hx1:=hx.l (A7.o B1);clear hw1 N0 B0;rcases m with _|k
 ·obtain⟨ao1,cap1,rfl⟩:=Aa hown;clear hown;have HN:Hid (Aw ⟨34,a,b,c,d⟩ gs=none):=by have:gs=[]:=yW.1 hm.out;show _=_;rw[HC.out,this];simp[Cz]
  clear HC;go_wp2;go_ret2;refine⟨?_,B1⟩;rw[HN.out];exact⟨_,rfl⟩
 ·obtain⟨g,cap1,q,rfl,hg1,hg2,hcap,hq,hqa,hfr,HG0,HS⟩:=Lg hown hm.out;have HL:Hid _:=Ev hm.out hq;have HG:Hid (Bn (w:Nat) w1 g gs):=Ah.w HG0 (by simp);have hgw:(w:Nat)<g:=by simp at hg1;omega
  obtain⟨q0,q1,q2⟩:=hqa;obtain⟨t0,t1,t2⟩:=q;dsimp only at *;have HSE:Hid (∀x w2,Below w1 w1 w2->(w2.setCell (g,k*3+1) (.int .i64 x)).ownsRow (w:Nat) 280 3 (.slice g (k+1) cap1) (k+1) (gds (Eu gs x))):=by
   intro x w2 hw2;rw[←A79 hm.out];have h0:=(Ai hown hw2).stored (k*3+1) x;obtain⟨r1,r2|⟨g',c',cur,r3,r4,r5⟩⟩:=h0.1
   ·exact⟨r1,.inl r2⟩
   ·exact⟨r1,.inr ⟨g',c',cur,r3,by simp at r4;omega,r5⟩⟩
  have HSS:Hid _:=HS;have HF:Hid _:=hfr;have k1:((k:Int)+1-1)=k:=by omega
  have k2:(k:Int)<=cap1:=by omega
  have k3:(((k:Int)+1)==0)=false:=by simp;omega
  clear hq HS HG0 hown hfr hg1;cases t0
  ·have HA:Hid _:=fun w2 h=>Pn ao cap (k+1) gs a w2 hm hml h;have HV:Hid (Aw ⟨34,a,b,c,d⟩ gs=if Dt gs a=true then some (Eu gs a) else none):=by show _=_;rw[HC.out,HL.out];simp
   have c1:=n1;go_wp2_with fail;refine(HA.out _ hx1).mono ?_;rintro e w2 ⟨rfl,hw2⟩;have B2:=B1.trans (hw2.mono B1.size);have n2:=(N1.l hw2).cell;have p0:=(hw2.cell hg2).trans q0;have p1:=(hw2.cell hg2).trans q1;have p2:=(hw2.cell hg2).trans q2;have f1:=(hw2.frozen (p:=(g,k*3+1)) hg2).trans (HF.out _);have HW2:Hid _:=hw2;clear q0 q1 q2 n1 c1 HL HC hw2;cases hab:Dt gs a
   ·have HN:Hid (Aw ⟨34,a,b,c,d⟩ gs=none):=by show _=_;rw[HV.out,hab];rfl
    clear hab HV;go_wp2;go_ret2;refine⟨?_,B2⟩;rw[HN.out];exact⟨_,rfl⟩
   ·have HN:Hid (Aw ⟨34,a,b,c,d⟩ gs=some (Eu gs a)):=by show _=_;rw[HV.out,hab];rfl
    clear hab HV;have HB3:Hid (Below w w (w2.setCell (g,k*3+1) a)):=B2.setCell (by dsimp only;omega) _;have HO:Hid ((w2.setCell (g,k*3+1) a).ownsRow (w:Nat) 280 3 (.slice g (k+1) cap1) (k+1) (gds (Eu gs a))):=HSE.out a w2 HW2.out;clear HSS HF hgw HW2 HSE;go_wp2;go_ret2;refine⟨?_,HB3.out⟩;rw[HN.out];obtain⟨h1,h2⟩:=Jz HO.out;refine⟨some ⟨g,0,none⟩,cap1,?_,h1⟩;rw[←h2];simp
  ·have HN:Hid (Aw ⟨34,a,b,c,d⟩ gs=none):=by show _=_;rw[HC.out,HL.out];simp
   clear HC HL HG HSS HF;go_wp2;go_ret2;refine⟨?_,B1⟩;rw[HN.out];exact⟨_,rfl⟩
theorem Vf (op a b c d:Int) (ao:Option Addr) (cap m:Nat) (gs:List Gd) (w:World) (hm:Hid (gs.length=m)) (hml:m<=50) (hx:Bn 0 w ao gs) (h1:op≠31) (h2:op≠32) (h3:op≠33) (h4:op≠34) (h5:op≠35) (h6:op≠36) :
  Calls prog 88 #[.agg #[op,a,b,c,d],.slice ao m cap] w fun e w'=>Gf w (Aw ⟨op,a,b,c,d⟩ gs) e w'/\Below w w w':=by
 have N0:=Blk.new w #[op,a,b,c,d] 81;have B0:=(yA (w:Nat) w).alloc (yB _) (.cells #[op,a,b,c,d] 81);have HC:Hid (Aw ⟨op,a,b,c,d⟩ gs=some gs):=by show _=_;unfold Aw;simp[h1,h2,h3,h4,h5,h6]
 have t1:(op==31)=false:=by simpa using h1
 have t2:(op==32)=false:=by simpa using h2
 have t3:(op==33)=false:=by simpa using h3
 have t4:(op==34)=false:=by simpa using h4
 have t5:(op==35)=false:=by simpa using h5
 have t6:(op==36)=false:=by simpa using h6
 clear h1 h2 h3 h4 h5 h6;go_in;go_wp2_with fail;refine(Gj ao cap m gs _ hm hml (hx.l (A7.o B0))).mono ?_;rintro e w1 ⟨v,rfl,hown,hw1⟩;have B1:=B0.trans (hw1.mono (by simp));have n1:=(N0.l hw1).cell;obtain⟨ao1,cap1,rfl⟩:=Aa hown;have HG:Hid (Bn (w:Nat) w1 ao1 gs):=Ah.w (Jz hown).1 (by simp);clear hw1 N0 B0 hown;go_wp2;go_ret2;refine⟨?_,B1⟩;rw[HC.out];refine⟨ao1,cap1,?_,HG.out⟩;rw[hm.out];rfl
theorem A0h (n:Nd) (ao:Option Addr) (cap m:Nat) (gs:List Gd) (w:World) (hm:Hid (gs.length=m)) (hml:m<=50) (hx:Bn 0 w ao gs) :
  Calls prog 88 #[n.val,.slice ao m cap] w fun e w'=>Gf w (Aw n gs) e w'/\Below w w w':=by
 obtain⟨op,a,b,c,d⟩:=n;by_cases h1:op=31
 ·subst h1;exact A30 a b c d ao cap m gs w hm hml hx
 by_cases h2:op=32
 ·subst h2;exact A31 a b c d ao cap m gs w hm hml hx
 by_cases h3:op=33
 ·subst h3;exact A32 a b c d ao cap m gs w hm hml hx
 by_cases h4:op=34
 ·subst h4;exact A33 a b c d ao cap m gs w hm hml hx
 by_cases h5:op=35
 ·subst h5;exact A34 a b c d ao cap m gs w hm hml hx
 by_cases h6:op=36
 ·subst h6;exact A35 a b c d ao cap m gs w hm hml hx
 exact Vf op a b c d ao cap m gs w hm hml hx h1 h2 h3 h4 h5 h6
def rdI (r:Nat) (x:Int) (s:Rd):Option Rd:=
 match r with
 | 12=>Hu 1 x s
 | 13=>Hu 3 x s
 | 14=>Dq 1 x s
 | 15=>Dq 2 x s
 | 16=>Dq 3 x s
 | 17=>if Ca s.types x=1/\Ca s.types (x+1)=1 then some ⟨s.types,s.stay++[x,x+1],s.taken⟩ else none
 | 18=>if Ca s.types x=1/\Ca s.types (x+1)=1/\Ca s.types (x+2)=1 then some ⟨s.types,s.stay++[x,x+1,x+2],s.taken⟩ else none
 | 23=>if Ca s.types x=1/\Ca s.types (x+1)=0 then some ⟨s.types,s.stay,s.taken++[x]⟩ else none
 | _=>some s
def J5:List Nat->List Int->Rd->Option Rd
 | r::rs,x::xs,s=>(rdI r x s).bind (J5 rs xs)
 | _,_,s=>some s
def Rd.two (s:Rd):List Int×List Int:=(s.types,s.taken)
theorem Aen (hr:r<=23) (h:r≠17/\r≠18/\r≠23) (x:Int) (s:Rd):rdI r x s=rdS (Cm r) x s:=by rcases (by omega:r=0∨r=1∨r=2∨r=3∨r=4∨r=5∨r=6∨r=7∨r=8∨r=9∨r=10∨r=11∨r=12∨r=13∨r=14∨r=15∨r=16∨r=17∨r=18∨r=19∨r=20∨r=21∨r=22∨r=23) with rfl|rfl|rfl|rfl|rfl|rfl|rfl|rfl|rfl|rfl|rfl|rfl|rfl|rfl|rfl|rfl|rfl|rfl|rfl|rfl|rfl|rfl|rfl|rfl<;>first|rfl|(exfalso;omega)
theorem A7m:∀(rs:List Nat) (xs:List Int) (s:Rd),(∀r∈rs,r<=23/\r≠17/\r≠18/\r≠23)->J5 rs xs s=Ef (rs.map Cm) xs s
 | [],_,_,_=>rfl
 | _::_,[],_,_=>rfl
 | r::rs,x::xs,s,h=>by
  have h1:=h r (by simp);simp only[J5,Ef,List.map_cons];rw[Aen h1.1 h1.2];congr 1;funext s';exact A7m rs xs s' fun r hr=>h r (by simp[hr])
theorem Abs (op:Nat) (h1:1<=op) (h2:op<=42) (a b c d:Int) (ts:List Int):(J5 (Ci op) [a,b,c,d] ⟨ts,[],[]⟩).map Rd.two=(Ef (Bh op) [a,b,c,d] ⟨ts,[],[]⟩).map Rd.two:=by
 by_cases hs:op=37∨op=38∨op=39∨op=40∨op=41
 ·rcases hs with rfl|rfl|rfl|rfl|rfl;all_goals
   simp[Ci,Gz,Bh,Ed,J5,Ef,rdI,rdS];split<;>simp[Rd.two]
 ·rw[←Ls op h1 h2,A7m];have h:∀k,k<43->(k<37∨k=42)->∀r∈Ci k,r<=23/\r≠17/\r≠18/\r≠23:=by decide
  exact h op (by omega) (by omega)
def wrI (r:Nat) (x:Int) (ts:List Int):List Int:=
 match r with
 | 19=>ts.set x.toNat 0
 | 20=>ts.set x.toNat 1
 | 21=>ts.set x.toNat 2
 | 22=>ts.set x.toNat 3
 | 23=>(ts.set x.toNat 1).set (x.toNat+1) 1
 | _=>ts
def Hy:List Nat->List Int->List Int->List Int
 | r::rs,x::xs,ts=>Hy rs xs (wrI r x ts)
 | _,_,ts=>ts
theorem Abx (h:ts.getD i 0=1):ts.set i 1=ts:=by
 by_cases hi:i<ts.length
 ·apply List.ext_getElem?;intro j;rw[List.getElem?_set];by_cases hj:i=j
  ·subst hj;simp[List.getD_eq_getElem?_getD,hi]at h;simp[hi,h]
  ·simp[hj]
 ·exact List.set_eq_of_length_le (by omega)
theorem Aci (n:Nd) (op:Nat) (ho:n.op=op) (h1:1<=op) (h2:op<=42) (ts:List Int) (h40:op=40->Ca ts n.a=1):Hy (Ci op) n.fs ts=Ey n ts:=by
 obtain⟨o,a,b,c,d⟩:=n;dsimp only at *;subst ho;by_cases h:op=40
 ·subst h;have:=Abx (h40 rfl);simp[Ci,Gz,Nd.fs,Hy,wrI,Ey,this]
 ·clear h40;rcases A15 op h1 h2 with rfl|rfl|rfl|rfl|rfl|rfl|rfl|rfl|rfl|rfl|rfl|rfl|rfl|rfl|rfl|rfl|rfl|rfl|rfl|rfl|rfl|rfl|rfl|rfl|rfl|rfl|rfl|rfl|rfl|rfl|rfl|rfl|rfl|rfl|rfl|rfl|rfl|rfl|rfl|rfl|rfl|rfl;all_goals first|rfl|(exfalso;omega)
theorem A45 {a b c d:Int}{t1:List Int} (h:(Ef (Bh 40) [a,b,c,d] ⟨ts,[],[]⟩).map Rd.two=some (t1,tk)):Ca t1 a=1:=by
 by_cases hc:Ca ts a=1/\Ca ts (a+1)=0
 ·simp[Bh,Ed,Ef,rdS,hc,Rd.two]at h;rw[←h.1];exact hc.1
 ·simp[Bh,Ed,Ef,rdS,hc]at h
def Bc (gs:List Gd):Int:=gs.foldl (fun k g=>if g.tr then max k g.keep else k) 0
theorem Qu (gs:List Gd) (k0 k:Int):gs.foldl (fun k g=>if g.tr then max k g.keep else k) k0<=k ↔ k0<=k/\∀g∈gs,g.tr=true->g.keep<=k:=by
 induction gs generalizing k0 with
 | nil=>simp
 | cons g r ih=>
  simp only[List.foldl_cons,ih,List.mem_cons,forall_eq_or_imp];split
  ·rename_i h;rw[Int.max_le];constructor
   ·rintro⟨h1,h2⟩;exact⟨h1.1,fun _=>h1.2,h2⟩
   ·rintro⟨h1,h2,h3⟩;exact⟨⟨h1,h2 h⟩,h3⟩
  ·rename_i h;constructor
   ·rintro⟨h1,h2⟩;exact⟨h1,fun h'=>absurd h' h,h2⟩
   ·rintro⟨h1,h2,h3⟩;exact⟨h1,h3⟩
theorem Pp {k:Int} (hk:0<=k):decide (Bc gs<=k)=Dt gs k:=by
 rw[Bool.eq_iff_iff];unfold Bc Dt;rw[decide_eq_true_iff,Qu];simp only[List.all_eq_true,Bool.not_eq_true',Bool.and_eq_false_iff,decide_eq_false_iff_not];constructor
 ·rintro⟨_,h⟩ g hg;cases ht:g.tr
  ·exact .inl rfl
  ·exact .inr (by have:=h g hg ht;omega)
 ·intro h;refine⟨hk,fun g hg ht=>?_⟩;rcases h g hg with h1|h1
  ·rw[ht]at h1;cases h1
  ·omega
theorem Po (gs:List Gd):0<=Bc gs/\(Bc gs=0∨∃g∈gs,g.tr=true/\g.keep=Bc gs):=by
 unfold Bc;have:∀(gs:List Gd) (k0:Int),k0<=gs.foldl (fun k g=>if g.tr then max k g.keep else k) k0/\(gs.foldl (fun k g=>if g.tr then max k g.keep else k) k0=k0∨∃g∈gs,g.tr=true/\g.keep=gs.foldl (fun k g=>if g.tr then max k g.keep else k) k0):=by
  intro gs
  induction gs with
  | nil=>intro k0;simp
  | cons g r ih=>
   intro k0;simp only[List.foldl_cons];obtain⟨h1,h2⟩:=ih (if g.tr then max k0 g.keep else k0);generalize hF:List.foldl (fun k g=>if g.tr then max k g.keep else k) (if g.tr then max k0 g.keep else k0) r=F at *;by_cases ht:g.tr=true
   ·rw[if_pos ht]at h1 h2;have m1:=Int.le_max_left k0 g.keep;have m2:=Int.le_max_right k0 g.keep;refine⟨by omega,?_⟩;rcases h2 with h2|⟨q,hq,h3,h4⟩
    ·by_cases hk:k0<=g.keep
     ·exact .inr ⟨g,by simp,ht,by rw[h2,Int.max_eq_right hk]⟩
     ·exact .inl (by rw[h2,Int.max_eq_left (by omega)])
    ·exact .inr ⟨q,by simp[hq],h3,h4⟩
   ·rw[if_neg ht]at h1 h2;refine⟨h1,?_⟩;rcases h2 with h2|⟨q,hq,h3,h4⟩
    ·exact .inl h2
    ·exact .inr ⟨q,by simp[hq],h3,h4⟩
 exact this gs 0
def Fx (k:Int) (taken b a:List Int):Bool:=Di k taken&&Dr k b a
theorem Adu (h:m<=n) (e:a.take n=b.take n):a.take m=b.take m:=by rw[show a.take m=(a.take n).take m by rw[List.take_take,Nat.min_eq_left h],e,List.take_take,Nat.min_eq_left h]
theorem A9i {k k':Int} (hk:k'<=k) (h:Fx k taken b a=true):Fx k' taken b a=true:=by unfold Fx Di Dr at *;simp only[yY,List.all_eq_true,Bool.not_eq_true',decide_eq_false_iff_not,decide_eq_true_iff]at *;exact⟨fun x hx=>by have:=h.1 x hx;omega,Adu (by omega) h.2⟩
theorem A8w (taken b a:List Int) (gs:List Gd):Gs false taken b a gs=true ↔ ∀g∈gs,g.tr=true->Fx g.keep taken b a=true:=by
 induction gs with
 | nil=>simp[Gs]
 | cons g r ih=>
  simp only[Gs,yY,ih,List.mem_cons,forall_eq_or_imp,Bool.false_and,Bool.false_or];unfold Fx;cases g.tr<;>simp
theorem A5q (h:taken=[]) (gs:List Gd) (e:Bool):Gs e taken b b gs=true:=by
 subst h
 induction gs with
 | nil=>rfl
 | cons g r ih=>simp[Gs,ih,Di,Dr]
theorem Ad1 {n:Nd} (h32:n.op=32->taken=[]/\b=a) (ht:∀x∈taken,0<=x):Tc n gs taken b a=Fx (Bc gs) taken b a:=by
 unfold Tc;obtain⟨m1,m2⟩:=Po gs;by_cases ho:n.op=32
 ·obtain⟨rfl,rfl⟩:=h32 ho;rw[A5q rfl];simp[Fx,Di,Dr]
 ·rw[show (n.op==32)=false by simpa using ho];rw[Bool.eq_iff_iff,A8w];constructor
  ·intro h;rcases m2 with m2|⟨g,hg,h1,h2⟩
   ·rw[m2];simp only[Fx,Di,Dr,yY,List.all_eq_true,Bool.not_eq_true',decide_eq_false_iff_not];exact⟨fun x hx=>by have:=ht x hx;omega,by simp⟩
   ·rw[←h2];exact h g hg h1
  ·intro h g hg h1;exact A9i ((Qu gs 0 (Bc gs)).1 (Int.le_refl _) |>.2 g hg h1) h
def E9 (n:Nd) (gs:List Gd):Bool:=
 if n.op=31 then decide (gs.length<50)&&decide (Bc gs<=n.b)
 else if n.op=33 then decide (gs.length<50)&&decide (Bc gs<=n.a)
 else if n.op=32 then decide (Cz gs=some true)
 else if n.op=34 then decide (Cz gs=some false)&&decide (Bc gs<=n.a)
 else if n.op=35∨n.op=36 then decide (Cz gs=some false)
 else true
def El (n:Nd) (gs:List Gd):List Gd:=
 if n.op=31 then gs++[⟨true,n.b,n.a⟩]
 else if n.op=33 then gs++[⟨false,n.a,0⟩]
 else if n.op=32∨n.op=36 then gs.dropLast
 else if n.op=34 then Eu gs n.a
 else gs
theorem Yn {n:Nd} (hn:Ep np p n) (gs:List Gd):Aw n gs=if E9 n gs then some (El n gs) else none:=by
 obtain⟨f1,f2,_⟩:=Hr hn;unfold Aw E9 El;by_cases h31:n.op=31
 ·have:=(f1 h31).2;rw[if_pos h31,if_pos h31,if_pos h31,Pp (by omega)]
 by_cases h33:n.op=33
 ·have:=f2 (.inl h33);rw[if_neg h31,if_neg h31,if_neg h31,if_pos h33,if_pos h33,if_pos h33,Pp (by omega)]
 by_cases h32:n.op=32
 ·simp[h32]
 by_cases h34:n.op=34
 ·have:=f2 (.inr h34);simp only[h34,Pp this.1];simp
 by_cases h35:n.op=35
 ·simp[h35]
 by_cases h36:n.op=36
 ·simp[h36]
 ·simp[h31,h32,h33,h34,h35,h36]
def Np (n:Nd):Option Nat:=
 if n.op=19∨n.op=31 then some n.a.toNat
 else if n.op=20∨n.op=21∨n.op=38∨n.op=39∨n.op=41 then some n.b.toNat
 else none
def Iq (n:Nd) (s:St) (ts:List Int) (gs:List Gd):St:=
 if n.op=41 then ⟨ts.set n.c.toNat (Ca s.types n.c),gs⟩
 else if n.op=31 then ⟨Px n.b s.types,s.guards⟩
 else ⟨ts,gs⟩
theorem Yu (n:Nd) (s:St) (ts:List Int) (gs:List Gd):goF n s ts gs=match Np n with|some t=>[(t,Iq n s ts gs)]|none=>[]:=by
 obtain⟨op,a,b,c,d⟩:=n;unfold goF Np Iq;dsimp only;by_cases h19:op=19
 ·subst h19;simp
 by_cases h20:op=20∨op=21∨op=38∨op=39
 ·rcases h20 with rfl|rfl|rfl|rfl<;>simp
 by_cases h41:op=41
 ·subst h41;simp
 by_cases h31:op=31
 ·subst h31;simp
 ·rw[if_neg h19,if_neg h20,if_neg h41,if_neg h31,if_neg (by omega),if_neg (by omega)]
def Sl (n:Nd):Bool:=n.op==1||n.op==3||n.op==28||(n.op==18&&n.b==12)
def A1f (n:Nd) (at_:Nat):List Nat:=if Sl n then [] else (if Ex n&&n.op !=41 then [at_+1] else [])++(Np n).toList
theorem Ac1 (n:Nd) (at_ j:Nat):j∈A1f n at_ ↔ j∈Lh n at_:=by
 obtain⟨op,a,b,c,d⟩:=n;unfold A1f Lh Sl Np Ex;dsimp only;by_cases h1:op=1
 ·subst h1;simp
 by_cases h3:op=3
 ·subst h3;simp
 by_cases h28:op=28
 ·subst h28;simp
 by_cases h29:op=29
 ·subst h29;simp
 by_cases h30:op=30
 ·subst h30;simp
 by_cases h18:op=18
 ·subst h18;by_cases hb:b=12<;>simp[hb]
 by_cases h19:op=19
 ·subst h19;simp
 by_cases h41:op=41
 ·subst h41;simp
 by_cases h20:op=20∨op=21∨op=38∨op=39
 ·rcases h20 with rfl|rfl|rfl|rfl<;>(simp;exact Or.comm)
 by_cases h31:op=31
 ·subst h31;simp;exact Or.comm
 ·have h2:¬op=20:=by omega
  have h4:¬op=21:=by omega
  have h5:¬op=38:=by omega
  have h6:¬op=39:=by omega
  simp[h1,h3,h28,h29,h30,h18,h19,h41,h31,h2,h4,h5,h6]
def Ou (ps:List Pd) (n:Nd) (at_:Nat) (s:St):Out:=
 match (J5 (Ci n.op.toNat) n.fs ⟨s.types,[],[]⟩).map Rd.two with
 | none=>.bad 10
 | some (t1,tk)=>
  if Au s.types (Cy ps n) then
   if E9 n s.guards then
    if Fx (Bc s.guards) tk s.types (Hy (Ci n.op.toNat) n.fs t1) then .go (Fg n at_ s (Hy (Ci n.op.toNat) n.fs t1) (El n s.guards)) else .bad 12
   else .bad 11
  else .bad 10
theorem A7l{w:Int} (h:Hu w x s=some s') (hs:∀y∈s.taken,0<=y):∀y∈s'.taken,0<=y:=by
 unfold Hu at h;split at h
 ·split at h
  ·rename_i hx;split at h
   ·cases h
   ·obtain rfl:=yO h;intro y hy;rcases yZ.1 hy with hy|hy
    ·exact hs y hy
    ·simp at hy;subst hy;unfold Bz;rw[if_pos hx];omega
  ·obtain rfl:=yO h;exact hs
 ·cases h
theorem Aeo (hr:r<=23) (hf:Bg np p (Cm r) x=true) (h:rdI r x s=some s') (hs:∀y∈s.taken,0<=y):∀y∈s'.taken,0<=y:=by
 unfold rdI at h;have hpl:∀w,Dq w x s=some s'->∀y∈s'.taken,0<=y:=by
  intro w h;unfold Dq at h;split at h
  ·obtain rfl:=yO h;exact hs
  ·cases h
 split at h
 ·exact A7l h hs
 ·exact A7l h hs
 ·exact hpl _ h
 ·exact hpl _ h
 ·exact hpl _ h
 ·split at h
  ·obtain rfl:=yO h;exact hs
  ·cases h
 ·split at h
  ·obtain rfl:=yO h;exact hs
  ·cases h
 ·split at h
  ·obtain rfl:=yO h;intro y hy;rcases yZ.1 hy with hy|hy
   ·exact hs y hy
   ·simp at hy;subst hy;simp[Cm,A76,Bg,inR]at hf;exact hf.1
  ·cases h
 ·obtain rfl:=yO h;exact hs
theorem A7n {np:Nat} {p:Pd} : ∀{rs:List Nat} {xs:List Int} {s s':Rd},(∀r∈rs,r<=23)->Da np p (rs.map Cm) xs=true->J5 rs xs s=some s'->(∀y∈s.taken,0<=y)->∀y∈s'.taken,0<=y
 | [],_,s,s',_,_,h,hs=>by unfold J5 at h;obtain rfl:=yO h;exact hs
 | _::_,[],s,s',_,_,h,hs=>by unfold J5 at h;obtain rfl:=yO h;exact hs
 | r::rs,x::xs,s,s',hr,hf,h,hs=>by
  unfold J5 at h;simp only[List.map_cons,Da,yY]at hf;cases h1:rdI r x s with
  | none=>rw[h1]at h;cases h
  | some s1=>
   rw[h1]at h;exact A7n (fun q hq=>hr q (by simp[hq])) hf.2 h (Aeo (hr r (by simp)) hf.1 h1 hs)
theorem Adm {n:Nd} (hn:Ep np p n) (at_:Nat) (s:St):Ou ps n at_ s=Li ps n at_ s:=by
 have hlo:=hn.lo;have hhi:=hn.hi;obtain⟨op,hop⟩:∃k:Nat,n.op=k:=yN (by omega);have h1:1<=op:=by omega
 have h2:op<=42:=by omega
 have hT:n.op.toNat=op:=by rw[hop];rfl
 have hr:=Abs op h1 h2 n.a n.b n.c n.d s.types;have hfit:=hn.fit;rw[hT]at hfit;unfold Ou Li Fu;rw[hT];have hnn:=@A7n np p (Ci op) n.fs ⟨s.types,[],[]⟩;rw[Ls op h1 h2]at hnn;unfold Nd.fs at *;cases hs:Ef (Bh op) [n.a,n.b,n.c,n.d] ⟨s.types,[],[]⟩ with
 | none=>
  rw[hs]at hr;rw[hr];rfl
 | some r=>
  rw[hs]at hr;rw[hr];cases hi:J5 (Ci op) [n.a,n.b,n.c,n.d] ⟨s.types,[],[]⟩ with
  | none=>rw[hi]at hr;cases hr
  | some r'=>
  rw[hi]at hr;simp only[Option.map_some,Option.some.injEq,Rd.two,Prod.mk.injEq]at hr;have htk:=hnn (s':=r') (by
   intro q hq;obtain⟨r0,r1,r2,r3,e,g0,g1,g2,g3⟩:=Lf h2;rw[e]at hq;simp at hq;omega) hfit hi (by simp)
  have hups:Au s.types (Cy ps n)=Au r.types (Cy ps n):=by
   unfold Cy;split
   ·rename_i h11;have:op=11:=by omega
    subst this;simp[Bh,Ed,Ef,rdS]at hs;rw[←hs]
   ·rfl
  have hw:Hy (Ci op) [n.a,n.b,n.c,n.d] r.types=Ey n r.types:=by refine Aci n op hop h1 h2 r.types ?_;intro h40;subst h40;refine A45 (tk:=r.taken) (a:=n.a) (b:=n.b) (c:=n.c) (d:=n.d) (ts:=s.types) ?_;rw[hs];rfl
  rw[Option.map_some];dsimp only[Rd.two];rw[hups,hw,Yn hn];cases Au r.types (Cy ps n)
  ·rfl
  ·simp only[if_true];cases E9 n s.guards
   ·rfl
   ·simp only[if_true];have hk:Tc n s.guards r.taken s.types (Ey n r.types)=Fx (Bc s.guards) r.taken s.types (Ey n r.types):=by
     refine Ad1 ?_ ?_
     ·intro h32;have:op=32:=by omega
      subst this;simp[Bh,Ed,Ef,rdS]at hs;rw[←hs];refine⟨rfl,?_⟩;obtain⟨o,a,b,c,d⟩:=n;dsimp only at hop;subst hop;rfl
     ·rw[←hr.2];exact htk
    rw[hk]
theorem A9l (n:Nd) (w:World):Kw 194 #[n.val] w (.bool (Sl n)):=by
 have hb1:∀o,Below w w (w.alloc o):=fun o=>(yA _ _).alloc (yB _) o;obtain⟨op,a,b,c,d⟩:=n;dsimp only[Nd.val,Sl];by_cases h1:op=1
 ·subst h1;unfold Kw;go_in;go_wp2;go_ret;exact⟨rfl,hb1 _⟩
 by_cases h3:op=3
 ·subst h3;unfold Kw;go_in;go_wp2;go_ret;exact⟨rfl,hb1 _⟩
 by_cases h28:op=28
 ·subst h28;unfold Kw;go_in;go_wp2;go_ret;exact⟨rfl,hb1 _⟩
 have t1:(op==1)=false:=by simpa using h1
 have t3:(op==3)=false:=by simpa using h3
 have t28:(op==28)=false:=by simpa using h28
 clear h1 h3 h28;by_cases h18:op=18
 ·subst h18;unfold Kw;go_in;go_wp2;go_ret;exact⟨Ab (by simp),hb1 _⟩
 ·have t18:(op==18)=false:=by simpa using h18
  clear h18;unfold Kw;go_in;go_wp2;go_ret;exact⟨Ab (by simp[t1,t3,t28,t18]),hb1 _⟩
theorem A1s (to uo:Option Addr) (tc uc:Nat) (ts:List Int) (us:List Ud) (w:World) (hul:us.length<=1048576) (hu:∀u∈us,u.loc=true->0<=u.idx/\u.idx<ts.length) (ht:Bl 0 w to ts) (hx:Je 0 w uo us) :
  Kw 186 #[.slice to ts.length tc,.slice uo us.length uc] w (.bool (Au ts us)):=by
 have HU:Hid _:=hu;clear hu;unfold Kw;go_in;go_wp2;go_loopw [9] (fun y wr=>∃k:Nat,k<=us.length/\y=k/\Hid (Au ts (us.drop k)=Au ts us)/\Below w w wr) (fun y _=>us.length-(intOf y).toNat);case atStart=>exact⟨0,yE _,rfl,rfl,yA _ _⟩
 case round=>
  obtain⟨k,hk,rfl,HQ,hb⟩:=hrel;by_cases hkl:k<us.length
  ·obtain⟨u,huk⟩:=A8 hkl;obtain⟨b,off,rfl,_,hbl,u0,u1⟩:=hx.l (A7.o hb) k u huk;have HD:Hid (Au ts us=(!(u.loc&&decide (Ca ts u.idx≠2))&&Au ts (us.drop (k+1)))):=by show _=_;rw[←HQ.out,Ao huk];rfl
   have HUU:Hid _:=HU.out u (yH huk);have hba:=fun o=>hb.alloc hb.size o;obtain⟨ul,ui⟩:=u;dsimp only at *;clear huk HQ;cases ul
   ·have HN:Hid (Au ts (us.drop (k+1))=Au ts us):=by show _=_;rw[HD.out];rfl
    clear HD HUU;go_wp2;go_roundw;case rel=>exact⟨k+1,by omega,by go_num,HN.out,hba _⟩
    case measure=>simp[intOf];omega
   ·obtain⟨hu1,hu2⟩:=HUU.out rfl;obtain⟨q,rfl⟩:=yN hu1;obtain⟨ty,hty⟩:=A8 (show q<ts.length by omega);obtain⟨tb,tof,rfl,_,htb,t0⟩:=ht.l (A7.o hb) q ty hty;unfold Ho at t0;rw[Nat.mul_one]at t0;have HTY:Hid (Ca ts (q:Int)=ty):=by show _=_;unfold Ca;simp[hty]
    clear hty HUU hu1;by_cases ht2:ty=2
    ·subst ht2;have HN:Hid (Au ts (us.drop (k+1))=Au ts us):=by show _=_;rw[HD.out,HTY.out];rfl
     clear HD HTY;go_wp2;go_roundw;case rel=>exact⟨k+1,by omega,by go_num,HN.out,hba _⟩
     case measure=>simp[intOf];omega
    ·have HN:Hid (Au ts us=false):=by show _=_;rw[HD.out,HTY.out];simp[ht2]
     have k5:(ty !=2)=true:=by simpa using ht2
     clear HD HTY ht2;go_wp2;go_ret;exact⟨Ab HN.out.symm,hba _⟩
  ·have HN:Hid (Au ts us=true):=by have h:=HQ.out;rw[yQ (by omega)]at h;exact h.symm
   clear HQ;go_wp2;go_ret;exact⟨Ab HN.out.symm,hb⟩
theorem Qj (o1 o2:Option Addr) (c1 c2:Nat) (t1 t2:List Int) (w:World) (l1:t1.length<=1048576) (h1:Bl 0 w o1 t1) (h2:Bl 0 w o2 t2) :
  Kw 181 #[.slice o1 t1.length c1,.slice o2 t2.length c2] w (.bool (decide (t1=t2))):=by
 unfold Kw;go_in;by_cases e1:t1.length=t2.length;rotate_left
 ·have k1:((t1.length:Int) !=t2.length)=true:=by simp;omega
  have HN:Hid (¬t1=t2):=fun h=>e1 (by rw[h]);clear e1;go_wp2;go_ret;exact⟨Ab (by simp[HN.out]),yA _ _⟩
 ·have k1:((t1.length:Int) !=t2.length)=false:=by simp;omega
  have E1:Hid _:=e1;clear e1;go_wp2;go_loopw [13] (fun y wr=>∃k:Nat,k<=t1.length/\y=k/\Hid ((t1=t2) ↔ (t1.drop k=t2.drop k))/\Below w w wr) (fun y _=>t1.length-(intOf y).toNat);case atStart=>exact⟨0,yE _,rfl,Iff.rfl,yA _ _⟩
  case round=>
   obtain⟨k,hk,rfl,HQ,hb⟩:=hrel;by_cases hkl:k<t1.length
   ·obtain⟨x,hxk⟩:=A8 hkl;have hkl2:k<t2.length:=by rw[←E1.out];exact hkl
    obtain⟨y,hyk⟩:=A8 hkl2;obtain⟨b,off,rfl,_,hbl,q0⟩:=h1.l (A7.o hb) k x hxk;obtain⟨b',off',rfl,_,hbl',q1⟩:=h2.l (A7.o hb) k y hyk;have HD:Hid _:=HQ.out.trans (Jg hxk hyk);unfold Ho at q0 q1;rw[Nat.mul_one]at q0 q1;have k3:(k:Int)<t2.length:=by omega
    clear HQ h1 h2 hxk hyk;by_cases hxy:x=y
    ·subst hxy;have HN:Hid ((t1=t2) ↔ t1.drop (k+1)=t2.drop (k+1)):=by show _ ↔ _;rw[HD.out];exact⟨fun h=>h.2,fun h=>⟨rfl,h⟩⟩
     clear HD;go_wp2_with fail;go_quiet (fail);go_wp2;go_roundw;case rel=>exact⟨k+1,by omega,by go_num,HN.out,below_drewN hb _⟩
     case measure=>simp[intOf];omega
    ·have k4:(x !=y)=true:=by simpa using hxy
     have HN:Hid (¬t1=t2):=fun h=>hxy (HD.out.1 h).1;clear HD hxy;go_wp2_with fail;go_quiet (fail);go_wp2;go_ret;exact⟨Ab (by simp[HN.out]),below_drewN hb _⟩
   ·have HT:Hid (t1=t2):=by show _=_;rw[HQ.out,yQ (by omega),yQ (by rw[←E1.out];omega)]
    clear HQ;go_wp2;go_ret;exact⟨Ab (by simp[HT.out]),hb⟩
def Pm (x:Int):List Int->Nat->Int
 | [],_=>-1
 | y::r,k=>if x=y then k else Pm x r (k+1)
theorem A7a (x:Int):∀(l:List Int) (k:Nat),(0<=Pm x l k) ↔ x∈l
 | [],_=>by simp[Pm]
 | y::r,k=>by
  unfold Pm;by_cases h:x=y
  ·simp[h]
  ·rw[if_neg h,A7a x r (k+1)];simp[h]
theorem A0a (o:Option Addr) (c:Nat) (xs:List Int) (x:Int) (w:World) (hl:xs.length<=1048576) (hx:Bl 0 w o xs) :
  Kw 323 #[.slice o xs.length c,x] w (Pm x xs 0:Int):=by
 unfold Kw;go_in;go_wp2;go_loopw [8] (fun y wr=>∃k:Nat,k<=xs.length/\y=k/\Hid (Pm x (xs.drop k) k=Pm x xs 0)/\Below w w wr) (fun y _=>xs.length-(intOf y).toNat);case atStart=>exact⟨0,yE _,rfl,rfl,yA _ _⟩
 case round=>
  obtain⟨k,hk,rfl,HQ,hb⟩:=hrel;by_cases hkl:k<xs.length
  ·obtain⟨y,hyk⟩:=A8 hkl;obtain⟨b,off,rfl,_,hbl,q0⟩:=hx.l (A7.o hb) k y hyk;unfold Ho at q0;rw[Nat.mul_one]at q0;have HD:Hid (Pm x xs 0=if x=y then (k:Int) else Pm x (xs.drop (k+1)) (k+1)):=by show _=_;rw[←HQ.out,Ao hyk];rfl
   clear hyk HQ;by_cases hxy:x=y
   ·subst hxy;have HN:Hid (Pm x xs 0=(k:Int)):=by show _=_;rw[HD.out,if_pos rfl]
    clear HD;go_wp2;go_ret;exact⟨Ar HN.out.symm,hb⟩
   ·have k4:(x==y)=false:=by simpa using hxy
    have HN:Hid (Pm x (xs.drop (k+1)) (k+1)=Pm x xs 0):=by show _=_;rw[HD.out,if_neg hxy]
    clear HD hxy;go_wp2;go_roundw;case rel=>exact⟨k+1,by omega,by go_num,HN.out,hb⟩
    case measure=>simp[intOf];omega
  ·have HN:Hid (Pm x xs 0 = -1):=by have h:=HQ.out;rw[yQ (by omega)]at h;exact h.symm
   clear HQ;go_wp2;go_ret;exact⟨Ar HN.out.symm,hb⟩
theorem Mj (o:Option Addr) (c:Nat) (xs:List Int) (x:Int) (w:World) (hl:xs.length<=1048576) (hx:Bl 0 w o xs) :
  Kw 293 #[.slice o xs.length c,x] w (.bool (decide (x∈xs))):=by
 have HI:Hid (decide (x∈xs)=decide (0<=Pm x xs 0)):=by show _=_;rw[Bool.eq_iff_iff,decide_eq_true_iff,decide_eq_true_iff];exact(A7a x xs 0).symm
 have HC:Hid _:=fun (W:World) (h:Bl 0 W o xs)=>A0a o c xs x W hl h;unfold Kw;go_in;go_wp2_with fail;refine(HC.out _ hx).mono ?_;rintro e w1 ⟨rfl,hw1⟩;generalize Pm x xs 0=ix at *;go_wp2;go_ret;exact⟨Ab HI.out.symm,hw1⟩
end Go.Proofs.YtjbbppblgjhapaaGreatDoor
