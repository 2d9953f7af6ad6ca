import Derived.Deep.LoopGhost
import Derived.Laws.StructEq
import Derived.ArgAppend
import Derived.Deep.Cut
import Derived.Deep.MidRow
import Derived.Deep.RegionLaw
import Derived.Lib.SliceRun
import Derived.Lib.Walk
import Derived.Maps.AppendAt
import Derived.Test.YtjbbppblgjhapaaGreatDoorJ02
set_option maxRecDepth 100000
set_option maxHeartbeats 2000000
namespace Go.Proofs.YtjbbppblgjhapaaGreatDoor
open Go.Deep Go.Proofs.Tryz Go.RowKit
variable{D ext p:List Nat}{xs:List Value}{N a at_ b base c cap e i j least lo low n size:Nat}{ao:Option Addr}{row:Option Nat}{u v:Value}{w w':World}
structure Gd where
 tr:Bool
 keep:Int
 hd:Int
 deriving DecidableEq
def Gd.vals (g:Gd):List Value:=[.bool g.tr,g.keep,g.hd]
def Gd.val (g:Gd):Value:=.agg #[.bool g.tr,g.keep,g.hd]
def Ho (w:World) (b o:Nat) (x:Int):Prop:=w.cell? (b,o)=some (x:Value)
def GdAt (w:World) (b o:Nat) (g:Gd):Prop:=w.cell? (b,o)=some (.bool g.tr)/\w.cell? (b,o+1)=some (g.keep:Value)/\w.cell? (b,o+2)=some (g.hd:Value)
def Bl (lo:Nat) (w:World) (ao:Option Addr) (xs:List Int):Prop:=Ah lo w ao 1 (Ho w) xs
def Bn (lo:Nat) (w:World) (ao:Option Addr) (xs:List Gd):Prop:=Ah lo w ao 3 (GdAt w) xs
theorem Bl.l {xs:List Int} (h:Bl lo w ao xs) (hk:A7 lo w w'):Bl lo w' ao xs:=
 Ah.l h hk fun _ _ _ hl hb _ hx=>(hk.cell hl hb).trans hx
theorem Bn.l {xs:List Gd} (h:Bn lo w ao xs) (hk:A7 lo w w'):Bn lo w' ao xs:=
 Ah.l h hk fun _ _ _ hl hb _ hx=>⟨(hk.cell hl hb).trans hx.1,(hk.cell hl hb).trans hx.2.1,(hk.cell hl hb).trans hx.2.2⟩
def Az (xs:List Int):List Value:=xs.map (Value.int .i64)
def gds (xs:List Gd):List Value:=xs.flatMap Gd.vals
theorem Ij (xs:List Gd):(gds xs).length=xs.length*3:=by
 induction xs with
 | nil=>rfl
 | cons x r ih=>simp only[gds,List.flatMap_cons,List.length_append,List.length_cons]at *;rw[ih];simp[Gd.vals];omega
theorem Qo:∀{xs:List Gd} {i:Nat} {g:Gd},xs[i]?=some g->∀j v,g.vals[j]?=some v->(gds xs)[i*3+j]?=some v
 | [],i,g,h,_,_,_=>by simp at h
 | x::r,0,g,h,j,v,hv=>by
  simp at h;subst h;have hj:j<3:=(yD.1 hv).1;simp only[gds,List.flatMap_cons];rw[List.getElem?_append_left (by simp[Gd.vals];omega)];simpa using hv
 | x::r,i+1,g,h,j,v,hv=>by
  simp at h;simp only[gds,List.flatMap_cons];rw[List.getElem?_append_right (by simp[Gd.vals];omega)];have:=Qo h j v hv;have e:(i+1)*3+j-x.vals.length=i*3+j:=by simp[Gd.vals];omega
  rw[e];exact this
theorem Ju (xs ys:List Gd):gds (xs++ys)=gds xs++gds ys:=by simp[gds]
theorem Ta (xs ys:List Int):Az (xs++ys)=Az xs++Az ys:=by simp[Az]
theorem Ce (h:w.ownsRow base e size v n xs) :
  (v=nS/\n=0)∨∃g cap,v=.slice (some ⟨g,0,none⟩) n cap/\base<=g/\g<(w:Nat):=by
 obtain⟨_,h|⟨g,cap,cur,rfl,hg,hb,_⟩⟩:=h
 ·exact .inl h
 ·exact .inr ⟨g,cap,rfl,hg,(Array.getElem?_eq_some_iff.1 hb).1⟩
theorem D9{g:Nat} (h:w.ownsRow base e size (.slice g n cap) n xs) (hj:xs[j]?=some u):w.cell? (g,j)=some u:=by have h1:=h.1;have h2:=(yD.1 hj).1;exact(h.cellAt j (by omega)).trans hj
theorem Ct (h:w.ownsRow base e size v n xs) (hk:A7 base w w'):w'.ownsRow base e size v n xs:=by
 obtain⟨h1,h2|⟨g,cap,cur,e1,hg,hb,r⟩⟩:=h
 ·exact⟨h1,.inl h2⟩
 ·exact⟨h1,.inr ⟨g,cap,cur,e1,hg,(hk.block g hg (Array.getElem?_eq_some_iff.1 hb).1).trans hb,r⟩⟩
theorem Ai (h:w.ownsRow base e size v n xs) (hk:Below w w w'):w'.ownsRow base e size v n xs:=Ct h (A7.o hk)
theorem Aa (h:w.ownsRow base e size v n xs):∃ao cap,v=.slice ao n cap:=by
 rcases Ce h with ⟨rfl,rfl⟩|⟨g,cap,rfl,_⟩
 ·exact⟨_,_,rfl⟩
 ·exact⟨_,_,rfl⟩
theorem Dp {xs:List Int} (h:w.ownsRow base 3 1 (.slice ao n cap) n (Az xs)):Bl base w ao xs/\n=xs.length:=by
 have hl:n=xs.length:=by have:=h.1;simp[Az]at this;omega
 refine⟨?_,hl⟩;intro i x hi;rcases Ce h with ⟨h1,h2⟩|⟨g,cap',h1,h2,h3⟩
 ·subst h2;have:xs=[]:=yW.1 hl.symm;subst this;simp at hi
 ·simp only[Value.slice.injEq]at h1;obtain⟨rfl,_,rfl⟩:=h1;refine⟨g,0,rfl,h2,h3,?_⟩;rw[yM,Nat.mul_one];exact D9 h (by simp[Az,hi])
theorem Jz {xs:List Gd} (h:w.ownsRow base 280 3 (.slice ao n cap) n (gds xs)):Bn base w ao xs/\n=xs.length:=by
 have hl:n=xs.length:=by have:=h.1;rw[Ij]at this;omega
 refine⟨?_,hl⟩;intro i x hi;rcases Ce h with ⟨h1,h2⟩|⟨g,cap',h1,h2,h3⟩
 ·subst h2;have:xs=[]:=yW.1 hl.symm;subst this;simp at hi
 ·simp only[Value.slice.injEq]at h1;obtain⟨rfl,_,rfl⟩:=h1;refine⟨g,0,rfl,h2,h3,?_⟩;rw[yM];exact⟨D9 h (Qo hi 0 _ rfl),D9 h (Qo hi 1 _ rfl),D9 h (Qo hi 2 _ rfl)⟩
theorem Tryz.info_int:(prog.info? 3).map (fun i=>(i.zero,i.size,i.bytes))=some (some (.int .i64 0),1,8):=by kernel_rfl
theorem Tryz.info_Guard:(prog.info? 280).map (fun i=>(i.zero,i.size,i.bytes))=some (some (.agg #[false,(),()]),3,24):=by kernel_rfl
theorem Lx (ao:Option Addr) (cap:Nat) (xs:List Int) (w:World) (hm:xs.length<=1048576) (hx:Bl 0 w ao xs) :
  Calls prog 86 #[.slice ao xs.length cap] w fun e w'=>∃v,e=.returned v/\w'.ownsRow (w:Nat) 3 1 v xs.length (Az xs)/\Below w w w':=by
 obtain⟨i0,hi,hz0,hz1,hz2⟩:=info_parts Tryz.info_int;go_in;go_wp2;go_loopw [3,8] (fun v y wr=>∃k:Nat,k<=xs.length/\y=k/\wr.ownsRow (w:Nat) 3 1 v k (Az (xs.take k))/\Below w w wr) (fun _ y _=>xs.length-(intOf y).toNat);case atStart=>exact⟨0,yE _,rfl,yU _ _ _ _,yA _ _⟩
 case round=>
  obtain⟨k,hk,rfl,hown,hb⟩:=hrel;by_cases hkl:k<xs.length
  ·obtain⟨x,hxk⟩:=A8 hkl;obtain⟨b,off,rfl,_,hbl,q0⟩:=hx.l (A7.o hb) k x hxk;unfold Ho at q0;rw[Nat.mul_one]at q0;have hT:Hid (Az (xs.take (k+1))=Az (xs.take k)++[.int .i64 x]):=by show _=_;rw[List.take_add_one,hxk,Ta];rfl
   go_wp2_with (at_builtin;refine wpList_append_own _ rfl _ _ 99 rfl (w:Nat) 3 i0 () 1 8 underlying99 hi hz0 hz1 hz2 rfl (by decide) _ _ _ rfl (hown.alloc _) ⟨wr,0,none⟩ 1 1 [x] rfl rfl ?c1 ?c2 ?c3 ?c4 ?c5 ?_);case c1=>
    intro j u hj
    match j,hj with
    | 0,hj=>simp at hj;subst hj;simp[Addr.add]
   case c2=>intro u hu;simp at hu;subst hu;rfl
   case c3=>unfold maxLen;omega
   case c4=>omega
   case c5=>have:=hb.size;simp;omega
   ·intro v' w1 hown' hgrow _;have B1:=(hb.alloc hb.size _).grown hgrow (by have:=hb.size;simp;omega) (fun k hk=>(hown.lt k hk).1);rw[←hT.out]at hown';clear hgrow hown hT q0;go_wp2;go_roundw;case rel=>exact⟨k+1,by omega,by go_num,hown',B1⟩
    case measure=>simp[intOf];omega
  ·go_wp2;go_ret;obtain rfl:k=xs.length:=by omega
   rw[List.take_length]at hown;exact⟨_,rfl,hown,hb⟩
theorem Aj (h:w.ownsRow base e size v n xs) (hb:∀k,v.ownBlock=some k->w'.heap[k]?=w.heap[k]?):w'.ownsRow base e size v n xs:=by
 obtain⟨h1,h2|⟨g,cap,cur,rfl,hg,hh,r⟩⟩:=h
 ·exact⟨h1,.inl h2⟩
 ·exact⟨h1,.inr ⟨g,cap,cur,rfl,hg,(hb g rfl).trans hh,r⟩⟩
theorem D6 (h:w.ownsRow base e size v n xs) (hg:w.grownBy w' row) (hn:∀k,v.ownBlock=some k->some k≠row):w'.ownsRow base e size v n xs:=
 Aj h fun k hk=>hg.block k (h.lt k hk).2 (hn k hk)
inductive Pth (E:Nat->Nat->Prop):Nat->Nat->Prop
 | refl (a:Nat):Pth E a a
 | step {a b c:Nat} (h:E a b) (k:Pth E b c):Pth E a c
theorem Pth.trans {E:Nat->Nat->Prop} (h:Pth E a b) (k:Pth E b c):Pth E a c:=by
 induction h with
 | refl=>exact k
 | step h _ ih=>exact .step h (ih k)
theorem Pth.one {E:Nat->Nat->Prop} (h:E a b):Pth E a b:=.step h (.refl _)
def OnC (E:Nat->Nat->Prop) (i:Nat):Prop:=∃b,E i b/\Pth E b i
theorem Abh {E:Nat->Nat->Prop} (hn:a≠b) (h:Pth E a b) (k:Pth E b a):OnC E a:=by
 cases h with
 | refl=>exact absurd rfl hn
 | step h1 h2=>exact⟨_,h1,h2.trans k⟩
structure Tj where
 count:Nat
 order:List Nat
 path:List Nat
 least:Nat
def Tj.ord (T:Tj) (v:Nat):Nat:=T.order.getD v 0
structure Jt (E:Nat->Nat->Prop) (N:Nat) (T:Tj) (gray:Nat->Prop):Prop where
 lenO:T.order.length=N
 sorted:T.path.Pairwise fun x y=>T.ord x<T.ord y
 vis:∀v∈T.path,T.ord v≠0
 le:∀v,T.ord v<=T.count
 fwd:T.path.Pairwise fun x y=>Pth E x y
 gry:∀x,gray x->x∈T.path
 back:∀y∈T.path,∃x,gray x/\Pth E y x
 black:∀y,T.ord y≠0->¬gray y->∀z,E y z->T.ord z≠0
 clo:∀y,T.ord y≠0->y∉T.path->∀z,E y z->T.ord z≠0/\z∉T.path
 sound:T.least=N∨(T.least<N/\OnC E T.least)
 comp:∀i,T.ord i≠0->i∉T.path->OnC E i->T.least<=i
structure Vt (E:Nat->Nat->Prop) (N:Nat) (T T':Tj) (gray:Nat->Prop) (at_ low:Nat):Prop where
 j:Jt E N T' gray
 path:∃ext,T'.path=T.path++ext/\(∀y∈ext,∀z∈T.path,E y z->low<=T.ord z)/\((ext=[]/\T.count<low)∨∃z∈T.path,T.ord z=low/\Pth E at_ z)
 same:∀v,T.ord v≠0->T'.ord v=T.ord v
 seen:T'.ord at_≠0
 more:T.count<=T'.count
structure Lt (E:Nat->Nat->Prop) (N:Nat) (T0 T:Tj) (gray:Nat->Prop) (at_ low:Nat) (D:List Nat):Prop where
 j:Jt E N T fun x=>gray x∨x=at_
 path:∃ext,T.path=T0.path++at_::ext/\∀y∈ext,∀z∈T0.path,E y z->low<=T.ord z
 o:T.ord at_=T0.count+1
 lowLe:low<=T0.count+1
 lows:∃z∈T.path,T.ord z=low/\Pth E at_ z
 done:∀b∈D,T.ord b≠0/\(b∈T0.path->low<=T.ord b)
 same:∀v,T0.ord v≠0->T.ord v=T0.ord v
 more:T0.count+1<=T.count
theorem Ade {T:Tj} {l k:Nat} (h:T.order.length=N) (ha:at_<N) (v:Nat):(Tj.mk c (T.order.set at_ k) p l).ord v=if v=at_ then k else T.ord v:=by
 unfold Tj.ord;simp only[yR,List.getElem?_set];by_cases hv:at_=v
 ·subst hv;simp[h,ha]
 ·simp[hv,Ne.symm hv]
theorem Ab6 {E:Nat->Nat->Prop} {T:Tj} {gray:Nat->Prop} (hj:Jt E N T gray) (ha:at_<N) (hw:T.ord at_=0)
  (hreach:∀x∈T.path,Pth E x at_):Lt E N T ⟨T.count+1,T.order.set at_ (T.count+1),T.path++[at_],T.least⟩ gray at_ (T.count+1) []:=by
 have ho:=fun v=>Ade (T:=T) (c:=T.count+1) (p:=T.path++[at_]) (l:=T.least) (k:=T.count+1) hj.lenO ha v;have hne:∀v,T.ord v≠0->v≠at_:=fun v h e=>h (e▸hw);have hin:=fun v h=>hne v (hj.vis v h);refine⟨⟨by simp[hj.lenO],?_,?_,?_,?_,?_,?_,?_,?_,hj.sound,?_⟩,⟨[],rfl,by simp⟩,by rw[ho];simp,yB _,⟨at_,by simp,by rw[ho];simp,.refl _⟩,by simp,?_,yB _⟩
 ·refine List.pairwise_append.2 ⟨?_,by simp,?_⟩
  ·refine hj.sorted.imp_of_mem ?_;intro a b h1 h2 h3;rw[ho,ho,if_neg (hin a h1),if_neg (hin b h2)];exact h3
  ·intro a h1 b hb;simp at hb;subst hb;rw[ho,ho,if_neg (hin a h1),if_pos rfl];have:=hj.le a;omega
 ·intro v hv;rw[ho];split
  ·omega
  ·rename_i hn;simp[hn]at hv;exact hj.vis v hv
 ·intro v;rw[ho];have:=hj.le v;dsimp only;split<;>omega
 ·refine List.pairwise_append.2 ⟨hj.fwd,by simp,?_⟩;intro a h1 b hb;simp at hb;subst hb;exact hreach a h1
 ·intro x hx;rcases hx with hx|rfl
  ·simp[hj.gry x hx]
  ·simp
 ·intro y hy;by_cases h:y=at_
  ·subst h;exact⟨y,.inr rfl,.refl _⟩
  ·simp[h]at hy;obtain⟨x,h1,h2⟩:=hj.back y hy;exact⟨x,.inl h1,h2⟩
 ·intro y hy hg z hz;have hya:y≠at_:=fun e=>hg (.inr e);rw[ho,if_neg hya]at hy;have:=hj.black y hy (fun h=>hg (.inl h)) z hz;rw[ho];split
  ·omega
  ·exact this
 ·intro y hy hp z hz;simp at hp;rw[ho,if_neg hp.2]at hy;obtain⟨h1,h2⟩:=hj.clo y hy hp.1 z hz;have:=hne z h1;rw[ho,if_neg this];exact⟨h1,by simp[h2,this]⟩
 ·intro i hi hp hc;simp at hp;rw[ho,if_neg hp.2]at hi;exact hj.comp i hi hp.1 hc
 ·intro v hv;rw[ho,if_neg (hne v hv)]
theorem Ad3 {E:Nat->Nat->Prop} {T0 T:Tj} {gray:Nat->Prop} (h:Lt E N T0 T gray at_ low D) (hb:T.ord b≠0) (hE:E at_ b) :
  (b∈T.path->Lt E N T0 T gray at_ (min low (T.ord b)) (D++[b]))/\(b∉T.path->Lt E N T0 T gray at_ low (D++[b])):=by
 obtain⟨ext,e1,e2⟩:=h.path;constructor
 ·intro hp;refine⟨h.j,⟨ext,e1,fun y hy z hz he=>yI (Nat.min_le_left _ _) (e2 y hy z hz he)⟩,h.o,yI (Nat.min_le_left _ _) h.lowLe,?_,?_,h.same,h.more⟩
  ·by_cases hl:low<=T.ord b
   ·rw[Nat.min_eq_left hl];exact h.lows
   ·rw[Nat.min_eq_right (by omega)];exact⟨b,hp,rfl,.one hE⟩
  ·intro x hx;rcases yZ.1 hx with hx|hx
   ·obtain⟨h1,h2⟩:=h.done x hx;exact⟨h1,fun hz=>yI (Nat.min_le_left _ _) (h2 hz)⟩
   ·simp at hx;subst hx;exact⟨hb,fun _=>Nat.min_le_right _ _⟩
 ·intro hp;refine⟨h.j,⟨ext,e1,e2⟩,h.o,h.lowLe,h.lows,?_,h.same,h.more⟩;intro x hx;rcases yZ.1 hx with hx|hx
  ·exact h.done x hx
  ·simp at hx;subst hx;refine⟨hb,fun hz=>absurd ?_ hp⟩;rw[e1];simp[hz]
theorem Ab7 {E:Nat->Nat->Prop} {T0 T T':Tj} {gray:Nat->Prop}{l:Nat} (h:Lt E N T0 T gray at_ low D) (hw:T.ord b=0) (hE:E at_ b)
  (hv:Vt E N T T' (fun x=>gray x∨x=at_) b l):Lt E N T0 T' gray at_ (min low l) (D++[b]):=by
 obtain⟨ext,e1,e2⟩:=h.path;obtain⟨ext',p1,p2,p3⟩:=hv.path;have hsm:=fun v hm=>hv.same v (h.j.vis v hm);have hin0:∀v∈T0.path,v∈T.path:=fun v hm=>by rw[e1];simp[hm]
 have hat:at_∈T.path:=by rw[e1];simp
 refine⟨hv.j,⟨ext++ext',by rw[p1,e1];simp,?_⟩,by rw[hsm at_ hat];exact h.o,yI (Nat.min_le_left _ _) h.lowLe,?_,?_,?_,yI h.more hv.more⟩
 ·intro y hy z hz he;rw[hsm z (hin0 z hz)];rcases yZ.1 hy with hy|hy
  ·have:=e2 y hy z hz he;have:=Nat.min_le_left low l;omega
  ·have:=p2 y hy z (hin0 z hz) he;have:=Nat.min_le_right low l;omega
 ·obtain⟨z,z1,z2,z3⟩:=h.lows;have hzk:∃z∈T'.path,T'.ord z=low/\Pth E at_ z:=⟨z,by rw[p1];simp[z1],by rw[hsm z z1];exact z2,z3⟩;rcases p3 with ⟨_,p4⟩|⟨y,y1,y2,y3⟩
  ·have h1:=h.lowLe;have h2:=h.more;rw[Nat.min_eq_left (by omega)];exact hzk
  ·by_cases hl:low<=l
   ·rw[Nat.min_eq_left hl];exact hzk
   ·rw[Nat.min_eq_right (by omega)];exact⟨y,by rw[p1];simp[y1],by rw[hsm y y1];exact y2,.step hE y3⟩
 ·intro x hx;rcases yZ.1 hx with hx|hx
  ·obtain⟨h1,h2⟩:=h.done x hx;have:=hv.same x h1;rw[this];exact⟨h1,fun hz=>yI (Nat.min_le_left _ _) (h2 hz)⟩
  ·simp at hx;subst hx;refine⟨hv.seen,fun hz=>?_⟩;exact absurd hw (h.j.vis x (hin0 x hz))
 ·intro v hn;have h1:=h.same v hn;rw[hv.same v (by rw[h1];exact hn),h1]
theorem Vh {E:Nat->Nat->Prop} {T0 T:Tj} {gray:Nat->Prop} (h:Lt E N T0 T gray at_ low D) (hg0:∀x,gray x->x∈T0.path) (e1:T.path=T0.path++at_::ext) :
  ∀y∈at_::ext,Pth E y at_/\Pth E at_ y:=by
 have hf:=h.j.fwd;rw[e1]at hf;obtain⟨_,f2,f3⟩:=List.pairwise_append.1 hf;intro y hy;constructor
 ·obtain⟨x,hx,hp⟩:=h.j.back y (by rw[e1];exact yZ.2 (.inr hy));rcases hx with hx|rfl
  ·exact hp.trans (f3 x (hg0 x hx) at_ (by simp))
  ·exact hp
 ·rcases List.mem_cons.1 hy with rfl|hy
  ·exact .refl _
  ·exact(List.pairwise_cons.1 f2).1 y hy
theorem Yz {E:Nat->Nat->Prop} {T0 T:Tj} {gray:Nat->Prop} (h:Lt E N T0 T gray at_ low D) (e1:T.path=T0.path++at_::ext) :
  (∀z∈T0.path,T.ord z<T0.count+1)/\(∀y∈ext,T0.count+1<T.ord y)/\at_∉T0.path/\(∀y∈ext,y∉T0.path):=by
 have hs:=h.j.sorted;rw[e1]at hs;obtain⟨_,s2,s3⟩:=List.pairwise_append.1 hs;have o:=h.o;have k1:∀z∈T0.path,T.ord z<T0.count+1:=fun z hz=>by have:=s3 z hz at_ (by simp);omega
 have k2:∀y∈ext,T0.count+1<T.ord y:=fun y hy=>by have:=(List.pairwise_cons.1 s2).1 y hy;omega
 refine⟨k1,k2,fun hz=>by have:=k1 _ hz;omega,fun y hy hz=>by have:=k1 _ hz;have:=k2 _ hy;omega⟩
theorem Acg {E:Nat->Nat->Prop} {T0 T:Tj} {gray:Nat->Prop} (hj:Jt E N T0 gray) (h:Lt E N T0 T gray at_ (T0.count+1) D) (e1:T.path=T0.path++at_::ext) (hD:∀b,E at_ b->b∈D)
  (hN:∀y∈at_::ext,y<N)
  (hl:((ext≠[]∨E at_ at_)/\∃m∈at_::ext,(∀y∈at_::ext,m<=y)/\least=min T.least m)∨(¬(ext≠[]∨E at_ at_)/\least=T.least)) :
  Vt E N T0 ⟨T.count,T.order,T0.path,least⟩ gray at_ (T0.count+1):=by
 obtain⟨k1,k2,k3,k4⟩:=Yz h e1;have hgr:=Vh h hj.gry e1;have hs0:=fun z hz=>h.same z (hj.vis z hz);obtain⟨ext2,e1',e2⟩:=h.path;obtain rfl:ext=ext2:=by rw[e1]at e1';simpa using e1'
 have hcirc:(ext≠[]∨E at_ at_)->∀y∈at_::ext,OnC E y:=by
  intro hc y hy;by_cases hya:y=at_
  ·subst hya;by_cases hx:ext=[]
   ·rcases hc with hc|hc
    ·exact absurd hx hc
    ·exact⟨y,hc,.refl _⟩
   ·obtain⟨u,hu⟩:=List.exists_mem_of_ne_nil ext hx;have hne:y≠u:=by intro e;subst e;have:=k2 _ hu;have:=h.o;omega
    have:=hgr u (by simp[hu]);exact Abh hne this.2 this.1
  ·have:=hgr y hy;exact Abh hya this.1 this.2
 have hle:least<=T.least:=by
  rcases hl with ⟨_,m,_,_,rfl⟩|⟨_,rfl⟩
  ·exact Nat.min_le_left _ _
  ·exact yB _
 refine⟨⟨h.j.lenO,?_,?_,h.j.le,?_,hj.gry,hj.back,?_,?_,?_,?_⟩,⟨[],by simp,by simp,.inl ⟨rfl,by omega⟩⟩,h.same,?_,by have:=h.more;dsimp only;omega⟩
 ·exact(List.pairwise_append.1 (e1▸h.j.sorted)).1
 ·intro v hv;exact h.j.vis v (by rw[e1];simp[hv])
 ·exact(List.pairwise_append.1 (e1▸h.j.fwd)).1
 ·intro y hy hg z hz;by_cases hya:y=at_
  ·subst hya;exact(h.done z (hD z hz)).1
  ·exact h.j.black y hy (by rintro(h1|h1);exact hg h1;exact hya h1) z hz
 ·intro y hy hp z hz;dsimp only at hp;have hvz:T.ord z≠0:=by
   by_cases hya:y=at_
   ·subst hya;exact(h.done z (hD z hz)).1
   ·exact h.j.black y hy (by rintro(h1|h1);exact hp (hj.gry y h1);exact hya h1) z hz
  refine⟨hvz,?_⟩;dsimp only;intro hz0;have hk:=k1 z hz0;by_cases hyp:y∈T.path
  ·rw[e1]at hyp;rcases yZ.1 hyp with h1|h1
   ·exact hp h1
   ·rcases List.mem_cons.1 h1 with rfl|h1
    ·have:=(h.done z (hD z hz)).2 hz0;omega
    ·have:=e2 y h1 z hz0 hz;omega
  ·exact(h.j.clo y hy hyp z hz).2 (by rw[e1];simp[hz0])
 ·dsimp only;rcases hl with ⟨hc,m,m1,m2,rfl⟩|⟨_,rfl⟩
  ·have hm:=hN m m1;rcases h.j.sound with hs|hs
   ·exact .inr ⟨by omega,by rw[Nat.min_eq_right (by omega)];exact hcirc hc m m1⟩
   ·by_cases hml:T.least<=m
    ·rw[Nat.min_eq_left hml];exact .inr hs
    ·rw[Nat.min_eq_right (by omega)];exact .inr ⟨hm,hcirc hc m m1⟩
  ·exact h.j.sound
 ·intro i hi hp hc;dsimp only at hp ⊢;by_cases hip:i∈T.path
  ·rw[e1]at hip;have hig:=(yZ.1 hip).resolve_left hp;rcases hl with ⟨_,m,m1,m2,rfl⟩|⟨hn,_⟩
   ·exact yI (Nat.min_le_right _ _) (m2 i hig)
   ·exfalso;have hx:=Classical.byContradiction fun hx=>hn (.inl hx);subst hx;simp at hig;subst hig;obtain⟨b,hb1,hb2⟩:=hc;obtain⟨d1,d2⟩:=h.done b (hD b hb1);by_cases hbp:b∈T.path
    ·rw[e1]at hbp;rcases yZ.1 hbp with h1|h1
     ·have:=d2 h1;have:=k1 b h1;omega
     ·simp at h1;subst h1;exact hn (.inr hb1)
    ·have:∀{u v:Nat},Pth E u v->T.ord u≠0->u∉T.path->v∉T.path:=by
      intro u v hp
      induction hp with
      | refl=>exact fun _ h2=>h2
      | step h1 _ ih=>intro h2 h3;obtain⟨c1,c2⟩:=h.j.clo _ h2 h3 _ h1;exact ih c1 c2
     exact this hb2 d1 hbp (by rw[e1];simp)
  ·exact yI hle (h.j.comp i hi hip hc)
 ·show T.ord at_≠0;have:=h.o;omega
theorem Ae0 {E:Nat->Nat->Prop} {T0 T:Tj} {gray:Nat->Prop} (hj:Jt E N T0 gray) (h:Lt E N T0 T gray at_ low D) (hD:∀b,E at_ b->b∈D) (hlow:low≠T0.count+1):Vt E N T0 T gray at_ low:=by
 obtain⟨ext,e1,e2⟩:=h.path;obtain⟨k1,k2,k3,k4⟩:=Yz h e1;have hgr:=Vh h hj.gry e1;have hs0:=fun z hz=>h.same z (hj.vis z hz);have hl2:=h.lowLe;obtain⟨z,z1,z2,z3⟩:=h.lows;have hz0:z∈T0.path:=by
  rw[e1]at z1;rcases yZ.1 z1 with h1|h1
  ·exact h1
  ·exfalso;rcases List.mem_cons.1 h1 with rfl|h1
   ·have:=h.o;omega
   ·have:=k2 z h1;omega
 have hb:=fun y hy=>(h.done y (hD y hy)).1;refine⟨⟨h.j.lenO,h.j.sorted,h.j.vis,h.j.le,h.j.fwd,fun x hx=>h.j.gry x (.inl hx),?_,?_,h.j.clo,h.j.sound,h.j.comp⟩,⟨at_::ext,e1,?_,.inr ⟨z,hz0,by rw[←hs0 z hz0];exact z2,z3⟩⟩,h.same,by have:=h.o;omega,by have:=h.more;omega⟩
 ·intro y hy;rw[e1]at hy;rcases yZ.1 hy with h1|h1
  ·exact hj.back y h1
  ·obtain⟨x,hx,hp⟩:=hj.back z hz0;exact⟨x,hx,((hgr y h1).1.trans z3).trans hp⟩
 ·intro y hy hg u hu;by_cases hya:y=at_
  ·subst hya;exact hb u hu
  ·exact h.j.black y hy (by rintro(h1|h1);exact hg h1;exact hya h1) u hu
 ·intro y hy u hu he;rw[←hs0 u hu];rcases List.mem_cons.1 hy with rfl|hy
  ·exact(h.done u (hD u he)).2 hu
  ·exact e2 y hy u hu he
theorem Ab5 {E:Nat->Nat->Prop} {T0 T:Tj} {gray:Nat->Prop} (h:Lt E N T0 T gray at_ low D) (hg0:∀x,gray x->x∈T0.path) (hE:E at_ b):∀x∈T.path,Pth E x b:=by
 obtain⟨ext,e1,_⟩:=h.path;have hgr:=Vh h hg0 e1;have hf:=h.j.fwd;rw[e1]at hf;obtain⟨_,_,f3⟩:=List.pairwise_append.1 hf;intro x hx;rw[e1]at hx;rcases yZ.1 hx with h1|h1
 ·exact(f3 x h1 at_ (by simp)).trans (.one hE)
 ·exact(hgr x h1).1.trans (.one hE)
theorem Aek {E:Nat->Nat->Prop} {T:Tj} {gray:Nat->Prop} (h:Jt E N T gray) {v:Nat} (hv:T.ord v≠0):v<N:=by refine Classical.byContradiction fun hn=>hv ?_;unfold Tj.ord;rw[yR,List.getElem?_eq_none (by rw[h.lenO];omega)];rfl
theorem A40 {E:Nat->Nat->Prop} {T:Tj} (h:Jt E N T fun _=>False):T.path=[]:=by refine Classical.byContradiction fun hn=>?_;obtain⟨y,hy⟩:=List.exists_mem_of_ne_nil _ hn;obtain⟨x,hx,_⟩:=h.back y hy;exact hx
theorem Aay (E:Nat->Nat->Prop) (N:Nat):Jt E N ⟨0,List.replicate N 0,[],N⟩ fun _=>False:=by
 have ho:∀v,(Tj.mk 0 (List.replicate N 0) [] N).ord v=0:=by intro v;unfold Tj.ord;simp[List.getD_eq_getElem?_getD,List.getElem?_replicate];split<;>rfl
 refine⟨by simp,by simp,by simp,fun v=>by rw[ho];simp,by simp,by simp,by simp,fun y hy=>absurd (ho y) hy,fun y hy=>absurd (ho y) hy,.inl rfl,fun y hy=>absurd (ho y) hy⟩
def Lp (E:Nat->Nat->Prop) (N m:Nat):Prop:=(m=N∨(m<N/\OnC E m))/\∀i,i<N->OnC E i->m<=i
theorem Ab4 {E:Nat->Nat->Prop} {T:Tj} (h:Jt E N T fun _=>False) (hv:∀i,i<N->T.ord i≠0):Lp E N T.least:=
 ⟨h.sound,fun i hi hc=>h.comp i (hv i hi) (by rw[A40 h];simp) hc⟩
theorem Ad7 {E F:Nat->Nat->Prop} {P:Nat->Prop} (hE:∀a b,E a b ↔ (P a/\F a b)) (hP:∀a b,P a->F a b->P b) : OnC E i ↔ (P i/\OnC F i):=by
 have h1:∀{a b:Nat},Pth E a b->Pth F a b:=by
  intro a b h
  induction h with
  | refl=>exact .refl _
  | step h _ ih=>exact .step ((hE _ _).1 h).2 ih
 have h2:∀{a b:Nat},Pth F a b->P a->Pth E a b:=by
  intro a b h
  induction h with
  | refl=>exact fun _=>.refl _
  | step h _ ih=>exact fun hp=>.step ((hE _ _).2 ⟨hp,h⟩) (ih (hP _ _ hp h))
 constructor
 ·rintro⟨b,hb,hp⟩;exact⟨((hE _ _).1 hb).1,b,((hE _ _).1 hb).2,h1 hp⟩
 ·rintro⟨hp,b,hb,hq⟩;exact⟨b,(hE _ _).2 ⟨hp,hb⟩,h2 hq (hP _ _ hp hb)⟩
end Go.Proofs.YtjbbppblgjhapaaGreatDoor
namespace Go.Proofs.YtjbbppblgjhapaaGreatDoor
open Go.Deep Go.Proofs.Tryz Go.RowKit
theorem Tryz.guard_und:prog.underlying 280=some (.struct (prog.fieldsOf 280)):=by kernel_rfl
theorem Tryz.guard_held:prog.stoodInHeld 280=false:=by kernel_rfl
theorem Tryz.guard_eqg:prog.eqGuardType prog.depth 280=false:=by kernel_rfl
theorem Oq (x y:Operand) (xs ys:Array Value) (w:World):(eqGuard .neq 280 x y (.agg xs) (.agg ys)).run prog w=.ok () w:=run_eqGuard_agg w .neq _ x y xs ys Tryz.guard_eqg
theorem Tryz.guard_fields:(prog.fieldsOf 280).toList.map (fun f=>(f.name== "_",f.type,f.offset))=[(false,4,0),(false,3,1),(false,3,2)]:=by kernel_rfl
theorem Ot (a0 b0:Bool) (a1 a2 b1 b2:Int) (w:World):(binOp .neq 280 (.agg #[.bool a0,a1,a2]) (.agg #[.bool b0,b1,b2])).run prog w=.ok (.bool (!(a0==b0&&(a1==b1&&a2==b2)))) w:=by
 rw[run_neq_struct,run_equalIn_struct w 9999 _ _ _ Tryz.guard_und Tryz.guard_held];have hf:=Tryz.guard_fields;generalize (prog.fieldsOf 280).toList=fs at hf;obtain⟨⟨n0,t0,o0,e0,g0,p0,y0⟩,r0,rfl,h0,hf⟩:=List.map_eq_cons_iff.1 hf;obtain⟨⟨n1,t1,o1,e1,g1,p1,y1⟩,r1,rfl,h1,hf⟩:=List.map_eq_cons_iff.1 hf;obtain⟨⟨n2,t2,o2,e2,g2,p2,y2⟩,r2,rfl,h2,hf⟩:=List.map_eq_cons_iff.1 hf;obtain rfl:=List.map_eq_nil_iff.1 hf;simp only[Prod.mk.injEq]at h0 h1 h2;obtain⟨h0,rfl,rfl⟩:=h0;obtain⟨h1,rfl,rfl⟩:=h1;obtain⟨h2,rfl,rfl⟩:=h2;have i0:¬n0 = "_" :=by simpa using h0
 have i1:¬n1 = "_" :=by simpa using h1
 have i2:¬n2 = "_" :=by simpa using h2
 simp[go_sem,part,i0,i1,i2];by_cases z0:a0=b0<;>by_cases z1:a1=b1<;>by_cases z2:a2=b2<;>simp[z0,z1,z2]
attribute [local go_sem] Oq Ot
def stV (r:Bool) (to:Option Addr) (tn tc:Nat) (go:Option Addr) (gn gc:Nat):Value:=.agg #[.bool r,.slice to tn tc,.slice go gn gc]
theorem Jg {α:Type} {a b:List α} {k:Nat} {x y:α} (hx:a[k]?=some x) (hy:b[k]?=some y):(a.drop k=b.drop k) ↔ (x=y/\a.drop (k+1)=b.drop (k+1)):=by rw[Ao hx,Ao hy,List.cons.injEq]
theorem A5v (r1 r2:Bool) (o1 o2 p1 p2:Option Addr) (c1 c2 d1 d2:Nat) (t1 t2:List Int) (g1 g2:List Gd) (w:World) (l1:t1.length<=1048576) (l3:g1.length<=1048576)
  (h1:Bl 0 w o1 t1) (h2:Bl 0 w o2 t2) (h3:Bn 0 w p1 g1) (h4:Bn 0 w p2 g2) :
  Kw 93 #[stV r1 o1 t1.length c1 p1 g1.length d1,stV r2 o2 t2.length c2 p2 g2.length d2] w (.bool (decide (t1=t2)&&decide (g1=g2))):=by
 unfold stV;have X0:=(Blk.new w #[.bool r1,.slice o1 t1.length c1,.slice p1 g1.length d1] 146).alloc (.cells #[.bool r2,.slice o2 t2.length c2,.slice p2 g2.length d2] 146);have Y0:=Blk.new (w.alloc (.cells #[.bool r1,.slice o1 t1.length c1,.slice p1 g1.length d1] 146)) #[.bool r2,.slice o2 t2.length c2,.slice p2 g2.length d2] 146;rw[nblk_alloc]at Y0;have hb2:∀o1 o2,Below w w ((w.alloc o1).alloc o2):=fun o1 o2=>((yA _ _).alloc (yB _) o1).alloc (by simp) o2;have HB:Hid _:=hb2;clear hb2;unfold Kw;go_in;by_cases e1:t1.length=t2.length;rotate_left
 ·have k1:((t1.length:Int) !=t2.length)=true:=by simp;omega
  have HN:Hid (¬t1=t2):=fun h=>e1 (by rw[h]);clear e1;go_wp2;go_ret;refine⟨Ab ?_,HB.out _ _⟩;simp[HN.out]
 ·have k1:((t1.length:Int) !=t2.length)=false:=by simp;omega
  by_cases e2:g1.length=g2.length;rotate_left
  ·have k2:((g1.length:Int) !=g2.length)=true:=by simp;omega
   have HN:Hid (¬g1=g2):=fun h=>e2 (by rw[h]);clear e1 e2;go_wp2;go_ret;refine⟨Ab ?_,HB.out _ _⟩;simp[HN.out]
  ·have k2:((g1.length:Int) !=g2.length)=false:=by simp;omega
   have E1:Hid _:=e1;have E2:Hid _:=e2;clear e1 e2;go_wp2_with fail;have B0:=HB.out (.cells #[.bool r1,.slice o1 t1.length c1,.slice p1 g1.length d1] 146) (.cells #[.bool r2,.slice o2 t2.length c2,.slice p2 g2.length d2] 146);clear HB;go_loopw [26] (fun y wr=>∃k:Nat,k<=t1.length/\y=k/\Hid ((t1=t2) ↔ (t1.drop k=t2.drop k))/\Below w w wr/\Blk wr (w:Nat) #[.bool r1,.slice o1 t1.length c1,.slice p1 g1.length d1] 146/\Blk wr ((w:Nat)+1) #[.bool r2,.slice o2 t2.length c2,.slice p2 g2.length d2] 146) (fun y _=>t1.length-(intOf y).toNat);case atStart=>exact⟨0,yE _,rfl,Iff.rfl,B0,X0,Y0⟩
   case round=>
    obtain⟨k,hk,rfl,HQ,hb,X1,Y1⟩:=hrel;clear B0 X0 Y0;have x1:=X1.cell;have y1:=Y1.cell;by_cases hkl:k<t1.length
    ·obtain⟨x,hxk⟩:=A8 hkl;have hkl2:k<t2.length:=by rw[←E1.out];exact hkl
     obtain⟨y,hyk⟩:=A8 hkl2;obtain⟨b,off,rfl,_,hbl,q0⟩:=h1.l (A7.o hb) k x hxk;obtain⟨b',off',rfl,_,hbl',q1⟩:=h2.l (A7.o hb) k y hyk;have HD:Hid _:=HQ.out.trans (Jg hxk hyk);unfold Ho at q0 q1;rw[Nat.mul_one]at q0 q1;have k3:(k:Int)<t2.length:=by omega
     clear HQ h1 h2 h3 h4 hxk hyk;by_cases hxy:x=y
     ·subst hxy;have HN:Hid ((t1=t2) ↔ t1.drop (k+1)=t2.drop (k+1)):=by show _ ↔ _;rw[HD.out];exact⟨fun h=>h.2,fun h=>⟨rfl,h⟩⟩
      clear HD;go_wp2_with fail;go_quiet (fail);go_wp2;go_roundw;case rel=>exact⟨k+1,by omega,by go_num,HN.out,below_drewN hb _,X1,Y1⟩
      case measure=>simp[intOf];omega
     ·have k4:(x !=y)=true:=by simpa using hxy
      have HN:Hid (¬t1=t2):=by intro h;exact hxy (HD.out.1 h).1
      clear HD hxy;go_wp2_with fail;go_quiet (fail);go_wp2;go_ret;refine⟨Ab ?_,below_drewN hb _⟩;simp[HN.out]
    ·have HT:Hid (t1=t2):=by show _=_;rw[HQ.out,yQ (by omega),yQ (by rw[←E1.out];omega)]
     clear HQ;go_wp2;go_loopw [44] (fun y wr=>∃k:Nat,k<=g1.length/\y=k/\Hid ((g1=g2) ↔ (g1.drop k=g2.drop k))/\Below w w wr/\Blk wr (w:Nat) #[.bool r1,.slice o1 t1.length c1,.slice p1 g1.length d1] 146/\Blk wr ((w:Nat)+1) #[.bool r2,.slice o2 t2.length c2,.slice p2 g2.length d2] 146) (fun y _=>g1.length-(intOf y).toNat);case atStart=>exact⟨0,yE _,rfl,Iff.rfl,hb,X1,Y1⟩
     case round=>
      obtain⟨k',hk',rfl,HQ,hb',X2,Y2⟩:=hrel;clear hb X1 Y1 x1 y1;have x2:=X2.cell;have y2:=Y2.cell;by_cases hkl2:k'<g1.length
      ·obtain⟨x,hxk⟩:=A8 hkl2;have hkl3:k'<g2.length:=by rw[←E2.out];exact hkl2
       obtain⟨y,hyk⟩:=A8 hkl3;obtain⟨b,off,rfl,_,hbl,q0,q1,q2⟩:=h3.l (A7.o hb') k' x hxk;obtain⟨b',off',rfl,_,hbl',q3,q4,q5⟩:=h4.l (A7.o hb') k' y hyk;have HD:Hid _:=HQ.out.trans (Jg hxk hyk);have k3:(k':Int)<g2.length:=by omega
       obtain⟨x0,x1,x2'⟩:=x;obtain⟨y0,y1,y2'⟩:=y;dsimp only at *;clear HQ h1 h2 h3 h4 hxk hyk;by_cases hxy:(⟨x0,x1,x2'⟩:Gd)=⟨y0,y1,y2'⟩
       ·have HN:Hid ((g1=g2) ↔ g1.drop (k'+1)=g2.drop (k'+1)):=by show _ ↔ _;rw[HD.out];exact⟨fun h=>h.2,fun h=>⟨hxy,h⟩⟩
        simp only[Gd.mk.injEq]at hxy;obtain⟨rfl,rfl,rfl⟩:=hxy;clear HD;go_wp2_with fail;go_quiet (fail);go_wp2;go_roundw;case rel=>exact⟨k'+1,by omega,by go_num,HN.out,below_drewN hb' _,X2,Y2⟩
        case measure=>simp[intOf];omega
       ·have HN:Hid (¬g1=g2):=by intro h;exact hxy (HD.out.1 h).1
        have k4:(¬x0=y0)∨(x0=y0/\¬x1=y1)∨(x0=y0/\x1=y1/\¬x2'=y2'):=by simp only[Gd.mk.injEq]at hxy;by_cases z0:x0=y0<;>by_cases z1:x1=y1<;>by_cases z2:x2'=y2'<;>simp_all
        clear HD hxy;rcases k4 with k4|⟨rfl,k4⟩|⟨rfl,rfl,k4⟩
        ·have k5:(x0==y0)=false:=by simpa using k4
         go_wp2_with fail;go_quiet (fail);go_wp2;go_ret;refine⟨Ab ?_,below_drewN hb' _⟩;simp[HN.out]
        ·have k5:(x1==y1)=false:=by simpa using k4
         go_wp2_with fail;go_quiet (fail);go_wp2;go_ret;refine⟨Ab ?_,below_drewN hb' _⟩;simp[HN.out]
        ·have k5:(x2'==y2')=false:=by simpa using k4
         go_wp2_with fail;go_quiet (fail);go_wp2;go_ret;refine⟨Ab ?_,below_drewN hb' _⟩;simp[HN.out]
      ·have HG:Hid (g1=g2):=by show _=_;rw[HQ.out,yQ (by omega),yQ (by rw[←E2.out];omega)]
       clear HQ;go_wp2;go_ret;refine⟨Ab ?_,hb'⟩;simp[HT.out,HG.out]
end Go.Proofs.YtjbbppblgjhapaaGreatDoor
namespace Go.Proofs.YtjbbppblgjhapaaGreatDoor
open Go.Deep Go.Proofs.Tryz Go.RowKit
variable{g:Gd}{keep:Int}{gs:List Gd}{N k:Nat}{T:Tj}{α:Type}
attribute [local go_sem] Ac
def Ak {α:Type} (f:Nat->α->Bool):Nat->List α->Option Nat
 | _,[]=>none
 | k,x::r=>if f k x then Ak f (k+1) r else some k
theorem Fy {f:Nat->α->Bool} {l:List α} {x:α} (h:l[k]?=some x):Ak f k (l.drop k)=if f k x then Ak f (k+1) (l.drop (k+1)) else some k:=by rw[Ao h];rfl
def Io (p:Pd) (i:Nat) (m:Md):Bool:=decide ((i:Int)<500)&&inR m.name.size 1 40&&inR m.reg 0 (p.regs-1)&&decide (0<=m.fr)&&decide (m.fr<=m.to)&&decide (m.to<=p.ins.length)
theorem Xv (p:Pd) (h:Ph) (i:Nat) (m:Md) (w:World) (hi:p.named[i]?=some m) (hz:Ie p) (hr:0<=p.regs/\p.regs<=250) (hp:PIn 0 w h p) :
  Kw 164 #[.agg (p.cells h),i] w (.bool (Io p i m)):=by
 have hlt:=(yD.1 hi).1;have hb1:∀o,Below w w (w.alloc o):=fun o=>(yA _ _).alloc (yB _) o;obtain⟨b,off,e0,_,hbl,p0,p1,p2,p3⟩:=hp.named.l (A7.o (hb1 (.cells (p.cells h) 77))) i m hi;have E0:Hid (Io p i m=(decide ((i:Int)<500)&&inR m.name.size 1 40&&inR m.reg 0 (p.regs-1)&&decide (0<=m.fr)&&decide (m.fr<=m.to)&&decide (m.to<=p.ins.length))):=rfl;generalize Io p i m=nb at *;obtain⟨z1,z2,z3,z4⟩:=hz;clear hi hp;obtain⟨nm,ln,pa,re,rg,us,cs,is,ms⟩:=p;obtain⟨uo,uc,co,cc,io,ic,no,nc⟩:=h;obtain⟨m0,m1,m2,m3⟩:=m;dsimp only[Pd.cells]at *;subst e0;obtain⟨hr1,hr2⟩:=hr;unfold Kw;go_in;go_wp2_with (go_at_call 166;refine(Jw _ _ _ _).mono ?_;rintro e w' ⟨rfl,rfl⟩);all_goals
  go_ret;refine⟨Ab ?_,(hb1 _).alloc (by simp) _⟩;rw[E0.out];clear p0 p1 p2 p3 hb1 E0;first|(simp_all;done)|(simp_all;omega)
theorem Qq (ao:Option Addr) (cap:Nat) (xs:List Gd) (w:World) (hm:xs.length<=1048576) (hx:Bn 0 w ao xs) :
  Calls prog 92 #[.slice ao xs.length cap] w fun e w'=>∃v,e=.returned v/\w'.ownsRow (w:Nat) 280 3 v xs.length (gds xs)/\Below w w w':=by
 obtain⟨i0,hi,hz0,hz1,hz2⟩:=info_parts Tryz.info_Guard;go_in;go_wp2;go_loopw [3,8] (fun v y wr=>∃k:Nat,k<=xs.length/\y=k/\wr.ownsRow (w:Nat) 280 3 v k (gds (xs.take k))/\Below w w wr) (fun _ y _=>xs.length-(intOf y).toNat);case atStart=>exact⟨0,yE _,rfl,yU _ _ _ _,yA _ _⟩
 case round=>
  obtain⟨k,hk,rfl,hown,hb⟩:=hrel;by_cases hkl:k<xs.length
  ·obtain⟨x,hxk⟩:=A8 hkl;obtain⟨b,off,rfl,_,hbl,q0,q1,q2⟩:=hx.l (A7.o hb) k x hxk;have hT:Hid (gds (xs.take (k+1))=gds (xs.take k)++[.bool x.tr,.int .i64 x.keep,.int .i64 x.hd]):=by show _=_;rw[List.take_add_one,hxk,Ju];rfl
   obtain⟨x0,x1,x2⟩:=x;dsimp only at *;go_wp2_with (at_builtin;refine wpList_append_own _ rfl _ _ 144 rfl (w:Nat) 280 i0 (.agg #[false,(),()]) 3 24 underlying144 hi hz0 hz1 hz2 rfl (by decide) _ _ _ rfl ((hown.alloc _).alloc _) ⟨(wr:Nat)+1,0,none⟩ 1 1 [.bool x0,x1,x2] (by first|rfl|simp) rfl ?c1 ?c2 ?c3 ?c4 ?c5 ?_);case c1=>
    intro j u hj
    match j,hj with
    | 0,hj=>simp at hj;subst hj;simp[Addr.add]
    | 1,hj=>simp at hj;subst hj;simp[Addr.add]
    | 2,hj=>simp at hj;subst hj;simp[Addr.add]
   case c2=>intro u hu;simp at hu;rcases hu with rfl|rfl|rfl<;>rfl
   case c3=>unfold maxLen;omega
   case c4=>omega
   case c5=>have:=hb.size;simp;omega
   ·intro v' w1 hown' hgrow _;have B1:=((hb.alloc hb.size _).alloc (by have:=hb.size;simp;omega) _).grown hgrow (by have:=hb.size;simp;omega) (fun k hk=>(hown.lt k hk).1);rw[←hT.out]at hown';clear hgrow hown hT q0 q1 q2;go_wp2;go_roundw;case rel=>exact⟨k+1,by omega,by go_num,hown',B1⟩
    case measure=>simp[intOf];omega
  ·go_wp2;go_ret;obtain rfl:k=xs.length:=by omega
   rw[List.take_length]at hown;exact⟨_,rfl,hown,hb⟩
def Pz (r:Nat):Int×Bool:=
 match r with
 | 2=>(1,true)
 | 3=>(3,true)
 | 4=>(1,false)
 | 18=>(1,false)
 | 19=>(1,false)
 | 20=>(1,false)
 | 5=>(2,false)
 | 6=>(3,false)
 | _=>(0,false)
theorem A3b (r:Nat) (w:World) (hr:r<=21):Calls prog 170 #[r] w fun e w'=>e=.returned (.tuple #[.int .i64 (Pz r).1,.bool (Pz r).2])/\w'=w:=by
 rcases Sg r hr with rfl|rfl|rfl|rfl|rfl|rfl|rfl|rfl|rfl|rfl|rfl|rfl|rfl|rfl|rfl|rfl|rfl|rfl|rfl|rfl|rfl|rfl;all_goals
  go_in;go_wp2;go_ret2;exact⟨rfl,rfl⟩
def Dt (gs:List Gd) (keep:Int):Bool:=gs.all fun g=>!(g.tr&&decide (keep<g.keep))
theorem A20 (h:gs[k]?=some g):Dt (gs.drop k) keep=(!(g.tr&&decide (keep<g.keep))&&Dt (gs.drop (k+1)) keep):=by rw[Ao h];rfl
theorem A2z (ao:Option Addr) (cap:Nat) (gs:List Gd) (keep:Int) (w:World) (hm:gs.length<=1048576) (hx:Bn 0 w ao gs) :
  Kw 171 #[.slice ao gs.length cap,keep] w (.bool (Dt gs keep)):=by
 unfold Kw;go_in;go_wp2;go_loopw [9] (fun y wr=>∃k:Nat,k<=gs.length/\y=k/\Hid (Dt (gs.drop k) keep=Dt gs keep)/\Below w w wr) (fun y _=>gs.length-(intOf y).toNat);case atStart=>exact⟨0,yE _,rfl,rfl,yA _ _⟩
 case round=>
  obtain⟨k,hk,rfl,HQ,hb⟩:=hrel;by_cases hkl:k<gs.length
  ·obtain⟨x,hxk⟩:=A8 hkl;obtain⟨b,off,rfl,_,hbl,q0,q1,q2⟩:=hx.l (A7.o hb) k x hxk;have HD:Hid (Dt gs keep=_):=HQ.out.symm.trans (A20 hxk);have hba:∀o,Below w w (wr.alloc o):=fun o=>hb.alloc hb.size o;obtain⟨x0,x1,x2⟩:=x;dsimp only at *;clear hx HQ hxk;cases x0
   ·have HN:Hid (Dt (gs.drop (k+1)) keep=Dt gs keep):=by show _=_;rw[HD.out];simp
    clear HD;go_wp2;go_roundw;case rel=>exact⟨k+1,by omega,by go_num,HN.out,hba _⟩
    case measure=>simp[intOf];omega
   ·by_cases hlt:keep<x1
    ·have HN:Hid (Dt gs keep=false):=by show _=_;rw[HD.out];simp[hlt]
     clear HD;go_wp2;go_ret;exact⟨Ab HN.out.symm,hba _⟩
    ·have HN:Hid (Dt (gs.drop (k+1)) keep=Dt gs keep):=by show _=_;rw[HD.out];simp[hlt]
     clear HD;go_wp2;go_roundw;case rel=>exact⟨k+1,by omega,by go_num,HN.out,hba _⟩
     case measure=>simp[intOf];omega
  ·have HN:Hid (Dt gs keep=true):=by have h1:=HQ.out;rw[yQ (by omega)]at h1;exact h1.symm
   clear HQ;go_wp2;go_ret;exact⟨Ab HN.out.symm,hb⟩
@[go_sem] theorem A4z (v:Value) (w:World):(Instr.typeAssert (.iface 404 v) 295 404 true).run prog w=.ok (.tuple #[v,true]) w:=by kernel_rfl
@[go_sem] theorem A70 (v:Value) (w:World):(Instr.typeAssert (.iface 444 v) 295 404 true).run prog w=.ok (.tuple #[.agg #[(),()],false]) w:=by kernel_rfl
@[go_sem] theorem A4y (v:Value) (w:World):(Instr.typeAssert (.iface 397 v) 295 404 true).run prog w=.ok (.tuple #[.agg #[(),()],false]) w:=by kernel_rfl
@[go_sem] theorem A71 (v:Value) (w:World):(Instr.typeAssert (.iface 395 v) 295 404 true).run prog w=.ok (.tuple #[.agg #[(),()],false]) w:=by kernel_rfl
@[go_sem] theorem A72 (v:Value) (w:World):(Instr.typeAssert (.iface 446 v) 295 404 true).run prog w=.ok (.tuple #[.agg #[(),()],false]) w:=by kernel_rfl
@[go_sem] theorem A6x (v:Value) (w:World):(Instr.typeAssert (.iface 448 v) 295 404 true).run prog w=.ok (.tuple #[.agg #[(),()],false]) w:=by kernel_rfl
@[go_sem] theorem A6z (v:Value) (w:World):(Instr.typeAssert (.iface 404 v) 295 444 true).run prog w=.ok (.tuple #[.agg #[(),(),()],false]) w:=by kernel_rfl
@[go_sem] theorem A86 (v:Value) (w:World):(Instr.typeAssert (.iface 444 v) 295 444 true).run prog w=.ok (.tuple #[v,true]) w:=by kernel_rfl
@[go_sem] theorem A6y (v:Value) (w:World):(Instr.typeAssert (.iface 397 v) 295 444 true).run prog w=.ok (.tuple #[.agg #[(),(),()],false]) w:=by kernel_rfl
@[go_sem] theorem A87 (v:Value) (w:World):(Instr.typeAssert (.iface 395 v) 295 444 true).run prog w=.ok (.tuple #[.agg #[(),(),()],false]) w:=by kernel_rfl
@[go_sem] theorem A88 (v:Value) (w:World):(Instr.typeAssert (.iface 446 v) 295 444 true).run prog w=.ok (.tuple #[.agg #[(),(),()],false]) w:=by kernel_rfl
@[go_sem] theorem A85 (v:Value) (w:World):(Instr.typeAssert (.iface 448 v) 295 444 true).run prog w=.ok (.tuple #[.agg #[(),(),()],false]) w:=by kernel_rfl
@[go_sem] theorem Pe (v:Value) (w:World):(Instr.typeAssert (.iface 404 v) 295 397 true).run prog w=.ok (.tuple #[.agg #[()],false]) w:=by kernel_rfl
@[go_sem] theorem Q9 (v:Value) (w:World):(Instr.typeAssert (.iface 444 v) 295 397 true).run prog w=.ok (.tuple #[.agg #[()],false]) w:=by kernel_rfl
@[go_sem] theorem P9 (v:Value) (w:World):(Instr.typeAssert (.iface 397 v) 295 397 true).run prog w=.ok (.tuple #[v,true]) w:=by kernel_rfl
@[go_sem] theorem Qa (v:Value) (w:World):(Instr.typeAssert (.iface 395 v) 295 397 true).run prog w=.ok (.tuple #[.agg #[()],false]) w:=by kernel_rfl
@[go_sem] theorem Qb (v:Value) (w:World):(Instr.typeAssert (.iface 446 v) 295 397 true).run prog w=.ok (.tuple #[.agg #[()],false]) w:=by kernel_rfl
@[go_sem] theorem Q6 (v:Value) (w:World):(Instr.typeAssert (.iface 448 v) 295 397 true).run prog w=.ok (.tuple #[.agg #[()],false]) w:=by kernel_rfl
@[go_sem] theorem Q8 (v:Value) (w:World):(Instr.typeAssert (.iface 404 v) 295 395 true).run prog w=.ok (.tuple #[.agg #[(),()],false]) w:=by kernel_rfl
@[go_sem] theorem Rt (v:Value) (w:World):(Instr.typeAssert (.iface 444 v) 295 395 true).run prog w=.ok (.tuple #[.agg #[(),()],false]) w:=by kernel_rfl
@[go_sem] theorem Q7 (v:Value) (w:World):(Instr.typeAssert (.iface 397 v) 295 395 true).run prog w=.ok (.tuple #[.agg #[(),()],false]) w:=by kernel_rfl
@[go_sem] theorem Ru (v:Value) (w:World):(Instr.typeAssert (.iface 395 v) 295 395 true).run prog w=.ok (.tuple #[v,true]) w:=by kernel_rfl
@[go_sem] theorem Rv (v:Value) (w:World):(Instr.typeAssert (.iface 446 v) 295 395 true).run prog w=.ok (.tuple #[.agg #[(),()],false]) w:=by kernel_rfl
@[go_sem] theorem Rs (v:Value) (w:World):(Instr.typeAssert (.iface 448 v) 295 395 true).run prog w=.ok (.tuple #[.agg #[(),()],false]) w:=by kernel_rfl
@[go_sem] theorem A73 (v:Value) (w:World):(Instr.typeAssert (.iface 442 v) 295 404 true).run prog w=.ok (.tuple #[.agg #[(),()],false]) w:=by kernel_rfl
@[go_sem] theorem A89 (v:Value) (w:World):(Instr.typeAssert (.iface 442 v) 295 444 true).run prog w=.ok (.tuple #[.agg #[(),(),()],false]) w:=by kernel_rfl
@[go_sem] theorem Qc (v:Value) (w:World):(Instr.typeAssert (.iface 442 v) 295 397 true).run prog w=.ok (.tuple #[.agg #[()],false]) w:=by kernel_rfl
@[go_sem] theorem Rw (v:Value) (w:World):(Instr.typeAssert (.iface 442 v) 295 395 true).run prog w=.ok (.tuple #[.agg #[(),()],false]) w:=by kernel_rfl
def unv (l:List Nat):Nat:=(l.filter fun x=>x==0).length
theorem A7w {l:List Nat}{i:Nat} (hi:i<l.length) (h0:l.getD i 0=0) (hk:k≠0):unv (l.set i k)+1=unv l:=by
 induction l generalizing i with
 | nil=>simp at hi
 | cons a r ih=>
  cases i with
  | zero=>
   simp at h0;subst h0;simp[unv,hk]
  | succ i=>
   simp at hi h0;have:=ih (i:=i) hi (by simpa using h0);unfold unv at *;by_cases ha:a=0
   ·simp[ha]at *;omega
   ·simp[ha]at *;omega
theorem A4r:∀{l m:List Nat},l.length=m.length->(∀v,l.getD v 0≠0->m.getD v 0≠0)->unv m<=unv l
 | [],[],_,_=>yB _
 | [],_::_,h,_=>by simp at h
 | _::_,[],h,_=>by simp at h
 | a::r,b::q,h,hv=>by
  have ih:=A4r (l:=r) (m:=q) (by simpa using h) (fun v hv2=>by have:=hv (v+1);simpa using this (by simpa using hv2));have h0:=hv 0;simp at h0;unfold unv at *;by_cases ha:a=0
  ·by_cases hb:b=0
   ·simp[ha,hb];exact ih
   ·simp[ha,hb];omega
  ·have:=h0 ha;simp[ha,this];exact ih
theorem Vy {E:Nat->Nat->Prop} {gray:Nat->Prop} (h:Jt E N T gray):T.path.length<=T.count:=by
 have hk:∀(l:List Nat) (m:Nat),l.Pairwise (fun x y=>T.ord x<T.ord y)->(∀v∈l,m<T.ord v)->l.length+m<=T.count∨l=[]:=by
  intro l
  induction l with
  | nil=>intro m _ _;exact .inr rfl
  | cons a r ih=>
   intro m hp hm;rw[List.pairwise_cons]at hp;have ha:=hm a (by simp);rcases ih (T.ord a) hp.2 hp.1 with h1|h1
   ·left;simp;omega
   ·subst h1;left;have:=h.le a;simp;omega
 rcases hk T.path 0 h.sorted (fun v hv=>by have:=h.vis v hv;omega) with h1|h1
 ·omega
 ·rw[h1];simp
end Go.Proofs.YtjbbppblgjhapaaGreatDoor
