import Derived.Laws.BytesArg
import Derived.Test.YtjbbppblgjhapaaGreatDoorJ18
import Derived.Test.YtjbbppblgjhapaaGreatDoorJ22
set_option maxRecDepth 100000
set_option maxHeartbeats 1000000
namespace Go.Proofs.YtjbbppblgjhapaaGreatDoor
open Go.Deep Go.Proofs.Tryz Go.RowKit
theorem Zd (w:World) (x:Int):(convert 67 9 (.slice (w:Nat) 1 1)).run prog (w.alloc (.cells #[.int .u8 x] 5))=.ok (.string (strOfNums [x])) (w.alloc (.cells #[.int .u8 x] 5)):=
 run_convert_bytes_arg _ 67 5 (by kernel_rfl) (by kernel_rfl) _ 0 1 1 [x] rfl (fun i hi=>by
  obtain rfl:i=0:=by omega
  rw[(Blk.new w #[.int .u8 x] 5).cell];rfl) _ (by kernel_rfl)
theorem Nk (x:Int):(strOfNums [x]).size=1:=rfl
attribute [local go_sem] Zd
theorem A0y (k0:Nat) (w:World) (hk:k0<=1152921504606846976) :
  Calls prog 117 #[k0] w fun e w'=>∃s,e=.returned (.string s)/\Below w w w':=by
 go_in;by_cases h0:k0=0
 ·subst h0;go_wp2;go_ret;exact⟨_,rfl,yA _ _⟩
 ·go_wp2;go_loopw [0,3] (fun x y wr=>∃(k:Nat) (s:ByteArray),(k+s.size<=1152921504606846976)/\x=k/\y=s/\Below w w wr) (fun x _ _=>(intOf x).toNat);case atStart=>exact⟨k0,_,(by show k0+0<=_;omega),rfl,rfl,yA _ _⟩
  case round=>
   obtain⟨k,s,hk1,rfl,rfl,hb⟩:=hrel;by_cases hlt:0<k
   ·have hs1:∀x:Int,(strOfNums [x]).size=1:=Nk;go_wp2;go_roundw;case rel=>exact⟨k / 10,_,by rw[ByteArray.size_append,hs1];omega,by go_num,rfl,hb.alloc hb.size _⟩
    case measure=>simp[intOf];omega
   ·obtain rfl:k=0:=by omega
    go_wp2;go_ret;exact⟨_,rfl,hb⟩
theorem M8 (x:Int) (w:World) (h0:0<=x) (h1:x<=1152921504606846976) :
  Calls prog 117 #[x] w fun e w'=>∃s,e=.returned (.string s)/\Below w w w':=by
 obtain⟨k,rfl⟩:∃k:Nat,x=k:=⟨x.toNat,by omega⟩;exact A0y k w (by omega)
end Go.Proofs.YtjbbppblgjhapaaGreatDoor
namespace Go.Proofs.YtjbbppblgjhapaaGreatDoor
open Go.Deep Go.Proofs.Tryz Go.RowKit
variable{fc:Array Value}{c:Int}{ins:List Nd}{ps:List Pd}{hs:List Value}{cs:List Vd}{B S b base g hi i j k lo m n n' np:Nat}{o:Obj}{ao vo:Option Addr}{p:Pd}{h:Ph}{t t':TypeId}{u v:Value}{W w' w'' wi wr:World}
attribute [local go_sem] Ac
structure Ej (g:Nat) (w w':World):Prop where
 os:w'.os=w.os
 tape:w'.tape=w.tape
 output:w'.output=w.output
 size:(w:Nat)<=(w':Nat)
 block:∀b,b≠g->b<(w:Nat)->w'.heap[b]?=w.heap[b]?
theorem Ej.refl (g:Nat) (w:World):Ej g w w:=⟨rfl,rfl,rfl,yB _,fun _ _ _=>rfl⟩
theorem Ej.set{w:World} (h:Ej g w w') (i:Nat) (v:Value):Ej g w (w'.setCell (g,i) v):=by refine⟨h.os,h.tape,h.output,by simpa using h.size,fun b hb hl=>?_⟩;rw[yL _ _ _ _ (fun e=>hb e),h.block b hb hl]
theorem Ej.below{w:World} (h:Ej g w w') (hb:Below w' w' w''):Ej g w w'':=
 ⟨hb.os.trans h.os,hb.tape.trans h.tape,hb.output.trans h.output,yI h.size hb.size,fun b hne hl=>(hb.block b (yF hl h.size)).trans (h.block b hne hl)⟩
theorem A3k (g n cap k:Nat) (w:World) (hn:n<=1048576) (hk:k<=1125899906842624) (own:Own w g 274 (n*2)) :
  Calls prog 118 #[.slice g n cap,k] w fun e w'=>e=.returned ((k+n*2:Nat):Int)/\Own w' g 274 (n*2)/\Ej g w w':=by
 go_in;go_wp2;go_loopw [1,5] (fun y x wr=>∃j:Nat,j<=n/\x=j/\y=((k+j*2:Nat):Int)/\Own wr g 274 (n*2)/\Ej g w wr) (fun _ x _=>n-(intOf x).toNat);case atStart=>exact⟨0,yE _,rfl,by simp,own,Ej.refl _ _⟩
 case round=>
  obtain⟨j,hj,rfl,rfl,hown,ho⟩:=hrel;by_cases hlt:j<n
  ·have hn2:j*2+2<=n*2:=by omega
   have hkk:k+j*2<=1125899920000000:=by omega
   obtain⟨q,hq⟩:∃q:Nat,q=k+j*2:=⟨_,rfl⟩;rw[←hq];have hqb:q<=1125899920000000:=by omega
   obtain⟨v0,c0⟩:=hown.cell (i:=j*2) (by omega);obtain⟨v1,c1⟩:=hown.cell (i:=j*2+1) (by omega);have fz:=hown.frozen;go_wp2;go_roundw;case rel=>exact⟨j+1,by omega,by go_num,by congr 1;omega,((hown.set (j*2) _).set (j*2+1) _),((ho.set (j*2) _).set (j*2+1) _)⟩
   case measure=>simp[intOf];omega
  ·go_wp2;go_ret;obtain rfl:j=n:=by omega
   exact⟨rfl,hown,ho⟩
theorem A0t (g n cap k:Nat) (w:World) (hn:n<=1048576) (hk:k<=1125899906842624) (own:Own w g 81 (n*5)) :
  Calls prog 119 #[.slice g n cap,k] w fun e w'=>e=.returned ((k+n*5:Nat):Int)/\Own w' g 81 (n*5)/\Ej g w w':=by
 go_in;go_wp2;go_loopw [1,5] (fun y x wr=>∃j:Nat,j<=n/\x=j/\y=((k+j*5:Nat):Int)/\Own wr g 81 (n*5)/\Ej g w wr) (fun _ x _=>n-(intOf x).toNat);case atStart=>exact⟨0,yE _,rfl,by simp,own,Ej.refl _ _⟩
 case round=>
  obtain⟨j,hj,rfl,rfl,hown,ho⟩:=hrel;by_cases hlt:j<n
  ·have hn2:j*5+5<=n*5:=by omega
   have hkk:k+j*5<=1125899920000000:=by omega
   obtain⟨q,hq⟩:∃q:Nat,q=k+j*5:=⟨_,rfl⟩;rw[←hq];have hqb:q<=1125899920000000:=by omega
   obtain⟨v0,c0⟩:=hown.cell (i:=j*5) (by omega);obtain⟨v1,c1⟩:=hown.cell (i:=j*5+1) (by omega);obtain⟨v2,c2⟩:=hown.cell (i:=j*5+2) (by omega);obtain⟨v3,c3⟩:=hown.cell (i:=j*5+3) (by omega);obtain⟨v4,c4⟩:=hown.cell (i:=j*5+4) (by omega);have fz:=hown.frozen;go_wp2;go_roundw;case rel=>exact⟨j+1,by omega,by go_num,by congr 1;omega,(((((hown.set (j*5) _).set (j*5+1) _).set (j*5+2) _).set (j*5+3) _).set (j*5+4) _),(((((ho.set (j*5) _).set (j*5+1) _).set (j*5+2) _).set (j*5+3) _).set (j*5+4) _)⟩
   case measure=>simp[intOf];omega
  ·go_wp2;go_ret;obtain rfl:j=n:=by omega
   exact⟨rfl,hown,ho⟩
theorem Vl (g n cap k:Nat) (w:World) (hn:n<=1048576) (hk:k<=1125899906842624) (own:Own w g 287 (n*4)) :
  Calls prog 120 #[.slice g n cap,k] w fun e w'=>e=.returned ((k+n*4:Nat):Int)/\Own w' g 287 (n*4)/\Ej g w w':=by
 go_in;go_wp2;go_loopw [1,5] (fun y x wr=>∃j:Nat,j<=n/\x=j/\y=((k+j*4:Nat):Int)/\Own wr g 287 (n*4)/\Ej g w wr) (fun _ x _=>n-(intOf x).toNat);case atStart=>exact⟨0,yE _,rfl,by simp,own,Ej.refl _ _⟩
 case round=>
  obtain⟨j,hj,rfl,rfl,hown,ho⟩:=hrel;by_cases hlt:j<n
  ·have hn2:j*4+4<=n*4:=by omega
   have hkk:k+j*4<=1125899920000000:=by omega
   obtain⟨q,hq⟩:∃q:Nat,q=k+j*4:=⟨_,rfl⟩;rw[←hq];have hqb:q<=1125899920000000:=by omega
   obtain⟨v0,c0⟩:=hown.cell (i:=j*4) (by omega);obtain⟨v1,c1⟩:=hown.cell (i:=j*4+1) (by omega);obtain⟨v2,c2⟩:=hown.cell (i:=j*4+2) (by omega);obtain⟨v3,c3⟩:=hown.cell (i:=j*4+3) (by omega);have fz:=hown.frozen;go_wp2_with fail;refine(M8 _ _ ?_ ?_).mono ?_
   ·omega
   ·omega
   rintro e w0 ⟨s0,rfl,hw0⟩;replace ho:=Ej.below (ho) hw0;replace hown:=Own.l (hown) hw0;clear hw0 fz c0 c1 c2 c3;obtain⟨v0,c0⟩:=hown.cell (i:=j*4) (by omega);obtain⟨v1,c1⟩:=hown.cell (i:=j*4+1) (by omega);obtain⟨v2,c2⟩:=hown.cell (i:=j*4+2) (by omega);obtain⟨v3,c3⟩:=hown.cell (i:=j*4+3) (by omega);have fz:=hown.frozen;go_wp2;go_roundw;case rel=>exact⟨j+1,by omega,by go_num,by congr 1;omega,((((hown.set (j*4) _).set (j*4+1) _).set (j*4+2) _).set (j*4+3) _),((((ho.set (j*4) _).set (j*4+1) _).set (j*4+2) _).set (j*4+3) _)⟩
   case measure=>simp[intOf];omega
  ·go_wp2;go_ret;obtain rfl:j=n:=by omega
   exact⟨rfl,hown,ho⟩
theorem Vp (g n cap k:Nat) (w:World) (hn:n<=1048576) (hk:k<=1125899906842624) (own:Own w g 210 (n*5)) :
  Calls prog 71 #[.slice g n cap,k] w fun e w'=>e=.returned ((k+n*5:Nat):Int)/\Own w' g 210 (n*5)/\Ej g w w':=by
 go_in;go_wp2;go_loopw [1,5] (fun y x wr=>∃j:Nat,j<=n/\x=j/\y=((k+j*5:Nat):Int)/\Own wr g 210 (n*5)/\Ej g w wr) (fun _ x _=>n-(intOf x).toNat);case atStart=>exact⟨0,yE _,rfl,by simp,own,Ej.refl _ _⟩
 case round=>
  obtain⟨j,hj,rfl,rfl,hown,ho⟩:=hrel;by_cases hlt:j<n
  ·have hn2:j*5+5<=n*5:=by omega
   have hkk:k+j*5<=1125899920000000:=by omega
   obtain⟨q,hq⟩:∃q:Nat,q=k+j*5:=⟨_,rfl⟩;rw[←hq];have hqb:q<=1125899920000000:=by omega
   obtain⟨v0,c0⟩:=hown.cell (i:=j*5) (by omega);obtain⟨v1,c1⟩:=hown.cell (i:=j*5+1) (by omega);obtain⟨v2,c2⟩:=hown.cell (i:=j*5+2) (by omega);obtain⟨v3,c3⟩:=hown.cell (i:=j*5+3) (by omega);obtain⟨v4,c4⟩:=hown.cell (i:=j*5+4) (by omega);have fz:=hown.frozen;go_wp2_with fail;refine(M8 _ _ ?_ ?_).mono ?_
   ·omega
   ·omega
   rintro e w3 ⟨s3,rfl,hw3⟩;replace ho:=Ej.below ((((ho.set (j*5) _).set (j*5+1) _).set (j*5+2) _)) hw3;replace hown:=Own.l ((((hown.set (j*5) _).set (j*5+1) _).set (j*5+2) _)) hw3;clear hw3 fz c0 c1 c2 c3 c4;obtain⟨v0,c0⟩:=hown.cell (i:=j*5) (by omega);obtain⟨v1,c1⟩:=hown.cell (i:=j*5+1) (by omega);obtain⟨v2,c2⟩:=hown.cell (i:=j*5+2) (by omega);obtain⟨v3,c3⟩:=hown.cell (i:=j*5+3) (by omega);obtain⟨v4,c4⟩:=hown.cell (i:=j*5+4) (by omega);have fz:=hown.frozen;go_wp2;go_roundw;case rel=>exact⟨j+1,by omega,by go_num,by congr 1;omega,((hown.set (j*5+3) _).set (j*5+4) _),((ho.set (j*5+3) _).set (j*5+4) _)⟩
   case measure=>simp[intOf];omega
  ·go_wp2;go_ret;obtain rfl:j=n:=by omega
   exact⟨rfl,hown,ho⟩
theorem A3l (g n cap:Nat) (x:Int) (w:World) (hn:n<=1048576) (h0:0<=x) (h1:x<=1125899906842624) (own:Own w g 274 (n*2)) :
  Calls prog 118 #[.slice g n cap,x] w fun e w'=>e=.returned (x+(n:Int)*2:Int)/\Own w' g 274 (n*2)/\Ej g w w':=by
 obtain⟨k,rfl⟩:∃k:Nat,x=k:=⟨x.toNat,by omega⟩;refine(A3k g n cap k w hn (by omega) own).mono fun e w' ⟨h1,h2⟩=>⟨?_,h2⟩;rw[h1];congr 2
theorem A0u (g n cap:Nat) (x:Int) (w:World) (hn:n<=1048576) (h0:0<=x) (h1:x<=1125899906842624) (own:Own w g 81 (n*5)) :
  Calls prog 119 #[.slice g n cap,x] w fun e w'=>e=.returned (x+(n:Int)*5:Int)/\Own w' g 81 (n*5)/\Ej g w w':=by
 obtain⟨k,rfl⟩:∃k:Nat,x=k:=⟨x.toNat,by omega⟩;refine(A0t g n cap k w hn (by omega) own).mono fun e w' ⟨h1,h2⟩=>⟨?_,h2⟩;rw[h1];congr 2
theorem Vm (g n cap:Nat) (x:Int) (w:World) (hn:n<=1048576) (h0:0<=x) (h1:x<=1125899906842624) (own:Own w g 287 (n*4)) :
  Calls prog 120 #[.slice g n cap,x] w fun e w'=>e=.returned (x+(n:Int)*4:Int)/\Own w' g 287 (n*4)/\Ej g w w':=by
 obtain⟨k,rfl⟩:∃k:Nat,x=k:=⟨x.toNat,by omega⟩;refine(Vl g n cap k w hn (by omega) own).mono fun e w' ⟨h1,h2⟩=>⟨?_,h2⟩;rw[h1];congr 2
theorem Vq (g n cap:Nat) (x:Int) (w:World) (hn:n<=1048576) (h0:0<=x) (h1:x<=1125899906842624) (own:Own w g 210 (n*5)) :
  Calls prog 71 #[.slice g n cap,x] w fun e w'=>e=.returned (x+(n:Int)*5:Int)/\Own w' g 210 (n*5)/\Ej g w w':=by
 obtain⟨k,rfl⟩:∃k:Nat,x=k:=⟨x.toNat,by omega⟩;refine(Vp g n cap k w hn (by omega) own).mono fun e w' ⟨h1,h2⟩=>⟨?_,h2⟩;rw[h1];congr 2
theorem Own.same {w:World} (h:Own w b t n) (k:Own w b t' n'):t=t'/\n=n':=by obtain⟨c,h1,h2⟩:=h;obtain⟨c',k1,k2⟩:=k;rw[h1]at k1;simp at k1;obtain⟨rfl,rfl⟩:=k1;exact⟨rfl,h2.symm.trans k2⟩
theorem Own.only{w:World}{u:Nat} (h:Own w b t' n') (ho:Ej u w w') (o1:Own w u t n) (o2:Own w' u t n):Own w' b t' n':=by
 by_cases e:b=u
 ·subst e;obtain⟨rfl,rfl⟩:=h.same o1;exact o2
 ·exact h.of_block (ho.block b e h.lt)
theorem Own.setAny {w:World} (h:Own w b t n) (g i:Nat) (v:Value):Own (w.setCell (g,i) v) b t n:=by
 by_cases e:b=g
 ·subst e;exact h.set i v
 ·exact h.of_block (yL _ _ _ _ (fun k=>e k))
structure Jm (g hi:Nat) (w w':World):Prop where
 os:w'.os=w.os
 tape:w'.tape=w.tape
 output:w'.output=w.output
 size:(w:Nat)<=(w':Nat)
 block:∀b,b<g∨hi<=b->b<(w:Nat)->w'.heap[b]?=w.heap[b]?
theorem Jm.refl (g hi:Nat) (w:World):Jm g hi w w:=⟨rfl,rfl,rfl,yB _,fun _ _ _=>rfl⟩
theorem Jm.only{u:Nat}{w:World} (h:Jm g hi w w') (ho:Ej u w' w'') (h1:g<=u) (h2:u<hi):Jm g hi w w'':=
 ⟨ho.os.trans h.os,ho.tape.trans h.tape,ho.output.trans h.output,yI h.size ho.size,fun b hb hl=>(ho.block b (by omega) (yF hl h.size)).trans (h.block b hb hl)⟩
theorem Jm.set{w:World} (h:Jm g hi w w') (i:Nat) (v:Value) (h2:g<hi):Jm g hi w (w'.setCell (g,i) v):=
 h.only ((Ej.refl g w').set i v) (yB _) h2
theorem Jm.below{w:World} (h:Jm g hi w w') (hb:Below w' w' w''):Jm g hi w w'':=
 ⟨hb.os.trans h.os,hb.tape.trans h.tape,hb.output.trans h.output,yI h.size hb.size,fun b hne hl=>(hb.block b (yF hl h.size)).trans (h.block b hne hl)⟩
structure Sr (hi:Nat) (w:World) (g j:Nat) (p:Pd) (h:Ph) (u c i n:Nat):Prop where
 hu:w.cell? (g,j*9+5)=some (.slice u p.ups.length h.uc)
 hc:w.cell? (g,j*9+6)=some (.slice c p.consts.length h.cc)
 hin:w.cell? (g,j*9+7)=some (.slice i p.ins.length h.ic)
 hn:w.cell? (g,j*9+8)=some (.slice n p.named.length h.nc)
 lu:g<u/\u<hi
 lc:g<c/\c<hi
 li:g<i/\i<hi
 ln:g<n/\n<hi
 ou:Own w u 274 (p.ups.length*2)
 oc:Own w c 210 (p.consts.length*5)
 oi:Own w i 81 (p.ins.length*5)
 on:Own w n 287 (p.named.length*4)
structure Mr (hi:Nat) (w:World) (g:Nat) (ps:List Pd):Prop where
 own:Own w g 77 (ps.length*9)
 lt:g<hi
 rows:∀j p,ps[j]?=some p->∃h u c i n,Sr hi w g j p h u c i n
theorem Sr.only{w:World}{u c:Nat} (r:Sr hi w g j p h u c i n) (og:g<(w:Nat)) (ho:Ej b w w') (hb:g<b) (o1:Own w b t m) (o2:Own w' b t m):Sr hi w' g j p h u c i n:=by have k:∀o,w'.cell? ⟨g,o,none⟩=w.cell? ⟨g,o,none⟩:=fun o=>yX (w:=w) (a:=⟨g,o,none⟩) (ho.block g (by omega) og);exact⟨(k _).trans r.hu,(k _).trans r.hc,(k _).trans r.hin,(k _).trans r.hn,r.lu,r.lc,r.li,r.ln,r.ou.only ho o1 o2,r.oc.only ho o1 o2,r.oi.only ho o1 o2,r.on.only ho o1 o2⟩
theorem Mr.only{w:World} (r:Mr hi w g ps) (ho:Ej b w w') (hb:g<b) (o1:Own w b t m) (o2:Own w' b t m):Mr hi w' g ps:=
 ⟨r.own.only ho o1 o2,r.lt,fun j p hj=>by obtain⟨h,u,c,i,n,x⟩:=r.rows j p hj;exact⟨h,u,c,i,n,x.only r.own.lt ho hb o1 o2⟩⟩
theorem A9 {w:World}{a:Nat} (v:Value) (h:a≠b):(w.setCell (g,a) v).cell? (g,b)=w.cell? (g,b):=by
 cases hb:w.heap[g]? with
 | none=>simp[World.cell?,World.setCell,Array.getElem?_modify,hb]
 | some o=>
  cases o<;>simp[World.cell?,World.setCell,Array.getElem?_modify,hb,h]
theorem Sr.set {w:World}{u c:Nat} (x:Sr hi w g j p h u c i n) (o:Nat) (ho:o<5) (v:Value):Sr hi (w.setCell (g,j*9+o) v) g j p h u c i n:=
 ⟨(A9 v (by omega)).trans x.hu,(A9 v (by omega)).trans x.hc,(A9 v (by omega)).trans x.hin,(A9 v (by omega)).trans x.hn,x.lu,x.lc,x.li,x.ln,x.ou.setAny _ _ _,x.oc.setAny _ _ _,x.oi.setAny _ _ _,x.on.setAny _ _ _⟩
theorem Mr.set {w:World} (r:Mr hi w g ps) (j i:Nat) (hi5:i<5) (v:Value):Mr hi (w.setCell (g,j*9+i) v) g ps:=by refine⟨r.own.set _ v,r.lt,fun j' p hj=>?_⟩;obtain⟨h,u,c,i',n,x⟩:=r.rows j' p hj;exact⟨h,u,c,i',n,(A9 v (by omega)).trans x.hu,(A9 v (by omega)).trans x.hc,(A9 v (by omega)).trans x.hin,(A9 v (by omega)).trans x.hn,x.lu,x.lc,x.li,x.ln,x.ou.setAny _ _ _,x.oc.setAny _ _ _,x.oi.setAny _ _ _,x.on.setAny _ _ _⟩
theorem Mr.below{w:World} (r:Mr hi w g ps) (hb:Below w w w'):Mr hi w' g ps:=by refine⟨r.own.l hb,r.lt,fun j p hj=>?_⟩;obtain⟨h,u,c,i,n,x⟩:=r.rows j p hj;have k:∀o,w'.cell? ⟨g,o,none⟩=w.cell? ⟨g,o,none⟩:=fun o=>hb.cell (p:=⟨g,o,none⟩) r.own.lt;exact⟨h,u,c,i,n,(k _).trans x.hu,(k _).trans x.hc,(k _).trans x.hin,(k _).trans x.hn,x.lu,x.lc,x.li,x.ln,x.ou.l hb,x.oc.l hb,x.oi.l hb,x.on.l hb⟩
theorem Ei.mk {w:World} (h:Ei w g ps):Mr (w:Nat) w g ps:=by refine⟨h.1,h.1.lt,fun j p hj=>?_⟩;obtain⟨x,⟨_,_,_,_,_,h5,h6,h7,h8⟩,_,s1,s2,s3,s4⟩:=h.2 j p (yD.1 hj).1 hj;obtain⟨u,e1,l1,o1⟩:=s1;obtain⟨c,e2,l2,o2⟩:=s2;obtain⟨i,e3,l3,o3⟩:=s3;obtain⟨n,e4,l4,o4⟩:=s4;rw[e1]at h5;rw[e2]at h6;rw[e3]at h7;rw[e4]at h8;exact⟨x,u,c,i,n,h5,h6,h7,h8,⟨l1,o1.lt⟩,⟨l2,o2.lt⟩,⟨l3,o3.lt⟩,⟨l4,o4.lt⟩,o1,o2,o3,o4⟩
theorem Vn (hi g cap k:Nat) (ps:List Pd) (w:World) (hm:ps.length<=1048576) (hz:∀p∈ps,Ie p) (hk:k<=1000) (M0:Mr hi w g ps) :
  Calls prog 43 #[.slice g ps.length cap,k] w fun e w'=>(∃q:Nat,e=.returned q/\q<=1125899906842624)/\Jm g hi w w':=by
 go_in;go_wp2;go_loopw [1,5] (fun y x wr=>∃j q:Nat,j<=ps.length/\x=j/\y=(q:Int)/\q<=1000+j*33554432/\Mr hi wr g ps/\Jm g hi w wr) (fun _ x _=>ps.length-(intOf x).toNat);case atStart=>exact⟨0,k,yE _,rfl,rfl,by omega,M0,Jm.refl _ _ _⟩
 case round=>
  obtain⟨j,q,hj,rfl,rfl,hq,hM,hS⟩:=hrel;clear M0;by_cases hlt:j<ps.length
  ·obtain⟨p,hp⟩:=A8 hlt;obtain⟨z1,z2,z3,z4⟩:=hz p (yH hp);clear hz;have hn2:j*9+9<=ps.length*9:=by omega
   have hgl:=hM.lt;obtain⟨v0,c0⟩:=hM.own.cell (i:=j*9) (by omega);have fz:=hM.own.frozen;go_wp2_with fail;refine(M8 _ _ ?_ ?_).mono ?_
   ·omega
   ·omega
   rintro e w1 ⟨s1,rfl,hw1⟩;replace hM:=hM.below hw1;replace hS:=hS.below hw1;clear hw1 fz c0;obtain⟨v0,c0⟩:=hM.own.cell (i:=j*9) (by omega);obtain⟨v1,c1⟩:=hM.own.cell (i:=j*9+1) (by omega);obtain⟨v2,c2⟩:=hM.own.cell (i:=j*9+2) (by omega);obtain⟨v3,c3⟩:=hM.own.cell (i:=j*9+3) (by omega);obtain⟨v4,c4⟩:=hM.own.cell (i:=j*9+4) (by omega);have fz:=hM.own.frozen;have ⟨h,u,c,i,n,R⟩:=hM.rows j p hp;obtain⟨r5,r6,r7,r8⟩:=And.intro R.hu (And.intro R.hc (And.intro R.hin R.hn));have lu:=R.lu;have lc:=R.lc;have li:=R.li;have ln:=R.ln;go_wp2_with fail;generalize hW:World.setCell _ _ _=W1;have hM1:Mr hi W1 g ps:=by rw[←hW];exact((((hM.set j 0 (by omega) _).set j 1 (by omega) _).set j 2 (by omega) _).set j 3 (by omega) _).set j 4 (by omega) _
   have hS1:Jm g hi w W1:=by rw[←hW];exact((((hS.set (j*9) _ hgl).set (j*9+1) _ hgl).set (j*9+2) _ hgl).set (j*9+3) _ hgl).set (j*9+4) _ hgl
   have R1:Sr hi W1 g j p h u c i n:=by rw[←hW];exact((((R.set 0 (by omega) _).set 1 (by omega) _).set 2 (by omega) _).set 3 (by omega) _).set 4 (by omega) _
   clear hW hM hS R fz c0 c1 c2 c3 c4 r5 r6 r7 r8;refine(A3l u p.ups.length h.uc _ W1 z1 ?_ ?_ R1.ou).mono ?_
   ·omega
   ·omega
   rintro e w2 ⟨rfl,o2,ho2⟩;have hM2:=hM1.only ho2 lu.1 R1.ou o2;have hS2:=hS1.only ho2 (Nat.le_of_lt lu.1) lu.2;have R2:=R1.only hM1.own.lt ho2 lu.1 R1.ou o2;clear hM1 hS1 R1 ho2 o2;obtain⟨r6,r7,r8⟩:=And.intro R2.hc (And.intro R2.hin R2.hn);go_wp2_with fail;refine(Vq c p.consts.length h.cc _ w2 z2 ?_ ?_ R2.oc).mono ?_
   ·omega
   ·omega
   rintro e w3 ⟨rfl,o3,ho3⟩;have hM3:=hM2.only ho3 lc.1 R2.oc o3;have hS3:=hS2.only ho3 (Nat.le_of_lt lc.1) lc.2;have R3:=R2.only hM2.own.lt ho3 lc.1 R2.oc o3;clear hM2 hS2 R2 ho3 o3 r6 r7 r8;obtain⟨r7,r8⟩:=And.intro R3.hin R3.hn;go_wp2_with fail;refine(A0u i p.ins.length h.ic _ w3 z3 ?_ ?_ R3.oi).mono ?_
   ·omega
   ·omega
   rintro e w4 ⟨rfl,o4,ho4⟩;have hM4:=hM3.only ho4 li.1 R3.oi o4;have hS4:=hS3.only ho4 (Nat.le_of_lt li.1) li.2;have R4:=R3.only hM3.own.lt ho4 li.1 R3.oi o4;clear hM3 hS3 R3 ho4 o4 r7 r8;have r8:=R4.hn;go_wp2_with fail;refine(Vm n p.named.length h.nc _ w4 z4 ?_ ?_ R4.on).mono ?_
   ·omega
   ·omega
   rintro e w5 ⟨rfl,o5,ho5⟩;have hM5:=hM4.only ho5 ln.1 R4.on o5;have hS5:=hS4.only ho5 (Nat.le_of_lt ln.1) ln.2;clear hM4 hS4 R4 ho5 o5 r8;go_wp2;go_roundw;case rel=>exact⟨j+1,q+5+p.ups.length*2+p.consts.length*5+p.ins.length*5+p.named.length*4,by omega,by go_num,by congr 1<;>omega,by omega,hM5,hS5⟩
   case measure=>simp[intOf];omega
  ·go_wp2;go_ret;refine⟨⟨q,rfl,by omega⟩,hS⟩
theorem A0s (g cap:Nat) (ps:List Pd) (hi:Nat) (w:World) (hm:ps.length<=1048576) (hz:∀p∈ps,Ie p) (M0:Mr hi w g ps) :
  Calls prog 17 #[.agg #[.slice g ps.length cap],(1:Int)] w fun e w'=>(∃q:Nat,e=.returned q/\q<=1125899906842624)/\Jm g hi w w':=by
 have hb1:∀o,Below w w (w.alloc o):=fun o=>(yA _ _).alloc (yB _) o;go_in;go_wp2_with fail;refine(Vn hi g cap 1 ps _ hm hz (by omega) (M0.below (hb1 _))).mono ?_;rintro e w1 ⟨⟨q,rfl,hq⟩,hS⟩;go_wp2;go_ret;refine⟨⟨q,rfl,hq⟩,hS.os,hS.tape,hS.output,yI (hb1 _).size hS.size,fun b hb hl=>?_⟩;exact(hS.block b hb (by simp;omega)).trans ((hb1 _).block b hl)
structure Qd where
 op:Int
 a:Int
 b:Int
 c:Int
 d:Int
 e:Int
 f:Int
def Qd.val (q:Qd):Value:=.agg #[q.op,q.a,q.b,q.c,q.d,q.e,q.f]
def Qd.vals (q:Qd):List Value:=[q.op,q.a,q.b,q.c,q.d,q.e,q.f]
def Bi (a:Int):Nat->List Nd->Nat
 | _,[]=>0
 | k,n::r=>if n.op=42/\n.a=a+k then Bi a (k+1) r+1 else 0
def Nc (cs:List Vd) (i:Int):Int:=match cs[i.toNat]? with
 | some v=>v.kind
 | none=>0
def Kk (cs:List Vd) (c:Nat) (n x:Nd):Option Qd:=
 if n.op=18/\13<=n.b/\(x.op=20∨x.op=21)/\x.a = -1-n.a then some ⟨43,n.a,n.b,n.c,n.d,x.b,if x.op=20 then 1 else 0⟩
 else if n.op≠4 then none
 else if x.op=18/\x.c = -1-n.a/\x.d≠n.a/\x.d≠-1-n.a then some ⟨44,x.a,x.b,x.d,n.b,1,n.a⟩
 else if x.op=18/\x.d = -1-n.a/\x.c≠n.a/\x.c≠-1-n.a then some ⟨44,x.a,x.b,x.c,n.b,0,n.a⟩
 else if x.op=15/\x.c = -1-n.a/\x.b≠n.a/\x.b≠-1-n.a/\Nc cs n.b=4 then some ⟨45,x.a,x.b,n.b,c,0,n.a⟩
 else none
def Oa (cs:List Vd) (c:Nat):List Nd->Option Qd
 | n::x::_=>Kk cs c n x
 | _=>none
def Pq (n:Nd):Qd:=⟨n.op,n.a,n.b,n.c,n.d,0,0⟩
def Bt (cs:List Vd) (c:Nat) (l:List Nd):Qd:=
 match l with
 | []=>⟨0,0,0,0,0,0,0⟩
 | n::r=>if 1<Bi n.a 0 (n::r) then ⟨46,n.a,Bi n.a 0 (n::r),0,0,0,0⟩ else match Oa cs c (n::r) with
  | some q=>q
  | none=>Pq n
def Dy (cs:List Vd) (ins:List Nd) (c0:Nat):Nat->Nat
 | 0=>c0
 | k+1=>if (Bt cs (Dy cs ins c0 k) (ins.drop k)).op=45 then Dy cs ins c0 k+1 else Dy cs ins c0 k
def Gl (cs:List Vd) (ins:List Nd) (c0:Nat):List Qd:=(List.range ins.length).map fun k=>Bt cs (Dy cs ins c0 k) (ins.drop k)
def Dn (ps:List Pd):Nat->Nat
 | 0=>0
 | j+1=>match ps[j]? with
  | some p=>Dy p.consts p.ins (Dn ps j) p.ins.length
  | none=>Dn ps j
def Yb (ps:List Pd):List (List Qd):=(List.range ps.length).map fun j=>match ps[j]? with
 | some p=>Gl p.consts p.ins (Dn ps j)
 | none=>[]
theorem Qz (cs:List Vd) (ins:List Nd) (c0:Nat):(Gl cs ins c0).length=ins.length:=by simp[Gl]
theorem A7j{c0:Nat} (h:k<ins.length):(Gl cs ins c0)[k]?=some (Bt cs (Dy cs ins c0 k) (ins.drop k)):=by simp[Gl,h]
theorem Ka (ps:List Pd):(Yb ps).length=ps.length:=by simp[Yb]
theorem A7i (h:ps[j]?=some p):(Yb ps)[j]?=some (Gl p.consts p.ins (Dn ps j)):=by have hj:=(yD.1 h).1;simp[Yb,hj,(List.getElem?_eq_some_iff.1 h).2]
theorem Rx (h:ps[j]?=some p):Dn ps (j+1)=Dy p.consts p.ins (Dn ps j) p.ins.length:=by simp[Dn,h]
theorem Qe (cs:List Vd) (ins:List Nd) (c0:Nat):∀k,Dy cs ins c0 k<=c0+k
 | 0=>yB _
 | k+1=>by
  have:=Qe cs ins c0 k;unfold Dy;split<;>omega
theorem A74 (h:∀p∈ps,p.ins.length<=1048576) (j:Nat):Dn ps j<=j*1048576:=by
 induction j with
 | zero=>exact yE _
 | succ j h1=>
  rw[Nat.add_mul,Nat.one_mul];rw[Dn];split
  ·rename_i p hp;have h2:=Qe p.consts p.ins (Dn ps j) p.ins.length;have h3:=h p (yH hp);exact yI h2 (Nat.add_le_add h1 h3)
  ·exact yI h1 (Nat.le_add_right _ _)
theorem Nr (a:Int):∀(k:Nat) (l:List Nd),Bi a k l<=l.length
 | _,[]=>yB _
 | k,n::r=>by
  have:=Nr a (k+1) r;unfold Bi;split<;>simp<;>omega
theorem A2d {a:Int} {l:List Nd} {n:Nd} (h:l[i+k]?=some n):Bi a k (l.drop (i+k))=if n.op=42/\n.a=a+k then Bi a (k+1) (l.drop (i+(k+1)))+1 else 0:=by rw[Ao h];rfl
theorem A9p{c:Nat} {l:List Nd} {n x:Nd} (h:l[i]?=some n) (h2:l[i+1]?=some x):Oa cs c (l.drop i)=Kk cs c n x:=by rw[Ao h,Ao h2];rfl
theorem A9q{c:Nat} {l:List Nd} (h:l.length<=i+1):Oa cs c (l.drop i)=none:=by
 match hd:l.drop i with
 | []=>rfl
 | [_]=>rfl
 | _::_::r=>
  have:=congrArg List.length hd;simp at this;omega
theorem Wd {c:Nat} {l:List Nd} {n:Nd} (h:l[i]?=some n) (hk:1<Bi n.a 0 (l.drop i)):Bt cs c (l.drop i)=⟨46,n.a,Bi n.a 0 (l.drop i),0,0,0,0⟩:=by rw[Ao h]at *;simp only[Bt,if_pos hk]
theorem A19 {c:Nat} {l:List Nd} {n:Nd} {q:Qd} (h:l[i]?=some n) (hk:¬1<Bi n.a 0 (l.drop i)) (h2:Oa cs c (l.drop i)=some q):Bt cs c (l.drop i)=q:=by rw[Ao h]at *;simp only[Bt,if_neg hk,h2]
theorem We {c:Nat} {l:List Nd} {n:Nd} (h:l[i]?=some n) (hk:¬1<Bi n.a 0 (l.drop i)) (h2:Oa cs c (l.drop i)=none):Bt cs c (l.drop i)=Pq n:=by rw[Ao h]at *;simp only[Bt,if_neg hk,h2]
def QiAt (w:World) (b o:Nat) (q:Qd):Prop:=w.cell? (b,o)=some (q.op:Value)/\w.cell? (b,o+1)=some (q.a:Value)/\w.cell? (b,o+2)=some (q.b:Value)/\w.cell? (b,o+3)=some (q.c:Value)/\w.cell? (b,o+4)=some (q.d:Value)/\w.cell? (b,o+5)=some (q.e:Value)/\w.cell? (b,o+6)=some (q.f:Value)
def Yk (lo:Nat) (w:World) (ao:Option Addr) (xs:List Qd):Prop:=Ah lo w ao 7 (QiAt w) xs
theorem Yk.l{w:World} {xs:List Qd} (h:Yk lo w ao xs) (hk:A7 lo w w'):Yk lo w' ao xs:=
 Ah.l h hk (fun b o x hl hs _ ha=>by unfold QiAt;rw[hk.cell hl hs,hk.cell hl hs,hk.cell hl hs,hk.cell hl hs,hk.cell hl hs,hk.cell hl hs,hk.cell hl hs];exact ha)
def QpAt (lo:Nat) (w:World) (b o:Nat) (qs:List Qd):Prop:=∃io ic,w.cell? (b,o)=some (.slice io qs.length ic)/\Yk lo w io qs
def I7 (lo:Nat) (w:World) (ao:Option Addr) (xs:List (List Qd)):Prop:=Ah lo w ao 1 (QpAt lo w) xs
theorem I7.l{w:World} {xs:List (List Qd)} (h:I7 lo w ao xs) (hk:A7 lo w w'):I7 lo w' ao xs:=
 Ah.l h hk (fun b o x hl hs _ ⟨io,ic,h1,h2⟩=>⟨io,ic,by rw[hk.cell hl hs];exact h1,h2.l hk⟩)
theorem I7.w{lo':Nat} {w:World} {xs:List (List Qd)} (h:I7 lo w ao xs) (hl:lo'<=lo):I7 lo' w ao xs:=by intro i x hx;obtain⟨b,off,e,h1,hs,io,ic,h2,h3⟩:=h i x hx;exact⟨b,off,e,yI hl h1,hs,io,ic,h2,Ah.w h3 hl⟩
theorem Hg.qis {w:World}{t:Nat} {us:List Qd} (own:Own w g t n) (h:Hg w g 7 Qd.vals us us.length) (hl:lo<=g):Yk lo w g us:=by intro i u hi;have hk:=(yD.1 hi).1;have:=h i u hk hi;refine⟨g,0,rfl,hl,own.lt,?_⟩;rw[yM];exact⟨this 0 _ rfl,this 1 _ rfl,this 2 _ rfl,this 3 _ rfl,this 4 _ rfl,this 5 _ rfl,this 6 _ rfl⟩
structure A1w (w:World) (g:Nat) (gs:Nat->Nat) (qss:List (List Qd)):Prop where
 own:Own w g 72 qss.length
 hdr:∀j qs,qss[j]?=some qs->w.cell? ⟨g,j,none⟩=some (.slice (some ⟨gs j,0,none⟩) qs.length qs.length)
 up:∀j,j<qss.length->g<gs j
 apart:∀j k,j<k->k<qss.length->gs j<gs k
 row:∀j qs,qss[j]?=some qs->Own w (gs j) 79 (qs.length*7)/\Hg w (gs j) 7 Qd.vals qs qs.length
theorem A1w.at {w:World} {gs:Nat->Nat} {qss:List (List Qd)} (h:A1w w g gs qss) (hl:lo<=g):I7 lo w g qss:=by intro j qs hj;have hlt:=(yD.1 hj).1;obtain⟨h1,h2⟩:=h.row j qs hj;refine⟨g,0,rfl,hl,h.own.lt,some ⟨gs j,0,none⟩,qs.length,?_,h2.qis h1 (yI hl (Nat.le_of_lt (h.up j hlt)))⟩;rw[yM,Nat.mul_one];exact h.hdr j qs hj
theorem A1w.l{w:World} {gs:Nat->Nat} {qss:List (List Qd)} (h:A1w w g gs qss) (hk:A7 g w w'):A1w w' g gs qss:=by
 refine⟨h.own.of_block (hk.block g (yB _) h.own.lt),fun j qs hj=>?_,h.up,h.apart,fun j qs hj=>?_⟩
 ·rw[hk.cell (yB _) h.own.lt];exact h.hdr j qs hj
 ·have hlt:=(yD.1 hj).1;obtain⟨h1,h2⟩:=h.row j qs hj;have hg:=Nat.le_of_lt (h.up j hlt);refine⟨h1.of_block (hk.block _ hg h1.lt),fun i y hi hy a v hv=>?_⟩;rw[hk.cell hg h1.lt];exact h2 i y hi hy a v hv
def Ia (xs:List Qd):List Value:=xs.flatMap Qd.vals
theorem A1b (xs:List Qd):(Ia xs).length=xs.length*7:=by
 induction xs with
 | nil=>rfl
 | cons x r ih=>simp only[Ia,List.flatMap_cons,List.length_append,List.length_cons]at *;rw[ih];simp[Qd.vals];omega
theorem Hf:∀{xs:List Qd} {i:Nat} {g:Qd},xs[i]?=some g->∀j v,g.vals[j]?=some v->(Ia xs)[i*7+j]?=some v
 | [],i,g,h,_,_,_=>by simp at h
 | x::r,0,g,h,j,v,hv=>by
  simp at h;subst h;have hj:j<7:=(yD.1 hv).1;simp only[Ia,List.flatMap_cons];rw[List.getElem?_append_left (by simp[Qd.vals];omega)];simpa using hv
 | x::r,i+1,g,h,j,v,hv=>by
  simp at h;simp only[Ia,List.flatMap_cons];rw[List.getElem?_append_right (by simp[Qd.vals];omega)];have:=Hf h j v hv;have e:(i+1)*7+j-x.vals.length=i*7+j:=by simp[Qd.vals];omega
  rw[e];exact this
theorem A1a (xs ys:List Qd):Ia (xs++ys)=Ia xs++Ia ys:=by simp[Ia]
theorem Abk {w:World}{cap:Nat} {xs:List Qd} (h:w.ownsRow base 79 7 (.slice ao n cap) n (Ia xs)):Yk base w ao xs/\n=xs.length:=by
 have hl:n=xs.length:=by have:=h.1;rw[A1b]at this;omega
 refine⟨?_,hl⟩;intro i x hi;rcases Ce h with ⟨h1,h2⟩|⟨g,cap',h1,h2,h3⟩
 ·subst h2;have:xs=[]:=yW.1 hl.symm;subst this;simp at hi
 ·simp only[Value.slice.injEq]at h1;obtain⟨rfl,_,rfl⟩:=h1;refine⟨g,0,rfl,h2,h3,?_⟩;rw[yM];exact⟨D9 h (Hf hi 0 _ rfl),D9 h (Hf hi 1 _ rfl),D9 h (Hf hi 2 _ rfl),D9 h (Hf hi 3 _ rfl),D9 h (Hf hi 4 _ rfl),D9 h (Hf hi 5 _ rfl),D9 h (Hf hi 6 _ rfl)⟩
theorem Tryz.info_QIns:(prog.info? 79).map (fun i=>(i.zero,i.size,i.bytes))=some (some (.agg #[(),(),(),(),(),(),()]),7,56):=by kernel_rfl
theorem Tryz.info_QProto:(prog.info? 72).map (fun i=>(i.zero,i.size,i.bytes))=some (some (.agg #[nS]),1,24):=by kernel_rfl
section
variable {w:World} {ops:Array Oper} {rest:List Oper} {o:Oper} {a:Act} {Q:Exit→Act→World→Prop}
theorem A23 (hgd:o.guard=none) (s x:Operand) (ho:o.op=.call {callee:=.builtin .append,args:=#[s,x],argTypes:=#[70,70]})
  (base:Nat) (v:Value) (n:Nat) (xs:List Qd) (u:Qd) (B:Nat) (hs:a.eval s=v) (hown:w.ownsRow base 79 7 v n (Ia xs)) (hx:a.eval x=.slice B 1 1) (hB:Blk w B #[u.op,u.a,u.b,u.c,u.d,u.e,u.f] 79)
  (hn:n<=1048576) (hbase:base<=(w:Nat))
  (h:∀v' w',w'.ownsRow base 79 7 v' (n+1) (Ia (xs++[u]))->w.grownBy w' v.ownBlock->(v'.ownBlock=v.ownBlock∨v'.ownBlock=some (w:Nat))->wpList prog ops Q rest (a.put o.dst v') w'):wpList prog ops Q (o::rest) a w:=by
 obtain⟨i0,hi,hz0,hz1,hz2⟩:=info_parts Tryz.info_QIns;refine wpList_append_own_at w hgd s x 70 ho base 79 i0 (.agg #[(),(),(),(),(),(),()]) 7 56 underlying70 hi hz0 hz1 hz2 rfl (by decide) v n (Ia xs) hs hown ⟨B,0,none⟩ 1 1 u.vals hx rfl ?_ ?_ (by unfold maxLen;omega) (by omega) hbase ?_
 ·intro j q hj;have hc:=hB.cell j;have ha:(⟨B,0,none⟩:Addr).add j=⟨B,j,none⟩:=by simp[Addr.add];exact fun h=>h.symm
  rw[ha,hc];simpa[Qd.vals]using hj
 ·intro q hq;simp[Qd.vals]at hq;rcases hq with rfl|rfl|rfl|rfl|rfl|rfl|rfl<;>rfl
 ·intro v' w' h1 h2 _ h4;refine h v' w' ?_ h2 h4;rw[A1a];simpa[Ia]using h1
theorem app_p (hgd:o.guard=none) (s x:Operand) (ho:o.op=.call {callee:=.builtin .append,args:=#[s,x],argTypes:=#[36,36]})
  (base:Nat) (v:Value) (n:Nat) (hs':List Value) (ao:Option Addr) (l c:Nat) (B:Nat) (hs:a.eval s=v) (hown:w.ownsRow base 72 1 v n hs') (hx:a.eval x=.slice B 1 1) (hB:Blk w B #[.slice ao l c] 72)
  (hn:n<=1048576) (hbase:base<=(w:Nat))
  (h:∀v' w',w'.ownsRow base 72 1 v' (n+1) (hs'++[.slice ao l c])->w.grownBy w' v.ownBlock->(v'.ownBlock=v.ownBlock∨v'.ownBlock=some (w:Nat))->wpList prog ops Q rest (a.put o.dst v') w'):wpList prog ops Q (o::rest) a w:=by
 obtain⟨i0,hi,hz0,hz1,hz2⟩:=info_parts Tryz.info_QProto;refine wpList_append_own_at w hgd s x 36 ho base 72 i0 (.agg #[nS]) 1 24 underlying36 hi hz0 hz1 hz2 rfl (by decide) v n hs' hs hown ⟨B,0,none⟩ 1 1 [.slice ao l c] hx rfl ?_ ?_ (by unfold maxLen;omega) (by omega) hbase ?_
 ·intro j q hj
  match j,hj with
  | 0,hj=>simp at hj;subst hj;simpa[Addr.add]using hB.cell 0
 ·intro q hq;simp at hq;subst hq;rfl
 ·intro v' w' h1 h2 _ h4;exact h v' w' h1 h2 h4
end
theorem Blk.newAt (arr:Array Value) (t:TypeId) (h:(W:Nat)=n):Blk (W.alloc (.cells arr t)) n arr t:=by subst h;exact Blk.new W arr t
structure Fs (B S:Nat) (wr wi:World) (fc:Array Value) (v u:Value) (c:Int) (i:Nat) (qs:List Qd):Prop where
 only:Ej (B+1+1) wr wi
 size:S+2<=(wi:Nat)
 eqS:(wr:Nat)=S
 lt:B+1+1<S
 out:Blk wi (B+1+1) #[v,c] 38
 f:Blk wi S fc 77
 q:Blk wi (S+1) #[u] 72
 row:wi.ownsRow (S+2) 79 7 u i (Ia qs)
theorem Fs.below {qs:List Qd} (h:Fs B S wr wi fc v u c i qs) (hb:Below wi wi w'):Fs B S wr w' fc v u c i qs:=
 ⟨h.only.below hb,yI h.size hb.size,h.eqS,h.lt,h.out.l hb,h.f.l hb,h.q.l hb,Ai h.row hb⟩
theorem Ej.other{w:World} (h:Ej g w w') (hb:(w:Nat)<=b) (i:Nat) (v:Value):Ej g w (w'.setCell (b,i) v):=by refine⟨h.os,h.tape,h.output,by simpa using h.size,fun k hk hl=>?_⟩;rw[yL _ _ _ _ (by show k≠b;omega),h.block k hk hl]
theorem Ga {w:World}{e size:Nat} {xs:List Value} (h:w.ownsRow base e size v n xs) (hb:∀k,v.ownBlock=some k->k≠b) (i:Nat) (x:Value):(w.setCell (b,i) x).ownsRow base e size v n xs:=by
 obtain⟨h1,h2|⟨g,cap,cur,rfl,hg,hc,r⟩⟩:=h
 ·exact⟨h1,.inl h2⟩
 ·exact⟨h1,.inr ⟨g,cap,cur,rfl,hg,(yL _ _ _ _ (hb g rfl)).trans hc,r⟩⟩
theorem Fs.other {qs:List Qd} (h:Fs B S wr wi fc v u c i qs) (b:Nat) (hb:S+1<b) (hu:∀k,u.ownBlock=some k->k≠b) (j:Nat) (x:Value):Fs B S wr (wi.setCell (b,j) x) fc v u c i qs:=by have hl:=h.lt;have he:=h.eqS;exact⟨h.only.other (by omega) j x,by simpa using h.size,he,hl,h.out.setOther (by show B+1+1≠b;omega) x,h.f.setOther (by show S≠b;omega) x,h.q.setOther (by show S+1≠b;omega) x,Ga h.row hu j x⟩
theorem Fs.count {qs:List Qd} (h:Fs B S wr wi fc v u c i qs) (c':Int):Fs B S wr (wi.setCell (B+1+1,1) c') fc v u c' i qs:=by have hl:=h.lt;refine⟨h.only.set 1 _,by simpa using h.size,h.eqS,hl,by simpa using h.out.set 1 c',h.f.setOther (by show S≠B+1+1;omega) _,h.q.setOther (by show S+1≠B+1+1;omega) _,Ga h.row (fun k hk=>?_) 1 _⟩;have:=(h.row.lt k hk).1;omega
theorem Fs.more{u':Value} {qs:List Qd} {q:Qd} (h:Fs B S wr wi fc v u c i qs)
  (h1:w'.ownsRow (S+2) 79 7 u' (i+1) (Ia (qs++[q]))) (h2:wi.grownBy w' u.ownBlock):Fs B S wr (w'.setCell (S+1,0) u') fc v u' c (i+1) (qs++[q]):=by
 have hl:=h.lt;have he:=h.eqS;have hu:∀k,u.ownBlock=some k->S+2<=k:=fun k hk=>(h.row.lt k hk).1;have hu':∀k,u'.ownBlock=some k->S+2<=k:=fun k hk=>(h1.lt k hk).1;have hk:∀b,b<S+2->w'.heap[b]?=wi.heap[b]?:=fun b hb=>h2.block b (by have:=h.size;omega) (fun e=>by have:=hu b e.symm;omega);have hsz:=h2.size;refine⟨⟨h2.os.trans h.only.os,h2.tape.trans h.only.tape,h2.output.trans h.only.output,?_,fun b hb hbl=>?_⟩,by simp;have:=h.size;omega,he,hl,?_,?_,?_,Ga h1 (fun k hk=>by have:=hu' k hk;omega) 0 _⟩
 ·simp;have:=h.only.size;omega
 ·rw[yL _ _ _ _ (by show b≠S+1;omega),hk b (by omega)];exact h.only.block b hb hbl
 ·exact Blk.setOther ((hk _ (by omega)).trans h.out) (by show B+1+1≠S+1;omega) _
 ·exact Blk.setOther ((hk _ (by omega)).trans h.f) (by show S≠S+1;omega) _
 ·have:Blk w' (S+1) #[u] 72:=(hk _ (by omega)).trans h.q;simpa using this.set 0 u'
theorem Fs.qAfter {qs:List Qd} (h:Fs B S wr wi fc v u c i qs) (h2:wi.grownBy w' u.ownBlock):Blk w' (S+1) #[u] 72:=
 (h2.block (S+1) (by have:=h.size;omega) (fun e=>by have:=(h.row.lt (S+1) e.symm).1;omega)).trans h.q
structure Jl (w:World) (ps:List Pd) (wr:World) (k:Nat) (v:Value) (hs:List Value):Prop where
 below:Below w w wr
 size:(w:Nat)+1+1<(wr:Nat)
 res:Blk wr ((w:Nat)+1) #[nS,()] 38
 out:Blk wr ((w:Nat)+1+1) #[v,(Dn ps k:Int)] 38
 row:wr.ownsRow ((w:Nat)+1+1+1) 72 1 v k hs
 rows:∀i p,i<k->ps[i]?=some p->∃u,hs[i]?=some u/\wr.ownsRow ((w:Nat)+1+1+1) 79 7 u p.ins.length (Ia (Gl p.consts p.ins (Dn ps i)))/\∀b,u.ownBlock=some b->v.ownBlock≠some b
theorem Fs.belowW{w:World} {qs:List Qd} (h:Fs (w:Nat) S wr wi fc v u c i qs) (hb:Below w w wr):Below w w wi:=
 ⟨h.only.os.trans hb.os,h.only.tape.trans hb.tape,h.only.output.trans hb.output,yI hb.size h.only.size,fun k hk=>(h.only.block k (by omega) (yF hk hb.size)).trans (hb.block k hk)⟩
theorem Fs.start (fc:Array Value) (hl:B+1+1<(wr:Nat)) (ho:Blk wr (B+1+1) #[v,c] 38) :
  Fs B (wr:Nat) wr ((wr.alloc (.cells fc 77)).alloc (.cells #[nS] 72)) fc v nS c 0 []:=by
 have hb:Below wr wr ((wr.alloc (.cells fc 77)).alloc (.cells #[nS] 72)):=((yA _ _).alloc (yB _) _).alloc (by simp) _;refine⟨(Ej.refl _ _).below hb,by simp,rfl,hl,ho.l hb,(Blk.new _ _ _).alloc _,?_,yU _ _ _ _⟩;have:=Blk.new (wr.alloc (.cells fc 77)) #[nS] 72
 rwa [nblk_alloc]at this
theorem Jl.more {w:World}{v':Value} (h:Jl w ps wr k v hs) (hp:ps[k]?=some p)
  (hi:Fs (w:Nat) (wr:Nat) wr wi fc v u (Dn ps (k+1):Int) p.ins.length (Gl p.consts p.ins (Dn ps k)))
  (h1:w'.ownsRow ((w:Nat)+1+1+1) 72 1 v' (k+1) (hs++[u])) (h2:(wi.alloc o).grownBy w' v.ownBlock) (h3:v'.ownBlock=v.ownBlock∨v'.ownBlock=some (wi.alloc o).heap.size) :
  Jl w ps (w'.setCell ((w:Nat)+1+1,0) v') (k+1) v' (hs++[u]):=by
 have hsz:=h.size;have hsz2:=hi.only.size;have hsi:(wi.alloc o).heap.size=(wi:Nat)+1:=by simp
 have hsz3:=h2.size;have hv:=fun b hb=>h.row.lt b hb;have hv':=fun b hb=>(h1.lt b hb).1;have hk:∀b,b<(wi:Nat)->(∀e,v.ownBlock=some e->e≠b)->w'.heap[b]?=wi.heap[b]?:=fun b hb hn=>
  (h2.block b (by omega) (fun e=>hn b e.symm rfl)).trans (Below.heap_alloc _ _ _ hb)
 have hkw:=fun b hb hn hn2=>(hk b (by omega) hn2).trans (hi.only.block b hn hb);have hlen:hs.length=k:=by have:=h.row.1;omega
 refine⟨?_,by simp;omega,?_,?_,?_,?_⟩
 ·refine yP ?_ (by show (w:Nat)<=(w:Nat)+1+1;omega) _;exact⟨h2.os.trans (hi.only.os.trans h.below.os),h2.tape.trans (hi.only.tape.trans h.below.tape),h2.output.trans (hi.only.output.trans h.below.output),by have:=h.below.size;omega,
   fun b hb=>(hkw b (by omega) (by omega) (fun e he=>by have:=hv e he;omega)).trans (h.below.block b hb)⟩
 ·exact Blk.setOther ((hkw _ (by omega) (by omega) (fun e he=>by have:=hv e he;omega)).trans h.res) (by show (w:Nat)+1≠(w:Nat)+1+1;omega) _
 ·have:Blk w' ((w:Nat)+1+1) #[v,(Dn ps (k+1):Int)] 38:=(hk _ (by omega) (fun e he=>by have:=hv e he;omega)).trans hi.out;simpa using this.set 0 v'
 ·exact Ga h1 (fun b hb=>by have:=hv' b hb;omega) 0 _
 ·intro i q hik hq;by_cases e:i=k
  ·subst e;obtain rfl:=yO (hp.symm.trans hq);refine⟨u,by rw[List.getElem?_append_right (by omega),hlen];simp,?_,?_⟩
   ·have hr:w'.ownsRow ((wr:Nat)+2) 79 7 u p.ins.length (Ia (Gl p.consts p.ins (Dn ps i))):=by
     obtain⟨g1,g2|⟨g,cap,cur,rfl,hg,hc,r⟩⟩:=hi.row
     ·exact⟨g1,.inl g2⟩
     ·exact⟨g1,.inr ⟨g,cap,cur,rfl,hg,(hk g (Array.getElem?_eq_some_iff.1 hc).1 (fun e he=>by have:=hv e he;omega)).trans hc,r⟩⟩
    refine Ga ?_ (fun b hb=>by have:=(hr.lt b hb).1;omega) 0 _;obtain⟨g1,g2|⟨g,cap,cur,rfl,hg,hc,r⟩⟩:=hr
    ·exact⟨g1,.inl g2⟩
    ·exact⟨g1,.inr ⟨g,cap,cur,rfl,by omega,hc,r⟩⟩
   ·intro b hb hc;have hb2:=hi.row.lt b hb;rcases h3 with h3|h3
    ·have:=(hv b (h3▸hc)).2;omega
    ·rw[h3]at hc;simp at hc;omega
  ·obtain⟨x,hx,hr,hn⟩:=h.rows i q (by omega) hq;refine⟨x,by rw[List.getElem?_append_left (by have:=(yD.1 hx).1;omega)];exact hx,?_,?_⟩
   ·refine Ga ?_ (fun b hb=>by have:=(hr.lt b hb).1;omega) 0 _;obtain⟨g1,g2|⟨g,cap,cur,rfl,hg,hc,r⟩⟩:=hr
    ·exact⟨g1,.inl g2⟩
    ·exact⟨g1,.inr ⟨g,cap,cur,rfl,hg,(hkw g (Array.getElem?_eq_some_iff.1 hc).1 (by omega) (fun e he hne=>hn g rfl (hne▸he))).trans hc,r⟩⟩
   ·intro b hb hc;rcases h3 with h3|h3
    ·exact hn b hb (h3▸hc)
    ·have hb2:=(hr.lt b hb).2;rw[h3]at hc;simp at hc;omega
theorem Fs.keeps{w:World} {qs:List Qd} (h:Fs (w:Nat) S wr wi fc v u c i qs):A7 ((w:Nat)+1+1+1) wr wi:=
 ⟨h.only.size,fun k hl hk=>h.only.block k (by omega) hk⟩
theorem Jl.outAfter {w:World} {qs:List Qd} (h:Jl w ps wr k v hs)
  (hi:Fs (w:Nat) (wr:Nat) wr wi fc v u c i qs) (h2:(wi.alloc o).grownBy w' v.ownBlock):Blk w' ((w:Nat)+1+1) #[v,c] 38:=
 (h2.block _ (by have:=hi.out.lt;simp;omega) (fun e=>by have:=(h.row.lt _ e.symm).1;omega)).trans (hi.out.alloc o)
theorem Jl.done {w:World}{vc:Nat} (h:Jl w ps wr n (.slice vo n vc) hs) (hn:n=ps.length):I7 ((w:Nat)+1+1+1) wr vo (Yb ps):=by
 subst hn;intro i qs hi;have hl:i<ps.length:=by have:=(yD.1 hi).1;rwa [Ka]at this
 obtain⟨p,hp⟩:=A8 hl;rw[A7i hp]at hi;obtain rfl:=yO hi;obtain⟨u,hu,hr,_⟩:=h.rows i p hl hp;obtain⟨io,ic,rfl⟩:=Aa hr;obtain⟨hq,hlen⟩:=Abk hr;rcases Ce h.row with ⟨h1,h2⟩|⟨g,cap,h1,h2,h3⟩
 ·omega
 ·have hrow:=h.row;simp only[Value.slice.injEq]at h1;obtain⟨rfl,_,rfl⟩:=h1;refine⟨g,0,rfl,h2,h3,io,ic,?_,hq⟩;rw[yM,Nat.mul_one,←hlen];exact D9 hrow hu
structure QFit (p:Pd) (n:Nd):Prop where
 lo:1<=n.op
 hi:n.op<=42
 drop:n.op=42->(0<=n.a/\n.a<=250)/\n.b=0/\n.c=0/\n.d=0
 cst:n.op=4->(0<=n.a/\n.a<=250)/\0<=n.b/\n.b<p.consts.length
 bin:n.op=18->(0<=n.a/\n.a<=250)
theorem qfit {n:Nd} (hr:0<=p.regs/\p.regs<=250) (h:Ep np p n):QFit p n:=by
 obtain⟨lo,hi,hf⟩:=h;refine⟨lo,hi,fun e=>?_,fun e=>?_,fun e=>?_⟩
 ·rw[e]at hf;simp[Bh,Ed,Nd.fs,Da,Bg,inR]at hf;omega
 ·rw[e]at hf;simp[Bh,Ed,Nd.fs,Da,Bg,inR]at hf;omega
 ·rw[e]at hf;simp[Bh,Ed,Nd.fs,Da,Bg,inR]at hf;omega
theorem A7p (h:(Cj ps).1=0):∀p∈ps,∀n∈p.ins,QFit p n:=by
 have hs:(Bu ps).1=0:=by
  unfold Cj at h;split at h
  ·assumption
  ·exact h
 intro p hp n hn;have hf:=(Mi hs p hp).fit;obtain⟨i,hi⟩:=List.getElem?_of_mem hn;exact qfit hf.regs (hf.fit i n hi)
theorem A3d (p:Pd) (h:Ph) (i:Nat) (n0:Nd) (w:World) (hz:p.ins.length<=1048576) (hp:Ck 0 w h.io p.ins) (hi:p.ins[i]?=some n0) (hd:n0.op=42->0<=n0.a/\n0.a<=250) :
  Kw 108 #[.agg (p.cells h),i] w (Bi n0.a 0 (p.ins.drop i):Int):=by
 have HS:Hid (∀(k:Nat) n,p.ins[i+k]?=some n->Bi n0.a k (p.ins.drop (i+k))=if n.op=42/\n.a=n0.a+k then Bi n0.a (k+1) (p.ins.drop (i+(k+1)))+1 else 0):=fun k n hn=>A2d hn;have hil:=(yD.1 hi).1;have hb1:∀o,Below w w (w.alloc o):=fun o=>(yA _ _).alloc (yB _) o;have X0:=Blk.new w (p.cells h) 77;obtain⟨nm,ln,pa,re,rg,us,cs,is,ms⟩:=p;obtain⟨uo,uc,co,cc,io,ic,no,nc⟩:=h;dsimp only[Pd.cells]at *;have HD:Hid _:=hd;clear hd;unfold Kw;go_in;go_wp2;go_loopw [5] (fun y wr=>∃k:Nat,i+k<=is.length/\y=k/\Hid (Bi n0.a k (is.drop (i+k))+k=Bi n0.a 0 (is.drop i))/\(1<=k->n0.op=42)/\Below w w wr/\Blk wr (w:Nat) #[nm,ln,pa,.bool re,rg,.slice uo us.length uc,.slice co cs.length cc,.slice io is.length ic,.slice no ms.length nc] 77) (fun y _=>is.length-(intOf y).toNat);case atStart=>exact⟨0,by omega,rfl,rfl,by omega,hb1 _,X0⟩
 case round=>
  obtain⟨k,hk,rfl,HQ,h42,hb,X1⟩:=hrel;clear X0;have x1:=X1.cell;obtain⟨b,off,rfl,_,hbl,q0,q1,q2,q3,q4⟩:=hp.l (A7.o hb) i n0 hi;by_cases hlt:i+k<is.length
  ·obtain⟨n,hn⟩:=A8 hlt;obtain⟨b',off',e',_,hbl',r0,r1,r2,r3,r4⟩:=hp.l (A7.o hb) (i+k) n hn;simp only[Option.some.injEq,Addr.mk.injEq,and_true]at e';obtain⟨rfl,rfl⟩:=e';have HE:=HS.out k n hn;have k0:(i:Int)+k<is.length:=by omega
   have k9:¬((i:Int)+k<0):=by omega
   have HN:Hid (n.op=42->0<=n0.a/\n0.a<=250):=by
    intro h;by_cases hk0:k=0
    ·subst hk0;have:=yO (hi.symm.trans hn);subst this;exact HD.out h
    ·exact HD.out (h42 (by omega))
   have H42:Hid (n.op=42->n0.op=42):=by
    intro h;by_cases hk0:k=0
    ·subst hk0;have:=yO (hi.symm.trans hn);subst this;exact h
    ·exact h42 (by omega)
   by_cases hop:n.op=42
   ·have h4:=H42.out hop;obtain⟨hd1,hd2⟩:=HN.out hop;have ho:(n.op==42)=true:=by simp[hop]
    have HT:Hid _:=hop;clear hop h42 HN H42;by_cases ha:n.a=n0.a+k
    ·have hae:(n.a==n0.a+(k:Int))=true:=by simp[ha]
     have HQ1:Hid (Bi n0.a (k+1) (is.drop (i+(k+1)))+(k+1)=Bi n0.a 0 (is.drop i)):=by have h1:=HQ.out;rw[HE,if_pos ⟨HT.out,ha⟩]at h1;show _=_;omega
     clear ha HQ HE HS r2 r3 r4 q0 q2 q3 q4;go_wp2_with fail;go_quiet (fail);go_wp2;go_roundw;case rel=>exact⟨k+1,by omega,by go_num,HQ1.out,fun _=>h4,below_drewN hb _,X1⟩
     case measure=>simp[intOf];omega
    ·have hae:(n.a==n0.a+(k:Int))=false:=by simpa using ha
     have HQ1:Hid ((k:Int)=Bi n0.a 0 (is.drop i)):=by have h1:=HQ.out;rw[HE,if_neg (fun h=>ha h.2)]at h1;show _=_;omega
     clear ha HQ HE HS r2 r3 r4 q0 q2 q3 q4;go_wp2_with fail;go_quiet (fail);go_wp2;go_ret;exact⟨Ar HQ1.out,below_drewN hb _⟩
   ·have ho:(n.op==42)=false:=by simpa using hop
    have HQ1:Hid ((k:Int)=Bi n0.a 0 (is.drop i)):=by have h1:=HQ.out;rw[HE,if_neg (fun h=>hop h.1)]at h1;show _=_;omega
    clear hop HQ HE HS HN H42 h42 r1 r2 r3 r4 q0 q1 q2 q3 q4;go_wp2_with fail;go_quiet (fail);go_wp2;go_ret;exact⟨Ar HQ1.out,below_drewN hb _⟩
  ·have k0:decide ((i:Int)+k<is.length)=false:=by simp;omega
   have hki:i+k=is.length:=by omega
   have HQ1:Hid ((k:Int)=Bi n0.a 0 (is.drop i)):=by have h1:=HQ.out;rw[yQ (by omega)]at h1;simp only[Bi]at h1;show _=_;omega
   clear HQ HS h42 q0 q1 q2 q3 q4 hlt hki;go_wp2_with fail;go_quiet (fail);go_wp2;go_ret;exact⟨Ar HQ1.out,below_drewN hb _⟩
end Go.Proofs.YtjbbppblgjhapaaGreatDoor
