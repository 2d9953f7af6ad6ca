import Derived.Test.YtbefeflgjipfhaaGreatDoorF05
set_option maxHeartbeats 2000000
namespace Go.Proofs.YtbefeflgjipfhaaGreatDoor
open Go.Deep Go.Proofs.Tryz Go.RowKit
def Cm (w:World) (g n:Nat) (B:Int):Prop:=∀i,i<n->∃x:Int,w.cell? ⟨g,i,none⟩=some (.int .i64 x)/\0<=x/\x<B
theorem Cm.l {w w':World} {g n:Nat} {B:Int} (h:Cm w g n B) (hb:Below w.heap.size w w'):Cm w' g n B:=fun i hi=>by
 obtain⟨x,h1,h2⟩:=h i hi
 exact⟨x,cb h1 hb,h2⟩
theorem Cm.set {w:World} {g n k c:Nat} {B x:Int} (h:Cm w g n B) (ho:Own w g 3 c) (hk:k<c) (h0:0<=x) (h1:x<B):Cm (w.setCell ⟨g,k,none⟩ (.int .i64 x)) g n B:=fun i hi=>by
 by_cases e:i=k
 ·subst e
  obtain⟨u,hu⟩:=ho.cell hk
  exact⟨x,World.cell?_setCell_same _ _ _ hu,h0,h1⟩
 ·obtain⟨y,h2,h3⟩:=h i hi
  exact⟨y,(World.cell?_setCell_other _ _ _ _ (by intro h;injection h with _ h;exact e h.symm)).trans h2,h3⟩
theorem Nc (b o g n c i j:Nat) (B:Int) (w:World) (hi:i<n) (hj:j<n) (hn:n<=c) (h:w.cell? ⟨b,o,none⟩=some (.slice (some ⟨g,0,none⟩) n c)) (hO:Own w g 3 c) (hI:Cm w g n B) :
  Calls prog 298 #[.pointer (some ⟨b,o,none⟩),.int .i64 i,.int .i64 j] w fun e w'=>e=.returned (.tuple #[])/\Chg [g] w w'/\Own w' g 3 c/\Cm w' g n B:=by
 obtain⟨x,hx,hx0,hx1⟩:=hI i hi
 obtain⟨y,hy,hy0,hy1⟩:=hI j hj
 have f1:=hO.frozen i
 have f2:=hO.frozen j
 have i0:(0:Int)<=i:=by omega
 have i1:(i:Int)<n:=by omega
 have j0:(0:Int)<=j:=by omega
 have j1:(j:Int)<n:=by omega
 have s1:(w.setCell ⟨g,i,none⟩ (.int .i64 y)).cell? ⟨g,j,none⟩=some (.int .i64 y):=by
  by_cases e:j=i
  ·subst e;exact World.cell?_setCell_same _ _ _ hx
  ·exact(World.cell?_setCell_other _ _ _ _ (by intro h;injection h with _ h;exact e h.symm)).trans hy
 have s2:=(hO.set i (.int .i64 y)).frozen j
 have HI:Hid (Cm w g n B):=hI
 have HO:Hid (Own w g 3 c):=hO
 clear hI hO
 go_enter func298,ntmps298
 go_region
 go_wp2_with fail
 go_end0
 exact⟨rfl,(((Chg.refl _ _).set (by simp) _ _).set (by simp) _ _).below (Below.refl _ _).drew,((HO.out.set i _).set j _).l (Below.refl _ _).drew,((HI.out.set HO.out (by omega) hy0 hy1).set (HO.out.set i _) (by omega) hx0 hx1).l (Below.refl _ _).drew⟩
theorem Kn (b o g n c k:Nat) (B:Int) (w:World) (hk:k<n∨k=0) (hm:n<=1000000) (h:w.cell? ⟨b,o,none⟩=some (.slice (some ⟨g,0,none⟩) n c)) (hI:Cm w g n B) :
  Calls prog 332 #[.pointer (some ⟨b,o,none⟩),.int .i64 k] w fun e w'=>∃r:Nat,e=.returned (.int .i64 r)/\(r=k∨k<r/\r<n)/\Below w.heap.size w w':=by
 have w1:IntKind.i64.wrap (2*(k:Int))=2*k:=wr (by omega) (by omega)
 have w2:IntKind.i64.wrap (2*(k:Int)+1)=2*k+1:=wr (by omega) (by omega)
 have w3:IntKind.i64.wrap (2*(k:Int)+2)=2*k+2:=wr (by omega) (by omega)
 go_enter func332,ntmps332
 go_wp2_with fail
 have HI:Hid (Cm w g n B):=hI
 have HW:Hid (IntKind.i64.wrap (2*(k:Int))=2*k):=w1
 clear hI w1 w2 w3
 go_loopw [5,17] (fun y x wr=>∃i r:Nat,i<=2/\x=.int .i64 i/\y=.int .i64 r/\(r=k∨k<r/\r<n)/\Hid (Below w.heap.size w wr)/\Hid (Blk wr w.heap.size #[.int .i64 (2*(k:Int)+1),.int .i64 (2*(k:Int)+2)] 3)) (fun _ x _=>2-(intOf x).toNat)
 case atStart=>exact⟨0,k,by omega,rfl,rfl,.inl rfl,(Below.refl _ _).alloc (Nat.le_refl _) _,Blk.new w _ _⟩
 case round=>
  obtain⟨i,r,hi,rfl,rfl,hr,HB,HR⟩:=hrel
  have hs:=HB.out.size
  have hc:wr.cell? ⟨b,o,none⟩=some (.slice (some ⟨g,0,none⟩) n c):=cb h HB.out
  have HI':Hid (Cm wr g n B):=HI.out.l HB.out
  have hrk:r<n∨n<=1:=by omega
  clear h HI
  obtain rfl|⟨v,hv⟩:i=2∨∃v:Nat,v=2*k+1+i/\i<2:=by by_cases h:i=2;exact .inl h;exact .inr ⟨_,rfl,by omega⟩
  ·go_wp2_with fail
   go_ret
   exact⟨r,rfl,hr,HB.out⟩
  ·obtain⟨hv,hi2⟩:=hv
   have hrow:wr.cell? ⟨w.heap.size,i,none⟩=some (.int .i64 v):=by
    rw[HR.out.cell i,hv]
    obtain rfl|rfl:i=0∨i=1:=by omega
    ·simp
    ·simp;omega
   have i0:(0:Int)<=i:=by omega
   have i1:(i:Int)<2:=by omega
   have v0:(0:Int)<=v:=by omega
   have HV:Hid (v=2*k+1+i):=hv
   clear hv
   by_cases hvn:v<n
   ·have v1:(v:Int)<n:=by omega
    obtain⟨x,hx,_,_⟩:=HI'.out v hvn
    have hrn:r<n:=by have:=HV.out;omega
    have r0:(0:Int)<=r:=by omega
    have r1:(r:Int)<n:=by omega
    obtain⟨y,hy,_,_⟩:=HI'.out r hrn
    go_wp2_with fail
    go_region
    by_cases hxy:x<y
    ·go_wp2_with fail
     go_roundw
     case rel=>exact⟨i+1,v,by omega,by go_num,rfl,.inr ⟨by have:=HV.out;omega,hvn⟩,HB.out.drew,HR.out.l (Below.refl _ _).drew⟩
     case measure=>simp[intOf];omega
    ·go_wp2_with fail
     go_roundw
     case rel=>exact⟨i+1,r,by omega,by go_num,rfl,hr,HB.out.drew,HR.out.l (Below.refl _ _).drew⟩
     case measure=>simp[intOf];omega
   ·have v1:¬(v:Int)<n:=by omega
    go_wp2_with fail
    go_region
    go_wp2_with fail
    go_roundw
    case rel=>exact⟨i+1,r,by omega,by go_num,rfl,hr,HB.out.drew,HR.out.l (Below.refl _ _).drew⟩
    case measure=>simp[intOf];omega
theorem Ym (b o g m c:Nat) (B:Int) (w:World) (arr:Array Value) (tb:TypeId) (hb:b≠g) (hn:m+1<=c) (hm:m<=1000000) (hA:Blk w b arr tb) (h:arr[o]?=some (.slice (some ⟨g,0,none⟩) (m+1) c)) (hO:Own w g 3 c) (hI:Cm w g (m+1) B) :
  Calls prog 268 #[.pointer (some ⟨b,o,none⟩)] w fun e w'=>∃x:Int,e=.returned (.int .i64 x)/\0<=x/\x<B/\Chg [b,g] w w'/\Blk w' b (arr.setIfInBounds o (.slice (some ⟨g,0,none⟩) m c)) tb/\Own w' g 3 c/\Cm w' g m B:=by
 obtain⟨x,hx,hx0,hx1⟩:=hI 0 (by omega)
 have hc:w.cell? ⟨b,o,none⟩=some (.slice (some ⟨g,0,none⟩) (m+1) c):=(hA.cell o).trans h
 have n1:(0:Int)<((m+1:Nat):Int):=by omega
 have w1:IntKind.i64.wrap (((m+1:Nat):Int)-1)=(m:Int):=by rw[wr (by omega) (by omega)];omega
 have w1':IntKind.i64.wrap ((m:Int)+1-1)=(m:Int):=by rw[wr (by omega) (by omega)];omega
 have HI:Hid (Cm w g (m+1) B):=hI
 have HO:Hid (Own w g 3 c):=hO
 have HA:Hid (Blk w b arr tb):=hA
 have HH:Hid (arr[o]?=some (.slice (some ⟨g,0,none⟩) (m+1) c)):=h
 clear hI hO hA h
 go_enter func268,ntmps268
 go_wp2_with fail
 go_region
 go_wp2_with fail
 refine(Nc b o g (m+1) c 0 m B _ (by omega) (by omega) hn (cb hc (Below.refl _ _).drew) (HO.out.l (Below.refl _ _).drew) (HI.out.l (Below.refl _ _).drew)).mono ?_
 rintro e w2 ⟨rfl,hC2,hO2,hI2⟩
 have A2:=(HA.out.l (Below.refl _ _).drew).chg hC2 (by simpa using hb)
 have c2:w2.cell? ⟨b,o,none⟩=some (.slice (some ⟨g,0,none⟩) (m+1) c):=(A2.cell o).trans HH.out
 have f2:=A2.frozen o
 have mi0:(0:Int)<=m:=by omega
 have mi1:(m:Int)<=c:=by omega
 have HC2:Hid (Chg [b,g] w w2):=((Chg.refl _ _).below (Below.refl _ _).drew).trans hC2 (by simp)
 have HO2:Hid (Own w2 g 3 c):=hO2
 have HI2:Hid (Cm w2 g (m+1) B):=hI2
 have HA2:Hid (Blk w2 b arr tb):=A2
 clear hC2 hO2 hI2 A2 HA HO HI hx hc
 go_wp2_with fail
 have hI3:Cm (w2.setCell ⟨b,o,none⟩ (.slice (some ⟨g,0,none⟩) m c)) g m B:=fun i hi=>by
  obtain⟨y,h1,h2⟩:=HI2.out i (by omega)
  exact⟨y,(World.cell?_setCell_other _ _ _ _ (by intro h;injection h with h _;exact hb h)).trans h1,h2⟩
 have hA3:=HA2.out.set o (.slice (some ⟨g,0,none⟩) m c)
 have hO3:Own (w2.setCell ⟨b,o,none⟩ (.slice (some ⟨g,0,none⟩) m c)) g 3 c:=HO2.out.of_block (Below.heap_setCell _ _ _ _ (Ne.symm hb))
 have hC3:=HC2.out.set (g:=b) (by simp) o (.slice (some ⟨g,0,none⟩) m c)
 have hh:∀{W:World},Blk W b (arr.setIfInBounds o (.slice (some ⟨g,0,none⟩) m c)) tb->W.cell? ⟨b,o,none⟩=some (.slice (some ⟨g,0,none⟩) m c):=fun {W} hW=>by rw[hW.cell o,Array.getElem?_setIfInBounds_self];obtain⟨hl,_⟩:=Array.getElem?_eq_some_iff.1 HH.out;simp[hl]
 clear HC2 HO2 HI2 HA2
 refine(Kn b o g m c 0 B _ (.inr rfl) hm (hh hA3) hI3).mono ?_
 rintro e w3 ⟨r,rfl,hr,hw3⟩
 have HS:Hid (Chg [b,g] w w3/\Blk w3 b (arr.setIfInBounds o (.slice (some ⟨g,0,none⟩) m c)) tb/\Own w3 g 3 c/\Cm w3 g m B):=⟨hC3.below hw3,hA3.l hw3,hO3.l hw3,hI3.l hw3⟩
 have Hh:Hid (∀{W:World},Blk W b (arr.setIfInBounds o (.slice (some ⟨g,0,none⟩) m c)) tb->W.cell? ⟨b,o,none⟩=some (.slice (some ⟨g,0,none⟩) m c)):=hh
 clear hC3 hA3 hO3 hI3 hw3 hh c2 f2
 go_wp2_with fail
 go_loopw [5,6] (fun y z wr=>∃a r:Nat,y=.int .i64 a/\z=.int .i64 r/\(r=a∨a<r/\r<m)/\Hid (Chg [b,g] w wr/\Blk wr b (arr.setIfInBounds o (.slice (some ⟨g,0,none⟩) m c)) tb/\Own wr g 3 c/\Cm wr g m B)) (fun y _ _=>m-(intOf y).toNat)
 case atStart=>exact⟨0,r,rfl,rfl,hr,HS.out⟩
 case round=>
  obtain⟨a,r,rfl,rfl,hr,HS⟩:=hrel
  rcases hr with rfl|⟨hr1,hr2⟩
  ·go_wp2_with fail
   go_ret
   obtain⟨h1,h2,h3,h4⟩:=HS.out
   exact⟨x,rfl,hx0,hx1,h1,h2,h3,h4⟩
  ·have hne:((r:Int)==(a:Int))=false:=by simp;omega
   have hne2:¬(r:Int)=(a:Int):=by omega
   go_wp2_with fail
   obtain⟨h1,h2,h3,h4⟩:=HS.out
   refine(Nc b o g m c a r B _ (by omega) hr2 (by omega) (Hh.out h2) h3 h4).mono ?_
   rintro e w4 ⟨rfl,hC4,hO4,hI4⟩
   have A4:=h2.chg hC4 (by simpa using hb)
   have C4:=h1.trans hC4 (by simp)
   clear h1 h2 h3 h4 HS
   have HC4:Hid (Chg [b,g] w w4):=C4
   clear hC4 C4
   go_wp2_with fail
   refine(Kn b o g m c r B _ (.inl hr2) hm (Hh.out A4) hI4).mono ?_
   rintro e w5 ⟨r',rfl,hr',hw5⟩
   have HS:Hid (Chg [b,g] w w5/\Blk w5 b (arr.setIfInBounds o (.slice (some ⟨g,0,none⟩) m c)) tb/\Own w5 g 3 c/\Cm w5 g m B):=⟨HC4.out.below hw5,A4.l hw5,hO4.l hw5,hI4.l hw5⟩
   clear HC4 A4 hO4 hI4 hw5
   go_wp2_with fail
   go_roundw
   case rel=>exact⟨r,r',rfl,rfl,hr',HS.out⟩
   case measure=>simp[intOf];omega
theorem eltS:Elt 83 127 (.pointer none) 1 8:=⟨underlying83,by kernel_rfl,rfl,by decide⟩
theorem Chg.grown {L:List Nat} {w w':World} {row:Option Nat} (h:w.grownBy w' row) (hr:∀k,row=some k->k∈L):Chg L w w':=
 ⟨h.os,h.tape,h.output,h.size,fun b hb hl=>h.block b hl (fun e=>hb (hr b e.symm))⟩
theorem Cx {w:World} {g b n:Nat} {t t':TypeId} {arr:Array Value} (h:Own w g t n) (k:Blk w b arr t') (ht:t≠t'):g≠b:=by
 rintro rfl
 obtain⟨c,hc,_⟩:=h
 have e:=hc.symm.trans k
 injection e with e
 injection e with _ e
 exact ht e
theorem Ia {w:World} {v:Value} {n b e lo:Nat} {xs:List Value} {arr:Array Value} {t:TypeId} (h:w.ownsRow lo e 1 v n xs) (k:Blk w b arr t) (ht:e≠t):∀g,v.ownBlock=some g->g≠b:=fun g hg=>by
 rcases Bz h with ⟨rfl,_,_⟩|⟨g',c,rfl,_,ho,_,_⟩
 ·simp[Value.ownBlock]at hg
 ·simp[Value.ownBlock]at hg
  subst hg
  exact Cx ho k ht
theorem Gj {w w':World} {v:Value} {n e lo:Nat} {xs:List Value} {L:List Nat} (h:w.ownsRow lo e 1 v n xs) (hc:Chg L w w') (hn:∀g,v.ownBlock=some g->g∉L):w'.ownsRow lo e 1 v n xs:=Ae h fun k hk=>hc.block k (hn k hk) (h.lt k hk).2
theorem A01 (bm g k c:Nat) (B:Int) (m:Mc) (w:World) (hn:k+1<=c) (hm:k<=1000000) (X:MAt w bm {m with free:=.slice (some ⟨g,0,none⟩) (k+1) c}) (hO:Own w g 3 c) (hI:Cm w g (k+1) B) :
  Calls prog 204 #[.pointer (some ⟨bm,0,none⟩)] w fun e w'=>∃x:Int,e=.returned (.int .i64 x)/\0<=x/\x<B/\Chg [bm,g] w w'/\MAt w' bm {m with free:=.slice (some ⟨g,0,none⟩) k c}/\Own w' g 3 c/\Cm w' g k B:=by
 have hne:bm≠g:=Ne.symm (Cx hO X (by decide))
 have k0:(0:Int)<((k+1:Nat):Int):=by omega
 go_enter func204,ntmps204
 go_wp2_with fail
 refine(I8 bm 6 _ _ _ _ (X.cell 6)).mono ?_
 rintro e w1 ⟨rfl,rfl⟩
 go_wp2_with fail
 refine(Ym bm 6 g k c B _ _ _ hne hn hm X rfl hO hI).mono ?_
 rintro e w2 ⟨x,rfl,hx0,hx1,hC,hA,hO2,hI2⟩
 go_wp2_with fail
 go_ret
 exact⟨x,rfl,hx0,hx1,hC,hA,hO2,hI2⟩
theorem A00 (lo bm L fc:Nat) (fo:Option Addr) (sv:Value) (xs:List Value) (m:Mc) (w:World) (hm:L<=1000000) (hlo:lo<=w.heap.size) (X:MAt w bm {m with slots:=sv,free:=.slice fo 0 fc}) (hR:w.ownsRow lo 127 1 sv L xs) :
  Calls prog 204 #[.pointer (some ⟨bm,0,none⟩)] w fun e w'=>∃v',e=.returned (.int .i64 L)/\Chg (bm::sv.ownBlock.toList) w w'/\MAt w' bm {m with slots:=v',free:=.slice fo 0 fc}/\w'.ownsRow lo 127 1 v' (L+1) (xs++[.pointer none]):=by
 obtain⟨so,sc,rfl⟩:=Af hR
 have hbm:=X.lt
 have HR:Hid (w.ownsRow lo 127 1 (.slice so L sc) L xs):=hR
 have HX:Hid (MAt w bm {m with slots:=.slice so L sc,free:=.slice fo 0 fc}):=X
 have x:=X.cell
 clear hR X
 go_enter func204,ntmps204
 go_wp2_with fail
 refine(I8 bm 6 _ _ _ _ (x 6)).mono ?_
 rintro e w1 ⟨rfl,rfl⟩
 go_wp2_with (at_builtin;refine Jy eltS rfl _ _ rfl lo _ L _ [.pointer none] w1.heap.size rfl (Ab HR.out ((Below.refl _ _).alloc (Nat.le_refl _) _)) rfl ?qc0 rfl ?qc1 ?qc2 (by decide) ?qc3 ?_)
 case qc0=>exact fun i v hv=>by rw[Nat.zero_add,(Blk.new w1 #[.pointer none] 127).cell];simpa using hv
 case qc1=>simp[Value.oneCell']
 case qc2=>omega
 case qc3=>simp;omega
 intro v' w3 ho3 hg3 _
 have hne:=Ia HR.out HX.out (by decide)
 have B1:∀o,Below w1.heap.size w1 (w1.alloc o):=fun o=>(Below.refl _ _).alloc (Nat.le_refl _) o
 have C3:Chg (bm::(Value.slice so L sc).ownBlock.toList) w1 w3:=((Chg.refl _ _).below (B1 _)).trans (Chg.grown (L:=(Value.slice so L sc).ownBlock.toList) hg3 (fun k hk=>by rw[hk];simp)) (fun b hb=>List.mem_cons_of_mem _ hb)
 have X3:MAt w3 bm _:=(HX.out.alloc _).chg (Chg.grown (L:=(Value.slice so L sc).ownBlock.toList) hg3 (fun k hk=>by rw[hk];simp)) (fun hb=>by
  cases hq:(Value.slice so L sc).ownBlock with
  | none=>rw[hq]at hb;simp at hb
  | some g=>rw[hq]at hb;simp at hb;exact hne g hq hb.symm)
 obtain⟨so',sc',rfl⟩:=Af ho3
 have hne3:=Ia ho3 X3 (by decide)
 have HO3:Hid (w3.ownsRow lo 127 1 (.slice so' (L+1) sc') (L+1) (xs++[.pointer none])):=ho3
 have HC3:Hid (Chg (bm::(Value.slice so L sc).ownBlock.toList) w1 w3):=C3
 have HX3:Hid (MAt w3 bm _):=X3
 have x3:=X3.cell
 have f3:=X3.frozen
 have x4:=(X3.set 5 (.slice so' (L+1) sc')).cell
 have e1:IntKind.i64.wrap ((L:Int)+1-1)=L:=by rw[wr (by omega) (by omega)];omega
 have e2:IntKind.i64.wrap (((L+1:Nat):Int)-1)=L:=by rw[wr (by omega) (by omega)];omega
 clear ho3 C3 X3 hg3 x HR HX hne
 go_wp2_with fail
 go_ret
 exact⟨_,rfl,HC3.out.set (by simp) _ _,HX3.out.set 5 _,Gj HO3.out ((Chg.refl [bm] _).set (by simp) 5 _) (fun g hg=>by simpa using hne3 g hg)⟩
structure FrT (ts:List TypeId) (w w':World):Prop where
 os:w'.os=w.os
 tape:w'.tape=w.tape
 output:w'.output=w.output
 size:w.heap.size<=w'.heap.size
 block:∀(b:Nat) (c:Array Value) (t:TypeId) (f:Nat×Nat),w.heap[b]?=some (Obj.cells c t f)->t∉ts->w'.heap[b]?=some (Obj.cells c t f)
theorem FrT.trans {ts us:List TypeId} {a b c:World} (h:FrT ts a b) (k:FrT us b c) (hs:∀t∈us,t∈ts):FrT ts a c:=
 ⟨k.os.trans h.os,k.tape.trans h.tape,k.output.trans h.output,Nat.le_trans h.size k.size,fun i x t f hx ht=>k.block i x t f (h.block i x t f hx ht) (fun e=>ht (hs t e))⟩
theorem FrT.chg {ts:List TypeId} {L:List Nat} {w w':World} (h:Chg L w w') (hL:∀b∈L,∃(c:Array Value) (t:TypeId) (f:Nat×Nat),w.heap[b]?=some (Obj.cells c t f)/\t∈ts):FrT ts w w':=
 ⟨h.os,h.tape,h.output,h.size,fun b c t f hb ht=>(h.block b (fun hm=>by
  obtain⟨c',t',f',h1,h2⟩:=hL b hm
  have e:=h1.symm.trans hb
  injection e with e
  injection e with _ e
  exact ht (e▸h2)) (Array.getElem?_eq_some_iff.1 hb).1).trans hb⟩
theorem FrT.below {ts:List TypeId} {w w':World} (h:Below w.heap.size w w'):FrT ts w w':=FrT.chg (L:=[]) ((Chg.refl [] w).below h) (by simp)
theorem Blk.fr {ts:List TypeId} {w w':World} {b:Nat} {arr:Array Value} {t:TypeId} (h:Blk w b arr t) (k:FrT ts w w') (ht:t∉ts):Blk w' b arr t:=k.block _ _ _ _ h ht
structure Da (lo:Nat) (w:World) (bm:Nat) (m:Mc) (L n:Nat) (xs:List Value):Prop where
 x:MAt w bm m
 row:w.ownsRow lo 127 1 m.slots L xs
 heap:(n=0/\∃fo fc,m.free=.slice fo 0 fc)∨∃g c,m.free=.slice (some ⟨g,0,none⟩) n c/\n<=c/\Own w g 3 c/\Cm w g n L
 hl:∀g,m.free.ownBlock=some g->lo<=g
 lb:lo<=bm
theorem Chg.low {lo:Nat} {L:List Nat} {w w':World} (h:Chg L w w') (hs:lo<=w.heap.size) (hL:∀b∈L,lo<=b):Below lo w w':=⟨h.os,h.tape,h.output,h.size,fun k hk=>h.block k (fun e=>by have:=hL k e;omega) (by omega)⟩
abbrev tsS:List TypeId:=[88,127,3]
theorem Ov {w:World} {v:Value} {n e lo:Nat} {xs:List Value} (h:w.ownsRow lo e 1 v n xs):∀g,v.ownBlock=some g->∃(c:Array Value) (f:Nat×Nat),w.heap[g]?=some (Obj.cells c e f):=fun g hg=>by
 rcases Bz h with ⟨rfl,_,_⟩|⟨g',c,rfl,_,⟨d,hd,_⟩,_,_⟩
 ·simp[Value.ownBlock]at hg
 ·simp[Value.ownBlock]at hg
  subst hg
  exact⟨d,_,hd⟩
theorem A6o (lo bm L n:Nat) (xs:List Value) (m:Mc) (w:World) (hm:L<=1000000) (hn:n<=1000000) (S:Da lo w bm m L n xs) :
  Calls prog 204 #[.pointer (some ⟨bm,0,none⟩)] w fun e w'=>∃(p L' n':Nat) (xs':List Value) (sv fv:Value),e=.returned (.int .i64 p)/\p<L'/\(n=0/\L'=L+1/\n'=0/\xs'=xs++[.pointer none]∨n=n'+1/\L'=L/\xs'=xs)/\FrT tsS w w'/\Below lo w w'/\Da lo w' bm {m with slots:=sv,free:=fv} L' n' xs':=by
 obtain⟨X,hR,hh,hhl,hlb⟩:=S
 have hlo:lo<=w.heap.size:=Nat.le_trans hlb (Nat.le_of_lt X.lt)
 have tX:∃(c:Array Value) (t:TypeId) (f:Nat×Nat),w.heap[bm]?=some (Obj.cells c t f)/\t∈tsS:=⟨_,_,_,X,by simp⟩
 cases n with
 | zero=>
  obtain⟨fo,fc,hf⟩:∃fo fc,m.free=.slice fo 0 fc:=by
   rcases hh with ⟨_,h⟩|⟨g,c,h,_⟩
   ·exact h
   ·exact⟨_,_,h⟩
  have X':MAt w bm {m with slots:=m.slots,free:=.slice fo 0 fc}:=by rw[←hf];exact X
  refine(A00 lo bm L fc fo m.slots xs m w hm hlo X' hR).mono ?_
  rintro e w1 ⟨v',rfl,hC,hX,hR1⟩
  refine⟨L,L+1,0,_,v',.slice fo 0 fc,rfl,by omega,.inl ⟨rfl,rfl,rfl,rfl⟩,FrT.chg hC ?_,hC.low hlo (fun b hb=>?_),hX,hR1,.inl ⟨rfl,fo,fc,rfl⟩,by rw[←hf];exact hhl,hlb⟩
  rotate_left
  ·rcases List.mem_cons.1 hb with rfl|hb
   ·exact hlb
   ·exact(hR.lt b (by simpa using hb)).1
  intro b hb
  rcases List.mem_cons.1 hb with rfl|hb
  ·exact tX
  ·obtain⟨c,f,h⟩:=Ov hR b (by simpa using hb)
   exact⟨c,_,f,h,by simp⟩
 | succ k=>
  obtain⟨g,c,hf,hc,hO,hI⟩:∃g c,m.free=.slice (some ⟨g,0,none⟩) (k+1) c/\k+1<=c/\Own w g 3 c/\Cm w g (k+1) L:=by
   rcases hh with ⟨h,_⟩|h
   ·omega
   ·exact h
  have X':MAt w bm {m with free:=.slice (some ⟨g,0,none⟩) (k+1) c}:=by rw[←hf];exact X
  have hgm:=Cx hO X (by decide)
  have hrm:=Ia hR X (by decide)
  have hrg:∀q,m.slots.ownBlock=some q->q≠g:=fun q hq=>by
   obtain⟨d,f,h⟩:=Ov hR q hq
   rintro rfl
   obtain⟨c',h',_⟩:=hO
   have e:=h.symm.trans h'
   injection e with e
   injection e with _ e
   exact absurd e (by decide)
  refine(A01 bm g k c L m w hc (by omega) X' hO hI).mono ?_
  rintro e w1 ⟨x,rfl,hx0,hx1,hC,hX,hO1,hI1⟩
  obtain⟨p,rfl⟩:=Int.eq_ofNat_of_zero_le hx0
  refine⟨p,L,k,xs,m.slots,.slice (some ⟨g,0,none⟩) k c,rfl,by omega,.inr ⟨rfl,rfl,rfl⟩,FrT.chg hC ?_,hC.low hlo (fun b hb=>?_),hX,Gj hR hC (fun q hq=>by simp;exact⟨hrm q hq,hrg q hq⟩),.inr ⟨g,c,rfl,by omega,hO1,hI1⟩,fun q hq=>hhl q (by rw[hf];exact hq),hlb⟩
  rotate_left
  ·simp at hb
   rcases hb with rfl|rfl
   ·exact hlb
   ·exact hhl b (by rw[hf];rfl)
  intro b hb
  simp at hb
  rcases hb with rfl|rfl
  ·exact tX
  ·obtain⟨d,hd,_⟩:=hO
   exact⟨d,_,_,hd,by simp⟩
structure FrX (X:List Nat) (ts:List TypeId) (w w':World):Prop where
 os:w'.os=w.os
 tape:w'.tape=w.tape
 output:w'.output=w.output
 size:w.heap.size<=w'.heap.size
 block:∀(b:Nat) (c:Array Value) (t:TypeId) (f:Nat×Nat),b∉X->w.heap[b]?=some (Obj.cells c t f)->t∉ts->w'.heap[b]?=some (Obj.cells c t f)
theorem FrT.x {X:List Nat} {ts:List TypeId} {w w':World} (h:FrT ts w w'):FrX X ts w w':=⟨h.os,h.tape,h.output,h.size,fun b c t f _ hb ht=>h.block b c t f hb ht⟩
theorem FrX.trans {X Y:List Nat} {ts us:List TypeId} {a b c:World} (h:FrX X ts a b) (k:FrX Y us b c) (hy:∀i∈Y,i∈X) (hs:∀t∈us,t∈ts):FrX X ts a c:=
 ⟨k.os.trans h.os,k.tape.trans h.tape,k.output.trans h.output,Nat.le_trans h.size k.size,fun i x t f hX hx ht=>k.block i x t f (fun e=>hX (hy i e)) (h.block i x t f hX hx ht) (fun e=>ht (hs t e))⟩
theorem FrX.chg {X L:List Nat} {ts:List TypeId} {w w':World} (h:Chg L w w') (hL:∀b∈L,b∈X∨∃(c:Array Value) (t:TypeId) (f:Nat×Nat),w.heap[b]?=some (Obj.cells c t f)/\t∈ts):FrX X ts w w':=
 ⟨h.os,h.tape,h.output,h.size,fun b c t f hX hb ht=>(h.block b (fun hm=>by
  rcases hL b hm with h0|⟨c',t',f',h1,h2⟩
  ·exact hX h0
  have e:=h1.symm.trans hb
  injection e with e
  injection e with _ e
  exact ht (e▸h2)) (Array.getElem?_eq_some_iff.1 hb).1).trans hb⟩
theorem FrX.below {X:List Nat} {ts:List TypeId} {w w':World} (h:Below w.heap.size w w'):FrX X ts w w':=FrX.chg (L:=[]) ((Chg.refl [] w).below h) (by simp)
theorem Blk.fx {X:List Nat} {ts:List TypeId} {w w':World} {b:Nat} {arr:Array Value} {t:TypeId} (h:Blk w b arr t) (k:FrX X ts w w') (hb:b∉X) (ht:t∉ts):Blk w' b arr t:=k.block _ _ _ _ hb h ht
theorem Da.l {lo:Nat} {w w':World} {bm:Nat} {m:Mc} {L n:Nat} {xs:List Value} (h:Da lo w bm m L n xs) (hb:Below w.heap.size w w'):Da lo w' bm m L n xs:=
 ⟨h.x.l hb,Ab h.row hb,h.heap.imp id fun ⟨g,c,h1,h2,h3,h4⟩=>⟨g,c,h1,h2,h3.l hb,h4.l hb⟩,h.hl,h.lb⟩
theorem Da.setM {lo:Nat} {w:World} {bm:Nat} {m m':Mc} {L n:Nat} {xs:List Value} (h:Da lo w bm m L n xs) (i:Nat) (v:Value) (he:m.arr.setIfInBounds i v=m'.arr) (h1:m'.slots=m.slots) (h2:m'.free=m.free):Da lo (w.setCell ⟨bm,i,none⟩ v) bm m' L n xs:=
 ⟨(by have:=h.x.set i v;rw[he]at this;exact this),h1▸Gj h.row ((Chg.refl [bm] w).set (by simp) i v) (fun g hg=>by simpa using Ia h.row h.x (by decide) g hg),h2▸h.heap.imp id fun ⟨g,c,e1,e2,e3,e4⟩=>⟨g,c,e1,e2,e3.of_block (Below.heap_setCell _ _ _ _ (Cx e3 h.x (by decide))),fun j hj=>by
  obtain⟨y,a1,a2⟩:=e4 j hj
  exact⟨y,(World.cell?_setCell_other _ _ _ _ (by intro h';injection h' with h' _;exact Cx e3 h.x (by decide) h'.symm)).trans a1,a2⟩⟩,h2▸h.hl,h.lb⟩
theorem Da.chg {lo:Nat} {w w':World} {bm b:Nat} {m:Mc} {L n:Nat} {xs:List Value} {arr:Array Value} {t:TypeId} (h:Da lo w bm m L n xs) (hB:Blk w b arr t) (ht:t∉tsS) (hc:Chg [b] w w'):Da lo w' bm m L n xs:=by
 simp[tsS]at ht
 have hbm:bm≠b:=by rintro rfl;have e:=(show w.heap[bm]?=_ from h.x).symm.trans hB;injection e with e;injection e with _ e;exact ht.1 e.symm
 refine⟨h.x.chg hc (by simpa using hbm),Gj h.row hc (fun g hg=>by simpa using Ia h.row hB (Ne.symm ht.2.1) g hg),h.heap.imp id fun ⟨g,c,e1,e2,e3,e4⟩=>?_,h.hl,h.lb⟩
 have hg:=Cx e3 hB (Ne.symm ht.2.2)
 exact⟨g,c,e1,e2,e3.of_block (hc.block g (by simpa using hg) e3.lt),fun j hj=>by
  obtain⟨y,a1,a2⟩:=e4 j hj
  exact⟨y,hc.cell (by simpa using hg) a1,a2⟩⟩
end Go.Proofs.YtbefeflgjipfhaaGreatDoor
namespace Go.Proofs.YtbefeflgjipfhaaGreatDoor
open Go.Deep Go.Proofs.Tryz Go.RowKit
attribute [local go_sem] A7 vi
theorem Pf {K:Act->World->Prop} {a:Act} {w:World} {S:World->Prop} (hs:S w) (h:∀W,S W->K a W):K a w:=h w hs
abbrev sa (p k bo ve:Value):Array Value:=#[p,k,bo,ve,.slice none 0 0,.int .i64 0,.pointer none,.bool false,.int .i64 0,.slice none 0 0,.int .i64 0,.int .i64 0,.float .f64 0,.string ByteArray.empty,.int .i64 0]
theorem Da.put {lo:Nat} {w:World} {bm g sc p:Nat} {m:Mc} {L n:Nat} {xs:List Value} (h:Da lo w bm m L n xs) (hs:m.slots=.slice (some ⟨g,0,none⟩) L sc) (v:Value):Da lo (w.setCell ⟨g,p,none⟩ v) bm m L n (xs.set p v):=by
 have hr:=h.row
 rw[hs]at hr
 obtain⟨cc,f,hg⟩:=Ov hr g rfl
 have hgm:g≠bm:=Ia hr h.x (by decide) g rfl
 have hst:=hr.stored p v
 refine⟨h.x.setOther (by simpa using Ne.symm hgm) v,by rw[hs];exact hst.1,h.heap.imp id fun ⟨q,c,e1,e2,e3,e4⟩=>?_,h.hl,h.lb⟩
 have hqg:q≠g:=by
  rintro rfl
  obtain⟨d,hd,_⟩:=e3
  have e:=hd.symm.trans hg
  injection e with e
  injection e with _ e
  exact absurd e (by decide)
 exact⟨q,c,e1,e2,e3.of_block (Below.heap_setCell _ _ _ _ (by simpa using hqg)),fun j hj=>by
  obtain⟨y,a1,a2⟩:=e4 j hj
  exact⟨y,(World.cell?_setCell_other _ _ _ _ (by intro h';injection h' with h' _;exact hqg h'.symm)).trans a1,a2⟩⟩
theorem A5o (lo bm bs L n:Nat) (xs:List Value) (m:Mc) (b d:Int) (p0 k0 b0 v0:Value) (w:World) (hb0:0<=b) (hb1:b<=1000000) (hd0:0<=d) (hd1:d<=1000000) (hm:L<=1000000) (hn:n<=1000000) (hbs:lo<=bs) (S:Da lo w bm {m with births:=.int .i64 b,due:=.int .i64 d} L n xs) (Y:Blk w bs (sa p0 k0 b0 v0) 176) :
  Calls prog 124 #[.pointer (some ⟨bm,0,none⟩),.pointer (some ⟨bs,0,none⟩)] w fun e w'=>∃(p L' n':Nat) (xs':List Value) (sv fv:Value),e=.returned (.pointer (some ⟨bs,0,none⟩))/\p<L'/\(n=0/\L'=L+1/\n'=0/\xs'=xs++[.pointer none]∨n=n'+1/\L'=L/\xs'=xs)/\FrX [bs] tsS w w'/\Below lo w w'/\Da lo w' bm {m with births:=.int .i64 (b+1),due:=.int .i64 (d+1),slots:=sv,free:=fv} L' n' (xs'.set p (.pointer (some ⟨bs,0,none⟩)))/\Blk w' bs (sa (.int .i64 p) k0 (.int .i64 (b+1)) v0) 176:=by
 have x:=S.x.cell
 have f:=S.x.frozen
 have HS:Hid (Da lo w bm {m with births:=.int .i64 b,due:=.int .i64 d} L n xs):=S
 have HY:Hid (Blk w bs (sa p0 k0 b0 v0) 176):=Y
 clear S Y
 go_enter func124,ntmps124
 go_wp2_with fail
 refine Pf (S:=fun W=>Da lo W bm {m with births:=.int .i64 (b+1),due:=.int .i64 (d+1)} L n xs/\Blk W bs (sa p0 k0 b0 v0) 176/\FrX [bs] tsS w W/\Below lo w W) ?_ (fun W hS=>?_)
 ·have hne:bs≠bm:=by rintro rfl;have e:=(show w.heap[bs]?=_ from HY.out).symm.trans HS.out.x;injection e with e;injection e with _ e;exact absurd e (by decide)
  refine⟨(HS.out.setM (m':={m with births:=.int .i64 (b+1),due:=.int .i64 d}) 3 (.int .i64 (b+1)) rfl rfl rfl).setM (m':={m with births:=.int .i64 (b+1),due:=.int .i64 (d+1)}) 1 (.int .i64 (d+1)) rfl rfl rfl,(HY.out.setOther (by simpa using hne) _).setOther (by simpa using hne) _,FrX.chg (((Chg.refl [bm] w).set (by simp) _ _).set (by simp) _ _) (fun q hq=>.inr ⟨_,_,_,by simp at hq;subst hq;exact HS.out.x,by simp⟩),((Below.refl lo w).setCell (p:=⟨bm,3,none⟩) HS.out.lb _).setCell (p:=⟨bm,1,none⟩) HS.out.lb _⟩
 obtain⟨S,Y,FR,LW⟩:=hS
 clear HS HY x f
 have xs0:W.drew.cell? ⟨bm,3,none⟩=some (.int .i64 (b+1)):=S.x.cell 3
 have hne:bm≠bs:=by rintro rfl;have e:=(show W.heap[bm]?=_ from Y).symm.trans S.x;injection e with e;injection e with _ e;exact absurd e (by decide)
 have HS:Hid (Da lo W bm {m with births:=.int .i64 (b+1),due:=.int .i64 (d+1)} L n xs):=S
 have HY:Hid (Blk W bs (sa p0 k0 b0 v0) 176):=Y
 have HF:Hid (FrX [bs] tsS w W):=FR
 clear S Y FR
 go_region_held3 (fun W=>W.cell? ⟨bm,3,none⟩=some (.int .i64 (b+1))) (first|with_reducible exact xs0|exact(World.cell?_setCell_other _ _ _ _ (by intro h;injection h with h _;exact hne h.symm)).trans xs0|exact(World.cell?_setCell_other _ _ _ _ (by intro h;injection h with h _;exact hne h.symm)).trans ((World.cell?_setCell_other _ _ _ _ (by intro h;injection h with h _;exact hne h.symm)).trans xs0)) (first|(go_at_call 204;refine(A6o lo bm L n xs _ _ hm hn (HS.out.l (Below.refl _ _).drew)).mono ?_;rintro e w1 ⟨p,L',n',xs',sv,fv,rfl,hp,hc,hF1,L1,S1⟩;have xs0:w1.cell? ⟨bm,3,none⟩=some (.int .i64 (b+1)):=S1.x.cell 3;have Y1:=(HY.out.l (Below.refl _ _).drew).fr hF1 (by decide);have y:=Y1.cell;have yf:=Y1.frozen))
 have C2:Chg [bs] w1 ((w1.setCell ⟨bs,2,none⟩ (.int .i64 (b+1))).setCell ⟨bs,0,none⟩ (.int .i64 p)):=((Chg.refl _ _).set (by simp) _ _).set (by simp) _ _
 have S2:=S1.chg Y1 (by decide) C2
 have Y2:=(Y1.set 2 (.int .i64 (b+1))).set 0 (.int .i64 p)
 have F2:FrX [bs] tsS w ((w1.setCell ⟨bs,2,none⟩ (.int .i64 (b+1))).setCell ⟨bs,0,none⟩ (.int .i64 p)):=(HF.out.trans ((FrX.below (X:=[bs]) (Below.refl _ _).drew).trans hF1.x (fun _ h=>h) (fun _ h=>h)) (fun _ h=>h) (fun _ h=>h)).trans (FrX.chg C2 (fun q hq=>.inl hq)) (fun _ h=>h) (fun _ h=>h)
 have LW2:Below lo w ((w1.setCell ⟨bs,2,none⟩ (.int .i64 (b+1))).setCell ⟨bs,0,none⟩ (.int .i64 p)):=(((LW.drew).trans L1).setCell (p:=⟨bs,2,none⟩) hbs _).setCell (p:=⟨bs,0,none⟩) hbs _
 clear C2 S1 Y1 xs0 y yf HF HS HY hF1 LW L1
 generalize (w1.setCell ⟨bs,2,none⟩ (.int .i64 (b+1))).setCell ⟨bs,0,none⟩ (.int .i64 p)=W2 at *
 obtain⟨g,sc,hsv,hO,hR⟩:∃g sc,sv=.slice (some ⟨g,0,none⟩) L' sc/\Own W2 g 127 (sc*1)/\L'*1<=sc*1:=by
  rcases Bz S2.row with ⟨_,h,_⟩|⟨g,c,h1,_,h2,h3,_⟩
  ·omega
  ·exact⟨g,c,h1,h2,h3⟩
 have m5:W2.cell? ⟨bm,5,none⟩=some (.slice (some ⟨g,0,none⟩) L' sc):=(S2.x.cell 5).trans (by rw[←hsv];rfl)
 have s0:W2.cell? ⟨bs,0,none⟩=some (.int .i64 p):=(Y2.cell 0).trans rfl
 obtain⟨u,hu⟩:=hO.cell (i:=p) (by omega)
 have hf:=hO.frozen p
 have p0:(0:Int)<=p:=by omega
 have p1:(p:Int)<L':=by omega
 have HS2:Hid (Da lo W2 bm {m with births:=.int .i64 (b+1),due:=.int .i64 (d+1),slots:=sv,free:=fv} L' n' xs'):=S2
 have HY2:Hid (Blk W2 bs (sa (.int .i64 p) k0 (.int .i64 (b+1)) v0) 176):=Y2
 have HF2:Hid (FrX [bs] tsS w W2):=F2
 have HC:Hid (n=0/\L'=L+1/\n'=0/\xs'=xs++[.pointer none]∨n=n'+1/\L'=L/\xs'=xs):=hc
 clear S2 Y2 F2 hO hc hR
 go_wp2_with fail
 go_region
 go_wp2_with fail
 go_ret
 have hgb:bs≠g:=by
  obtain⟨cc,f,hg⟩:=Ov HS2.out.row g (by rw[hsv];rfl)
  rintro rfl
  have e:=(show W2.heap[bs]?=_ from HY2.out).symm.trans hg
  injection e with e
  injection e with _ e
  exact absurd e (by decide)
 have hlg:lo<=g:=(HS2.out.row.lt g (by rw[hsv];rfl)).1
 have FG:FrX [bs] tsS W2 (W2.setCell ⟨g,p,none⟩ (.pointer (some ⟨bs,0,none⟩))):=FrX.chg ((Chg.refl [g] W2).set (by simp) _ _) (fun q hq=>by
  obtain⟨cc,f,hg⟩:=Ov HS2.out.row g (by rw[hsv];rfl)
  simp at hq
  subst hq
  exact .inr ⟨_,_,_,hg,by simp⟩)
 exact⟨p,L',n',xs',sv,fv,rfl,hp,HC.out,(HF2.out.trans FG (fun _ h=>h) (fun _ h=>h)).trans (FrX.below (Below.refl _ _).drew) (fun _ h=>h) (fun _ h=>h),(LW2.setCell (p:=⟨g,p,none⟩) hlg _).drew,(HS2.out.put hsv _).l (Below.refl _ _).drew,(HY2.out.setOther (by simpa using hgb) _).l (Below.refl _ _).drew⟩
theorem Da.two {lo:Nat} {w w':World} {bm b:Nat} {m m':Mc} {L n:Nat} {xs:List Value} {arr:Array Value} {t:TypeId} (h:Da lo w bm m L n xs) (hB:Blk w b arr t) (ht:t∉tsS) (hc:Chg [bm,b] w w') (hX:MAt w' bm m') (h1:m'.slots=m.slots) (h2:m'.free=m.free):Da lo w' bm m' L n xs:=by
 simp[tsS]at ht
 refine⟨hX,h1▸Gj h.row hc (fun g hg=>by simp;exact⟨Ia h.row h.x (by decide) g hg,Ia h.row hB (Ne.symm ht.2.1) g hg⟩),h2▸h.heap.imp id fun ⟨g,c,e1,e2,e3,e4⟩=>?_,h2▸h.hl,h.lb⟩
 have hg:=Cx e3 hB (Ne.symm ht.2.2)
 have hg2:=Cx e3 h.x (by decide)
 exact⟨g,c,e1,e2,e3.of_block (hc.block g (by simp;exact⟨hg2,hg⟩) e3.lt),fun j hj=>by
  obtain⟨y,a1,a2⟩:=e4 j hj
  exact⟨y,hc.cell (by simp;exact⟨hg2,hg⟩) a1,a2⟩⟩
theorem FrX.fresh {b:Nat} {ts:List TypeId} {w w1 w':World} (h0:Below w.heap.size w w1) (h:FrX [b] ts w1 w') (hb:w.heap.size<=b):FrT ts w w':=
 ⟨h.os.trans h0.os,h.tape.trans h0.tape,h.output.trans h0.output,Nat.le_trans h0.size h.size,fun i c t f hi ht=>by
  have hl:=(Array.getElem?_eq_some_iff.1 hi).1
  exact h.block i c t f (by simp;omega) ((h0.block i hl).trans hi) ht⟩
theorem Sv (lo bm L n:Nat) (xs:List Value) (m:Mc) (b d v:Int) (w:World) (hb0:0<=b) (hb1:b<=1000000) (hd0:0<=d) (hd1:d<=1000000) (hv0:0<=v) (hv1:v<=1000000) (hm:L<=1000000) (hn:n<=1000000) (S:Da lo w bm {m with births:=.int .i64 b,due:=.int .i64 d,vers:=.int .i64 v} L n xs) :
  Calls prog 127 #[.pointer (some ⟨bm,0,none⟩),.slice none 0 0] w fun e w'=>∃(bs p L' n':Nat) (xs':List Value) (sv fv:Value),e=.returned (.pointer (some ⟨bs,0,none⟩))/\w.heap.size<=bs/\p<L'/\(n=0/\L'=L+1/\n'=0/\xs'=xs++[.pointer none]∨n=n'+1/\L'=L/\xs'=xs)/\FrT tsS w w'/\Below lo w w'/\Da lo w' bm {m with births:=.int .i64 (b+1),due:=.int .i64 (d+1),vers:=.int .i64 (v+1),slots:=sv,free:=fv} L' n' (xs'.set p (.pointer (some ⟨bs,0,none⟩)))/\Blk w' bs (sa (.int .i64 p) (.int .i64 1) (.int .i64 (b+1)) (.int .i64 (v+1))) 176:=by
 have B0:∀o,Below w.heap.size w (w.alloc o):=fun o=>(Below.refl _ _).alloc (Nat.le_refl _) o
 have hlo:lo<=w.heap.size:=Nat.le_trans S.lb (Nat.le_of_lt S.x.lt)
 have HS:Hid (Da lo w bm {m with births:=.int .i64 b,due:=.int .i64 d,vers:=.int .i64 v} L n xs):=S
 clear S
 go_enter func127,ntmps127
 go_wp2_with fail
 refine(A5o lo bm w.heap.size L n xs {m with vers:=.int .i64 v} b d (.int .i64 0) (.int .i64 1) (.int .i64 0) (.int .i64 0) _ hb0 hb1 hd0 hd1 hm hn hlo (HS.out.l (B0 _)) (Blk.new w _ _)).mono ?_
 rintro e w1 ⟨p,L',n',xs',sv,fv,rfl,hp,hc,hF,LW1,S1,Y1⟩
 have HF:Hid (FrX [w.heap.size] tsS _ w1):=hF
 have HS1:Hid (Da lo w1 bm {m with births:=.int .i64 (b+1),due:=.int .i64 (d+1),vers:=.int .i64 v,slots:=sv,free:=fv} L' n' (xs'.set p (.pointer (some ⟨w.heap.size,0,none⟩)))):=S1
 have HC:Hid (n=0/\L'=L+1/\n'=0/\xs'=xs++[.pointer none]∨n=n'+1/\L'=L/\xs'=xs):=hc
 have hne:bm≠w.heap.size:=by have:=HS.out.x.lt;omega
 clear hc S1 hF
 go_wp2_with fail
 refine(Jg bm w.heap.size {m with births:=.int .i64 (b+1),due:=.int .i64 (d+1),slots:=sv,free:=fv} v _ _ _ _ _ _ _ _ _ _ _ _ _ _ _ _ hv0 hv1 hne HS1.out.x Y1).mono ?_
 rintro e w2 ⟨rfl,hC2,hX2,hY2⟩
 have HC2:Hid (Chg [bm,w.heap.size] w1 w2):=hC2
 have HX2:Hid (MAt w2 bm _):=hX2
 have HY2:Hid (Blk w2 w.heap.size _ 176):=hY2
 have HY1:Hid (Blk w1 w.heap.size _ 176):=Y1
 clear hC2 hX2 hY2 Y1
 go_wp2_with fail
 go_ret
 have FG:FrX [w.heap.size] tsS w1 w2:=FrX.chg HC2.out (fun q hq=>by
  simp at hq
  rcases hq with rfl|rfl
  ·exact .inr ⟨_,_,_,HS1.out.x,by simp⟩
  ·exact .inl (by simp))
 exact⟨w.heap.size,p,L',n',xs',sv,fv,rfl,Nat.le_refl _,hp,HC.out,FrX.fresh (B0 _) (HF.out.trans FG (fun _ h=>h) (fun _ h=>h)) (Nat.le_refl _),(((B0 _).mono hlo).trans LW1).trans (HC2.out.low (Nat.le_trans HS1.out.lb (Nat.le_of_lt HS1.out.x.lt)) (fun q hq=>by simp at hq;rcases hq with rfl|rfl;exact HS1.out.lb;exact hlo)),HS1.out.two HY1.out (by decide) HC2.out HX2.out rfl rfl,HY2.out⟩
theorem A44 (bs:Nat) (p:Nat) (b v:Value) (w:World) (Y:Blk w bs (sa (.int .i64 p) (.int .i64 1) b v) 176) :
  Calls prog 126 #[.pointer (some ⟨bs,0,none⟩)] w fun e w'=>e=.returned (.agg #[.int .i64 5,.int .i64 0,.float .f64 0,.string ByteArray.empty,.int .i64 p])/\Below w.heap.size w w':=by
 have y:=fun o=>(Y.alloc o).cell
 go_enter func126,ntmps126
 go_wp2_with fail
 exact bodyPost_ret (v:=.agg #[.int .i64 5,.int .i64 0,.float .f64 0,.string ByteArray.empty,.int .i64 p]) (by simp[results,results126,go_sem];rfl) rfl ⟨rfl,(Below.refl _ _).alloc (Nat.le_refl _) _⟩
theorem Da.mach {lo:Nat} {w w':World} {bm:Nat} {m m':Mc} {L n:Nat} {xs:List Value} (h:Da lo w bm m L n xs) (hc:Chg [bm] w w') (hX:MAt w' bm m') (h1:m'.slots=m.slots) (h2:m'.free=m.free):Da lo w' bm m' L n xs:=by
 refine⟨hX,h1▸Gj h.row hc (fun g hg=>by simpa using Ia h.row h.x (by decide) g hg),h2▸h.heap.imp id fun ⟨g,c,e1,e2,e3,e4⟩=>?_,h2▸h.hl,h.lb⟩
 have hg2:=Cx e3 h.x (by decide)
 exact⟨g,c,e1,e2,e3.of_block (hc.block g (by simpa using hg2) e3.lt),fun j hj=>by
  obtain⟨y,a1,a2⟩:=e4 j hj
  exact⟨y,hc.cell (by simpa using hg2) a1,a2⟩⟩
theorem Aa {w:World} {b c:Nat} {A B:Array Value} {t u:TypeId} (h:Blk w b A t) (k:Blk w c B u) (ht:t≠u):b≠c:=by
 rintro rfl
 have e:=(show w.heap[b]?=_ from h).symm.trans k
 injection e with e
 injection e with _ e
 exact ht e
structure Lm (la:Array Value) (bm cp qb:Nat) (pc qc:Nat) (ti ce:Int):Prop where
 m:la[0]?=some (.pointer (some ⟨bm,0,none⟩))
 p:la[1]?=some (.slice (some ⟨cp,0,none⟩) 1 pc)
 q:la[2]?=some (.slice (some ⟨qb,0,none⟩) 1 qc)
 ti:la[5]?=some (.int .i64 ti)
 ce:la[7]?=some (.int .i64 ce)
abbrev tsT:List TypeId:=[178,88,127,3]
end Go.Proofs.YtbefeflgjipfhaaGreatDoor
