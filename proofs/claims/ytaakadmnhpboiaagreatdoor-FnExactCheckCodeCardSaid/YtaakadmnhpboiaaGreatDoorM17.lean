import Derived.Test.YtaakadmnhpboiaaGreatDoorM13
import Derived.Test.YtaakadmnhpboiaaGreatDoorM16
namespace Go.Proofs.YtaakadmnhpboiaaGreatDoor
open Go.RowKit Go.Deep
def unB (l:List Bool):Nat:=(l.filter fun b=>!b).length
theorem unB_set {l:List Bool} {x:Nat} (hx:x<l.length) (h:l.getD x false=false):unB (l.set x true)+1=unB l:=by
 induction l generalizing x with
 | nil=>simp at hx
 | cons a r ih=>
  cases x with
  | zero=>simp at h;subst h;simp [unB]
  | succ x=>
   simp at hx
   have:=ih (x:=x) hx (by simpa using h)
   cases a <;> simp [unB] at * <;> omega
theorem unB_le (l:List Bool):unB l≤l.length:=List.length_filter_le _ _
structure Bf (ins:List Nd) (i:Nat) (L:List Nat) (k:Nat) (S:List Bool):Prop where
 len:S.length=ins.length
 lt:∀x ∈ L,x<ins.length
 src:∀x ∈ L,∃c,Sil ins i c∧Pth (Sil ins) c x
 first:∀y,Sil ins i y→y ∈ L
 past:∀j x,j<k→L[j]?=some x→x≠i
 past2:∀j x,j<k→L[j]?=some x→S.getD x false=true
 clo:∀x,S.getD x false=true→∀y,Sil ins x y→y ∈ L
theorem Bf.found {ins:List Nd} {i k:Nat} {L:List Nat} {S:List Bool} (h:Bf ins i L k S) (hx:L[k]?=some i):OnC (Sil ins) i:=by
 obtain⟨c,h1,h2⟩:=h.src i (List.mem_of_getElem? hx)
 exact⟨c,h1,h2⟩
theorem Bf.done {ins:List Nd} {i k:Nat} {L:List Nat} {S:List Bool} (h:Bf ins i L k S) (hk:L.length≤k):¬OnC (Sil ins) i:=by
 rintro⟨c,h1,h2⟩
 have hcl:∀{a b:Nat},Pth (Sil ins) a b→a ∈ L→b ∈ L:=by
  intro a b hp
  induction hp with
  | refl=>exact fun h=>h
  | step e _ ih=>
   intro ha
   obtain⟨j,hj⟩:=List.getElem?_of_mem ha
   have hjl:=(List.getElem?_eq_some_iff.1 hj).1
   exact ih (h.clo _ (h.past2 j _ (by omega) hj) _ e)
 have hi:=hcl h2 (h.first c h1)
 obtain⟨j,hj⟩:=List.getElem?_of_mem hi
 have hjl:=(List.getElem?_eq_some_iff.1 hj).1
 exact h.past j i (by omega) hj rfl
theorem Bf.seen {ins:List Nd} {i k x:Nat} {L:List Nat} {S:List Bool} (h:Bf ins i L k S) (hx:L[k]?=some x) (hn:x≠i) (hs:S.getD x false=true):Bf ins i L (k+1) S:=by
 refine⟨h.len,h.lt,h.src,h.first,?_,?_,h.clo⟩
 ·intro j y hj hy
  by_cases hjk:j=k
  ·subst hjk;rw [hx] at hy;obtain rfl:=Option.some.inj hy;exact hn
  ·exact h.past j y (by omega) hy
 ·intro j y hj hy
  by_cases hjk:j=k
  ·subst hjk;rw [hx] at hy;obtain rfl:=Option.some.inj hy;exact hs
  ·exact h.past2 j y (by omega) hy
theorem Bf.more {ins:List Nd} {i k x:Nat} {L:List Nat} {S:List Bool} {n:Nd} (h:Bf ins i L k S) (hx:L[k]?=some x) (hn:x≠i) (hi:ins[x]?=some n) (hlt:∀y ∈ silL n x,y<ins.length):Bf ins i (L ++ silL n x) (k+1) (S.set x true):=by
 have hxl:x<ins.length:=(List.getElem?_eq_some_iff.1 hi).1
 have hkl:k<L.length:=(List.getElem?_eq_some_iff.1 hx).1
 have hd:=fun j=>due_set S x j true
 refine⟨by simp [h.len],?_,?_,fun y hy=>by simp [h.first y hy],?_,?_,?_⟩
 ·intro y hy
  rcases List.mem_append.1 hy with hy | hy
  ·exact h.lt y hy
  ·exact hlt y hy
 ·intro y hy
  rcases List.mem_append.1 hy with hy | hy
  ·exact h.src y hy
  ·obtain⟨c,h1,h2⟩:=h.src x (List.mem_of_getElem? hx)
   exact⟨c,h1,h2.trans (.one ⟨n,hi,hy⟩)⟩
 ·intro j y hj hy
  rw [List.getElem?_append_left (by omega)] at hy
  by_cases hjk:j=k
  ·subst hjk;rw [hx] at hy;obtain rfl:=Option.some.inj hy;exact hn
  ·exact h.past j y (by omega) hy
 ·intro j y hj hy
  rw [List.getElem?_append_left (by omega)] at hy
  rw [hd]
  split
  ·rfl
  ·rename_i hc
   by_cases hjk:j=k
   ·subst hjk
    rw [hx] at hy
    obtain rfl:=Option.some.inj hy
    exact absurd ⟨rfl,by rw [h.len];exact hxl⟩ hc
   ·exact h.past2 j y (by omega) hy
 ·intro y hy z hz
  rw [hd] at hy
  split at hy
  ·rename_i hc
   obtain⟨rfl,_⟩:=hc
   obtain⟨m,h1,h2⟩:=hz
   rw [hi] at h1
   obtain rfl:=Option.some.inj h1
   simp [h2]
  ·simp [h.clo y hy z hz]
theorem sil_lt {np:Nat} {p:Pd} (hp:PFit np p) {x y:Nat} {n:Nd} (hn:p.ins[x]?=some n) (hy:y ∈ silL n x):y<p.ins.length:=by
 obtain⟨z,hz,rfl⟩:=sil_sub ⟨[],[]⟩ [] [] hy
 obtain⟨f1,_,f3,f4,f5,_⟩:=fit_tab (hp.fit x n hn)
 unfold folF at hz
 rcases List.mem_append.1 hz with hz | hz
 ·split at hz
  ·rename_i h
   simp at hz
   subst hz
   exact hp.next x n hn h
  ·simp at hz
 ·unfold goF at hz
  split at hz
  ·rename_i ho;simp at hz;subst hz;have:=f3 ho;dsimp only;omega
  split at hz
  ·rename_i ho;simp at hz;subst hz;have:=f4 (by omega);dsimp only;omega
  split at hz
  ·rename_i ho;simp at hz;subst hz;have:=f4 (by omega);dsimp only;omega
  split at hz
  ·rename_i ho;simp at hz;subst hz;have:=f1 ho;dsimp only;omega
  ·simp at hz
theorem silL_len (n:Nd) (x:Nat):(silL n x).length≤2:=by
 unfold silL
 repeat (first | split | simp)
theorem bf_start {np:Nat} {p:Pd} (hp:PFit np p) {i:Nat} {n:Nd} (hn:p.ins[i]?=some n):Bf p.ins i (silL n i) 0 (List.replicate p.ins.length false):=by
 refine⟨by simp,fun x hx=>sil_lt hp hn hx,fun x hx=>⟨x,⟨n,hn,hx⟩,.refl _⟩,?_,fun j x hj=>absurd hj (by omega),fun j x hj=>absurd hj (by omega),?_⟩
 ·rintro y ⟨m,h1,h2⟩
  rw [hn] at h1
  obtain rfl:=Option.some.inj h1
  exact h2
 ·intro x hx
  simp [List.getD_eq_getElem?_getD,List.getElem?_replicate] at hx
  split at hx <;> simp at hx
theorem nats_append (xs ys:List Nat):nats (xs ++ ys)=nats xs ++ nats ys:=by simp [nats]
theorem nats_get {xs:List Nat} {k x:Nat} (h:xs[k]?=some x):(nats xs)[k]?=some (x:Int):=by simp [nats,h]
set_option maxRecDepth 100000 in
set_option maxHeartbeats 8000000 in
theorem l3round_any (p:Pd) (h:Ph) (i np:Nat) (w:World) (hp:PFit np p) (hi:i<p.ins.length) (hz:p.ins.length≤6000) (hI:InssAt 0 w h.io p.ins) :
  Calls Tryz.prog 45 #[.agg (p.cells h),.int .i64 i] w fun e w'=>(∃r:Bool,e=.returned (.bool r)∧(r=true ↔ OnC (Sil p.ins) i))∧Below w.heap.size w w':=by
 have hmk:=run_make_k (P:=Tryz.prog) 91 4 _ 1 1 Tryz.underlying91 Tryz.info_bool .i64 .i64 p.ins.length (by omega) (by omega)
 simp only [Nat.mul_one] at hmk
 obtain⟨n,hn⟩:=some_of_lt hi
 have HP:Hid _:=hp
 have HSI:Hid (∀(x:Nat) (m:Nd) (W:World),p.ins[x]?=some m→Below w.heap.size w W→Calls Tryz.prog 95 #[.agg (p.cells h),.int .i64 x] W (SilPost (silL m x) W)):=
  fun x m W hx hb=>l3silent_any p h x m np W hx (by omega) (hp.fit x m hx) (hI.later (Keeps.of_below hb))
 have HB0:Hid (Bf p.ins i (silL n i) 0 (List.replicate p.ins.length false)):=bf_start hp hn
 have HL0:Hid _:=silL_len n i
 have HN0:Hid _:=hn
 clear hp hn hI
 have P0:=(Blk.new w #[.string p.name,.int .i64 p.line,.int .i64 p.params,.bool p.rest,.int .i64 p.regs,.slice h.uo p.ups.length h.uc,.slice h.co p.consts.length h.cc,.slice h.io p.ins.length h.ic,.slice h.no p.named.length h.nc] 57).alloc (.cells (madeCells #[.bool false] p.ins.length) 4)
 have M0:=made_blk (w.alloc (.cells #[.string p.name,.int .i64 p.line,.int .i64 p.params,.bool p.rest,.int .i64 p.regs,.slice h.uo p.ups.length h.uc,.slice h.co p.consts.length h.cc,.slice h.io p.ins.length h.ic,.slice h.no p.named.length h.nc] 57)) p.ins.length
 simp only [nblk_alloc] at M0
 have B0:Below w.heap.size w ((w.alloc (.cells #[.string p.name,.int .i64 p.line,.int .i64 p.params,.bool p.rest,.int .i64 p.regs,.slice h.uo p.ups.length h.uc,.slice h.co p.consts.length h.cc,.slice h.io p.ins.length h.ic,.slice h.no p.named.length h.nc] 57)).alloc (.cells (madeCells #[.bool false] p.ins.length) 4)):=((Below.refl _ _).alloc (Nat.le_refl _) _).alloc (by simp) _
 unfold Pd.cells
 go_enter Tryz.func45,Tryz.ntmps45
 go_wp2_with fail
 refine (HSI.out i n _ HN0.out B0).mono ?_
 rintro e w1 ⟨vl,rfl,H1,hw1⟩
 have B1:=B0.trans (hw1.mono (by simp;omega))
 have P1:=P0.later hw1
 have M1:=M0.later hw1
 rw [nblk_alloc,nblk_alloc] at H1
 obtain⟨lo,lc,rfl⟩:=owns_slice H1
 clear hw1 P0 M0 B0 hmk
 go_wp2_with fail
 go_loopg [6,7] (3+3 * p.ins.length) (fun gk vl y wr=>∃(L:List Nat) (k:Nat) (S:List Bool),y=.int .i64 k∧k≤L.length∧Hid (Bf p.ins i L k S)∧Hid ((L.length - k)+3 * unB S≤gk)∧Hid (L.length+2 * unB S≤2+2 * p.ins.length)∧wr.ownsRow (w.heap.size+1+1) 3 1 vl L.length (ints (nats L))∧Blk wr w.heap.size #[.string p.name,.int .i64 p.line,.int .i64 p.params,.bool p.rest,.int .i64 p.regs,.slice h.uo p.ups.length h.uc,.slice h.co p.consts.length h.cc,.slice h.io p.ins.length h.ic,.slice h.no p.named.length h.nc] 57∧Blk wr (w.heap.size+1) (boolArr S) 4∧Below w.heap.size w wr)
 case atStart=>
  have hu:=unB_le (List.replicate p.ins.length false)
  have hl:=HL0.out
  simp at hu
  exact⟨silL n i,0,List.replicate p.ins.length false,rfl,Nat.zero_le _,HB0,by show _≤_;omega,by show _≤_;omega,H1,P1,M1,B1⟩
 case round=>
  obtain⟨L,k,S,rfl,hk,HBF,HM1,HM2,H2,P2,M2,B2⟩:=hrel
  obtain⟨lo,lc,rfl⟩:=owns_slice H2
  clear H1 P1 M1 B1
  have hLl:L.length≤12002:=by have:=HM2.out;omega
  by_cases hkl:k<L.length
  ·obtain⟨x,hx⟩:=some_of_lt hkl
   have hxl:=HBF.out.lt x (List.mem_of_getElem? hx)
   obtain⟨lb,lof,rfl,_,hlb,c0⟩:=(owns_ints H2).1 k x (nats_get hx)
   unfold IntAt at c0
   rw [Nat.mul_one] at c0
   have k1:(k:Int)<L.length:=by omega
   by_cases hxi:x=i
   ·subst hxi
    have HC:Hid (OnC (Sil p.ins) x):=HBF.out.found hx
    clear hx HBF
    go_wp2_with fail
    go_ret
    exact⟨⟨true,rfl,by simp [HC.out]⟩,B2⟩
   ·have k2:((x:Int) == (i:Int))=false:=by simp;omega
    have HS:Hid (S.length=p.ins.length):=HBF.out.len
    have m0:=(M2.cell x).trans (boolArr_get (by rw [HS.out];exact hxl))
    have f0:=M2.frozen x
    have k3:(x:Int)<p.ins.length:=by omega
    cases hsx:S.getD x false
    ·rw [hsx] at m0
     obtain⟨m,hm⟩:=some_of_lt hxl
     have HBN:Hid (Bf p.ins i (L ++ silL m x) (k+1) (S.set x true)):=HBF.out.more hx hxi hm (fun y hy=>sil_lt HP.out hm hy)
     have hun:=unB_set (by rw [HS.out];exact hxl) hsx
     have hsl:=silL_len m x
     have HM3:Hid ((L ++ silL m x).length - (k+1)+3 * unB (S.set x true)≤gk - 1∧gk - 1<gk):=by have:=HM1.out;show _∧_;simp;omega
     have HM4:Hid ((L ++ silL m x).length+2 * unB (S.set x true)≤2+2 * p.ins.length):=by have:=HM2.out;show _≤_;simp;omega
     have HMM:Hid _:=hm
     have HSL:Hid ((silL m x).length≤2):=hsl
     have M3:=M2.set x (.bool true)
     rw [boolArr_set] at M3
     have P3:=P2.setOther (p:=⟨w.heap.size+1,x,none⟩) (by simp) (.bool true)
     have B3:=B2.setCell (p:=⟨w.heap.size+1,x,none⟩) (by simp) (.bool true)
     have H3:=owns_other H2 (w':=wr.setCell ⟨w.heap.size+1,x,none⟩ (.bool true)) (fun k hk=>Below.heap_setCell _ _ _ _ (by have:=(H2.lt k hk).1;dsimp only;omega))
     clear hsx hun hsl hm hx HBF HM1 HM2
     have p2:=P2.cell
     go_wp2_with fail
     refine (HSI.out x m _ HMM.out B3).mono ?_
     rintro e w4 ⟨vs,rfl,V4,hw4⟩
     have B4:=B3.trans (hw4.mono B3.size)
     have P4:=P3.later hw4
     have M4:=M3.later hw4
     have H4:=owns_below H3 hw4
     have hvs:∀k,vs.ownBlock=some k→wr.heap.size≤k:=fun k hk=>by have:=(V4.lt k hk).1;rwa [size_set] at this
     have hls:∀k,(Value.slice (some ⟨lb,lof,none⟩) L.length lc).ownBlock=some k→k<wr.heap.size:=fun k hk=>(H2.lt k hk).2
     have hw4s:wr.heap.size≤w4.heap.size:=by have:=hw4.size;rwa [size_set] at this
     rw [size_set] at V4
     obtain⟨so,sc,rfl⟩:=owns_slice V4
     generalize hS0:silL m x=sl at *
     clear hw4 P3 M3 B3 H3 H2 P2 M2 B2 c0 m0 f0 p2
     go_wp2_with fail
     generalize wr.heap.size=W3 at *
     generalize hS5:S.set x true=S5 at *
     go_loopw [6,43] (fun vl y wi=>∃j:Nat,j≤sl.length∧y=.int .i64 j∧wi.ownsRow (w.heap.size+1+1) 3 1 vl (L.length+j) (ints (nats (L ++ sl.take j)))∧(∀k,vl.ownBlock=some k→(Value.slice so sl.length sc).ownBlock≠some k)∧wi.ownsRow W3 3 1 (.slice so sl.length sc) sl.length (ints (nats sl))∧Blk wi w.heap.size #[.string p.name,.int .i64 p.line,.int .i64 p.params,.bool p.rest,.int .i64 p.regs,.slice h.uo p.ups.length h.uc,.slice h.co p.consts.length h.cc,.slice h.io p.ins.length h.ic,.slice h.no p.named.length h.nc] 57∧Blk wi (w.heap.size+1) (boolArr S5) 4∧Below w.heap.size w wi) (fun _ y _=>sl.length - (intOf y).toNat)
     case atStart=>exact ⟨0,Nat.zero_le _,rfl,by simpa using H4,fun k h1 h2=>by have:=hls k h1;have:=hvs k h2;omega,V4,P4,M4,B4⟩
     case round=>
      obtain⟨j,hj,rfl,H5,hsep,V5,P5,M5,B5⟩:=hrel
      obtain⟨lo5,lc5,rfl⟩:=owns_slice H5
      have hsl2:=HSL.out
      clear H4 V4 P4 M4 B4 hls hvs
      by_cases hjl:j<sl.length
      ·obtain⟨y,hy⟩:=some_of_lt hjl
       obtain⟨sb,sof,rfl,_,hsb,d0⟩:=(owns_ints V5).1 j y (nats_get hy)
       unfold IntAt at d0
       rw [Nat.mul_one] at d0
       have HT:Hid (nats (L ++ sl.take j) ++ [(y:Int)]=nats (L ++ sl.take (j+1))):=by
        show _=_
        rw [List.take_add_one,hy,←List.append_assoc,nats_append (L ++ sl.take j)]
        rfl
       have hsz:=B5.size
       have hb5:=M5.lt
       clear hy
       go_wp2_with (at_builtin;refine app_int rfl _ _ rfl (w.heap.size+1+1) _ (L.length+j) (nats (L ++ sl.take j)) y wr.heap.size rfl (H5.alloc _) rfl ?c1 (by omega) ?c3 ?_)
       case c1=>simp
       case c3=>first | omega | (simp;omega)
       ·intro v6 w6 H6 G6 A6
        rw [HT.out] at H6
        have hlt5:∀k,(Value.slice lo5 (L.length+j) lc5).ownBlock=some k→w.heap.size+1+1≤k:=fun k hk=>(H5.lt k hk).1
        have V6:=owns_grown (V5.alloc _) G6 (fun k hk e=>hsep k e.symm hk)
        have P6:=blk_grown (P5.alloc _) G6 (fun e=>by have:=hlt5 _ e.symm;omega)
        have M6:=blk_grown (M5.alloc _) G6 (fun e=>by have:=hlt5 _ e.symm;omega)
        have B6:=(B5.alloc hsz _).grown G6 (by simp;omega) (fun k hk=>by have:=hlt5 k hk;omega)
        have hsep6:∀k,v6.ownBlock=some k→(Value.slice (some ⟨sb,sof,none⟩) sl.length sc).ownBlock≠some k:=by
         intro k h1 h2
         rcases A6 with A6 | A6
         ·exact hsep k (A6▸h1) h2
         ·have:=(V5.lt k h2).2
          rw [A6] at h1
          simp at h1
          omega
        obtain⟨lo6,lc6,rfl⟩:=owns_slice H6
        clear G6 A6 H5 V5 P5 M5 B5 d0 HT
        go_wp2_with fail
        go_roundw
        case rel=>exact ⟨j+1,by omega,by go_num,H6,hsep6,V6,P6,M6,B6⟩
        case measure=>simp [intOf];omega
      ·obtain rfl:j=sl.length:=by omega
       rw [List.take_length] at H5
       have HH:Hid (wr.ownsRow (w.heap.size+1+1) 3 1 (.slice lo5 (L.length+sl.length) lc5) (L ++ sl).length (ints (nats (L ++ sl)))):=by show World.ownsRow _ _ _ _ _ _ _;rw [List.length_append];exact H5
       go_wp2_with fail
       go_roundg (gk - 1)
       case measure=>exact HM3.out.2
       case rel=>exact ⟨L ++ sl,k+1,S5,by go_num,by simp;omega,HBN,HM3.out.1,HM4,HH.out,P5,M5,B5⟩
    ·rw [hsx] at m0
     have HBN:Hid (Bf p.ins i L (k+1) S):=HBF.out.seen hx hxi hsx
     have HM3:Hid (L.length - (k+1)+3 * unB S≤gk - 1∧gk - 1<gk):=by have:=HM1.out;show _∧_;omega
     clear hsx hx HBF HM1
     go_wp2_with fail
     go_roundg (gk - 1)
     case measure=>exact HM3.out.2
     case rel=>exact ⟨L,k+1,S,by go_num,by omega,HBN,HM3.out.1,HM2,H2,P2,M2,B2⟩
  ·have HC:Hid (¬OnC (Sil p.ins) i):=HBF.out.done (by omega)
   clear HBF
   go_wp2_with fail
   go_ret
   exact⟨⟨false,rfl,by simp [HC.out]⟩,B2⟩
end Go.Proofs.YtaakadmnhpboiaaGreatDoor
