import Derived.Test.YtaakadmnhpboiaaGreatDoorM21
import Derived.Test.YtaakadmnhpboiaaGreatDoorM12
import Derived.Test.YtaakadmnhpboiaaGreatDoorM14
import Derived.Test.YtaakadmnhpboiaaGreatDoorM19
namespace Go.Proofs.YtaakadmnhpboiaaGreatDoor
open Go.RowKit Go.Deep
structure RowI (lo:Nat) (w:World) (ao:Option Addr) (cap:Nat) (xs:List Int):Prop where
 cap:xs.length≤cap
 nil:ao=none→xs.length=0
 form:∀a,ao=some a→∃b o,a=⟨b,o,none⟩
 at_:IntsAt lo w ao xs
 tag:∀b o,ao=some ⟨b,o,none⟩→0<xs.length→∃arr,w.heap[b]?=some (.cells arr 3 (0,0))
structure RowG (lo:Nat) (w:World) (ao:Option Addr) (cap:Nat) (xs:List Gd):Prop where
 cap:xs.length≤cap
 nil:ao=none→xs.length=0
 form:∀a,ao=some a→∃b o,a=⟨b,o,none⟩
 at_:GdsAt lo w ao xs
 tag:∀b o,ao=some ⟨b,o,none⟩→0<xs.length→∃arr,w.heap[b]?=some (.cells arr 163 (0,0))
theorem row_blk {α:Type} {lo:Nat} {w:World} {ao:Option Addr} {k:Nat} {at1:Nat→Nat→α→Prop} {xs:List α} (h:AllAt lo w ao k at1 xs) {b o:Nat} (ha:ao=some ⟨b,o,none⟩) (hl:0<xs.length):lo≤b∧b<w.heap.size:=by
 obtain⟨x,hx⟩:=some_of_lt hl
 obtain⟨b',o',e,h1,h2,_⟩:=h 0 x hx
 rw [ha] at e
 simp at e
 obtain⟨rfl,_⟩:=e
 exact⟨h1,h2⟩
theorem RowI.later {lo:Nat} {w w':World} {ao:Option Addr} {cap:Nat} {xs:List Int} (h:RowI lo w ao cap xs) (hk:Keeps lo w w'):RowI lo w' ao cap xs:=⟨h.cap,h.nil,h.form,h.at_.later hk,fun b o e hl=>by obtain ⟨arr,ha⟩:=h.tag b o e hl;have hb:=row_blk h.at_ e hl;exact ⟨arr,(hk.block b hb.1 hb.2).trans ha⟩⟩
theorem RowG.later {lo:Nat} {w w':World} {ao:Option Addr} {cap:Nat} {xs:List Gd} (h:RowG lo w ao cap xs) (hk:Keeps lo w w'):RowG lo w' ao cap xs:=⟨h.cap,h.nil,h.form,h.at_.later hk,fun b o e hl=>by obtain ⟨arr,ha⟩:=h.tag b o e hl;have hb:=row_blk h.at_ e hl;exact ⟨arr,(hk.block b hb.1 hb.2).trans ha⟩⟩
theorem RowI.lower {lo lo':Nat} {w:World} {ao:Option Addr} {cap:Nat} {xs:List Int} (h:RowI lo w ao cap xs) (hl:lo'≤lo):RowI lo' w ao cap xs:=⟨h.cap,h.nil,h.form,AllAt.lower h.at_ hl,h.tag⟩
theorem RowG.lower {lo lo':Nat} {w:World} {ao:Option Addr} {cap:Nat} {xs:List Gd} (h:RowG lo w ao cap xs) (hl:lo'≤lo):RowG lo' w ao cap xs:=⟨h.cap,h.nil,h.form,AllAt.lower h.at_ hl,h.tag⟩
theorem RowI.of_owns {base n cap:Nat} {w:World} {ao:Option Addr} {xs:List Int} (h:w.ownsRow base 3 1 (.slice ao n cap) n (ints xs)):RowI base w ao cap xs:=by
 obtain⟨h1,rfl⟩:=owns_ints h
 refine⟨owns_cap h ao cap rfl,?_,?_,h1,?_⟩
 ·rintro rfl
  rcases owns_form h with ⟨_,h0⟩ | ⟨g,c,h2,_⟩
  ·exact h0
  ·simp at h2
 ·rintro a rfl
  rcases owns_form h with ⟨h2,_⟩ | ⟨g,c,h2,_⟩
  ·simp at h2
  ·simp at h2;exact ⟨g,0,h2.1⟩
 ·rintro b o rfl _
  obtain⟨b',e,ht⟩:=owns_tag h _ rfl
  simp at e
  rw [e.1]
  exact ht
theorem RowI.store {lo:Nat} {w:World} {ao:Option Addr} {cap:Nat} {xs:List Int} (h:RowI lo w ao cap xs) {g:Nat} {arr:Array Value} {t:TypeId} (hg:Blk w g arr t) (ht:t≠3) (o:Nat) (v:Value):RowI lo (w.setCell ⟨g,o,none⟩ v) ao cap xs:=by
 have hne:∀b o',ao=some ⟨b,o',none⟩→0<xs.length→b≠g:=by
  rintro b o' e hl rfl
  obtain⟨a2,h2⟩:=h.tag b o' e hl
  unfold Blk at hg
  rw [hg] at h2
  simp at h2
  exact ht h2.2
 refine⟨h.cap,h.nil,h.form,?_,?_⟩
 ·intro i x hx
  obtain⟨b,off,e,h1,h2,h3⟩:=h.at_ i x hx
  have hl:0<xs.length:=by have:=(List.getElem?_eq_some_iff.1 hx).1;omega
  exact⟨b,off,e,h1,by rw [size_set];exact h2,(World.cell?_setCell_far _ _ _ _ (fun e2=>hne b off e hl e2.symm)).trans h3⟩
 ·intro b o' e hl
  obtain⟨a2,h2⟩:=h.tag b o' e hl
  exact⟨a2,(Below.heap_setCell _ _ _ _ (hne b o' e hl)).trans h2⟩
theorem RowG.store {lo:Nat} {w:World} {ao:Option Addr} {cap:Nat} {xs:List Gd} (h:RowG lo w ao cap xs) {g:Nat} {arr:Array Value} {t:TypeId} (hg:Blk w g arr t) (ht:t≠163) (o:Nat) (v:Value):RowG lo (w.setCell ⟨g,o,none⟩ v) ao cap xs:=by
 have hne:∀b o',ao=some ⟨b,o',none⟩→0<xs.length→b≠g:=by
  rintro b o' e hl rfl
  obtain⟨a2,h2⟩:=h.tag b o' e hl
  unfold Blk at hg
  rw [hg] at h2
  simp at h2
  exact ht h2.2
 refine⟨h.cap,h.nil,h.form,?_,?_⟩
 ·intro i x hx
  obtain⟨b,off,e,h1,h2,h3,h4,h5⟩:=h.at_ i x hx
  have hl:0<xs.length:=by have:=(List.getElem?_eq_some_iff.1 hx).1;omega
  have hf:=fun e2=>hne b off e hl e2
  exact⟨b,off,e,h1,by rw [size_set];exact h2,(World.cell?_setCell_far _ _ _ _ (fun e2=>hf e2.symm)).trans h3,(World.cell?_setCell_far _ _ _ _ (fun e2=>hf e2.symm)).trans h4,(World.cell?_setCell_far _ _ _ _ (fun e2=>hf e2.symm)).trans h5⟩
 ·intro b o' e hl
  obtain⟨a2,h2⟩:=h.tag b o' e hl
  exact⟨a2,(Below.heap_setCell _ _ _ _ (hne b o' e hl)).trans h2⟩
theorem RowG.of_post {lo:Nat} {w':World} {ao:Option Addr} {cap:Nat} {l:List Gd} (h1:l.length≤cap) (h2:GdsAt lo w' ao l) (h3:RTag w' ao 163):RowG lo w' ao cap l:=by
 refine⟨h1,?_,?_,h2,?_⟩
 ·rintro rfl
  cases l with
  | nil=>rfl
  | cons a r=>obtain ⟨b,o,e,_⟩:=h2 0 a rfl;cases e
 ·rintro a rfl
  obtain⟨b,e,_⟩:=h3 a rfl
  exact⟨b,0,e⟩
 ·rintro b o rfl _
  obtain⟨b',e,ht⟩:=h3 _ rfl
  simp at e
  rw [e.1]
  exact ht
def StI (lo:Nat) (w:World) (sb j:Nat) (o:Option St):Prop:=
 ∃to tc go gc,w.cell? ⟨sb,j*3,none⟩=some (.bool o.isSome)∧w.cell? ⟨sb,j*3+1,none⟩=some (.slice to (stT o).length tc)∧w.cell? ⟨sb,j*3+2,none⟩=some (.slice go (stG o).length gc)∧RowI lo w to tc (stT o)∧RowG lo w go gc (stG o)
structure StsI (lo:Nat) (w:World) (sb:Nat) (sts:List (Option St)):Prop where
 own:Own w sb 98 (sts.length*3)
 at_:∀j o,sts[j]?=some o→StI lo w sb j o
theorem StI.later {lo:Nat} {w w':World} {sb j:Nat} {o:Option St} (h:StI lo w sb j o) (hk:Keeps lo w w') (hb:w'.heap[sb]?=w.heap[sb]?):StI lo w' sb j o:=by
 obtain⟨to,tc,go,gc,h1,h2,h3,h4,h5⟩:=h
 have hc:∀i,w'.cell? ⟨sb,i,none⟩=w.cell? ⟨sb,i,none⟩:=fun i=>World.cell?_of_block (w:=w) (a:=⟨sb,i,none⟩) hb
 exact⟨to,tc,go,gc,(hc _).trans h1,(hc _).trans h2,(hc _).trans h3,h4.later hk,h5.later hk⟩
theorem StsI.later {lo:Nat} {w w':World} {sb:Nat} {sts:List (Option St)} (h:StsI lo w sb sts) (hk:Keeps lo w w') (hb:w'.heap[sb]?=w.heap[sb]?):StsI lo w' sb sts:=
 ⟨h.own.of_block hb,fun j o ho=>(h.at_ j o ho).later hk hb⟩
theorem StsI.put {lo:Nat} {w:World} {sb:Nat} {sts:List (Option St)} (h:StsI lo w sb sts) {x:Nat} (hx:x<sts.length) (hsb:sb<lo) {s:St} {to go:Option Addr} {tc gc:Nat} (ht:RowI lo w to tc s.types) (hg:RowG lo w go gc s.guards) :
  StsI lo (((w.setCell ⟨sb,x*3,none⟩ (.bool true)).setCell ⟨sb,x*3+1,none⟩ (.slice to s.types.length tc)).setCell ⟨sb,x*3+2,none⟩ (.slice go s.guards.length gc)) sb (sts.set x (some s)):=by
 have hk:Keeps lo w (((w.setCell ⟨sb,x*3,none⟩ (.bool true)).setCell ⟨sb,x*3+1,none⟩ (.slice to s.types.length tc)).setCell ⟨sb,x*3+2,none⟩ (.slice go s.guards.length gc)):=
  (((Keeps.refl lo w).setCell (p:=⟨sb,x*3,none⟩) hsb _).setCell (p:=⟨sb,x*3+1,none⟩) hsb _).setCell (p:=⟨sb,x*3+2,none⟩) hsb _
 have ho:=((h.own.set (x*3) (.bool true)).set (x*3+1) (.slice to s.types.length tc)).set (x*3+2) (.slice go s.guards.length gc)
 refine⟨by rw [List.length_set];exact ho,?_⟩
 intro j o hj
 rw [List.getElem?_set] at hj
 by_cases hxj:x=j
 ·subst hxj
  simp [hx] at hj
  subst hj
  have o1:=h.own.set (x*3) (.bool true)
  have o2:=o1.set (x*3+1) (.slice to s.types.length tc)
  refine⟨to,tc,go,gc,?_,?_,own_set_cell o2 (by omega),ht.later hk,hg.later hk⟩
  ·rw [cell_set_ne (by omega),cell_set_ne (by omega)]
   exact own_set_cell h.own (by omega)
  ·rw [cell_set_ne (by omega)]
   exact own_set_cell o1 (by omega)
 ·rw [if_neg hxj] at hj
  obtain⟨to',tc',go',gc',h1,h2,h3,h4,h5⟩:=h.at_ j o hj
  refine⟨to',tc',go',gc',?_,?_,?_,h4.later hk,h5.later hk⟩
  ·rw [cell_set_ne (by omega),cell_set_ne (by omega),cell_set_ne (by omega)];exact h1
  ·rw [cell_set_ne (by omega),cell_set_ne (by omega),cell_set_ne (by omega)];exact h2
  ·rw [cell_set_ne (by omega),cell_set_ne (by omega),cell_set_ne (by omega)];exact h3
theorem StI.store {lo:Nat} {w:World} {sb j:Nat} {o:Option St} (h:StI lo w sb j o) {g:Nat} {arr:Array Value} {t:TypeId} (hg:Blk w g arr t) (ht:t≠3) (ht2:t≠163) (hs:sb≠g) (q:Nat) (v:Value):StI lo (w.setCell ⟨g,q,none⟩ v) sb j o:=by
 obtain⟨to,tc,go,gc,h1,h2,h3,h4,h5⟩:=h
 have hc:∀i,(w.setCell ⟨g,q,none⟩ v).cell? ⟨sb,i,none⟩=w.cell? ⟨sb,i,none⟩:=fun i=>World.cell?_setCell_far _ _ _ _ (fun e=>hs e.symm)
 exact⟨to,tc,go,gc,(hc _).trans h1,(hc _).trans h2,(hc _).trans h3,h4.store hg ht q v,h5.store hg ht2 q v⟩
structure VfIn (B L vb sb db:Nat):Prop where
 v1:B≤vb
 v2:vb<L
 s1:B≤sb
 s2:sb<L
 d1:B≤db
 d2:db<L
 vs:vb≠sb
 vd:vb≠db
 sd:sb≠db
structure Off (B L:Nat) (w w':World):Prop where
 below:Below B w w'
 keeps:Keeps L w w'
theorem Off.of_below {B L:Nat} {w w':World} (h:Below w.heap.size w w') (hB:B≤w.heap.size):Off B L w w':=⟨h.mono hB,Keeps.of_below h⟩
theorem Off.refl (B L:Nat) (w:World):Off B L w w:=⟨Below.refl _ _,Keeps.refl _ _⟩
theorem Off.trans {B L:Nat} {a b c:World} (h:Off B L a b) (k:Off B L b c):Off B L a c:=⟨h.below.trans k.below,h.keeps.trans k.keeps⟩
theorem Off.size {B L:Nat} {a b:World} (h:Off B L a b):a.heap.size≤b.heap.size:=h.below.size
theorem Off.blk {B L:Nat} {a b:World} (h:Off B L a b) {g:Nat} {arr:Array Value} {t:TypeId} (x:Blk a g arr t) (hg:L≤g):Blk b g arr t:=(h.keeps.block g hg x.lt).trans x
theorem Off.set {B L:Nat} {a b:World} (h:Off B L a b) {p:Addr} (v:Value) (h1:B≤p.block) (h2:p.block<L):Off B L a (b.setCell p v):=⟨h.below.setCell h1 _,h.keeps.setCell h2 _⟩
theorem Off.setNew {B L:Nat} {a b:World} (h:Off B L a b) (hB:B≤a.heap.size) {p:Addr} (v:Value) (h1:a.heap.size≤p.block):Off B L a (b.setCell p v):=
 ⟨h.below.setCell (Nat.le_trans hB h1) _,⟨by rw [size_set];exact h.size,fun k hk hs=>(Below.heap_setCell _ _ _ _ (by omega)).trans (h.keeps.block k hk hs)⟩⟩
structure VfAt (L vb sb db:Nat) (cao:Option Addr) (ccap:Nat) (ps:List Pd) (p:Pd) (h:Ph) (w:World) (c:Cf) (l:Nat):Prop where
 blk:Blk w vb #[.slice cao ps.length ccap,.string p.name,.int .i64 p.line,.int .i64 p.params,.bool p.rest,.int .i64 p.regs,.slice h.uo p.ups.length h.uc,.slice h.co p.consts.length h.cc,.slice h.io p.ins.length h.ic,.slice h.no p.named.length h.nc,.slice (some ⟨sb,0,none⟩) p.ins.length p.ins.length,.slice (some ⟨db,0,none⟩) p.ins.length p.ins.length,.int .i64 l] 120
 sts:StsI L w sb c.sts
 due:Blk w db (boolArr c.due) 4
 low:∀j,j<l→c.due.getD j false=false
 lenS:c.sts.length=p.ins.length
 lenD:c.due.length=p.ins.length
theorem VfAt.below {L vb sb db:Nat} {cao:Option Addr} {ccap:Nat} {ps:List Pd} {p:Pd} {h:Ph} {w w':World} {c:Cf} {l:Nat} (x:VfAt L vb sb db cao ccap ps p h w c l) (hb:Below w.heap.size w w'):VfAt L vb sb db cao ccap ps p h w' c l:=
 ⟨x.blk.later hb,x.sts.later (Keeps.of_below hb) (hb.block sb x.sts.own.lt),x.due.later hb,x.low,x.lenS,x.lenD⟩
theorem VfAt.store {B L vb sb db:Nat} {cao:Option Addr} {ccap:Nat} {ps:List Pd} {p:Pd} {h:Ph} {w:World} {c:Cf} {l:Nat} (V:VfIn B L vb sb db) (x:VfAt L vb sb db cao ccap ps p h w c l) {g:Nat} {arr:Array Value} {t:TypeId} (hg:Blk w g arr t) (hL:L≤g) (ht:t≠3) (ht2:t≠163) (q:Nat) (v:Value):VfAt L vb sb db cao ccap ps p h (w.setCell ⟨g,q,none⟩ v) c l:=by
 have n1:vb≠g:=by have:=V.v2;omega
 have n2:sb≠g:=by have:=V.s2;omega
 have n3:db≠g:=by have:=V.d2;omega
 exact⟨x.blk.setOther (p:=⟨g,q,none⟩) n1 _,⟨x.sts.own.of_block (Below.heap_setCell _ _ _ _ n2),fun j o ho=>(x.sts.at_ j o ho).store hg ht ht2 n2 q v⟩,x.due.setOther (p:=⟨g,q,none⟩) n3 _,x.low,x.lenS,x.lenD⟩
theorem VfAt.put {B L vb sb db:Nat} {cao:Option Addr} {ccap:Nat} {ps:List Pd} {p:Pd} {h:Ph} {w:World} {c:Cf} {l:Nat} (V:VfIn B L vb sb db) (x:VfAt L vb sb db cao ccap ps p h w c l) {k:Nat} (hk:k<p.ins.length) {s:St} {to go:Option Addr} {tc gc:Nat} (ht:RowI L w to tc s.types) (hg:RowG L w go gc s.guards) :
  VfAt L vb sb db cao ccap ps p h (((w.setCell ⟨sb,k*3,none⟩ (.bool true)).setCell ⟨sb,k*3+1,none⟩ (.slice to s.types.length tc)).setCell ⟨sb,k*3+2,none⟩ (.slice go s.guards.length gc)) ⟨c.sts.set k (some s),c.due⟩ l:=by
 have hs3:∀j,j≠sb→(((w.setCell ⟨sb,k*3,none⟩ (.bool true)).setCell ⟨sb,k*3+1,none⟩ (.slice to s.types.length tc)).setCell ⟨sb,k*3+2,none⟩ (.slice go s.guards.length gc)).heap[j]?=w.heap[j]?:=fun j hj=>by
  rw [Below.heap_setCell _ _ _ _ hj,Below.heap_setCell _ _ _ _ hj,Below.heap_setCell _ _ _ _ hj]
 exact⟨(hs3 vb V.vs).trans x.blk,x.sts.put (by rw [x.lenS];exact hk) V.s2 ht hg,(hs3 db V.sd.symm).trans x.due,x.low,by simp [x.lenS],x.lenD⟩
theorem VfAt.setDue {B L vb sb db:Nat} {cao:Option Addr} {ccap:Nat} {ps:List Pd} {p:Pd} {h:Ph} {w:World} {c:Cf} {l:Nat} (V:VfIn B L vb sb db) (x:VfAt L vb sb db cao ccap ps p h w c l) (k l':Nat) (hl':l'≤l) (hlk:l'≤k) :
  VfAt L vb sb db cao ccap ps p h ((w.setCell ⟨db,k,none⟩ (.bool true)).setCell ⟨vb,12,none⟩ (.int .i64 l')) ⟨c.sts,c.due.set k true⟩ l':=by
 have D4:=x.due.set k (.bool true)
 rw [boolArr_set] at D4
 have V4:=x.blk.setOther (p:=⟨db,k,none⟩) V.vd (.bool true)
 have S4:=x.sts.later (w':=w.setCell ⟨db,k,none⟩ (.bool true)) ((Keeps.refl _ _).setCell V.d2 _) (Below.heap_setCell _ _ _ _ V.sd)
 have V5:=V4.set 12 (.int .i64 l')
 have S5:=S4.later (w':=(w.setCell ⟨db,k,none⟩ (.bool true)).setCell ⟨vb,12,none⟩ (.int .i64 l')) ((Keeps.refl _ _).setCell V.v2 _) (Below.heap_setCell _ _ _ _ V.vs.symm)
 have D5:=D4.setOther (p:=⟨vb,12,none⟩) V.vd.symm (.int .i64 l')
 refine⟨V5,S5,D5,?_,x.lenS,by simp [x.lenD]⟩
 intro j hj
 rw [due_set]
 rw [if_neg (by omega)]
 exact x.low j (by omega)
theorem VfAt.take {B L vb sb db:Nat} {cao:Option Addr} {ccap:Nat} {ps:List Pd} {p:Pd} {h:Ph} {w:World} {c:Cf} {l:Nat} (V:VfIn B L vb sb db) (x:VfAt L vb sb db cao ccap ps p h w c l) (k:Nat):VfAt L vb sb db cao ccap ps p h (w.setCell ⟨db,k,none⟩ (.bool false)) ⟨c.sts,c.due.set k false⟩ l:=by
 have D4:=x.due.set k (.bool false)
 rw [boolArr_set] at D4
 refine⟨x.blk.setOther (p:=⟨db,k,none⟩) V.vd _,x.sts.later ((Keeps.refl _ _).setCell V.d2 _) (Below.heap_setCell _ _ _ _ V.sd),D4,?_,x.lenS,by simp [x.lenD]⟩
 intro j hj
 rw [due_set]
 split
 ·rfl
 ·exact x.low j hj
theorem VfAt.move {B L vb sb db:Nat} {cao:Option Addr} {ccap:Nat} {ps:List Pd} {p:Pd} {h:Ph} {w:World} {c:Cf} {l:Nat} (V:VfIn B L vb sb db) (x:VfAt L vb sb db cao ccap ps p h w c l) (l':Nat) (hl:∀j,j<l'→c.due.getD j false=false):VfAt L vb sb db cao ccap ps p h (w.setCell ⟨vb,12,none⟩ (.int .i64 l')) c l':=
 ⟨x.blk.set 12 (.int .i64 l'),x.sts.later ((Keeps.refl _ _).setCell V.v2 _) (Below.heap_setCell _ _ _ _ V.vs.symm),x.due.setOther (p:=⟨vb,12,none⟩) V.vd.symm _,hl,x.lenS,x.lenD⟩
end Go.Proofs.YtaakadmnhpboiaaGreatDoor
