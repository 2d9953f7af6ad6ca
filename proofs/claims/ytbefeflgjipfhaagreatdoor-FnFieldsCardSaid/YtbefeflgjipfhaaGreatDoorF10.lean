import Derived.Defers
import Derived.Recover
import Derived.RangeFuncNested
import Derived.RangeFuncLeaves
import Derived.MapKept
import Derived.OwnWalkIn
import Derived.TacticsInMore
import Derived.RangeFuncCalls
import Derived.Test.YtbefeflgjipfhaaGreatDoorF09
set_option maxRecDepth 8000
set_option maxHeartbeats 4000000
namespace Go.Proofs.YtbefeflgjipfhaaGreatDoor
open Go.Deep Go.Proofs.Tryz Go.RowKit
attribute [local go_sem] A7 vi
@[go_sem] theorem as_ended (v:Value) (w:World):(Instr.typeAssert (.iface 99 v) 20 99 true).run prog w=.ok (.tuple #[v,.bool true]) w:=by kernel_rfl
theorem Tm (bx bl bm:Nat) (m:Mc) (older:List PanicEntry) (w:World) (hx:w.cell? ⟨bx,0,none⟩=some (.pointer (some ⟨bl,0,none⟩))) (hl:w.cell? ⟨bl,0,none⟩=some (.pointer (some ⟨bm,0,none⟩))) (X:MAt w bm m) :
  CallsD prog 26 #[.pointer (some ⟨bx,0,none⟩)] (.panicking ({v:=.iface 99 (.agg #[.int .i64 0]),recovered:=false}::older)) w fun e u' w'=>
   e=.returned (.tuple #[])/\u'=.panicking ({v:=.iface 99 (.agg #[.int .i64 0]),recovered:=true}::older)/\Chg [bm] w w'/\MAt w' bm {m with over:=.bool true,rc:=.int .i64 0}:=by
 refine callsD_of_wpS func26 rfl fun c₀ cs hu=>?_
 apply wpS_seq
 apply wpS_region
 simp[wpOpsS,go_sem,recoverD,hu,ntmps26,Exit.thenS]
 have ht:(#[Value.pointer (some ⟨bx,0,none⟩)]++(Array.replicate 24 undef).setIfInBounds 3 (Value.iface 99 (Value.agg #[Value.int IntKind.i64 0])))=#[(.pointer (some ⟨bx,0,none⟩):Value),undef,undef,undef,.iface 99 (.agg #[.int .i64 0]),undef,undef,undef,undef,undef,undef,undef,undef,undef,undef,undef,undef,undef,undef,undef,undef,undef,undef,undef,undef]:=by kernel_rfl
 rw[ht]
 refine wpS_of_wp ?_
 have hxa:=ca hx
 have hla:=ca hl
 have xa:=fun o=>(X.alloc o).cell
 have xf:=fun o=>(X.alloc o).frozen
 clear ht hu
 go_wp2_with fail
 go_region
 go_wp2_with fail
 have G1:Chg [bm] w (((w.alloc (.cells #[.int .i64 0] 99)).setCell ⟨bm,17,none⟩ (.bool true)).setCell ⟨bm,21,none⟩ (.int .i64 0)).drew:=((((Chg.refl [bm] w).below ((Below.refl _ _).alloc (Nat.le_refl _) _)).set (by simp) _ _).set (by simp) _ _).below (Below.refl _ _).drew
 have G2:MAt (((w.alloc (.cells #[.int .i64 0] 99)).setCell ⟨bm,17,none⟩ (.bool true)).setCell ⟨bm,21,none⟩ (.int .i64 0)).drew bm {m with over:=.bool true,rc:=.int .i64 0}:=(((X.alloc _).set 17 _).set 21 _).l (Below.refl _ _).drew
 revert G1 G2
 obtain⟨W,hW⟩:∃z,z=(((w.alloc (.cells #[.int .i64 0] 99)).setCell ⟨bm,17,none⟩ (.bool true)).setCell ⟨bm,21,none⟩ (.int .i64 0)).drew:=⟨_,rfl⟩
 rw[←hW]
 clear hW xa xf hxa hla
 intro G1 G2
 simp[bodyPostS,results,results26]
 exact⟨G1,G2⟩
theorem A02 (bx:Nat) (w:World) :
  CallsD prog 26 #[.pointer (some ⟨bx,0,none⟩)] .returning w fun e u' w'=>e=.returned (.tuple #[])/\u'=.returning/\w'=w:=by
 refine callsD_of_wpS func26 rfl fun c₀ cs hu=>?_
 apply wpS_seq
 apply wpS_region
 simp[wpOpsS,go_sem,recoverD,hu,ntmps26,Exit.thenS]
 have ht:(#[Value.pointer (some ⟨bx,0,none⟩)]++(Array.replicate 24 undef).setIfInBounds 3 Value.nilIface)=#[(.pointer (some ⟨bx,0,none⟩):Value),undef,undef,undef,.nilIface,undef,undef,undef,undef,undef,undef,undef,undef,undef,undef,undef,undef,undef,undef,undef,undef,undef,undef,undef,undef]:=by kernel_rfl
 rw[ht]
 clear ht
 refine wpS_of_wp ?_
 go_wp2_with fail
 cases c₀
 simp_all [bodyPostS,results,results26]
end Go.Proofs.YtbefeflgjipfhaaGreatDoor
namespace Go.Proofs.YtbefeflgjipfhaaGreatDoor
open Go.Deep Go.Proofs.Tryz Go.RowKit
theorem A8a (bm:Nat) (w:World):Calls prog 174 #[.pointer (some ⟨bm,0,none⟩)] w fun e w'=>e=.returned (.func (.func 234) #[] #[.pointer (some ⟨w.heap.size,0,none⟩)])/\w'=w.alloc (.cells #[.pointer (some ⟨bm,0,none⟩)] 71):=by
 have hmf:∀(fn:Fn) (first cap:Array Value) (w:World),(Instr.makeFunc fn first cap).run prog w=.ok (.func fn first cap) w:=fun _ _ _ _=>rfl
 go_enter func174,ntmps174
 go_wp2_with fail
 go_ret
 exact⟨rfl,rfl⟩
end Go.Proofs.YtbefeflgjipfhaaGreatDoor
namespace Go.Proofs.YtbefeflgjipfhaaGreatDoor
open Go.Deep Go.Proofs.Tryz Go.RowKit
attribute [local go_sem] A7 vi
abbrev kT:Value:=.agg #[.bool true,.int .i64 0]
abbrev kS (p:Int):Value:=.agg #[.bool false,.int .i64 p]
abbrev en (k:Value) (i:Nat):MapEntry:={key:=k,val:=.agg #[],born:=i}
def Td:Obj:=.map #[en kT 0] 1
def Nj (p:Int):Obj:=.map #[en kT 0,en (kS p) 1] 2
theorem F9 (e b:Bool) (p:Int) (w:World):(Instr.checkKey e 10000 252 (.agg #[.bool b,.int .i64 p])).run prog w=.ok () w:=by
 show (Instr.checkKey e (9998+1+1) 252 _).run prog w=_
 unfold Instr.checkKey
 simp[run_underlying underlying252,go_sem]
 unfold Instr.checkKey
 simp[run_underlying underlying4,run_underlying underlying3,go_sem]
theorem Xz (p:Int) (w:World):(Op.equal 252 (kS p) kT).run prog w=.ok false w:=by
 show (Op.equalIn (9999+1) _ _ _).run prog w=_
 rw[run_equalIn_struct w 9999 252 _ _ (by kernel_rfl) (by kernel_rfl)]
 simp[Program.fieldsOf,underlying252,go_sem]
theorem A4j {W:World} {b:Nat} (t:Bool) (p:Int) (h:W.heap[b]?=some (.map #[] 0)):(Instr.lookup 315 (.map (some b)) (.agg #[.bool t,.int .i64 p]) true).run prog W=.ok (.tuple #[.agg #[],.bool false]) W:=by
 have g:=Go.run_getObj_map (P:=prog) (w:=W) (hb:=h)
 simp only[Instr.lookup,Sem.run_bind,run_underlying underlying315,Result.andThen_ok,g,F9,Instr.findKey,run_underlying underlying252,Instr.findNow,Sem.run_pure]
 simp[go_sem]
theorem A4k {W:World} {b:Nat} (p:Int) (h:W.heap[b]?=some Td):(Instr.lookup 315 (.map (some b)) (kS p) true).run prog W=.ok (.tuple #[.agg #[],.bool false]) W:=by
 have g:=Go.run_getObj_map (P:=prog) (w:=W) (hb:=h)
 simp only[Instr.lookup,Sem.run_bind,run_underlying underlying315,Result.andThen_ok,g,F9,Instr.findKey,run_underlying underlying252,Instr.findNow,Instr.sameNow,Instr.findAsking,Xz,Sem.run_pure]
 simp[go_sem]
theorem A6r {W:World} {b:Nat} (h:W.heap[b]?=some (.map #[] 0)):(Instr.mapUpdate 315 (.map (some b)) kT (.agg #[])).run prog W=.ok () (W.putObj b Td):=by
 have g:=Go.run_getObj_map (P:=prog) (w:=W) (hb:=h)
 simp only[Instr.mapUpdate,Sem.run_bind,run_underlying underlying315,Result.andThen_ok,g,F9,Instr.findKey,run_underlying underlying252,Instr.findNow,Sem.run_pure,MapKept.run_setObj_map _ h]
 rfl
theorem A6s {W:World} {b:Nat} (p:Int) (h:W.heap[b]?=some Td):(Instr.mapUpdate 315 (.map (some b)) (kS p) (.agg #[])).run prog W=.ok () (W.putObj b (Nj p)):=by
 have g:=Go.run_getObj_map (P:=prog) (w:=W) (hb:=h)
 simp only[Instr.mapUpdate,Sem.run_bind,run_underlying underlying315,Result.andThen_ok,g,F9,Instr.findKey,run_underlying underlying252,Instr.findNow,Instr.sameNow,Instr.findAsking,Xz]
 simp[MapKept.run_setObj_map _ h]
 rfl
theorem A4l (n:Int) (w:World):(Instr.makeMap 315 (some (.int .i64 n))).run prog w=.ok (.map (some w.heap.size)) (w.alloc (.map #[] 0)):=by
 simp[Instr.makeMap,run_underlying underlying315,go_sem]
structure MS (J:Nat->World->Prop) (bx bm bmap bq i n:Nat) (gone:Int) (mo:Obj) (xs:List Value) (A:List Nat) (G:Nat) (oG:Option Obj) (W:World):Prop where
 j:J i W
 c:W.cell? ⟨bx,0,none⟩=some (.pointer (some ⟨bm,0,none⟩))
 m:W.heap[bmap]?=some mo
 q:QAt W (bmap+1) bq n gone xs A
 l:W.heap[G]?=oG
 g:G<W.heap.size
section
variable {J:Nat→World→Prop} {lo bx bm bmap bq i n G:Nat} {gone:Int} {mo:Obj} {xs:List Value} {A:List Nat} {oG:Option Obj} {W W':World}
theorem MS.below (h:MS J bx bm bmap bq i n gone mo xs A G oG W) (hJ:∀i W W',J i W->Below lo W W'->J i W') (h1:lo<=bmap) (hb:Below W.heap.size W W'):MS J bx bm bmap bq i n gone mo xs A G oG W':=
 have hm:bmap<W.heap.size:=(Array.getElem?_eq_some_iff.1 h.m).1
 ⟨hJ i W W' h.j (hb.mono (by omega)),cb h.c hb,(hb.block _ hm).trans h.m,h.q.l hb,(hb.block _ h.g).trans h.l,Nat.lt_of_lt_of_le h.g hb.size⟩
theorem Dw {B b:Nat} (W:World) (o:Obj) (h:B<=b):Below B W (W.putObj b o):=⟨rfl,rfl,rfl,by simp,fun k hk=>World.putObj_heap_other (by omega)⟩
theorem MS.put (h:MS J bx bm bmap bq i n gone mo xs A G oG W) (hJ:∀i W W',J i W->Below lo W W'->J i W') (h1:lo<=bmap) (h2:bmap<bq) (h3:bx<lo) (h4:bq<G) (o:Obj):MS J bx bm bmap bq i n gone o xs A G oG (W.putObj bmap o):=by
 have hm:bmap<W.heap.size:=(Array.getElem?_eq_some_iff.1 h.m).1
 have hk:∀k,k≠bmap->(W.putObj bmap o).heap[k]?=W.heap[k]?:=fun k hk=>World.putObj_heap_other hk
 refine⟨hJ i W _ h.j (Dw W o h1),(World.cell?_of_block (hk bx (by omega))).trans h.c,World.putObj_heap_same hm,?_,(hk G (by omega)).trans h.l,by simpa using h.g⟩
 obtain⟨v,a,b,c⟩:=h.q
 exact⟨v,(hk bq (by omega)).trans a,Ae b fun k hk'=>hk k (by have:=(b.lt k hk').1;omega),c⟩
theorem MS.pushed {n':Nat} {xs':List Value} (h:MS J bx bm bmap bq i n gone mo xs A G oG W) (hJ:∀i W W',J i W->Below lo W W'->J i W') (h1:lo<=bmap) (h3:bx<lo) (hq:QAt W' (bmap+1) bq n' gone xs' A) (hb:Below (bmap+1) W W') (hG:W'.heap[G]?=W.heap[G]?):MS J bx bm bmap bq i n' gone mo xs' A G oG W':=
 ⟨hJ i W W' h.j (hb.mono (by omega)),(World.cell?_of_block (hb.block bx (by omega))).trans h.c,(hb.block _ (by omega)).trans h.m,hq,hG.trans h.l,Nat.lt_of_lt_of_le h.g hb.size⟩
theorem MS.popped {gone':Int} (h:MS J bx bm bmap bq i n gone mo xs A G oG W) (hJ:∀i W W',J i W->Below lo W W'->J i W') (h1:lo<=bmap) (h2:bmap<bq) (h3:bx<lo) (h4:bq<G) (hc:Chg [bq] W W') (hq:QAt W' (bmap+1) bq n gone' xs A):MS J bx bm bmap bq i n gone' mo xs A G oG W':=by
 have hm:bmap<W.heap.size:=(Array.getElem?_eq_some_iff.1 h.m).1
 have hk:∀k,k≠bq->k<W.heap.size->W'.heap[k]?=W.heap[k]?:=fun k hk hl=>hc.block k (by simpa using hk) hl
 exact⟨hJ i W W' h.j ⟨hc.os,hc.tape,hc.output,hc.size,fun k hl=>hk k (by omega) (by omega)⟩,(World.cell?_of_block (hk bx (by omega) (by omega))).trans h.c,(hk _ (by omega) hm).trans h.m,hq,(hk G (by omega) h.g).trans h.l,Nat.lt_of_lt_of_le h.g hc.size⟩
theorem MS.yielded {X:List Nat} {i':Nat} (h:MS J bx bm bmap bq i n gone mo xs A G oG W) (h1:lo<=bmap) (h2:bmap<bq) (h3:bx<lo) (h4:bq<G) (hX:∀b∈X,b<lo/\b≠bx) (hj:J i' W') (hc:Chg X W W'):MS J bx bm bmap bq i' n gone mo xs A G oG W':=by
 have hm:bmap<W.heap.size:=(Array.getElem?_eq_some_iff.1 h.m).1
 have hk:∀k,lo<=k∨k=bx->k<W.heap.size->W'.heap[k]?=W.heap[k]?:=fun k hk hl=>hc.block k (fun e=>by have:=hX k e;omega) hl
 refine⟨hj,(World.cell?_of_block (hk bx (.inr rfl) (by omega))).trans h.c,(hk _ (.inl h1) hm).trans h.m,?_,(hk G (.inl (by omega)) h.g).trans h.l,Nat.lt_of_lt_of_le h.g hc.size⟩
 obtain⟨v,a,b,c⟩:=h.q
 exact⟨v,(hk bq (.inl (by omega)) a.lt).trans a,Ae b fun k hk'=>hk k (by have:=(b.lt k hk').1;omega) (b.lt k hk').2,c⟩
theorem MS.more (h:MS J bx bm bmap bq i n gone mo xs A G oG W):MS J bx bm bmap bq i n gone mo xs (W.heap.size::A) G oG W:=
 let ⟨v,a,b,c⟩:=h.q
 ⟨h.j,h.c,h.m,⟨v,a,b,fun k hk hm=>(List.mem_cons.1 hm).elim (fun e=>by have:=(b.lt k hk).2;omega) (c k hk)⟩,h.l,h.g⟩
theorem MS.less {B:List Nat} (h:MS J bx bm bmap bq i n gone mo xs A G oG W) (hB:∀k∈B,k∈A):MS J bx bm bmap bq i n gone mo xs B G oG W:=
 let ⟨v,a,b,c⟩:=h.q
 ⟨h.j,h.c,h.m,⟨v,a,b,fun k hk hm=>c k hk (hB k hm)⟩,h.l,h.g⟩
end
theorem A62 (J:Nat->World->Prop) (lo bx bm l:Nat) (p:Int) (X:List Nat) (w:World) (hlo:lo<=w.heap.size) (h3:bx<lo) (hX:∀b∈X,b<lo/\b≠bx) (hJ:Hid (∀i W W',J i W->Below lo W W'->J i W'))
  (HU:Hid (∀W,J 0 W->Calls prog 235 #[.pointer (some ⟨bm,0,none⟩)] W fun e w'=>∃u:Int,e=.returned (.int .i64 u)/\Below W.heap.size W w'))
  (HF:Hid (∀W,J 0 W->Calls prog 236 #[.pointer (some ⟨bm,0,none⟩)] W fun e w'=>∃so sc,e=.returned (.slice so 2 sc)/\w'.ownsRow W.heap.size 252 2 (.slice so 2 sc) 2 [.bool true,.int .i64 0,.bool false,.int .i64 p]/\Below W.heap.size W w'))
  (HN0:Hid (∀no nc W,J 2 W->Calls prog 237 #[.pointer (some ⟨bm,0,none⟩),.slice no 0 nc,kT] W fun e w'=>e=.returned (.slice no 0 nc)/\Below W.heap.size W w'))
  (HN1:Hid (∀no nc W,J 2 W->Calls prog 237 #[.pointer (some ⟨bm,0,none⟩),.slice no 0 nc,kS p] W fun e w'=>e=.returned (.slice no 0 nc)/\Below W.heap.size W w'))
  (HY0:Hid (∀W,J 0 W->YieldAt Fence.wide 0 prog l #[kT] W fun e W'=>e=.returned (.bool true)/\J 1 W'/\Chg X W W'))
  (HY1:Hid (∀W,J 1 W->YieldAt Fence.wide 0 prog l #[kS p] W fun e W'=>e=.returned (.bool true)/\J 2 W'/\Chg X W W'))
  (hc:w.cell? ⟨bx,0,none⟩=some (.pointer (some ⟨bm,0,none⟩))) (h0:J 0 w) :
  Calls prog 234 #[.func (.yield l) #[] #[],.pointer (some ⟨bx,0,none⟩)] w fun e w'=>e=.returned (.tuple #[])/\J 2 w':=by
 have HX:Hid (∀b∈X,b<lo/\b≠bx):=hX
 have H0:Hid (J 0 w):=h0
 have hmk:=A4l
 clear hX h0
 go_enter func234,ntmps234
 go_wp2_with (first
  | (go_at_call 235;refine(HU.out _ H0.out).mono ?_;rintro e w1 ⟨u,rfl,B1⟩;have k1:=fun o o'=>cb hc (bl2 B1 (bl2 ((Below.refl _ _).alloc (Nat.le_refl _) o) ((Below.refl _ _).alloc (Nat.le_refl _) o')));have H1:Hid (J 0 w1):=hJ.out 0 w w1 H0.out (B1.mono hlo))
  | (go_at_call 236;refine(HF.out _ (hJ.out 0 w1 _ H1.out (((Below.refl _ _).alloc (Nat.le_refl _) _).mono (Nat.le_trans hlo B1.size) |>.trans (((Below.refl _ _).alloc (Nat.le_refl _) _).mono (by have:=B1.size;simp;omega))))).mono ?_;rintro e w2 ⟨so,sc,rfl,R2,B2⟩))
 have hs1:=B1.size
 have hs2:=B2.size
 simp only[World.size_alloc]at hs2 R2
 rcases Aj R2 with ⟨h,h'⟩|⟨G,c,h,hG⟩
 ·omega
 injection h with h _ h'
 subst h
 subst h'
 have L0:=Ai R2 (j:=0) rfl
 have L1:=Ai R2 (j:=1) rfl
 have L2:=Ai R2 (j:=2) rfl
 have L3:=Ai R2 (j:=3) rfl
 obtain⟨oG,hoG⟩:∃o,o=w2.heap[G]?:=⟨_,rfl⟩
 have lc:∀{W:World},W.heap[G]?=oG->∀k,W.cell? ⟨G,k,none⟩=w2.cell? ⟨G,k,none⟩:=fun h k=>World.cell?_of_block (h.trans hoG)
 have S0:Hid (MS J bx bm w1.heap.size (w1.heap.size+1) 0 0 0 (.map #[] 0) [] [G] G oG w2):=⟨hJ.out 0 w w2 H0.out ((B1.mono hlo).trans (((((Below.refl _ w1).alloc (Nat.le_refl _) _)).mono (by omega)).trans ((((Below.refl _ _).alloc (Nat.le_refl _) _).mono (by simp;omega)).trans (B2.mono (by simp;omega))))),cb hc (bl2 B1 (bl2 (bl2 ((Below.refl _ _).alloc (Nat.le_refl _) _) ((Below.refl _ _).alloc (Nat.le_refl _) _)) B2)),(B2.block _ (by simp;omega)).trans ((Below.heap_alloc _ _ _ (by simp)).trans (World.alloc_heap_new w1 _)),⟨.slice none 0 0,(B2.block _ (by simp)).trans (by simpa using World.alloc_heap_new (w1.alloc (.map #[] 0)) (.cells #[.slice none 0 0,.int .i64 0] 318)),World.ownsRow_nil _ _ _ _,by simp[Value.ownBlock]⟩,hoG.symm,hG.2⟩
 generalize hbm:w1.heap.size=bmap at *
 generalize hbq:bmap+1=bq at *
 clear k1 H1
 have h4:bq<G:=by omega
 refine wp_loop_rounds 3 ?_
 rw[rounds_succ]
 go_wp2_with fail
 refine wp_loop_rounds 3 ?_
 rw[rounds_succ]
 have cA:∀o,(w2.alloc o).heap[bmap]?=some (.map #[] 0):=fun o=>(Below.heap_alloc _ _ _ (Array.getElem?_eq_some_iff.1 S0.out.m).1).trans S0.out.m
 have lk:=fun o=>A4j true 0 (cA o)
 refine wp_seq_k ?_
 intro K hK
 have HK:Hid _:=hK
 clear hK
 go_wp2_with fail
 refine HK.out _ _ ?_
 clear HK K
 refine wp_seq_k ?_
 intro K hK
 have HK:Hid _:=hK
 clear hK
 go_wp2_with fail
 refine HK.out _ _ ?_
 clear HK K
 have tk:Blk (w2.alloc (.cells #[.bool true,.int .i64 0] 252)) w2.heap.size #[.bool true,.int .i64 0] 252:=Blk.new w2 _ _
 have ck:=tk.cell
 have fk:=tk.frozen
 refine wp_seq_k ?_
 intro Kz hKz
 have HKz:Hid _:=hKz
 clear hKz
 refine wp_block ?_
 refine wp_seq_k ?_
 intro K hK
 have HK:Hid _:=hK
 clear hK
 go_wp2_with fail
 refine HK.out _ _ ?_
 clear HK K
 refine wp_seq_k ?_
 intro K hK
 have HK:Hid _:=hK
 clear hK
 go_wp2_with fail
 refine HK.out _ _ ?_
 clear HK K
 have hbt0:w2.heap.size>G:=S0.out.g
 refine Pf (S:=fun W=>MS J bx bm bmap bq 0 0 0 (.map #[] 0) [] [w2.heap.size,G] G oG W/\Blk W w2.heap.size #[.bool true,.int .i64 0] 252) ⟨S0.out.more.below hJ.out (by omega) (bl2 ((Below.refl _ _).alloc (Nat.le_refl _) _) ((Below.refl _ _).alloc (Nat.le_refl _) _)),tk.alloc _⟩ ?_
 intro W3 hW3
 have M3:Hid (MS J bx bm bmap bq 0 0 0 (.map #[] 0) [] [w2.heap.size,G] G oG W3):=hW3.1
 have T3:=hW3.2
 clear hW3 tk ck fk lk cA
 have up:=A6r M3.out.m
 have c3:=T3.cell
 refine wp_seq_k ?_
 intro K hK
 have HK:Hid _:=hK
 clear hK
 go_wp2_with fail
 refine Pf (S:=fun W=>MS J bx bm bmap bq 0 0 0 Td [] [w2.heap.size,G] G oG W/\Blk W w2.heap.size #[.bool true,.int .i64 0] 252) ⟨M3.out.put hJ.out (by omega) (by omega) h3 h4 _,(World.putObj_heap_other (by omega)).trans T3⟩ ?_
 intro W4 hW4
 have M4:Hid (MS J bx bm bmap bq 0 0 0 Td [] [w2.heap.size,G] G oG W4):=hW4.1
 have T4:=hW4.2
 clear hW4 up c3 T3 M3 W3
 refine HK.out _ _ ?_
 clear HK K
 have c4:=T4.cell
 refine wp_seq_k ?_
 intro K hK
 have HK:Hid _:=hK
 clear hK
 go_wp2_with (go_at_call 239;refine(Uh bq (bmap+1) 0 _ 0 _ _ _ _ (by omega) (by have:=M4.out.g;omega) (by omega) (by have:=M4.out.g;have:=T4.lt;simp;omega) M4.out.q).mono ?_;rintro e W5 ⟨rfl,Q5,B5,G5⟩)
 have M5:Hid (MS J bx bm bmap bq 0 1 0 Td [.bool true,.int .i64 0] [w2.heap.size,G] G oG W5):=M4.out.pushed hJ.out (by omega) h3 Q5 B5 (G5 G (by simp))
 have T5:Blk W5 w2.heap.size #[.bool true,.int .i64 0] 252:=(G5 _ (by simp)).trans T4
 clear Q5 B5 G5 c4 T4 M4 W4
 refine HK.out _ _ ?_
 clear HK K
 have c5:=T5.cell
 obtain⟨fy,ty,ay,by1,hy,hR⟩:=HY0.out W5 M5.out.j
 refine(wpIn_wide (n:=1)).1 ?_
 gi_wp2
 refine hR.mono ?_
 rintro e W6 ⟨rfl,J6,C6⟩
 have MW6:Hid (MS J bx bm bmap bq 1 1 0 Td [.bool true,.int .i64 0] [G] G oG W6):=(M5.out.yielded (by omega) (by omega) h3 h4 HX.out J6 C6).less (by simp)
 clear hR hy c5 T5 J6 C6
 gi_wp2
 refine HKz.out _ _ ?_
 clear HKz Kz M5 W5
 go_wp2_with fail
 have L4:=(lc MW6.out.l 2).trans L2
 have L5:=(lc MW6.out.l 3).trans L3
 rw[rounds_succ]
 have cA:∀o,(W6.alloc o).heap[bmap]?=some Td:=fun o=>(Below.heap_alloc _ _ _ (Array.getElem?_eq_some_iff.1 MW6.out.m).1).trans MW6.out.m
 have lk:=fun o=>A4k p (cA o)
 refine wp_seq_k ?_
 intro K hK
 have HK:Hid _:=hK
 clear hK
 go_wp2_with fail
 refine HK.out _ _ ?_
 clear HK K
 refine wp_seq_k ?_
 intro K hK
 have HK:Hid _:=hK
 clear hK
 go_wp2_with fail
 refine HK.out _ _ ?_
 clear HK K
 have tk:Blk (W6.alloc (.cells #[.bool false,.int .i64 p] 252)) W6.heap.size #[.bool false,.int .i64 p] 252:=Blk.new W6 _ _
 have ck:=tk.cell
 have fk:=tk.frozen
 refine wp_seq_k ?_
 intro Kz hKz
 have HKz:Hid _:=hKz
 clear hKz
 refine wp_block ?_
 refine wp_seq_k ?_
 intro K hK
 have HK:Hid _:=hK
 clear hK
 go_wp2_with fail
 refine HK.out _ _ ?_
 clear HK K
 refine wp_seq_k ?_
 intro K hK
 have HK:Hid _:=hK
 clear hK
 go_wp2_with fail
 refine HK.out _ _ ?_
 clear HK K
 have hbt1:W6.heap.size>G:=MW6.out.g
 refine Pf (S:=fun W=>MS J bx bm bmap bq 1 1 0 Td [.bool true,.int .i64 0] [W6.heap.size,G] G oG W/\Blk W W6.heap.size #[.bool false,.int .i64 p] 252) ⟨MW6.out.more.below hJ.out (by omega) (bl2 ((Below.refl _ _).alloc (Nat.le_refl _) _) ((Below.refl _ _).alloc (Nat.le_refl _) _)),tk.alloc _⟩ ?_
 intro W3 hW3
 have M3:Hid (MS J bx bm bmap bq 1 1 0 Td [.bool true,.int .i64 0] [W6.heap.size,G] G oG W3):=hW3.1
 have T3:=hW3.2
 clear hW3 tk ck fk lk cA
 have up:=A6s p M3.out.m
 have c3:=T3.cell
 refine wp_seq_k ?_
 intro K hK
 have HK:Hid _:=hK
 clear hK
 go_wp2_with fail
 refine Pf (S:=fun W=>MS J bx bm bmap bq 1 1 0 (Nj p) [.bool true,.int .i64 0] [W6.heap.size,G] G oG W/\Blk W W6.heap.size #[.bool false,.int .i64 p] 252) ⟨M3.out.put hJ.out (by omega) (by omega) h3 h4 _,(World.putObj_heap_other (by omega)).trans T3⟩ ?_
 intro W4 hW4
 have M4:Hid (MS J bx bm bmap bq 1 1 0 (Nj p) [.bool true,.int .i64 0] [W6.heap.size,G] G oG W4):=hW4.1
 have T4:=hW4.2
 clear hW4 up c3 T3 M3 W3
 refine HK.out _ _ ?_
 clear HK K
 have c4:=T4.cell
 refine wp_seq_k ?_
 intro K hK
 have HK:Hid _:=hK
 clear hK
 go_wp2_with (go_at_call 239;refine(Uh bq (bmap+1) 1 _ 0 _ _ _ _ (by omega) (by have:=M4.out.g;omega) (by omega) (by have:=M4.out.g;have:=T4.lt;simp;omega) M4.out.q).mono ?_;rintro e W5 ⟨rfl,Q5,B5,G5⟩)
 have M5:Hid (MS J bx bm bmap bq 1 2 0 (Nj p) [.bool true,.int .i64 0,.bool false,.int .i64 p] [W6.heap.size,G] G oG W5):=M4.out.pushed hJ.out (by omega) h3 Q5 B5 (G5 G (by simp))
 have T5:Blk W5 W6.heap.size #[.bool false,.int .i64 p] 252:=(G5 _ (by simp)).trans T4
 clear Q5 B5 G5 c4 T4 M4 W4
 refine HK.out _ _ ?_
 clear HK K
 have c5:=T5.cell
 obtain⟨fy,ty,ay,by1,hy,hR⟩:=HY1.out W5 M5.out.j
 refine(wpIn_wide (n:=1)).1 ?_
 gi_wp2
 refine hR.mono ?_
 rintro e W7 ⟨rfl,J6,C6⟩
 have MW7:Hid (MS J bx bm bmap bq 2 2 0 (Nj p) [.bool true,.int .i64 0,.bool false,.int .i64 p] [G] G oG W7):=(M5.out.yielded (by omega) (by omega) h3 h4 HX.out J6 C6).less (by simp)
 clear hR hy c5 T5 J6 C6
 gi_wp2
 refine HKz.out _ _ ?_
 clear HKz Kz M5 W5
 go_wp2_with fail
 rw[rounds_succ]
 go_wp2_with (go_at_call 240;refine(Ll (bmap+1) bq 2 _ 0 _ _ (by omega) (by omega) (by omega) MW7.out.q).mono ?_;rintro e W8 ⟨rfl,B8⟩)
 have M8:Hid (MS J bx bm bmap bq 2 2 0 (Nj p) [.bool true,.int .i64 0,.bool false,.int .i64 p] [G] G oG W8):=MW7.out.below hJ.out (by omega) B8
 clear B8 L4 L5
 have Md8:Hid (MS J bx bm bmap bq 2 2 0 (Nj p) [.bool true,.int .i64 0,.bool false,.int .i64 p] [G] G oG W8.drew):=M8.out.below hJ.out (by omega) (Below.refl _ _).drew
 have xb:=Md8.out.c
 go_region_held3 (fun W=>W.cell? ⟨bx,0,none⟩=some (.pointer (some ⟨bm,0,none⟩))) (with_reducible exact xb) (first|(go_at_call 238;refine(Zv bq (bmap+1) 2 0 _ 0 true _ _ (by omega) (by omega) rfl rfl Md8.out.q).mono ?_;rintro e W9 ⟨rfl,C9,Q9⟩;have M9:Hid (MS J bx bm bmap bq 2 2 1 (Nj p) [.bool true,.int .i64 0,.bool false,.int .i64 p] [G] G oG W9):=Md8.out.popped hJ.out (by omega) (by omega) h3 h4 C9 Q9;have xb:=M9.out.c;clear C9 Q9)|(go_at_call 237;refine(HN0.out _ _ _ M9.out.j).mono ?_;rintro e W10 ⟨rfl,B9⟩;have M10:Hid (MS J bx bm bmap bq 2 2 1 (Nj p) [.bool true,.int .i64 0,.bool false,.int .i64 p] [G] G oG W10):=M9.out.below hJ.out (by omega) B9;have xb:=M10.out.c;clear B9))
 clear xb
 go_wp2_with fail
 rw[rounds_succ]
 go_wp2_with fail
 refine wp_loop_rounds 1 ?_
 rw[rounds_succ]
 go_wp2_with (go_at_call 240;refine(Ll (bmap+1) bq 2 _ 1 _ _ (by omega) (by omega) (by omega) M10.out.q).mono ?_;rintro e W11 ⟨rfl,B8⟩)
 have M11:Hid (MS J bx bm bmap bq 2 2 1 (Nj p) [.bool true,.int .i64 0,.bool false,.int .i64 p] [G] G oG W11):=M10.out.below hJ.out (by omega) B8
 clear B8
 have Md11:Hid (MS J bx bm bmap bq 2 2 1 (Nj p) [.bool true,.int .i64 0,.bool false,.int .i64 p] [G] G oG W11.drew):=M11.out.below hJ.out (by omega) (Below.refl _ _).drew
 have xb:=Md11.out.c
 go_region_held3 (fun W=>W.cell? ⟨bx,0,none⟩=some (.pointer (some ⟨bm,0,none⟩))) (with_reducible exact xb) (first|(go_at_call 238;refine(Zv bq (bmap+1) 2 1 _ p false _ _ (by omega) (by omega) rfl rfl Md11.out.q).mono ?_;rintro e W12 ⟨rfl,C9,Q9⟩;have M12:Hid (MS J bx bm bmap bq 2 2 2 (Nj p) [.bool true,.int .i64 0,.bool false,.int .i64 p] [G] G oG W12):=Md11.out.popped hJ.out (by omega) (by omega) h3 h4 C9 Q9;have xb:=M12.out.c;clear C9 Q9)|(go_at_call 237;refine(HN1.out _ _ _ M12.out.j).mono ?_;rintro e W13 ⟨rfl,B9⟩;have M13:Hid (MS J bx bm bmap bq 2 2 2 (Nj p) [.bool true,.int .i64 0,.bool false,.int .i64 p] [G] G oG W13):=M12.out.below hJ.out (by omega) B9;have xb:=M13.out.c;clear B9))
 clear xb
 go_wp2_with fail
 rw[rounds_succ]
 go_wp2_with fail
 refine wp_loop_rounds 1 ?_
 rw[rounds_succ]
 go_wp2_with (go_at_call 240;refine(Ll (bmap+1) bq 2 _ 2 _ _ (by omega) (by omega) (by omega) M13.out.q).mono ?_;rintro e W14 ⟨rfl,B8⟩)
 have M14:Hid (MS J bx bm bmap bq 2 2 2 (Nj p) [.bool true,.int .i64 0,.bool false,.int .i64 p] [G] G oG W14):=M13.out.below hJ.out (by omega) B8
 clear B8
 refine bodyPost_ret (results_none rfl _ _ _) rfl ?_
 exact⟨rfl,M14.out.j⟩
end Go.Proofs.YtbefeflgjipfhaaGreatDoor
namespace Go.Proofs.YtbefeflgjipfhaaGreatDoor
open Go.Deep Go.Proofs.Tryz Go.RowKit
theorem opIn {l n:Nat} {P:Program} {o:Oper} {a:Act} {w:World} {K:Act->World->Prop} {Q:Exit->Act->World->Prop} (hd:∀c,o.op≠.defer c) (h:o.wp P a w K Q):o.wpIn (Fence.wide.inRound l) n P a w K Q:=by
 refine⟨fun _ _=>trivial,?_⟩
 show o.uponIn (Fence.wide.inRound l) n P a K Q ((o.semAt (some l) a.eval).run P w)
 rw[Oper.semAt_some l _ _ hd]
 unfold Oper.wp at h
 generalize (execOp a.eval o).run P w=r at *
 cases r with
 | ok x w'=>
  cases x<;>simp only[Oper.uponIn,Oper.upon]at h ⊢<;>first
   | exact h
   | exact⟨fun h=>(by cases h),CallsIn.inRound l (callsIn_wide.2 h)⟩
   | exact⟨fun h=>(by cases h),fun c cs _=>let ⟨v,w',r,s⟩:=h c cs;⟨v,w',r,stepsIn_wide.2 s⟩⟩
 | halt x w'=>cases x<;>simp only[Oper.uponIn,Oper.upon]at h ⊢<;>exact h
theorem A23 {l n:Nat} {P:Program} {ops:Array Oper} {Q:Exit->Act->World->Prop} (hd:∀(i:Nat) (o:Oper),ops[i]?=some o->∀c,o.op≠.defer c) (hL:¬LetsOut Q):∀(k:Nat) (d:Array Bool) (a:Act) (w:World),wpAny P .any ops Q k d a w->wpAnyIn (Fence.wide.inRound l) n P .any ops Q k d a w
 | 0,_,_,_,h=>h
 | k+1,d,a,w,h=>⟨h.1,fun i hi=>by
   have h:=h.2 i hi
   unfold wpOp at h
   unfold wpOpIn
   cases ho:ops[i]? with
   | none=>simp only[ho]at h ⊢;exact A23 hd hL k _ _ _ h
   | some o=>
    simp only[ho]at h ⊢
    split
    ·rename_i hw
     rw[if_pos hw]at h
     rcases h with h|h
     ·exact Oper.wpIn_mono (fun a w h=>A23 hd hL k _ _ _ h) (opIn (hd i o ho) h)
     ·exact absurd h.2 hL
    ·rename_i hw
     rw[if_neg hw]at h
     exact⟨fun _ _=>trivial,A23 hd hL k _ _ _ h⟩⟩
def A8d (k:List Oper):Bool:=k.all fun o=>match o.op with|.defer _=>false|_=>true
theorem rgR {l n id:Nat} {Q:Exit->Act->World->Prop} {a:Act} {w:World} {k:List Oper} (S:World->Prop) (hd:A8d k=true) (hL:¬LetsOut Q) (hS:S w.drew) (h:S w.drew->Rgm k.toArray (List.range k.length) Q S a w.drew):(Code.region id k.toArray true).wpIn (Fence.wide.inRound l) n prog Q a w:=by
 have h:=h hS
 unfold Rgm RgD at h
 have e:mkd k.toArray.size (List.range k.length)=Array.replicate k.toArray.size false:=by
  apply Array.ext_getElem?
  intro j
  rw[Wm]
  by_cases hj:j<k.length
  ·simp[hj]
  ·simp[hj]
 rw[e,List.length_range]at h
 have h2:=wpAny_of_held _ _ _ _ h
 have hk:k.length=k.toArray.size:=by simp
 rw[hk]at h2
 refine wpIn_mono (Q:=NoPanic Q) (wpIn_region_any (by kernel_rfl) (A23 (Q:=NoPanic Q) (fun i o ho c hc=>?_) (fun ⟨a,w,h⟩=>hL ⟨a,w,h⟩) _ _ _ _ h2)) NoPanic.imp
 have hm:o∈k:=by
  have:=List.mem_of_getElem? (l:=k) (by simpa using ho)
  exact this
 have:=List.all_eq_true.1 hd o hm
 rw[hc]at this
 cases this
theorem A9h {ops:Array Oper} {Q:Exit->Act->World->Prop} {S:World->Prop} (fam:List (List Nat)) (dep:List Nat->Nat->Bool) (I:List Nat->Act->World->Prop)
  (hck:fam.all (fun l=>(Region.ready .any ops (mkd ops.size l)).all (fun i=>l.contains i&&!(l.erase i).contains i&&fam.contains (l.erase i)&&dep l i)&&(l.isEmpty==(Region.ready .any ops (mkd ops.size l)).isEmpty))=true)
  (hS:∀l a w,I l a w->S w)
  (step:∀l a w i,I l a w->dep l i=true->(l.erase i).contains i=false->∃oi,ops[i]?=some oi/\Region.wanted oi (yielded ops a.tmps)=true/\∀K:Act->World->Prop,Shut (∀a w,I (l.erase i) a w->K a w)->Oper.wp prog oi a w K (NoPanic Q))
  (done:∀a w,I [] a w->NoPanic Q .normal a w):∀n l a w,l.length=n->fam.contains l=true->I l a w->Rgm ops l Q S a w:=by
 intro n
 induction n with
 | zero=>
  intro l a w hn hf hI
  obtain rfl:=List.length_eq_zero_iff.1 hn
  have:=List.all_eq_true.1 hck [] (by simpa using hf)
  simp only[Bool.and_eq_true,beq_iff_eq]at this
  exact enM (by simpa using this.2) (done a w hI)
 | succ n ih=>
  intro l a w hn hf hI
  have hl:=List.all_eq_true.1 hck l (by simpa using hf)
  simp only[Bool.and_eq_true,beq_iff_eq]at hl
  unfold Rgm RgD
  rw[hn]
  refine wpAnyH_ready rfl (fun e=>by rw[e]at hl;have:=hl.2;cases l<;>simp at this hn) ?_
  intro i hi
  have hc:=List.all_eq_true.1 hl.1 i hi
  simp only[Bool.and_eq_true,Bool.not_eq_true']at hc
  obtain⟨oi,ho,hw,hK⟩:=step l a w i hI hc.2 hc.1.1.2
  refine wpOp_step ho (fun K' hK'=>?_)
  rw[if_pos hw]
  refine hK K' (fun a w h=>hK' a w ⟨hS _ _ _ h,?_⟩)
  have hlen:(l.erase i).length=n:=by rw[List.length_erase_of_mem (by simpa using hc.1.1.1)];omega
  have hR:=ih (l.erase i) a w hlen hc.1.2 h
  unfold Rgm RgD at hR
  rw[hlen]at hR
  have e:(mkd ops.size l).setIfInBounds i true=mkd ops.size (l.erase i):=by
   rw[←Jo (l:=l.erase i) hc.1.1.2,Re (l:=l) (m:=i::l.erase i) (fun j=>?_)]
   have hm:i∈l:=by simpa using hc.1.1.1
   rw[Bool.eq_iff_iff]
   simp only[List.contains_iff_mem]
   exact(List.perm_cons_erase hm).mem_iff
  rw[e]
  exact hR
theorem Ag {l:List Nat} {i j:Nat} (h:j≠i):(l.erase i).contains j=l.contains j:=by
 rw[Bool.eq_iff_iff]
 simp[List.mem_erase_of_ne h]
theorem Js {P:Program} {c:Code} {Q:Exit->Act->World->Prop} {a:Act} {w:World} (R:Act->World->Prop) (h:c.wp P (fun e a W=>e=.normal/\R a W) a w) (key:∀a W,R a W->Q .normal a W):c.wp P Q a w:=
 wp_mono h (fun _ _ _ ⟨he,hr⟩=>he▸key _ _ hr)
abbrev thc (p:Int):Nat->Array Value
 | 0=>#[.bool true,.int .i64 0]
 | _=>#[.bool false,.int .i64 p]
theorem A4d {g:Operand} {ps:Array Tmp} {assign body:Code} {Q:Exit->Act->World->Prop} {a:Act} {w:World} (bx bm:Nat) (p:Int) (X:List Nat) (wk:Nat->World) (act:Nat->Nat->Act)
  (hg:a.eval g=.func (.func 234) #[] #[.pointer (some ⟨bx,0,none⟩)]) (hps:ps.size=1) (h0:wk 0=w) (hbx:bx<w.heap.size) (hX:∀b∈X,b<w.heap.size/\b≠bx)
  (hc:w.cell? ⟨bx,0,none⟩=some (.pointer (some ⟨bm,0,none⟩)))
  (HU:Hid (∀W,Below w.heap.size w W->Calls prog 235 #[.pointer (some ⟨bm,0,none⟩)] W fun e w'=>∃u:Int,e=.returned (.int .i64 u)/\Below W.heap.size W w'))
  (HF:Hid (∀W,Below w.heap.size w W->Calls prog 236 #[.pointer (some ⟨bm,0,none⟩)] W fun e w'=>∃so sc,e=.returned (.slice so 2 sc)/\w'.ownsRow W.heap.size 252 2 (.slice so 2 sc) 2 [.bool true,.int .i64 0,.bool false,.int .i64 p]/\Below W.heap.size W w'))
  (HN0:Hid (∀no nc W,Below w.heap.size (wk 2) W->Calls prog 237 #[.pointer (some ⟨bm,0,none⟩),.slice no 0 nc,kT] W fun e w'=>e=.returned (.slice no 0 nc)/\Below W.heap.size W w'))
  (HN1:Hid (∀no nc W,Below w.heap.size (wk 2) W->Calls prog 237 #[.pointer (some ⟨bm,0,none⟩),.slice no 0 nc,kS p] W fun e w'=>e=.returned (.slice no 0 nc)/\Below W.heap.size W w'))
  (hassign:∀(i l:Nat) (W:World) (K:Act->World->Prop),i<2->Below w.heap.size (wk i) W->(∀bt o,W.heap.size=bt->o=.cells (thc p i) 252->K (act i bt) (W.alloc o))->assign.wpIn (Fence.wide.inRound l) 0 prog (Exit.then K (fun _ _ _=>False)) {tmps:=(ps.zip #[.agg (thc p i)]).foldl (fun t (p,v)=>t.setIfInBounds p v) a.tmps,defers:=[]} W)
  (hbody:∀(i l bt:Nat) (W:World),i<2->Below w.heap.size (wk i) W->w.heap.size<bt->Blk W bt (thc p i) 252->body.wpIn (Fence.wide.inRound l) 0 prog (fun e _ W'=>e=.normal/\Below w.heap.size (wk (i+1)) W'/\Chg X W W') (act i bt) W)
  (hdone:∀(D:Nat) (W:World),w.heap.size<=D->Below w.heap.size (wk 2) W->W.heap[D]?=some (.deferred (some []))->Q .normal {a with defers:={target:=.collected D,args:=#[]}::a.defers} W) :
  (Code.rangeFunc g ps assign body).wp prog Q a w:=by
 refine(wpIn_wide (n:=2)).1 (wpIn_rangeFunc ?_)
 intro fn hfn
 obtain⟨rec,hrec⟩:∃rec:LoopState->Option Code->Loop,rec=fun st pe=>{state:=st,pending:=pe,fn,tmps:=a.tmps,params:=ps,assign,body,defers:=w.heap.size}:=⟨_,rfl⟩
 obtain⟨W1,hW1⟩:∃W1,(w.alloc (.deferred (some []))).alloc (.loop (rec .ready none))=W1:=⟨_,rfl⟩
 have hL1:W1.heap[w.heap.size+1]?=some (.loop (rec .ready none)):=by
  rw[←hW1];have:=World.alloc_heap_new (w.alloc (.deferred (some []))) (.loop (rec .ready none));rwa [World.size_alloc]at this
 have hK1:W1.heap[w.heap.size]?=some (.deferred (some [])):=by
  rw[←hW1];exact(Below.heap_alloc _ _ _ (by simp)).trans (World.alloc_heap_new w _)
 have hs1:W1.heap.size=w.heap.size+2:=by rw[←hW1];simp
 have hb1:Below w.heap.size w W1:=by
  rw[←hW1];exact((Below.refl _ w).alloc (Nat.le_refl _) _).alloc (by simp) _
 refine⟨w.heap.size+1,[{target:=.collected w.heap.size,args:=#[]}],W1,{target:=.fn (.func 234) #[.pointer (some ⟨bx,0,none⟩)],args:=#[.func (.yield (w.heap.size+1)) #[] #[]]},W1,234,
  #[.func (.yield (w.heap.size+1)) #[] #[]]++#[.pointer (some ⟨bx,0,none⟩)],W1,?_,?_,?_,?_,fun h=>(by cases h),?_⟩
 ·rw[←hW1,hrec];exact run_enterLoop_outer _ _ _ _ _
 ·simp only[resolve,hg]
  simp[go_sem]
 ·intro f' hf';exact trivial
 ·have eg:=(Di func234 (by kernel_rfl) rfl).out
  simp[invoke,go_sem,eg]
 refine callsIn_wide.2 ?_
 obtain⟨J,hJd⟩:∃J:Nat->World->Prop,J=fun i W=>Below w.heap.size (wk i) W/\W.heap[w.heap.size+1]?=some (.loop (rec .ready none))/\W.heap[w.heap.size]?=some (.deferred (some [])):=⟨_,rfl⟩
 have hJ:∀i W W',J i W->Below (w.heap.size+2) W W'->J i W':=by
  rw[hJd]
  exact fun i W W' ⟨h1,h2,h3⟩ hb=>⟨h1.trans (hb.mono (by omega)),(hb.block _ (by omega)).trans h2,(hb.block _ (by omega)).trans h3⟩
 have hY:∀i,i<2->∀W,J i W->YieldAt Fence.wide 0 prog (w.heap.size+1) #[.agg (thc p i)] W fun e W'=>e=.returned (.bool true)/\J (i+1) W'/\Chg ((w.heap.size+1)::X) W W':=by
  intro i hi W hJi
  rw[hJd]at hJi
  obtain⟨hi1,hl,hD⟩:=hJi
  have hlt:w.heap.size+1<W.heap.size:=(Array.getElem?_eq_some_iff.1 hl).1
  have hy:=run_yield (P:=prog) (args:=#[.agg (thc p i)]) hl (by rw[hrec];simp[hps])
  rw[hrec]at hy
  refine⟨fn,_,assign,body,hy,roundIn_of_wpIn hfn (hassign i _ W _ hi hi1 (fun bt o hbt ho=>?_))⟩
  subst ho
  have hlA:(W.alloc (.cells (thc p i) 252)).heap[w.heap.size+1]?=some (.loop (rec .ready none)):=(Below.heap_alloc _ _ _ hlt).trans hl
  have hDA:(W.alloc (.cells (thc p i) 252)).heap[w.heap.size]?=some (.deferred (some [])):=(Below.heap_alloc _ _ _ (by omega)).trans hD
  have hBA:Below w.heap.size (wk i) (W.alloc (.cells (thc p i) 252)):=hi1.trans (((Below.refl _ _).alloc (Nat.le_refl _) _).mono (by omega))
  have hTA:Blk (W.alloc (.cells (thc p i) 252)) bt (thc p i) 252:=hbt▸Blk.new W _ _
  have hcA:Chg ((w.heap.size+1)::X) W (W.alloc (.cells (thc p i) 252)):=(Chg.refl _ _).below ((Below.refl _ _).alloc (Nat.le_refl _) _)
  obtain⟨WA,hWA⟩:∃z,W.alloc (.cells (thc p i) 252)=z:=⟨_,rfl⟩
  rw[hWA]at hlA hDA hBA hTA hcA ⊢
  have hltA:w.heap.size+1<WA.heap.size:=(Array.getElem?_eq_some_iff.1 hlA).1
  refine⟨_,run_beginRound hlA (by rw[hrec]),?_⟩
  obtain⟨lb,hlb⟩:∃z,z=({rec .ready none with state:=.busy} : Loop):=⟨_,rfl⟩
  rw[←hlb]
  have hp:∀(V:World) (o:Obj) (k:Nat),k≠w.heap.size+1->(V.putObj (w.heap.size+1) o).heap[k]?=V.heap[k]?:=fun V o k hk=>World.putObj_heap_other hk
  have hcp:∀(V:World) (o:Obj),Chg ((w.heap.size+1)::X) V (V.putObj (w.heap.size+1) o):=fun V o=>⟨rfl,rfl,rfl,by simp,fun k hk _=>hp V o k (fun e=>hk (by simp[e]))⟩
  refine wpIn_mono (hbody i _ bt _ hi (hBA.trans (Dw _ _ (by omega))) (by omega) ((hp _ _ bt (by omega)).trans hTA)) ?_
  rintro e a3 W3 ⟨rfl,hB3,hC3⟩
  have hne:∀k,k=w.heap.size+1∨k=w.heap.size->k∉X:=fun k hk hm=>by have:=(hX k hm).1;omega
  have hl3:W3.heap[w.heap.size+1]?=some (.loop lb):=(hC3.block _ (hne _ (.inl rfl)) (by simpa using hltA)).trans (World.putObj_heap_same hltA)
  have hD3:W3.heap[w.heap.size]?=some (.deferred (some [])):=(hC3.block _ (hne _ (.inr rfl)) (by simp;omega)).trans ((hp _ _ _ (by omega)).trans hDA)
  have hr:=run_endRound (P:=prog) none hl3
  refine⟨_,_,hr,rfl,?_,?_⟩
  ·rw[hJd]
   refine⟨hB3.trans (Dw _ _ (by omega)),?_,(hp _ _ _ (by omega)).trans hD3⟩
   rw[World.putObj_heap_same (Array.getElem?_eq_some_iff.1 hl3).1,hlb,hrec]
   rfl
  ·exact((hcA.trans (hcp _ _) (fun _ h=>h)).trans hC3 (fun b hb=>by simp[hb])).trans (hcp _ _) (fun _ h=>h)
 have e0:J 0 W1:=by rw[hJd];exact⟨by rw[h0];exact hb1,hL1,hK1⟩
 have j0:∀{i W},J i W->Below w.heap.size (wk i) W:=fun h=>by rw[hJd]at h;exact h.1
 refine(A62 J (w.heap.size+2) bx bm (w.heap.size+1) p ((w.heap.size+1)::X) W1 (by omega) (by omega) (fun b hb=>by
   rcases List.mem_cons.1 hb with rfl|hb
   ·omega
   ·have:=hX b hb;omega) hJ (fun W h=>HU.out W (h0▸j0 h)) (fun W h=>HF.out W (h0▸j0 h)) (fun no nc W h=>HN0.out no nc W (j0 h)) (fun no nc W h=>HN1.out no nc W (j0 h)) (hY 0 (by omega)) (hY 1 (by omega)) ((World.cell?_of_block (hb1.block bx hbx)).trans hc) e0).mono ?_
 rintro e W2 ⟨rfl,hJ2⟩
 rw[hJd]at hJ2
 obtain⟨hB2,hl2,hD2⟩:=hJ2
 have hend:=run_endLoop (P:=prog) hl2 (by rw[hrec];simp)
 rw[hrec]at hend
 refine⟨none,_,hend,?_⟩
 exact hdone _ _ (Nat.le_refl _) (hB2.trans (Dw _ _ (by omega))) ((World.putObj_heap_other (by omega)).trans hD2)
end Go.Proofs.YtbefeflgjipfhaaGreatDoor
