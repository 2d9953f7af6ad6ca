import Derived.Test.YtbefeflgjipfhaaGreatDoorF19
import Derived.Test.YtbefeflgjipfhaaGreatDoorF20
set_option maxRecDepth 100000
set_option maxHeartbeats 8000000
namespace Go.Proofs.YtbefeflgjipfhaaGreatDoor
open Go.Deep Go.Proofs.Tryz Go.RowKit
attribute [local go_sem] A7 vi
def lmL (m p q a b:Value) (t d c:Int):List Value:=[m,p,q,a,b,.int .i64 t,.int .i64 d,.int .i64 c]++M7++bltL++[.nilFunc]
theorem A0k (bm:Option Addr) (p0 q0 a0 b0:Option Addr) (p1 p2 q1 q2 a1 a2 b1 b2:Nat) (t d c:Int) (w:World):(Instr.build 82 #[(0,.pointer bm),(1,.agg #[.slice p0 p1 p2]),(2,.slice q0 q1 q2),(3,.agg #[.slice a0 a1 a2,.slice b0 b1 b2,.int .i64 t,.int .i64 d,.int .i64 c]),(4,.agg M7.toArray),(5,.agg bltL.toArray)]).run prog w=.ok (.agg (lmL (.pointer bm) (.slice p0 p1 p2) (.slice q0 q1 q2) (.slice a0 a1 a2) (.slice b0 b1 b2) t d c).toArray) w:=by kernel_rfl
abbrev in0:Array Value:=#[.slice none 0 0,.slice none 0 0,.int .i64 1000,.int .i64 1,.int .i64 1000]
theorem Aa2 (bm cp g pcc:Nat):Lm (lmL (.pointer (some ⟨bm,0,none⟩)) (.slice (some ⟨cp,0,none⟩) 1 pcc) (.slice (some ⟨g,0,none⟩) 1 1) (.slice none 0 0) (.slice none 0 0) 1000 1 1000).toArray bm cp g pcc 1 1000 1000:=⟨rfl,rfl,rfl,rfl,rfl⟩
theorem A0t {oi:Oper} {a:Act} {w:World} {t:TypeId} {ps:Array (Nat×Operand)} {v:Value} (ho:oi.op=.build t ps) (h:(Instr.build t (ps.map fun (i,x)=>(i,a.eval x))).run prog w=.ok v w):(execOp a.eval oi).run prog w=.ok (.value v) w:=by
 unfold execOp
 simp only[ho]
 simp[h]
theorem Aaq {oi:Oper} {a:Act} {w w':World} {K:Act->World->Prop} {Q:Exit->Act->World->Prop} (v:Value) (h:(execOp a.eval oi).run prog w=.ok (.value v) w') (hk:K (a.put oi.dst v) w'):Oper.wp prog oi a w K Q:=by
 unfold Oper.wp
 rw[h]
 exact hk
theorem A66 (cp pcc s:Nat) (h6:s=14) (nm:ByteArray) (ln:Int) (u0 k0 i0 n0:Option Addr) (u1 u2 k1 k2 i1 i2 n1 n2:Nat) (pace:Int) (Qk:World->Nat->Prop) (w:World) (hp0:0<=pace) (hp1:pace<=1000) (hP:∀i,i<9->w.cell? ⟨cp,i,none⟩=(pr6 nm ln s (.slice u0 u1 u2) (.slice k0 k1 k2) (.slice i0 i1 i2) (.slice n0 n1 n2))[i]?)
  (HQ:Hid (∀W W' g,Qk W g->Below W.heap.size W W'->Qk W' g))
  (HI:Hid (∀W,Below w.heap.size w W->Calls prog 31 #[.agg in0] W fun e w'=>e=.returned (.bool true)/\Below W.heap.size W w'))
  (HP:Hid (∀W,Below w.heap.size w W->Calls prog 32 #[.agg #[.slice (some ⟨cp,0,none⟩) 1 pcc]] W fun e w'=>∃g q:Nat,e=.returned (.agg #[.slice (some ⟨g,0,none⟩) 1 1,.int .i64 q])/\q=1/\Qk w' g/\Below W.heap.size W w')) :
  Calls prog 18 #[.agg #[.slice (some ⟨cp,0,none⟩) 1 pcc],.agg in0,.int .i64 pace] w fun e w'=>∃bl bm bts bt bf bc br g,e=.returned (pl bl)/\A35 w pace Qk bm bts bt bf bc br g w'/\Blk w' bl (lmL (.pointer (some ⟨bm,0,none⟩)) (.slice (some ⟨cp,0,none⟩) 1 pcc) (.slice (some ⟨g,0,none⟩) 1 1) (.slice none 0 0) (.slice none 0 0) 1000 1 1000).toArray 82:=by
 have HW:Hid (∀i,i<9->w.cell? ⟨cp,i,none⟩=(pr6 nm ln s (.slice u0 u1 u2) (.slice k0 k1 k2) (.slice i0 i1 i2) (.slice n0 n1 n2))[i]?):=hP
 clear hP
 obtain⟨W,hW⟩:∃W,W=(w.alloc (.cells #[.slice (some ⟨cp,0,none⟩) 1 pcc] 26)).alloc (.cells in0 30):=⟨_,rfl⟩
 have BW:Below w.heap.size w W:=hW▸bl2 ((Below.refl _ _).alloc (Nat.le_refl _) _) ((Below.refl _ _).alloc (Nat.le_refl _) _)
 have X:Blk W w.heap.size #[.slice (some ⟨cp,0,none⟩) 1 pcc] 26:=hW▸(Blk.new w _ _).alloc _
 have Y:Blk W (w.heap.size+1) in0 30:=hW▸Blk.nh _ _ (by simp)
 have HN:Hid (Calls prog 23 #[.agg #[.slice (some ⟨cp,0,none⟩) 1 pcc],.agg in0,.int .i64 pace] W fun e w'=>∃bm bts bt bf bc br g,e=.returned (.tuple #[.pointer (some ⟨bm,0,none⟩),.slice (some ⟨g,0,none⟩) 1 1])/\A35 W pace Qk bm bts bt bf bc br g w'):=Zh cp pcc s h6 nm ln u0 k0 i0 n0 u1 u2 k1 k2 i1 i2 n1 n2 none 0 0 0 1000 1 1000 pace Qk W hp0 hp1 (fun i hi=>by
   have h:=HW.out i hi
   rw[List.getElem?_toArray,List.getElem?_eq_getElem (by simpa using hi)]at h ⊢
   exact cb h BW) HQ (fun W1 h1=>HI.out W1 (bl2 BW h1)) (fun W1 h1=>HP.out W1 (bl2 BW h1))
 clear h6
 go_enter func18,ntmps18
 go_wp2_with fail
 rw[←hW]
 clear hW
 refine HN.out.mono ?_
 rintro e w1 ⟨bm,bts,bt,bf,bc,br,g,rfl,N1⟩
 have HN1:Hid (A35 W pace Qk bm bts bt bf bc br g w1):=N1
 have B1:=N1.b
 have X1:=X.l B1
 have Y1:=Y.l B1
 clear N1 HN
 go_wp2_with fail
 refine rgM (fun W=>(∀o,W.cell? ⟨w.heap.size,o,none⟩=(#[.slice (some ⟨cp,0,none⟩) 1 pcc]:Array Value)[o]?)/\(∀o,W.cell? ⟨w.heap.size+1,o,none⟩=(in0:Array Value)[o]?)) ⟨X1.cell,Y1.cell⟩ (fun hS=>?_)
 iterate 4 (refine tkM rfl (by kernel_rfl) (by rfl) hS ⟨?_,fun W hW=>?_,?_⟩;rotate_left;(focus (obtain⟨y1,y2⟩:=hW;go_simp;with_reducible rfl));simp only[Act.put,List.getElem_toArray,List.getElem_cons_zero,List.getElem_cons_succ,List.setIfInBounds_toArray,List.set_cons_succ,List.set_cons_zero])
 have X2:Blk w1.drew w.heap.size #[.slice (some ⟨cp,0,none⟩) 1 pcc] 26:=X1
 have Y2:Blk w1.drew (w.heap.size+1) in0 30:=Y1
 refine doM rfl (by kernel_rfl) (by rfl) (fun K2 hK2=>?_)
 go_wp2_with fail
 refine(Xj w1.drew).mono ?_
 rintro e w2 ⟨rfl,B2⟩
 have X3:=X2.l B2
 have Y3:=Y2.l B2
 refine hK2.out _ _ ⟨X3.cell,Y3.cell⟩ (fun hS=>?_)
 clear hK2 K2
 try simp only[Act.put,List.getElem_toArray,List.getElem_cons_zero,List.getElem_cons_succ,List.setIfInBounds_toArray,List.set_cons_succ,List.set_cons_zero]
 refine doM rfl (by kernel_rfl) (by rfl) (fun K2 hK2=>?_)
 go_wp2_with fail
 refine(V7 w2).mono ?_
 rintro e w3 ⟨rfl,B3⟩
 have X4:=X3.l B3
 have Y4:=Y3.l B3
 refine hK2.out _ _ ⟨X4.cell,Y4.cell⟩ (fun hS=>?_)
 clear hK2 K2
 try simp only[Act.put,List.getElem_toArray,List.getElem_cons_zero,List.getElem_cons_succ,List.setIfInBounds_toArray,List.set_cons_succ,List.set_cons_zero]
 refine doM rfl (by kernel_rfl) (by rfl) (fun K2 hK2=>?_)
 have hbl:=A0k (some ⟨bm,0,none⟩) (some ⟨cp,0,none⟩) (some ⟨g,0,none⟩) none none 1 pcc 1 1 0 0 0 0 1000 1 1000 w3
 refine Aaq (w':=w3) (.agg (lmL (.pointer (some ⟨bm,0,none⟩)) (.slice (some ⟨cp,0,none⟩) 1 pcc) (.slice (some ⟨g,0,none⟩) 1 1) (.slice none 0 0) (.slice none 0 0) 1000 1 1000).toArray) ?bl ?_
 case bl=>
  refine A0t rfl ?_
  simp only[List.map_toArray,List.map_cons,List.map_nil]
  exact hbl
 obtain⟨LL,hLL⟩:∃LL,LL=(lmL (.pointer (some ⟨bm,0,none⟩)) (.slice (some ⟨cp,0,none⟩) 1 pcc) (.slice (some ⟨g,0,none⟩) 1 1) (.slice none 0 0) (.slice none 0 0) 1000 1 1000).toArray:=⟨_,rfl⟩
 rw[←hLL]
 refine hK2.out _ _ ⟨X4.cell,Y4.cell⟩ (fun hS=>?_)
 clear hK2 K2 hbl
 try simp only[Act.put,List.getElem_toArray,List.getElem_cons_zero,List.getElem_cons_succ,List.setIfInBounds_toArray,List.set_cons_succ,List.set_cons_zero]
 have HLL:Hid (LL=(lmL (.pointer (some ⟨bm,0,none⟩)) (.slice (some ⟨cp,0,none⟩) 1 pcc) (.slice (some ⟨g,0,none⟩) 1 1) (.slice none 0 0) (.slice none 0 0) 1000 1 1000).toArray):=hLL
 clear hLL
 refine doM rfl (by kernel_rfl) (by rfl) (fun K2 hK2=>?_)
 go_wp2_with fail
 have X5:=X4.alloc (.cells LL 82)
 have Y5:=Y4.alloc (.cells LL 82)
 have L5:Blk (w3.alloc (.cells LL 82)) w3.heap.size LL 82:=Blk.new w3 _ _
 have BF:Below w1.heap.size w1 (w3.alloc (.cells LL 82)):=bl2 (bl2 (bl2 (Below.refl _ _).drew B2) B3) ((Below.refl _ _).alloc (Nat.le_refl _) _)
 refine hK2.out _ _ ⟨X5.cell,Y5.cell⟩ (fun hS=>?_)
 clear hK2 K2
 refine tkM rfl (by kernel_rfl) (by rfl) hS ⟨?_,fun W hW=>?_,?_⟩
 rotate_left
 ·go_simp
  with_reducible rfl
 simp only[Act.put,List.getElem_toArray,List.getElem_cons_zero,List.getElem_cons_succ,List.setIfInBounds_toArray,List.set_cons_succ,List.set_cons_zero]
 refine enM (by kernel_rfl) (NoPanic.normal ?_)
 obtain⟨W6,hW6⟩:∃z,z=w3.alloc (.cells LL 82):=⟨_,rfl⟩
 rw[←hW6]at L5 BF ⊢
 clear hW6
 go_wp2_with fail
 go_ret
 have h:=HN1.out
 refine⟨w3.heap.size,bm,bts,bt,bf,bc,br,g,rfl,⟨⟨?_,?_,?_,?_⟩,?_,h.ts.l BF,h.t.l BF,h.f.l BF,h.c.l BF,h.r.l BF,HQ.out _ _ _ h.q BF,bl2 (bl2 BW h.b) BF⟩,HLL.out▸L5⟩
 ·exact Nat.le_trans BW.size h.ge.1
 ·exact Nat.le_trans BW.size h.ge.2.1
 ·exact Nat.le_trans BW.size h.ge.2.2.1
 ·exact Nat.le_trans BW.size h.ge.2.2.2
 ·obtain⟨bk,q,hk,hm⟩:=h.m
  exact⟨bk,q.l BF,Nat.le_trans BW.size hk,hm.l BF⟩
def Us (K:Fk) (cp pcc:Nat) (w:World):Prop:=∀(pc:Int) (W:World),0<=pc->pc<=1000->Below w.heap.size w W->Calls prog 18 #[.agg #[.slice (some ⟨cp,0,none⟩) 1 pcc],.agg in0,.int .i64 pc] W fun e w'=>∃b,e=.returned (pl b.bl)/\FS0 b K pc 0 w'/\b.lo=W.heap.size/\b.w0=W
theorem Us.l {K:Fk} {cp pcc:Nat} {w w':World} (h:Us K cp pcc w) (hb:Below w.heap.size w w'):Us K cp pcc w':=fun pc W h0 h1 hW=>h pc W h0 h1 (bl2 hb hW)
structure TOk (K:Fk) (T:Nat):Prop where
 k:Kk K
 t:T<=5000
 e:(sq K T).1=33
 q:∀l,l<=T->Rgi K (sq K l).1 (sq K l).2/\(l<T->(sq K l).1<33)
theorem A43 {K:Fk} {T:Nat} (cp pcc:Nat) (w:World) (hT:TOk K T) (HN:Hid (Us K cp pcc w)):Calls prog 6 #[.agg #[.slice (some ⟨cp,0,none⟩) 1 pcc],.agg in0] w fun e w'=>e=.returned (.int .i64 (T+1:Nat))/\Below w.heap.size w w':=by
 obtain⟨t,ht⟩:∃t:Int,t=(T+1:Nat):=⟨_,rfl⟩
 rw[←ht]
 have HT:Hid (TOk K T/\t=(T+1:Nat)):=⟨hT,ht⟩
 have BW:Below w.heap.size w ((w.alloc (.cells #[.slice (some ⟨cp,0,none⟩) 1 pcc] 26)).alloc (.cells in0 30)):=bl2 ((Below.refl _ _).alloc (Nat.le_refl _) _) ((Below.refl _ _).alloc (Nat.le_refl _) _)
 clear hT ht
 go_enter func6,ntmps6
 go_wp2_with fail
 revert BW
 generalize (w.alloc (.cells #[.slice (some ⟨cp,0,none⟩) 1 pcc] 26)).alloc (.cells in0 30)=V
 intro BW
 refine(HN.out 0 V (by decide) (by decide) BW).mono ?_
 rintro e w1 ⟨b,rfl,S,hlo,hw0⟩
 have HS:Hid (FS0 b K 0 0 w1):=S
 have HL:Hid (b.lo=V.heap.size/\b.w0=V):=⟨hlo,hw0⟩
 clear S hlo hw0
 go_wp2_with fail
 refine(runF (N:=9223372036854775807) HT.out.1.k (by decide) HT.out.1.t HT.out.1.e HT.out.1.q (by have:=HT.out.1.t;omega) (by decide) HS.out).mono ?_
 rintro e w2 ⟨rfl,F⟩
 obtain⟨s,sv,fv,M,H,hmv,_⟩:=F.m
 rw[←HT.out.2]at hmv
 have HB:Hid (Below w.heap.size w w2):=by
  have:=F.s.low
  rw[show (b.box none).lo=V.heap.size from HL.out.1,show (b.box none).w0=V from HL.out.2]at this
  exact bl2 BW this
 have l0:w2.cell? ⟨b.bl,0,none⟩=some (pl b.bm):=by obtain⟨_,l1,l2,_⟩:=F.s.l;exact(l1.cell 0).trans l2.m
 have m20:w2.cell? ⟨b.bm,20,none⟩=some (.int .i64 t):=(M.cell 20).trans (by rw[←hmv];rfl)
 clear F M H hmv
 go_wp2_with fail
 go_ret
 exact⟨rfl,HB.out⟩
def A9e (K:Fk) (pc:Int) (lo:Nat) (v:Value) (W:World):Prop:=∃hi mi mv tk sn g c,v=.agg (foA pc hi mi mv tk sn g c)/\mi=miss K.k K.n/\hi=K.n-miss K.k K.n/\W.ownsRow lo 92 5 (.slice (some ⟨g,0,none⟩) 1 c) 1 rcL
theorem A4q {K:Fk} {T:Nat} (cp pcc:Nat) (pc:Int) (w:World) (hp0:0<=pc) (hp1:pc<=1000) (hT:TOk K T) (HN:Hid (Us K cp pcc w)):Calls prog 20 #[.agg #[.slice (some ⟨cp,0,none⟩) 1 pcc],.agg in0,.int .i64 pc,.int .i64 (T+1:Nat)] w fun e w'=>∃b,e=.returned (pl b.bl)/\Fin b K pc (T+1:Nat) w'/\Below w.heap.size w w':=by
 obtain⟨t,ht⟩:∃t:Nat,t=T+1:=⟨_,rfl⟩
 rw[←ht]
 have HT:Hid (TOk K T/\t=T+1):=⟨hT,ht⟩
 have t0:(0:Int)<=t:=by omega
 have BW:Below w.heap.size w ((w.alloc (.cells #[.slice (some ⟨cp,0,none⟩) 1 pcc] 26)).alloc (.cells in0 30)):=bl2 ((Below.refl _ _).alloc (Nat.le_refl _) _) ((Below.refl _ _).alloc (Nat.le_refl _) _)
 have X:Blk ((w.alloc (.cells #[.slice (some ⟨cp,0,none⟩) 1 pcc] 26)).alloc (.cells in0 30)) w.heap.size #[.slice (some ⟨cp,0,none⟩) 1 pcc] 26:=(Blk.new w _ _).alloc _
 have Y:Blk ((w.alloc (.cells #[.slice (some ⟨cp,0,none⟩) 1 pcc] 26)).alloc (.cells in0 30)) (w.heap.size+1) in0 30:=Blk.nh _ _ (by simp)
 clear hT ht
 go_enter func20,ntmps20
 go_wp2_with fail
 clear X Y
 revert BW
 generalize (w.alloc (.cells #[.slice (some ⟨cp,0,none⟩) 1 pcc] 26)).alloc (.cells in0 30)=V
 intro BW
 refine(HN.out pc V hp0 hp1 BW).mono ?_
 rintro e w1 ⟨b,rfl,S,hlo,hw0⟩
 have HS:Hid (FS0 b K pc 0 w1):=S
 have HL:Hid (b.lo=V.heap.size/\b.w0=V):=⟨hlo,hw0⟩
 clear S hlo hw0
 go_wp2_with fail
 refine(runF (N:=t) HT.out.1.k hp0 HT.out.1.t HT.out.1.e HT.out.1.q (by rw[HT.out.2];exact Nat.le_refl _) (by have:=HT.out.1.t;have:=HT.out.2;omega) HS.out).mono ?_
 rintro e w2 ⟨rfl,F⟩
 rw[←HT.out.2]at F
 have HF:Hid (Fin (b.box none) K pc t w2):=F
 have HB:Hid (Below w.heap.size w w2):=by
  have:=F.s.low
  rw[show (b.box none).lo=V.heap.size from HL.out.1,show (b.box none).w0=V from HL.out.2]at this
  exact bl2 BW this
 clear F
 go_wp2_with fail
 go_ret
 exact⟨b.box none,rfl,HF.out,HB.out⟩
theorem A4o {K:Fk} {T:Nat} (cp pcc:Nat) (pc:Int) (w:World) (hp0:0<=pc) (hp1:pc<=1000) (hT:TOk K T) (HN:Hid (Us K cp pcc w)):Calls prog 7 #[.agg #[.slice (some ⟨cp,0,none⟩) 1 pcc],.agg in0,.int .i64 pc,.int .i64 (T+1:Nat)] w fun e w'=>∃v,e=.returned v/\A9e K pc w.heap.size v w'/\Below w.heap.size w w':=by
 obtain⟨t,ht⟩:∃t:Nat,t=T+1:=⟨_,rfl⟩
 rw[←ht]
 have A1:Below w.heap.size w (w.alloc (.cells #[.slice (some ⟨cp,0,none⟩) 1 pcc] 26)):=(Below.refl _ _).alloc (Nat.le_refl _) _
 have A2:Below w.heap.size w ((w.alloc (.cells #[.slice (some ⟨cp,0,none⟩) 1 pcc] 26)).alloc (.cells in0 30)):=bl2 A1 ((Below.refl _ _).alloc (Nat.le_refl _) _)
 have BW:Below w.heap.size w (((w.alloc (.cells #[.slice (some ⟨cp,0,none⟩) 1 pcc] 26)).alloc (.cells in0 30)).alloc (.cells mzA 42)):=bl2 A2 ((Below.refl _ _).alloc (Nat.le_refl _) _)
 have X:Blk (((w.alloc (.cells #[.slice (some ⟨cp,0,none⟩) 1 pcc] 26)).alloc (.cells in0 30)).alloc (.cells mzA 42)) w.heap.size #[.slice (some ⟨cp,0,none⟩) 1 pcc] 26:=((Blk.new w _ _).alloc _).alloc _
 have Y:Blk (((w.alloc (.cells #[.slice (some ⟨cp,0,none⟩) 1 pcc] 26)).alloc (.cells in0 30)).alloc (.cells mzA 42)) (w.heap.size+1) in0 30:=(Blk.nh _ _ (by simp)).alloc _
 have Z:Blk (((w.alloc (.cells #[.slice (some ⟨cp,0,none⟩) 1 pcc] 26)).alloc (.cells in0 30)).alloc (.cells mzA 42)) (w.heap.size+1+1) mzA 42:=Blk.nh _ _ (by simp)
 have HS:Hid (∀W,Below w.heap.size w W->Calls prog 20 #[.agg #[.slice (some ⟨cp,0,none⟩) 1 pcc],.agg in0,.int .i64 pc,.int .i64 t] W fun e w'=>∃b,e=.returned (pl b.bl)/\Fin b K pc t w'/\Below W.heap.size W w'):=fun W hW=>by rw[ht];exact A4q cp pcc pc W hp0 hp1 hT (HN.out.l hW)
 clear hT ht A1 A2
 go_enter func7,ntmps7
 refine wp_seq_k ?_
 intro K' hK
 have HK:Hid _:=hK
 clear hK
 go_wp2_with fail
 refine HK.out _ _ ?_
 clear HK K'
 revert BW X Y Z
 generalize ((w.alloc (.cells #[.slice (some ⟨cp,0,none⟩) 1 pcc] 26)).alloc (.cells in0 30)).alloc (.cells mzA 42)=V
 intro BW X Y Z
 have x:=X.cell
 have y:=Y.cell
 refine wp_seq_k ?_
 intro K' hK
 have HK:Hid _:=hK
 clear hK
 go_wp2_with fail
 refine(HS.out V BW).mono ?_
 rintro e w1 ⟨b,rfl,F,B1⟩
 have HF:Hid (Fin b K pc t w1):=F
 have l0:w1.cell? ⟨b.bl,0,none⟩=some (pl b.bm):=by obtain⟨_,l1,l2,_⟩:=F.s.l;exact(l1.cell 0).trans l2.m
 clear F x y
 go_wp2_with fail
 refine HK.out _ _ ?_
 clear HK K'
 refine wp_seq_k ?_
 intro K' hK
 have HK:Hid _:=hK
 clear hK
 go_wp2_with fail
 refine HK.out _ _ ?_
 clear HK K'
 refine wp_seq_k ?_
 intro K' hK
 have HK:Hid _:=hK
 clear hK
 refine rgL ?_
 repeat (refine plF rfl ⟨?_,?_,?_⟩;rotate_left;(focus go_simp;with_reducible rfl);try simp only[Act.put,List.setIfInBounds_toArray,List.set_cons_zero,List.set_cons_succ])
 refine wpList_plain rfl fun K' hK=>?_
 have HK4:Hid _:=hK
 clear hK
 go_wp2_with fail
 obtain⟨s,sv,fv,M,H,hmv,hr⟩:=HF.out.m
 have hmi:s.mi=miss K.k K.n:=H.mi.trans (by show miss K.k (K.n+1-1)=_;rw[show K.n+1-1=K.n by omega])
 have hhi:s.hi=K.n-miss K.k K.n:=H.hi.trans (by show (K.n+1-1)-miss K.k (K.n+1-1)=_;rw[show K.n+1-1=K.n by omega])
 obtain⟨h,hc,e,o⟩:=hr.resolve_left (H.r2 (by decide))
 rw[e]at o
 have hlt:=(o.lt h (by simp[Value.ownBlock])).2
 refine(A3r b.bm h hc {mF b pc s (slv sv) fv with over:=.bool true,rc:=.int .i64 0} pc s.hi s.mi s.mv s.tk s.sn sv.1 sv.2.1 sv.2.2 w1 (Ec.ofOwn o) hlt (by have:=M;simp only[e]at this;exact this)).mono ?_
 rintro e w2 ⟨g,c,rfl,O2,B2⟩
 have Z2:=(Z.l B1).l B2
 have BX:Below w.heap.size w w2:=bl2 (bl2 BW B1) B2
 have hgV:=(O2.lt g (by simp[Value.ownBlock])).1
 have hs0:=(Z.l B1).lt
 have hv0:=Z.lt
 have hw1:=(bl2 BW B1).size
 generalize s.mv=mv at *
 generalize s.tk=tk at *
 generalize s.sn=sn at *
 generalize s.hi=hi at *
 generalize s.mi=mi at *
 have HM:Hid (mi=miss K.k K.n/\hi=K.n-miss K.k K.n):=⟨hmi,hhi⟩
 clear M H hr o HF HS hmi hhi hmv
 go_wp2_with fail
 refine HK4.out _ _ ?_
 refine plS rfl ⟨_,Ld (b:=w.heap.size+1+1) (o:=0) (cells:=foA pc hi mi mv tk sn g c) (x:=.tmp 8) (y:=.tmp 22) Z2.there (by kernel_rfl) (by simp[Value.oneCell',foA]) rfl (by simp[Act.eval]) (by simp[Act.eval];try rfl),?_⟩
 refine wpList_nil ?_
 refine HK.out _ _ ?_
 have C2:Chg [w.heap.size+1+1] w2 (w2.setCells (w.heap.size+1+1) 0 (foA pc hi mi mv tk sn g c).toList):=Chg.sets' (L:=[w.heap.size+1+1]) (List.mem_singleton.2 rfl) _ 0 (Chg.refl _ _)
 have HR:=World.rangeAt_setCells_same w2 (w.heap.size+1+1) 0 (foA pc hi mi mv tk sn g c).toList Z2.there
 have HB2:Hid (Below w.heap.size w (w2.setCells (w.heap.size+1+1) 0 (foA pc hi mi mv tk sn g c).toList)):=BX.trans (C2.low (lo:=w.heap.size) BX.size (by simp only[List.mem_singleton];rintro _ rfl;omega))
 have HO2:Hid (World.ownsRow (w2.setCells (w.heap.size+1+1) 0 (foA pc hi mi mv tk sn g c).toList) w.heap.size 92 5 (.slice (some ⟨g,0,none⟩) 1 c) 1 rcL):=Ae (Fg O2 hw1) (fun k hk=>C2.block k (by simp[Value.ownBlock]at hk;subst hk;simp;omega) (O2.lt k hk).2)
 go_wp2_with fail
 exact bodyPost_ret (Ns (b:=w.heap.size+1+1) (cs:=(foA pc hi mi mv tk sn g c).toList) results7 rfl HR underlying42 rfl (by kernel_rfl)) rfl ⟨_,rfl,⟨hi,mi,mv,tk,sn,g,c,rfl,HM.out.1,HM.out.2,HO2.out⟩,HB2.out⟩
end Go.Proofs.YtbefeflgjipfhaaGreatDoor
namespace Go.Proofs.YtbefeflgjipfhaaGreatDoor
open Go.Deep Go.Proofs.Tryz Go.RowKit
def QkF (K:Fk) (W:World) (g:Nat):Prop:=∃qi ic A A2,Blk W g A 166/\A[0]?=some (.slice (some ⟨qi,0,none⟩) (nq K) ic)/\Blk W qi A2 161/\∀x,Lq K x=true->∀j,j<7->A2[pos K x*7+j]?=(Ng K x)[j]?
theorem QkF.l {K:Fk} {g:Nat} {W W':World} (h:QkF K W g) (hb:Below W.heap.size W W'):QkF K W' g:=
 let ⟨qi,ic,A,A2,h1,h2,h3,h4⟩:=h
 ⟨qi,ic,A,A2,h1.l hb,h2,h3.l hb,h4⟩
theorem Aa1 (m p q a b:Value) (t d c:Int):LF (lmL m p q a b t d c).toArray:=⟨⟨rfl,rfl⟩,⟨rfl,rfl⟩,⟨rfl,rfl⟩,⟨rfl,rfl⟩,⟨rfl,rfl⟩,⟨rfl,rfl⟩,⟨rfl,rfl⟩,⟨rfl,rfl⟩,⟨rfl,rfl⟩,⟨rfl,rfl⟩,⟨rfl,rfl⟩,⟨rfl,rfl⟩,⟨rfl,rfl⟩,⟨rfl,rfl⟩,⟨rfl,rfl⟩,⟨rfl,rfl⟩,rfl,rfl⟩
theorem Aa7 (K:Fk) (cp ck ci pcc kn kc ic:Nat) (nm:ByteArray) (ln:Int) (u0 n0:Option Addr) (u1 u2 n1 n2:Nat) (ka ia:Array Value) (w:World)
  (PB:Blk w cp (pr6 nm ln 14 (.slice u0 u1 u2) (.slice (some ⟨ck,0,none⟩) kn kc) (.slice (some ⟨ci,0,none⟩) (nq K) ic) (.slice n0 n1 n2)) 63)
  (KB:Blk w ck ka 52) (hka:∀e∈kF K,e.1<kn/\∀j,j<5->ka[e.1*5+j]?=e.2[j]?)
  (IB:Blk w ci ia 58) (hia:∀x,(x=12∨x=14∨x=23∨x=28)->∀j,j<5->ia[pos K x*5+j]?=(A6g x)[j]?)
  (HI:Hid (∀W,Below w.heap.size w W->Calls prog 31 #[.agg in0] W fun e w'=>e=.returned (.bool true)/\Below W.heap.size W w'))
  (HP:Hid (∀W,Below w.heap.size w W->Calls prog 32 #[.agg #[.slice (some ⟨cp,0,none⟩) 1 pcc]] W fun e w'=>∃g q:Nat,e=.returned (.agg #[.slice (some ⟨g,0,none⟩) 1 1,.int .i64 q])/\q=1/\QkF K w' g/\Below W.heap.size W w')) :
  Us K cp pcc w:=by
 intro pc W hp0 hp1 hW
 have PW:=PB.l hW
 refine(A66 cp pcc 14 rfl nm ln u0 (some ⟨ck,0,none⟩) (some ⟨ci,0,none⟩) n0 u1 u2 kn kc (nq K) ic n1 n2 pc (QkF K) W hp0 hp1 (fun i _=>PW.cell i) (fun _ _ _ h hb=>h.l hb) (fun W1 h1=>HI.out W1 (bl2 hW h1)) (fun W1 h1=>HP.out W1 (bl2 hW h1))).mono ?_
 rintro e w' ⟨bl,bm,bts,bt,bf,bc,br,g,rfl,N,L⟩
 obtain⟨qi,qic,A,A2,q1,q2,q3,q4⟩:=N.q
 obtain⟨bk,hm,hbk,hK⟩:=N.m
 have PF:=PW.l N.b
 have KF:=KB.l (bl2 hW N.b)
 have IF:=IB.l (bl2 hW N.b)
 exact⟨⟨bl,bm,bts,bt,bf,bc,br,g,qi,cp,ck,ci,bk,pcc,kn,kc,ic,W.heap.size,W,none⟩,rfl,⟨⟨⟨_,L,Aa2 bm cp g pcc,Aa1 _ _ _ _ _ _ _ _⟩,⟨A,q1,qic,q2⟩,⟨A2,q3,q4⟩,⟨_,PF,rfl,rfl,0,rfl⟩,⟨ia,IF,hia⟩,⟨ka,KF,hka⟩,N.ts,N.f,N.b,⟨N.ge.2.2.2,N.ge.2.2.1,N.ge.2.1,N.ge.1,hbk⟩,fun _ h=>nomatch h⟩,N.c,N.r,N.t,hm,hK⟩,rfl,rfl⟩
end Go.Proofs.YtbefeflgjipfhaaGreatDoor
namespace Go.Proofs.YtbefeflgjipfhaaGreatDoor
open Go.Deep Go.Proofs.Tryz Go.RowKit
attribute [local go_sem] A7 vi
theorem eltVa:Elt 35 52 (.agg #[.int .i64 0,.int .i64 0,.float .f64 0,.string ByteArray.empty,.int .i64 0]) 5 48:=⟨underlying35,by kernel_rfl,rfl,by decide⟩
theorem eltIn:Elt 60 58 (.agg #[.int .i64 0,.int .i64 0,.int .i64 0,.int .i64 0,.int .i64 0]) 5 40:=⟨underlying60,by kernel_rfl,rfl,by decide⟩
structure I5 where
 (o a b c d:Int)
abbrev I5.vals (x:I5):List Value:=[.int .i64 x.o,.int .i64 x.a,.int .i64 x.b,.int .i64 x.c,.int .i64 x.d]
structure KV where
 (a b:Int)
 d:ByteArray
abbrev kvv (x:KV):Array Value:=va x.a x.b 0 x.d 0
abbrev kvs (ks:List KV):List Value:=ks.flatMap fun x=>(kvv x).toList
abbrev ivs (ns:List I5):List Value:=ns.flatMap I5.vals
abbrev pnA (r:Nat) (kv qv tv:Value):Array Value:=#[.string ⟨#[109,97,105,110]⟩,.int .i64 0,.int .i64 0,.bool false,.int .i64 r,.slice none 0 0,kv,qv,.slice none 0 0,tv,.int .i64 0,.int .i64 0]
structure Dm (w:World) (lo bp r:Nat) (ks:List KV) (ns:List I5):Prop where
 v:∃kv qv tv,Blk w bp (pnA r kv qv tv) 66/\w.ownsRow lo 52 5 kv ks.length (kvs ks)/\w.ownsRow lo 58 5 qv ns.length (ivs ns)
 lb:lo<=bp
theorem Dm.l {w w':World} {lo bp r:Nat} {ks:List KV} {ns:List I5} (h:Dm w lo bp r ks ns) (hb:Below w.heap.size w w'):Dm w' lo bp r ks ns:=
 let ⟨kv,qv,tv,h1,h2,h3⟩:=h.v
 ⟨⟨kv,qv,tv,h1.l hb,Ab h2 hb,Ab h3 hb⟩,h.lb⟩
theorem A6d {w:World} {lo e s n:Nat} {v:Value} {xs:List Value} (h:w.ownsRow lo e s v n xs) {k:Nat} (hk:v.ownBlock=some k):∃(c:Array Value) (f:Nat×Nat),w.heap[k]?=some (Obj.cells c e f):=by
 rcases Bz h with ⟨rfl,_,_⟩|⟨g',c,rfl,_,⟨d,hd,_⟩,_,_⟩
 ·simp[Value.ownBlock]at hk
 ·simp[Value.ownBlock]at hk
  subst hk
  exact⟨d,_,hd⟩
theorem Ka {w:World} {l1 l2 e1 e2 s1 s2 n1 n2:Nat} {v1 v2:Value} {xs ys:List Value} (h:w.ownsRow l1 e1 s1 v1 n1 xs) (g:w.ownsRow l2 e2 s2 v2 n2 ys) (ht:e1≠e2) {k:Nat} (hk:v1.ownBlock=some k):k∉v2.ownBlock.toList:=fun hm=>by
 obtain⟨c,f,h1⟩:=A6d h hk
 obtain⟨c',f',h2⟩:=A6d g (k:=k) (by simpa using hm)
 have e:=h1.symm.trans h2
 injection e with e
 injection e with _ e
 exact ht e
theorem D9 (x:Int) (w:World):Calls prog 14 #[.int .i64 x] w fun e w'=>e=.returned (.agg (vi x))/\Below w.heap.size w w':=by
 go_enter func14,ntmps14
 go_wp2_with fail
 exact bodyPost_ret (v:=.agg (vi x)) (by simp[results,results14,go_sem];rfl) rfl ⟨rfl,(Below.refl _ _).alloc (Nat.le_refl _) _⟩
theorem Am (bp lo r:Nat) (ks:List KV) (ns:List I5) (o a b c d:Int) (w:World) (hn:ns.length<=100) (N:Dm w lo bp r ks ns):Calls prog 13 #[pl bp,.int .i64 o,.int .i64 a,.int .i64 b,.int .i64 c,.int .i64 d] w fun e w'=>e=.returned (.int .i64 ns.length)/\Dm w' lo bp r ks (ns++[⟨o,a,b,c,d⟩])/\Below lo w w':=by
 obtain⟨⟨kv,qv,tv,hB,hK,hR⟩,hlb⟩:=N
 obtain⟨so,sc,rfl⟩:=Af hR
 obtain⟨L,hL⟩:∃L,L=ns.length:=⟨_,rfl⟩
 rw[←hL]at hn hR hB ⊢
 have hlo:lo<=w.heap.size:=Nat.le_trans hlb (Nat.le_of_lt hB.lt)
 have HK:Hid (w.ownsRow lo 52 5 kv ks.length (kvs ks)):=hK
 have HR:Hid (w.ownsRow lo 58 5 (.slice so L sc) L (ivs ns)):=hR
 have HL:Hid (L=ns.length):=hL
 have HB:Hid (Blk w bp (pnA r kv (.slice so L sc) tv) 66):=hB
 have x:=hB.cell
 clear hK hR hL hB
 go_enter func13,ntmps13
 go_wp2_with (at_builtin;refine Jy eltIn rfl _ _ rfl lo _ L _ (I5.vals ⟨o,a,b,c,d⟩) w.heap.size rfl (Ab HR.out ((Below.refl _ _).alloc (Nat.le_refl _) _)) rfl ?qc0 rfl ?qc1 ?qc2 (by decide) ?qc3 ?_)
 case qc0=>exact fun k v hv=>by rw[Nat.zero_add,(Blk.new w (I5.vals ⟨o,a,b,c,d⟩).toArray 58).cell];simpa using hv
 case qc1=>simp[Value.oneCell']
 case qc2=>omega
 case qc3=>simp;omega
 intro v' w3 ho3 hg3 h5
 obtain⟨so',sc',rfl⟩:=Af ho3
 have A0:Below w.heap.size w (w.alloc (.cells (I5.vals ⟨o,a,b,c,d⟩).toArray 58)):=(Below.refl _ _).alloc (Nat.le_refl _) _
 have R1:=Ab HR.out A0
 have K1:=Ab HK.out A0
 have gC:Chg (Value.slice so L sc).ownBlock.toList (w.alloc (.cells (I5.vals ⟨o,a,b,c,d⟩).toArray 58)) w3:=Chg.grown hg3 (fun k hk=>by rw[hk];simp)
 have B3:=(HB.out.alloc (.cells (I5.vals ⟨o,a,b,c,d⟩).toArray 58)).chg gC (Dh R1 (HB.out.alloc _) (by decide))
 have K3:=Ae K1 (fun k hk=>gC.block k (Ka K1 R1 (by decide) hk) (K1.lt k hk).2)
 have hb3:Below lo w w3:=(A0.mono hlo).trans (gC.low (by simp;omega) (fun q hq=>(R1.lt q (by simpa using hq)).1))
 have C4:Chg [bp] w3 (w3.setCell ⟨bp,7,none⟩ (.slice so' (L+1) sc')):=(Chg.refl _ _).set (by simp) _ _
 have B4:=B3.set 7 (.slice so' (L+1) sc')
 have K4:=Ae K3 (fun k hk=>C4.block k (by intro e;simp at e;subst e;exact Dh K3 B3 (by decide) (by simp[hk])) (K3.lt k hk).2)
 have Q4:=Ae ho3 (fun k hk=>C4.block k (by intro e;simp at e;subst e;exact Dh ho3 B3 (by decide) (by simp[hk])) (ho3.lt k hk).2)
 have hF:Dm (w3.setCell ⟨bp,7,none⟩ (.slice so' (L+1) sc')) lo bp r ks (ns++[⟨o,a,b,c,d⟩])/\Below lo w (w3.setCell ⟨bp,7,none⟩ (.slice so' (L+1) sc')):=by
  refine⟨⟨⟨kv,.slice so' (L+1) sc',tv,B4,K4,?_⟩,hlb⟩,hb3.setCell (p:=⟨bp,7,none⟩) hlb _⟩
  rw[HL.out]at Q4 ⊢
  simpa[ivs]using Q4
 have HF:Hid (Dm (w3.setCell ⟨bp,7,none⟩ (.slice so' (L+1) sc')) lo bp r ks (ns++[⟨o,a,b,c,d⟩])/\Below lo w (w3.setCell ⟨bp,7,none⟩ (.slice so' (L+1) sc'))):=hF
 have x3:=B3.cell
 have f3:=B3.frozen
 have x4:=B4.cell
 have ew:IntKind.i64.wrap (((L+1:Nat):Int)-1)=L:=by rw[wq (by omega) (by omega)];omega
 have ew2:IntKind.i64.wrap ((L:Int)+1-1)=L:=by rw[wq (by omega) (by omega)];omega
 clear hF B4 K4 Q4 C4 hb3 K3 B3 gC K1 R1 hg3 ho3 h5 x
 go_wp2_with fail
 go_ret
 exact⟨rfl,HF.out⟩
theorem A2n (bp lo r:Nat) (ks:List KV) (ns:List I5) (w:World) (N:Dm w lo bp r ks ns):Calls prog 15 #[pl bp] w fun e w'=>e=.returned (.int .i64 ns.length)/\w'=w:=by
 obtain⟨⟨kv,qv,tv,hB,hK,hR⟩,hlb⟩:=N
 obtain⟨so,sc,rfl⟩:=Af hR
 have x:=hB.cell
 clear hR hK
 generalize ns.length=L at *
 go_enter func15,ntmps15
 go_wp2_with fail
 go_ret
 exact⟨rfl,rfl⟩
theorem A2o (bp lo r:Nat) (ks:List KV) (ns:List I5) (w:World) (hn:ns.length<=90) (N:Dm w lo bp r ks ns):Calls prog 17 #[pl bp,.int .i64 8] w fun e w'=>e=.returned (.tuple #[])/\Dm w' lo bp r ks (ns++[⟨22,8,0,0,0⟩]++[⟨29,-9,0,0,0⟩])/\Below lo w w':=by
 have HN:Hid (Dm w lo bp r ks ns):=N
 clear N
 go_enter func17,ntmps17
 go_wp2_with fail
 refine(Am bp lo r ks ns 22 8 0 0 0 w (by omega) HN.out).mono ?_
 rintro e w1 ⟨rfl,N1,B1⟩
 have HN1:Hid (Dm w1 lo bp r ks (ns++[⟨22,8,0,0,0⟩])):=N1
 clear N1
 go_wp2_with fail
 refine(Am bp lo r ks (ns++[⟨22,8,0,0,0⟩]) 29 (-9) 0 0 0 w1 (by simp;omega) HN1.out).mono ?_
 rintro e w2 ⟨rfl,N2,B2⟩
 go_wp2_with fail
 go_end0
 exact⟨rfl,N2,B1.trans B2⟩
theorem pen0 (r:Nat) (h6:r=14) (w:World):Calls prog 10 #[.int .i64 r] w fun e w'=>∃bp,e=.returned (pl bp)/\Dm w' w.heap.size bp 14 [] []/\Below w.heap.size w w':=by
 have H6:Hid (r=14):=h6
 have hs:r<=14:=by omega
 clear h6
 have hmk:=fun W=>Ca (P:=prog) 64 3 _ 1 8 underlying64 Tryz.info_int .i64 .i64 r (by omega) (by omega) W
 go_enter func10,ntmps10
 go_wp2_with fail
 obtain rfl:=H6.out
 go_ret
 exact⟨w.heap.size+1,rfl,⟨⟨.slice none 0 0,.slice none 0 0,_,Blk.nh _ _ (by simp),World.ownsRow_nil _ _ _ _,World.ownsRow_nil _ _ _ _⟩,by omega⟩,bl2 ((Below.refl _ _).alloc (Nat.le_refl _) _) ((Below.refl _ _).alloc (Nat.le_refl _) _)⟩
theorem A2i {ks:List KV} {k:Nat} {y:KV} (h:ks[k]?=some y):(kvs ks)[k*5]?=some (.int .i64 y.a)/\(kvs ks)[k*5+1]?=some (.int .i64 y.b)/\(kvs ks)[k*5+2]?=some (.float .f64 0)/\(kvs ks)[k*5+3]?=some (.string y.d)/\(kvs ks)[k*5+4]?=some (.int .i64 0):=by
 induction ks generalizing k with
 | nil=>simp at h
 | cons a t ih=>
  cases k with
  | zero=>simp at h;subst h;exact⟨rfl,rfl,rfl,rfl,rfl⟩
  | succ k=>
   have:=ih (k:=k) (by simpa using h)
   have e:∀j,(kvs (a::t))[(k+1)*5+j]?=(kvs t)[k*5+j]?:=fun j=>by
    rw[show (k+1)*5+j=k*5+j+1+1+1+1+1 by omega]
    rfl
   exact⟨(e 0).trans this.1,(e 1).trans this.2.1,(e 2).trans this.2.2.1,(e 3).trans this.2.2.2.1,(e 4).trans this.2.2.2.2⟩
abbrev Df (y x:KV):Prop:=y.a≠x.a∨y.a=x.a/\y.b≠x.b
theorem Eg (bp lo r:Nat) (ks:List KV) (ns:List I5) (x:KV) (w:World) (hn:ks.length<=20) (hx:∀y∈ks,Df y x) (N:Dm w lo bp r ks ns):Calls prog 11 #[pl bp,.agg (kvv x)] w fun e w'=>e=.returned (.int .i64 ks.length)/\Dm w' lo bp r (ks++[x]) ns/\Below lo w w':=by
 obtain⟨⟨kv,qv,tv,hB,hK,hR⟩,hlb⟩:=N
 obtain⟨so,sc,rfl⟩:=Af hK
 obtain⟨L,hL⟩:∃L,L=ks.length:=⟨_,rfl⟩
 rw[←hL]at hn hK hB ⊢
 have hlo:lo<=w.heap.size:=Nat.le_trans hlb (Nat.le_of_lt hB.lt)
 have HK:Hid (w.ownsRow lo 52 5 (.slice so L sc) L (kvs ks)):=hK
 have HR:Hid (w.ownsRow lo 58 5 qv ns.length (ivs ns)):=hR
 have HL:Hid (L=ks.length):=hL
 have HX:Hid (∀y∈ks,Df y x):=hx
 have HB:Hid (Blk w bp (pnA r (.slice so L sc) qv tv) 66):=hB
 have A0:Below w.heap.size w (w.alloc (.cells (kvv x) 52)):=(Below.refl _ _).alloc (Nat.le_refl _) _
 have b1:=(hB.l A0).cell
 clear hK hR hL hB hx
 go_enter func11,ntmps11
 go_wp2_with fail
 go_loopw [13] (fun i wr=>∃k:Nat,k<=L/\i=.int .i64 k/\Hid (Below (w.heap.size+1) (w.alloc (.cells (kvv x) 52)) wr)) (fun i _=>L-(intOf i).toNat)
 case atStart=>exact⟨0,Nat.zero_le _,rfl,Below.refl _ _⟩
 case round=>
  obtain⟨k,hk,rfl,hb⟩:=hrel
  have X:=(Blk.new w (kvv x) 52).l (by simpa using hb.out)
  have xc:=X.cell
  by_cases hlt:k<L
  ·obtain⟨y,hy⟩:∃y,ks[k]?=some y:=⟨_,List.getElem?_eq_getElem (HL.out▸hlt)⟩
   have Hy:Hid (Df y x):=HX.out y (List.mem_of_getElem? hy)
   obtain⟨h0,h1,h2,h3,h4⟩:=A2i hy
   have K1:=Ab (Ab HK.out A0) (by simpa using hb.out)
   rcases Aj K1 with ⟨_,h⟩|⟨g,sc',hs,hr⟩
   ·omega
   injection hs with hs _ hs'
   subst hs hs'
   have c0:=Ai K1 h0
   have c1:=Ai K1 h1
   have c2:=Ai K1 h2
   have c3:=Ai K1 h3
   have c4:=Ai K1 h4
   have xa:=fun o=>(X.alloc o).cell
   clear K1 h0 h1 h2 h3 h4 hy
   rcases Hy.out with hne|⟨heq,hne⟩
   ·go_wp2_with fail
    go_roundw
    case rel=>exact⟨k+1,by omega,by go_num,hb.out.alloc (by have:=hb.out.size;simpa using this) _⟩
    case measure=>simp[intOf];omega
   ·go_wp2_with fail
    go_roundw
    case rel=>exact⟨k+1,by omega,by go_num,hb.out.alloc (by have:=hb.out.size;simpa using this) _⟩
    case measure=>simp[intOf];omega
  ·obtain⟨W0,hW0⟩:∃z,z=wr.drew:=⟨_,rfl⟩
   have BG:Below w.heap.size w W0:=hW0▸(bl2 A0 (by simpa using hb.out)).drew
   have Z:Blk W0 w.heap.size (kvv x) 52:=hW0▸X
   have Y:Blk W0 bp (pnA r (.slice so L sc) qv tv) 66:=HB.out.l BG
   have R0:=Ab HK.out BG
   have Q0:=Ab HR.out BG
   go_wp2_with fail
   have zs:=X.cell
   refine rgM (fun W=>(∀o,W.cell? ⟨w.heap.size,o,none⟩=(kvv x)[o]?)) zs (fun hS=>?_)
   iterate 5 (refine tkM rfl (by kernel_rfl) (by rfl) hS ⟨?_,fun W hW=>?_,?_⟩;rotate_left;(focus (go_simp;with_reducible rfl));try simp only[Act.put,List.setIfInBounds_toArray])
   refine He [6,5,7,8,9,10,11,12] (by kernel_rfl) ?_
   refine tkM rfl (by kernel_rfl) (by rfl) hS ⟨?_,fun W hW=>?_,?_⟩
   rotate_left
   ·go_simp
    with_reducible rfl
   try simp only[Act.put]
   rw[←hW0]at hS ⊢
   clear hW0 zs
   have hbn:w.heap.size≠bp:=Aa Z Y (by decide)
   have hs0:lo<=W0.heap.size:=Nat.le_trans hlo BG.size
   have hown:w.heap.size∉(Value.slice so L sc).ownBlock.toList:=fun hm=>Nat.lt_irrefl _ (HK.out.lt _ (by simpa using hm)).2
   have ys:=Y.cell
   have ya:=fun o=>(Y.alloc o).cell
   refine Sn rfl rfl (by kernel_rfl) (by rfl) (by rfl) (fun K2 hK2=>?a1) (fun K2 hK2=>?b1)
   case' a1=>
    go_wp2_with fail;refine hK2.out _ _ hS (fun _=>?_);clear hK2 K2
    refine doM rfl (by kernel_rfl) (by rfl) (fun K2 hK2=>?_)
    go_wp2_with fail;refine hK2.out _ _ (Z.alloc _).cell (fun hS=>?_);clear hK2 K2
   case' b1=>
    go_wp2_with fail;refine hK2.out _ _ (Z.alloc _).cell (fun hS=>?_);clear hK2 K2
    refine doM rfl (by kernel_rfl) (by rfl) (fun K2 hK2=>?_)
    go_wp2_with fail;refine hK2.out _ _ (Z.alloc _).cell (fun hS=>?_);clear hK2 K2
   all_goals
    refine doM rfl (by kernel_rfl) (by rfl) (fun K2 hK2=>?_)
    have Z1:=Z.alloc (.cells (kvv x) 52)
    have Y1:=Y.alloc (.cells (kvv x) 52)
    have A1:Below W0.heap.size W0 (W0.alloc (.cells (kvv x) 52)):=(Below.refl _ _).alloc (Nat.le_refl _) _
    have R1:=Ab R0 A1
    have Q1:=Ab Q0 A1
    refine Zk eltVa (.tmp 28) (.tmp 30) rfl lo (.slice so L sc) L (kvs ks) (kvv x).toList W0.heap.size (by simp[Act.eval]) R1 (by simp[Act.eval]) (fun k v hv=>by rw[Nat.zero_add,(Blk.new W0 (kvv x) 52).cell];simpa using hv) rfl (by simp[Value.oneCell']) (by omega) (by decide) (Nat.le_trans hs0 A1.size) ?_
    intro v' w3 ho3 hg3 h5
    obtain⟨so',sc',rfl⟩:=Af ho3
    have gC:Chg (Value.slice so L sc).ownBlock.toList (W0.alloc (.cells (kvv x) 52)) w3:=Chg.grown hg3 (fun k hk=>by rw[hk];simp)
    have Z3:=Z1.chg gC hown
    have Y3:=Y1.chg gC (Dh R1 Y1 (by decide))
    have Q3:=Ae Q1 (fun k hk=>gC.block k (Ka Q1 R1 (by decide) hk) (Q1.lt k hk).2)
    refine hK2.out _ _ Z3.cell (fun hS=>?_)
    clear hK2 K2
    iterate 3 (refine tkM rfl (by kernel_rfl) (by rfl) hS ⟨?_,fun W hW=>?_,?_⟩;rotate_left;(focus (go_simp;with_reducible rfl));try simp only[Act.put,List.setIfInBounds_toArray])
    refine doM rfl (by kernel_rfl) (by rfl) (fun K2 hK2=>?_)
    have y3:=Y3.cell
    have f3:=Y3.frozen
    have C4:Chg [bp] w3 (w3.setCell ⟨bp,6,none⟩ (.slice so' (L+1) sc')):=(Chg.refl _ _).set (by simp) _ _
    have Y4:=Y3.set 6 (.slice so' (L+1) sc')
    have K4:=Ae ho3 (fun k hk=>C4.block k (by intro e;simp at e;subst e;exact Dh ho3 Y3 (by decide) (by simp[hk])) (ho3.lt k hk).2)
    have Q4:=Ae Q3 (fun k hk=>C4.block k (by intro e;simp at e;subst e;exact Dh Q3 Y3 (by decide) (by simp[hk])) (Q3.lt k hk).2)
    have hF:Dm (w3.setCell ⟨bp,6,none⟩ (.slice so' (L+1) sc')) lo bp r (ks++[x]) ns/\Below lo w (w3.setCell ⟨bp,6,none⟩ (.slice so' (L+1) sc')):=by
     refine⟨⟨⟨.slice so' (L+1) sc',qv,tv,Y4,?_,Q4⟩,hlb⟩,blo (blo ((BG.mono hlo).trans (A1.mono hs0)) gC (Wz R1) hlo) C4 (by simpa using hlb) hlo⟩
     rw[HL.out]at K4 ⊢
     simpa[kvs]using K4
    have HF:Hid (Dm (w3.setCell ⟨bp,6,none⟩ (.slice so' (L+1) sc')) lo bp r (ks++[x]) ns/\Below lo w (w3.setCell ⟨bp,6,none⟩ (.slice so' (L+1) sc'))):=hF
    have y4:=Y4.cell
    have Z4:=(Z3.chg C4 (by simpa using hbn)).cell
    have ew:IntKind.i64.wrap (((L+1:Nat):Int)-1)=L:=by rw[wq (by omega) (by omega)];omega
    have ew2:IntKind.i64.wrap ((L:Int)+1-1)=L:=by rw[wq (by omega) (by omega)];omega
    clear hF
    go_wp2_with fail
    refine hK2.out _ _ Z4 (fun _=>enM (by kernel_rfl) (NoPanic.normal ?_))
    clear hK2 K2
    go_wp2_with fail
    go_ret
    exact⟨rfl,HF.out⟩
@[local go_sem] theorem run_eqf0 (w:World):(Op.equalIn 9999 50 (.float .f64 0) (.float .f64 0)).run prog w=.ok true w:=by kernel_rfl
theorem Jz (bp lo r p:Nat) (ks:List KV) (ns:List I5) (x:KV) (w:World) (hn:ks.length<=20) (hx:ks[p]?=some x) (hd:∀j y,j<p->ks[j]?=some y->Df y x) (N:Dm w lo bp r ks ns):Calls prog 11 #[pl bp,.agg (kvv x)] w fun e w'=>e=.returned (.int .i64 p)/\Dm w' lo bp r ks ns/\Below lo w w':=by
 have HN:Hid (Dm w lo bp r ks ns):=N
 obtain⟨⟨kv,qv,tv,hB,hK,hR⟩,hlb⟩:=N
 obtain⟨L,hL⟩:∃L,L=ks.length:=⟨_,rfl⟩
 have hl:p<L:=by rw[hL];exact(List.getElem?_eq_some_iff.1 hx).1
 rw[←hL]at hn hK
 have hlo:lo<=w.heap.size:=Nat.le_trans hlb (Nat.le_of_lt hB.lt)
 rcases Aj hK with ⟨_,h⟩|⟨g,sc,rfl,hr⟩
 ·omega
 have HK:Hid (w.ownsRow lo 52 5 (.slice (some ⟨g,0,none⟩) L sc) L (kvs ks)):=hK
 have HX:Hid (ks[p]?=some x/\∀j y,j<p->ks[j]?=some y->Df y x):=⟨hx,hd⟩
 have HL:Hid (L=ks.length):=hL
 have A0:Below w.heap.size w (w.alloc (.cells (kvv x) 52)):=(Below.refl _ _).alloc (Nat.le_refl _) _
 have b1:=(hB.l A0).cell
 clear hK hR hB hL hx hd
 go_enter func11,ntmps11
 go_wp2_with fail
 go_loopw [13] (fun i wr=>∃k:Nat,k<=p/\i=.int .i64 k/\Hid (Below (w.heap.size+1) (w.alloc (.cells (kvv x) 52)) wr)) (fun i _=>L-(intOf i).toNat)
 case atStart=>exact⟨0,Nat.zero_le _,rfl,Below.refl _ _⟩
 case round=>
  obtain⟨k,hk,rfl,hb⟩:=hrel
  have X:=(Blk.new w (kvv x) 52).l (by simpa using hb.out)
  have xc:=X.cell
  have hkL:(k:Int)<L:=by omega
  have hkL':k<L:=by omega
  obtain⟨y,hy⟩:∃y,ks[k]?=some y:=⟨_,List.getElem?_eq_getElem (HL.out▸hkL')⟩
  obtain⟨h0,h1,h2,h3,h4⟩:=A2i hy
  have K1:=Ab (Ab HK.out A0) (by simpa using hb.out)
  have c0:=Ai K1 h0
  have c1:=Ai K1 h1
  have c2:=Ai K1 h2
  have c3:=Ai K1 h3
  have c4:=Ai K1 h4
  have xa:=fun o=>(X.alloc o).cell
  by_cases hkp:k=p
  ·have hyx:y=x:=Option.some.inj (hy.symm.trans (hkp▸HX.out.1))
   subst hyx
   have HA:Hid (Below w.heap.size w (wr.alloc (.cells (kvv y) 52))):=(show Below w.heap.size w _ from bl2 (bl2 A0 (by simpa using hb.out)) ((Below.refl _ _).alloc (Nat.le_refl _) _))
   have HP:Hid (k=p):=hkp
   clear K1 h0 h1 h2 h3 h4 hy hkp
   go_wp2_with fail
   go_ret
   exact⟨by rw[HP.out];rfl,HN.out.l HA.out,HA.out.mono hlo⟩
  ·have Hy:Hid (Df y x):=HX.out.2 k y (by omega) hy
   clear K1 h0 h1 h2 h3 h4 hy
   rcases Hy.out with hne|⟨heq,hne⟩
   ·go_wp2_with fail
    go_roundw
    case rel=>exact⟨k+1,by omega,by go_num,hb.out.alloc (by have:=hb.out.size;simpa using this) _⟩
    case measure=>simp[intOf];omega
   ·go_wp2_with fail
    go_roundw
    case rel=>exact⟨k+1,by omega,by go_num,hb.out.alloc (by have:=hb.out.size;simpa using this) _⟩
    case measure=>simp[intOf];omega
abbrev kA:KV:=⟨4,0,sA⟩
abbrev kZ:KV:=⟨0,0,ByteArray.empty⟩
abbrev kB:KV:=⟨8,0,ByteArray.empty⟩
abbrev kI (x:Int):KV:=⟨2,x,ByteArray.empty⟩
abbrev k7:KV:=kI 7
abbrev k1:KV:=kI 1
def dfb (x y:KV):Bool:=decide (y.a=x.a)&&decide (y.b=x.b)
def kIx (ks:List KV) (x:KV):Nat:=match ks.findIdx? (dfb x) with|some p=>p|none=>ks.length
def Fh (ks:List KV) (x:KV):List KV:=match ks.findIdx? (dfb x) with|some _=>ks|none=>ks++[x]
abbrev ks4:List KV:=[kA,k7,kZ,k1]
abbrev ks5 (n:Int):List KV:=Fh ks4 (kI n)
abbrev ks6 (n k:Int):List KV:=Fh (ks5 n) (kI k)
abbrev ks7 (n k:Int):List KV:=Fh (ks6 n k) (kI 0)
abbrev ks8 (n k:Int):List KV:=Fh (ks7 n k) kB
def S9 (ks:List KV):Prop:=∀y∈ks,y.a≠4->y.d=ByteArray.empty
theorem Fy (ks:List KV) (x:KV):(∃p,ks.findIdx? (dfb x)=some p/\Fh ks x=ks/\kIx ks x=p)∨(ks.findIdx? (dfb x)=none/\Fh ks x=ks++[x]/\kIx ks x=ks.length):=by
 unfold Fh kIx
 cases h:ks.findIdx? (dfb x) with
 | none=>exact .inr ⟨rfl,rfl,rfl⟩
 | some p=>exact .inl ⟨p,rfl,rfl,rfl⟩
theorem lenA (ks:List KV) (x:KV):ks.length<=(Fh ks x).length/\(Fh ks x).length<=ks.length+1:=by
 rcases Fy ks x with ⟨p,_,e,_⟩|⟨_,e,_⟩<;>rw[e]<;>simp
theorem atA {ks:List KV} (x:KV) {j:Nat} (h:j<ks.length):(Fh ks x)[j]?=ks[j]?:=by
 rcases Fy ks x with ⟨p,_,e,_⟩|⟨_,e,_⟩<;>rw[e]
 rw[List.getElem?_append_left h]
theorem A5n {ks:List KV} {x:KV} (h:S9 ks) (hx:x.d=ByteArray.empty):S9 (Fh ks x):=by
 rcases Fy ks x with ⟨p,_,e,_⟩|⟨_,e,_⟩<;>rw[e]
 ·exact h
 ·intro y hy
  rcases List.mem_append.1 hy with hy|hy
  ·exact h y hy
  ·obtain rfl:=List.mem_singleton.1 hy;exact fun _=>hx
theorem A2d:S9 ks4:=by
 intro y hy
 simp only[List.mem_cons,List.not_mem_nil,or_false]at hy
 rcases hy with rfl|rfl|rfl|rfl
 ·exact fun h=>absurd rfl h
 ·exact fun _=>rfl
 ·exact fun _=>rfl
 ·exact fun _=>rfl
section
variable (n k:Int)
theorem A2e:S9 (ks5 n):=A5n A2d rfl
theorem A2f:S9 (ks6 n k):=A5n (A2e n) rfl
theorem A5m:S9 (ks7 n k):=A5n (A2f n k) rfl
theorem l5:4<=(ks5 n).length/\(ks5 n).length<=5:=lenA ks4 (kI n)
theorem len5:(ks5 n).length<=20:=by have:=l5 n;omega
theorem l6:4<=(ks6 n k).length/\(ks6 n k).length<=6:=by have h:(ks5 n).length<=(ks6 n k).length/\(ks6 n k).length<=(ks5 n).length+1:=lenA (ks5 n) (kI k);have:=l5 n;omega
theorem l7:4<=(ks7 n k).length/\(ks7 n k).length<=7:=by have h:(ks6 n k).length<=(ks7 n k).length/\(ks7 n k).length<=(ks6 n k).length+1:=lenA (ks6 n k) (kI 0);have:=l6 n k;omega
theorem len6:(ks6 n k).length<=20:=by have:=l6 n k;omega
theorem len7:(ks7 n k).length<=20:=by have:=l7 n k;omega
theorem at7 {j:Nat} (h:j<4):(ks7 n k)[j]?=ks4[j]?:=by
 rw[atA (kI 0) (by have:=l6 n k;omega),atA (kI k) (by have:=l5 n;omega),atA (kI n) (by simpa using h)]
theorem old4:(ks5 n)[3]?=some k1/\∀j y,j<3->(ks5 n)[j]?=some y->Df y k1:=by
 refine⟨atA (kI n) (by decide),fun j y hj hy=>?_⟩
 rw[atA (kI n) (by simp;omega)]at hy
 match j,hj with
 | 0,_=>obtain rfl:=Option.some.inj hy;decide
 | 1,_=>obtain rfl:=Option.some.inj hy;decide
 | 2,_=>obtain rfl:=Option.some.inj hy;decide
theorem old7:(ks7 n k)[2]?=some kZ/\∀j y,j<2->(ks7 n k)[j]?=some y->Df y kZ:=by
 refine⟨at7 n k (by decide),fun j y hj hy=>?_⟩
 rw[at7 n k (by omega)]at hy
 match j,hj with
 | 0,_=>obtain rfl:=Option.some.inj hy;decide
 | 1,_=>obtain rfl:=Option.some.inj hy;decide
end
theorem Iu (bp lo r:Nat) (ks:List KV) (ns:List I5) (x:KV) (w:World) (hn:ks.length<=20) (hg:S9 ks) (hx:x.a≠4/\x.d=ByteArray.empty) (N:Dm w lo bp r ks ns):Calls prog 11 #[pl bp,.agg (kvv x)] w fun e w'=>e=.returned (.int .i64 (kIx ks x))/\Dm w' lo bp r (Fh ks x) ns/\Below lo w w':=by
 have df:∀{y:KV},dfb x y=false->Df y x:=fun {y} h=>by
  unfold dfb at h
  by_cases h1:y.a=x.a
  ·right
   refine⟨h1,fun h2=>?_⟩
   simp[h1,h2]at h
  ·exact .inl h1
 rcases Fy ks x with ⟨p,h,e1,e2⟩|⟨h,e1,e2⟩<;>rw[e1,e2]
 ·rw[List.findIdx?_eq_some_iff_getElem]at h
  obtain⟨hp,h1,h2⟩:=h
  have hy:ks[p]=x:=by
   unfold dfb at h1
   simp only[Bool.and_eq_true,decide_eq_true_eq]at h1
   have h3:=hg _ (List.getElem_mem hp) (by rw[h1.1];exact hx.1)
   cases hk:ks[p] with
   | mk a b d=>
    rw[hk]at h1 h3
    cases x
    simp only at h1 h3 hx
    rw[h1.1,h1.2,h3,hx.2]
  refine Jz bp lo r p ks ns x w hn (by rw[List.getElem?_eq_getElem hp,hy]) (fun j y hj hyj=>?_) N
  obtain⟨hjl,rfl⟩:=List.getElem?_eq_some_iff.1 hyj
  exact df (by simpa using h2 j hj)
 ·rw[List.findIdx?_eq_none_iff]at h
  exact Eg bp lo r ks ns x w hn (fun y hy=>df (by simpa using h y hy)) N
theorem Ua (w:World):Calls prog 12 #[.string sA] w fun e w'=>e=.returned (.agg (kvv kA))/\Below w.heap.size w w':=by
 go_enter func12,ntmps12
 go_wp2_with fail
 exact bodyPost_ret (v:=.agg (kvv kA)) (by simp[results,results12,go_sem]) rfl ⟨rfl,(Below.refl _ _).alloc (Nat.le_refl _) _⟩
theorem Xn (bp lo r:Nat) (ks:List KV) (ns:List I5) (w:World) (hn:ks.length<=20) (hg:S9 ks) (hl:ns.length<=80) (N:Dm w lo bp r ks ns):Calls prog 22 #[pl bp,.int .i64 8,.int .i64 0] w fun e w'=>e=.returned (.tuple #[])/\Dm w' lo bp r (Fh ks kB) (ns++[⟨4,8,kIx ks kB,0,0⟩])/\Below lo w w':=by
 have HK:Hid (Calls prog 11 #[pl bp,.agg (kvv kB)] w _):=Iu bp lo r ks ns kB w hn hg ⟨by decide,rfl⟩ N
 have HL:Hid (ns.length<=80):=hl
 clear N hn hg hl
 generalize kIx ks kB=q at *
 generalize Fh ks kB=ks' at *
 go_enter func22,ntmps22
 go_wp2_with fail
 refine HK.out.mono ?_
 rintro e w1 ⟨rfl,N1,B1⟩
 have HN1:Hid (Dm w1 lo bp r ks' ns):=N1
 clear N1
 go_wp2_with fail
 refine(Am bp lo r ks' ns 4 8 q 0 0 w1 (by have:=HL.out;omega) HN1.out).mono ?_
 rintro e w2 ⟨rfl,N2,B2⟩
 go_wp2_with fail
 go_end0
 exact⟨rfl,N2,B1.trans B2⟩
theorem A2y (bp lo r:Nat) (ks:List KV) (ns:List I5) (w:World) (hn:ks.length<=20) (hg:S9 ks) (hl:ns.length<=80) (N:Dm w lo bp r ks ns):Calls prog 16 #[pl bp,.int .i64 7,.int .i64 8] w fun e w'=>e=.returned (.tuple #[])/\Dm w' lo bp r (Fh ks kB) (ns++[⟨4,8,(kIx ks kB:Nat),0,0⟩,⟨22,9,0,0,0⟩,⟨23,9,7,0,0⟩,⟨28,9,-9,-10,0⟩,⟨42,9,0,0,0⟩])/\Below lo w w':=by
 have HK:Hid (Calls prog 22 #[pl bp,.int .i64 8,.int .i64 0] w _):=Xn bp lo r ks ns w hn hg hl N
 have HL:Hid (ns.length<=80):=hl
 clear N hn hg hl
 generalize kIx ks kB=q at *
 generalize Fh ks kB=ks' at *
 go_enter func16,ntmps16
 go_wp2_with fail
 refine HK.out.mono ?_
 rintro e w1 ⟨rfl,N1,B1⟩
 obtain⟨l1,h1⟩:∃l,l=ns++[⟨4,8,q,0,0⟩]:=⟨_,rfl⟩
 rw[←h1]at N1
 have HN1:Hid (Dm w1 lo bp r ks' l1):=N1
 have H1:Hid (l1=ns++[⟨4,8,q,0,0⟩]):=h1
 clear N1 h1
 go_wp2_with fail
 refine(Am bp lo r ks' l1 22 9 0 0 0 w1 (by rw[H1.out];have:=HL.out;simp;omega) HN1.out).mono ?_
 rintro e w2 ⟨rfl,N2,B2⟩
 have HN2:Hid (Dm w2 lo bp r ks' (l1++[⟨22,9,0,0,0⟩])):=N2
 clear N2
 go_wp2_with fail
 refine(Am bp lo r ks' (l1++[⟨22,9,0,0,0⟩]) 23 9 7 0 0 w2 (by rw[H1.out];have:=HL.out;simp;omega) HN2.out).mono ?_
 rintro e w3 ⟨rfl,N3,B3⟩
 have HN3:Hid (Dm w3 lo bp r ks' (l1++[⟨22,9,0,0,0⟩]++[⟨23,9,7,0,0⟩])):=N3
 clear N3
 go_wp2_with fail
 refine(Am bp lo r ks' (l1++[⟨22,9,0,0,0⟩]++[⟨23,9,7,0,0⟩]) 28 9 (-9) (-10) 0 w3 (by rw[H1.out];have:=HL.out;simp;omega) HN3.out).mono ?_
 rintro e w4 ⟨rfl,N4,B4⟩
 have HN4:Hid (Dm w4 lo bp r ks' (l1++[⟨22,9,0,0,0⟩]++[⟨23,9,7,0,0⟩]++[⟨28,9,-9,-10,0⟩])):=N4
 clear N4
 go_wp2_with fail
 refine(Am bp lo r ks' (l1++[⟨22,9,0,0,0⟩]++[⟨23,9,7,0,0⟩]++[⟨28,9,-9,-10,0⟩]) 42 9 0 0 0 w4 (by rw[H1.out];have:=HL.out;simp;omega) HN4.out).mono ?_
 rintro e w5 ⟨rfl,N5,B5⟩
 have HN5:Hid (Dm w5 lo bp r ks' (ns++[⟨4,8,q,0,0⟩,⟨22,9,0,0,0⟩,⟨23,9,7,0,0⟩,⟨28,9,-9,-10,0⟩,⟨42,9,0,0,0⟩])):=(show Dm _ _ _ _ _ _ by rw[H1.out]at N5;simpa using N5)
 clear N5
 go_wp2_with fail
 go_end0
 exact⟨rfl,HN5.out,(((B1.trans B2).trans B3).trans B4).trans B5⟩
def A11 (n k:Int):Bool->List I5
 | true=>[⟨12,4,0,0,0⟩,⟨4,5,0,0,0⟩,⟨4,6,1,0,0⟩,⟨13,4,-6,-7,0⟩,⟨4,7,2,0,0⟩,⟨4,0,3,0,0⟩,⟨4,1,(kIx ks4 (kI n)),0,0⟩,⟨4,2,3,0,0⟩,⟨37,0,0,0,0⟩,⟨38,0,25,0,0⟩,⟨3,0,0,0,0⟩,⟨4,8,(kIx (ks5 n) (kI k)),0,0⟩,⟨18,8,6,0,-9⟩,⟨4,9,(kIx (ks6 n k) (kI 0)),0,0⟩,⟨18,8,13,-9,-10⟩,⟨21,-9,22,0,0⟩,⟨5,8,0,0,0⟩,⟨5,9,0,0,0⟩,⟨13,4,-9,-10,0⟩,⟨5,8,0,0,0⟩,⟨4,9,2,0,0⟩,⟨13,4,-9,-10,0⟩,⟨4,8,0,0,0⟩,⟨15,7,4,-9,0⟩,⟨39,0,9,0,0⟩,⟨4,8,(kIx (ks7 n k) kB:Nat),0,0⟩,⟨22,9,0,0,0⟩,⟨23,9,7,0,0⟩,⟨28,9,-9,-10,0⟩,⟨42,9,0,0,0⟩,⟨22,8,0,0,0⟩,⟨29,-9,0,0,0⟩]
 | false=>[⟨12,4,0,0,0⟩,⟨4,5,0,0,0⟩,⟨4,6,1,0,0⟩,⟨13,4,-6,-7,0⟩,⟨4,7,2,0,0⟩,⟨4,0,3,0,0⟩,⟨4,1,(kIx ks4 (kI n)),0,0⟩,⟨4,2,3,0,0⟩,⟨37,0,0,0,0⟩,⟨38,0,22,0,0⟩,⟨3,0,0,0,0⟩,⟨4,8,(kIx (ks5 n) (kI k)),0,0⟩,⟨18,8,6,0,-9⟩,⟨4,9,(kIx (ks6 n k) (kI 0)),0,0⟩,⟨18,8,13,-9,-10⟩,⟨21,-9,19,0,0⟩,⟨5,8,0,0,0⟩,⟨5,9,0,0,0⟩,⟨13,4,-9,-10,0⟩,⟨4,8,0,0,0⟩,⟨15,7,4,-9,0⟩,⟨39,0,9,0,0⟩,⟨4,8,(kIx (ks7 n k) kB:Nat),0,0⟩,⟨22,9,0,0,0⟩,⟨23,9,7,0,0⟩,⟨28,9,-9,-10,0⟩,⟨42,9,0,0,0⟩,⟨22,8,0,0,0⟩,⟨29,-9,0,0,0⟩]
abbrev BN (w w':World):Prop:=Hid (Below (w.heap.size+1) (w.alloc (.cells #[.slice none 0 0] 26)) w')
abbrev PN (w w':World) (bp:Nat) (ks:List KV) (ns:List I5):Prop:=Hid (Dm w' (w.heap.size+1) bp 14 ks ns)
def tnA (n k:Int) (j:Nat):List I5:=List.take j [⟨12,4,0,0,0⟩,⟨4,5,0,0,0⟩,⟨4,6,1,0,0⟩,⟨13,4,-6,-7,0⟩,⟨4,7,2,0,0⟩,⟨4,0,3,0,0⟩,⟨4,1,(kIx ks4 (kI n)),0,0⟩,⟨4,2,3,0,0⟩,⟨37,0,0,0,0⟩,⟨38,0,0,0,0⟩,⟨3,0,0,0,0⟩,⟨4,8,(kIx (ks5 n) (kI k)),0,0⟩,⟨18,8,6,0,-9⟩,⟨4,9,(kIx (ks6 n k) (kI 0)),0,0⟩,⟨18,8,13,-9,-10⟩,⟨21,-9,0,0,0⟩,⟨5,8,0,0,0⟩,⟨5,9,0,0,0⟩,⟨13,4,-9,-10,0⟩]
theorem E8 (n k:Int) (j:Nat):(tnA n k j).length<=100:=by rw[tnA,List.length_take];exact Nat.le_trans (Nat.min_le_right _ _) (by simp)
def tnB (n k:Int) (j:Nat):List I5:=List.take j [⟨12,4,0,0,0⟩,⟨4,5,0,0,0⟩,⟨4,6,1,0,0⟩,⟨13,4,-6,-7,0⟩,⟨4,7,2,0,0⟩,⟨4,0,3,0,0⟩,⟨4,1,(kIx ks4 (kI n)),0,0⟩,⟨4,2,3,0,0⟩,⟨37,0,0,0,0⟩,⟨38,0,0,0,0⟩,⟨3,0,0,0,0⟩,⟨4,8,(kIx (ks5 n) (kI k)),0,0⟩,⟨18,8,6,0,-9⟩,⟨4,9,(kIx (ks6 n k) (kI 0)),0,0⟩,⟨18,8,13,-9,-10⟩,⟨21,-9,19,0,0⟩,⟨5,8,0,0,0⟩,⟨5,9,0,0,0⟩,⟨13,4,-9,-10,0⟩,⟨4,8,0,0,0⟩,⟨15,7,4,-9,0⟩,⟨39,0,9,0,0⟩]
theorem A1t (n k:Int) (j:Nat):(tnB n k j).length<=100:=by rw[tnB,List.length_take];exact Nat.le_trans (Nat.min_le_right _ _) (by simp)
def tnC (n k:Int) (j:Nat):List I5:=List.take j [⟨12,4,0,0,0⟩,⟨4,5,0,0,0⟩,⟨4,6,1,0,0⟩,⟨13,4,-6,-7,0⟩,⟨4,7,2,0,0⟩,⟨4,0,3,0,0⟩,⟨4,1,(kIx ks4 (kI n)),0,0⟩,⟨4,2,3,0,0⟩,⟨37,0,0,0,0⟩,⟨38,0,22,0,0⟩,⟨3,0,0,0,0⟩,⟨4,8,(kIx (ks5 n) (kI k)),0,0⟩,⟨18,8,6,0,-9⟩,⟨4,9,(kIx (ks6 n k) (kI 0)),0,0⟩,⟨18,8,13,-9,-10⟩,⟨21,-9,19,0,0⟩,⟨5,8,0,0,0⟩,⟨5,9,0,0,0⟩,⟨13,4,-9,-10,0⟩,⟨4,8,0,0,0⟩,⟨15,7,4,-9,0⟩,⟨39,0,9,0,0⟩]
theorem Aa4 (n k:Int) (w:World):Calls prog 5 #[.int .i64 n,.int .i64 k,.bool false] w fun e w'=>∃g b kv qv,e=.returned (.agg #[.slice (some ⟨g,0,none⟩) 1 1])/\Blk w' g (pr6 ⟨#[109,97,105,110]⟩ 0 14 (.slice none 0 0) kv qv (.slice none 0 0)) 63/\w.heap.size<=g/\w'.ownsRow b 52 5 kv (ks8 n k).length (kvs (ks8 n k))/\w'.ownsRow b 58 5 qv 29 (ivs (A11 n k false))/\w.heap.size<=b/\Below w.heap.size w w':=by
 have A0:Below w.heap.size w (w.alloc (.cells #[.slice none 0 0] 26)):=(Below.refl _ _).alloc (Nat.le_refl _) _
 go_enter func5,ntmps5
 go_wp2_with fail
 refine(pen0 14 rfl _).mono ?_
 rintro e w1 ⟨bp,rfl,N,B1⟩
 have BB:BN w w1:=(show Below (w.heap.size+1) (w.alloc (.cells #[.slice none 0 0] 26)) w1 by simpa using B1)
 have HN:PN w w1 bp [] []:=(show Dm w1 (w.heap.size+1) bp 14 [] [] by simpa using N)
 clear N B1
 have q9:(tnA n k 9).length=9:=rfl
 have q15:(tnA n k 15).length=15:=rfl
 go_wp2_with fail
 refine(Ua w1).mono ?_
 rintro e w2 ⟨rfl,B⟩
 replace BB:BN w w2:=BB.out.trans (B.mono (by have:=BB.out.size;simpa using this))
 replace HN:PN w w2 bp [] []:=HN.out.l B
 clear B
 go_wp2_with fail
 refine(Eg bp _ 14 _ _ kA w2 (by decide) (by decide) HN.out).mono ?_
 rintro e w3 ⟨rfl,N,B⟩
 replace BB:BN w w3:=BB.out.trans B
 replace HN:PN w w3 bp [kA] []:=N
 clear N B
 go_wp2_with fail
 refine(Am bp _ 14 _ _ 12 4 0 0 0 w3 (by simp) HN.out).mono ?_
 rintro e w4 ⟨rfl,N,B⟩
 replace BB:BN w w4:=BB.out.trans B
 replace HN:PN w w4 bp [kA] (tnA n k 1):=N
 clear N B
 go_wp2_with fail
 refine(Am bp _ 14 _ _ 4 5 0 0 0 w4 (E8 n k 1) HN.out).mono ?_
 rintro e w5 ⟨rfl,N,B⟩
 replace BB:BN w w5:=BB.out.trans B
 replace HN:PN w w5 bp [kA] (tnA n k 2):=N
 clear N B
 go_wp2_with fail
 refine(D9 7 w5).mono ?_
 rintro e w6 ⟨rfl,B⟩
 replace BB:BN w w6:=BB.out.trans (B.mono (by have:=BB.out.size;simpa using this))
 replace HN:PN w w6 bp [kA] (tnA n k 2):=HN.out.l B
 clear B
 go_wp2_with fail
 refine(Eg bp _ 14 _ _ k7 w6 (by decide) (by decide) HN.out).mono ?_
 rintro e w7 ⟨rfl,N,B⟩
 replace BB:BN w w7:=BB.out.trans B
 replace HN:PN w w7 bp [kA,k7] (tnA n k 2):=N
 clear N B
 go_wp2_with fail
 refine(Am bp _ 14 _ _ 4 6 1 0 0 w7 (E8 n k 2) HN.out).mono ?_
 rintro e w8 ⟨rfl,N,B⟩
 replace BB:BN w w8:=BB.out.trans B
 replace HN:PN w w8 bp [kA,k7] (tnA n k 3):=N
 clear N B
 go_wp2_with fail
 refine(Am bp _ 14 _ _ 13 4 (-6) (-7) 0 w8 (E8 n k 3) HN.out).mono ?_
 rintro e w9 ⟨rfl,N,B⟩
 replace BB:BN w w9:=BB.out.trans B
 replace HN:PN w w9 bp [kA,k7] (tnA n k 4):=N
 clear N B
 go_wp2_with fail
 refine(Eg bp _ 14 _ _ kZ w9 (by decide) (by decide) HN.out).mono ?_
 rintro e w10 ⟨rfl,N,B⟩
 replace BB:BN w w10:=BB.out.trans B
 replace HN:PN w w10 bp [kA,k7,kZ] (tnA n k 4):=N
 clear N B
 go_wp2_with fail
 refine(Am bp _ 14 _ _ 4 7 2 0 0 w10 (E8 n k 4) HN.out).mono ?_
 rintro e w11 ⟨rfl,N,B⟩
 replace BB:BN w w11:=BB.out.trans B
 replace HN:PN w w11 bp [kA,k7,kZ] (tnA n k 5):=N
 clear N B
 go_wp2_with fail
 refine(D9 1 w11).mono ?_
 rintro e w12 ⟨rfl,B⟩
 replace BB:BN w w12:=BB.out.trans (B.mono (by have:=BB.out.size;simpa using this))
 replace HN:PN w w12 bp [kA,k7,kZ] (tnA n k 5):=HN.out.l B
 clear B
 go_wp2_with fail
 refine(Eg bp _ 14 _ _ k1 w12 (by decide) (by decide) HN.out).mono ?_
 rintro e w13 ⟨rfl,N,B⟩
 replace BB:BN w w13:=BB.out.trans B
 replace HN:PN w w13 bp ks4 (tnA n k 5):=N
 clear N B
 go_wp2_with fail
 refine(Am bp _ 14 _ _ 4 0 3 0 0 w13 (E8 n k 5) HN.out).mono ?_
 rintro e w14 ⟨rfl,N,B⟩
 replace BB:BN w w14:=BB.out.trans B
 replace HN:PN w w14 bp ks4 (tnA n k 6):=N
 clear N B
 go_wp2_with fail
 refine(D9 n w14).mono ?_
 rintro e w15 ⟨rfl,B⟩
 replace BB:BN w w15:=BB.out.trans (B.mono (by have:=BB.out.size;simpa using this))
 replace HN:PN w w15 bp ks4 (tnA n k 6):=HN.out.l B
 clear B
 go_wp2_with fail
 refine(Iu bp _ 14 _ _ (kI n) w15 (by decide) A2d ⟨(show (2:Int)≠4 by decide),rfl⟩ HN.out).mono ?_
 rintro e w16 ⟨rfl,N,B⟩
 replace BB:BN w w16:=BB.out.trans B
 replace HN:PN w w16 bp (ks5 n) (tnA n k 6):=N
 clear N B
 go_wp2_with fail
 refine(Am bp _ 14 _ _ 4 1 ((kIx ks4 (kI n))) 0 0 w16 (E8 n k 6) HN.out).mono ?_
 rintro e w17 ⟨rfl,N,B⟩
 replace BB:BN w w17:=BB.out.trans B
 replace HN:PN w w17 bp (ks5 n) (tnA n k 7):=N
 clear N B
 go_wp2_with fail
 refine(D9 1 w17).mono ?_
 rintro e w18 ⟨rfl,B⟩
 replace BB:BN w w18:=BB.out.trans (B.mono (by have:=BB.out.size;simpa using this))
 replace HN:PN w w18 bp (ks5 n) (tnA n k 7):=HN.out.l B
 clear B
 go_wp2_with fail
 refine(Jz bp _ 14 3 _ _ k1 w18 (len5 n) (old4 n).1 (old4 n).2 HN.out).mono ?_
 rintro e w19 ⟨rfl,N,B⟩
 replace BB:BN w w19:=BB.out.trans B
 replace HN:PN w w19 bp (ks5 n) (tnA n k 7):=N
 clear N B
 go_wp2_with fail
 refine(Am bp _ 14 _ _ 4 2 3 0 0 w19 (E8 n k 7) HN.out).mono ?_
 rintro e w20 ⟨rfl,N,B⟩
 replace BB:BN w w20:=BB.out.trans B
 replace HN:PN w w20 bp (ks5 n) (tnA n k 8):=N
 clear N B
 go_wp2_with fail
 refine(Am bp _ 14 _ _ 37 0 0 0 0 w20 (E8 n k 8) HN.out).mono ?_
 rintro e w21 ⟨rfl,N,B⟩
 replace BB:BN w w21:=BB.out.trans B
 replace HN:PN w w21 bp (ks5 n) (tnA n k 9):=N
 clear N B
 go_wp2_with fail
 refine(Am bp _ 14 _ _ 38 0 0 0 0 w21 (E8 n k 9) HN.out).mono ?_
 rintro e w22 ⟨rfl,N,B⟩
 replace BB:BN w w22:=BB.out.trans B
 replace HN:PN w w22 bp (ks5 n) (tnA n k 10):=N
 clear N B
 go_wp2_with fail
 refine(Am bp _ 14 _ _ 3 0 0 0 0 w22 (E8 n k 10) HN.out).mono ?_
 rintro e w23 ⟨rfl,N,B⟩
 replace BB:BN w w23:=BB.out.trans B
 replace HN:PN w w23 bp (ks5 n) (tnA n k 11):=N
 clear N B
 go_wp2_with fail
 refine(D9 k w23).mono ?_
 rintro e w24 ⟨rfl,B⟩
 replace BB:BN w w24:=BB.out.trans (B.mono (by have:=BB.out.size;simpa using this))
 replace HN:PN w w24 bp (ks5 n) (tnA n k 11):=HN.out.l B
 clear B
 go_wp2_with fail
 refine(Iu bp _ 14 _ _ (kI k) w24 (len5 n) (A2e n) ⟨(show (2:Int)≠4 by decide),rfl⟩ HN.out).mono ?_
 rintro e w25 ⟨rfl,N,B⟩
 replace BB:BN w w25:=BB.out.trans B
 replace HN:PN w w25 bp (ks6 n k) (tnA n k 11):=N
 clear N B
 go_wp2_with fail
 refine(Am bp _ 14 _ _ 4 8 ((kIx (ks5 n) (kI k))) 0 0 w25 (E8 n k 11) HN.out).mono ?_
 rintro e w26 ⟨rfl,N,B⟩
 replace BB:BN w w26:=BB.out.trans B
 replace HN:PN w w26 bp (ks6 n k) (tnA n k 12):=N
 clear N B
 go_wp2_with fail
 refine(Am bp _ 14 _ _ 18 8 6 0 (-9) w26 (E8 n k 12) HN.out).mono ?_
 rintro e w27 ⟨rfl,N,B⟩
 replace BB:BN w w27:=BB.out.trans B
 replace HN:PN w w27 bp (ks6 n k) (tnA n k 13):=N
 clear N B
 go_wp2_with fail
 refine(D9 0 w27).mono ?_
 rintro e w28 ⟨rfl,B⟩
 replace BB:BN w w28:=BB.out.trans (B.mono (by have:=BB.out.size;simpa using this))
 replace HN:PN w w28 bp (ks6 n k) (tnA n k 13):=HN.out.l B
 clear B
 go_wp2_with fail
 refine(Iu bp _ 14 _ _ (kI 0) w28 (len6 n k) (A2f n k) ⟨(show (2:Int)≠4 by decide),rfl⟩ HN.out).mono ?_
 rintro e w29 ⟨rfl,N,B⟩
 replace BB:BN w w29:=BB.out.trans B
 replace HN:PN w w29 bp (ks7 n k) (tnA n k 13):=N
 clear N B
 go_wp2_with fail
 refine(Am bp _ 14 _ _ 4 9 ((kIx (ks6 n k) (kI 0))) 0 0 w29 (E8 n k 13) HN.out).mono ?_
 rintro e w30 ⟨rfl,N,B⟩
 replace BB:BN w w30:=BB.out.trans B
 replace HN:PN w w30 bp (ks7 n k) (tnA n k 14):=N
 clear N B
 go_wp2_with fail
 refine(Am bp _ 14 _ _ 18 8 13 (-9) (-10) w30 (E8 n k 14) HN.out).mono ?_
 rintro e w31 ⟨rfl,N,B⟩
 replace BB:BN w w31:=BB.out.trans B
 replace HN:PN w w31 bp (ks7 n k) (tnA n k 15):=N
 clear N B
 go_wp2_with fail
 refine(Am bp _ 14 _ _ 21 (-9) 0 0 0 w31 (E8 n k 15) HN.out).mono ?_
 rintro e w32 ⟨rfl,N,B⟩
 replace BB:BN w w32:=BB.out.trans B
 replace HN:PN w w32 bp (ks7 n k) (tnA n k 16):=N
 clear N B
 go_wp2_with fail
 refine(Am bp _ 14 _ _ 5 8 0 0 0 w32 (E8 n k 16) HN.out).mono ?_
 rintro e w33 ⟨rfl,N,B⟩
 replace BB:BN w w33:=BB.out.trans B
 replace HN:PN w w33 bp (ks7 n k) (tnA n k 17):=N
 clear N B
 go_wp2_with fail
 refine(Am bp _ 14 _ _ 5 9 0 0 0 w33 (E8 n k 17) HN.out).mono ?_
 rintro e w34 ⟨rfl,N,B⟩
 replace BB:BN w w34:=BB.out.trans B
 replace HN:PN w w34 bp (ks7 n k) (tnA n k 18):=N
 clear N B
 go_wp2_with fail
 refine(Am bp _ 14 _ _ 13 4 (-9) (-10) 0 w34 (E8 n k 18) HN.out).mono ?_
 rintro e w35 ⟨rfl,N,B⟩
 replace BB:BN w w35:=BB.out.trans B
 replace HN:PN w w35 bp (ks7 n k) (tnA n k 19):=N
 clear N B
 go_wp2_with fail
 obtain⟨⟨kv,qv,tv,hB,hK,hR⟩,hlb⟩:=HN.out
 rcases Aj hR with ⟨_,h⟩|⟨g,sc,rfl,hr⟩
 ·simp[tnA]at h
 have qL:(tnA n k 19).length=19:=rfl
 have hR':w35.ownsRow (w.heap.size+1) 58 5 (.slice (some ⟨g,0,none⟩) 19 sc) 19 (ivs (tnA n k 19)):=hR
 have hB':Blk w35 bp (pnA 14 kv (.slice (some ⟨g,0,none⟩) 19 sc) tv) 66:=hB
 have x0:=hB'.cell
 have x1:=hR'.frozenAt
 have x2:w35.cell? ⟨g,77,none⟩=some (.int .i64 0):=Ai hR' (j:=77) rfl
 have HR:Hid (w35.ownsRow (w.heap.size+1) 58 5 (.slice (some ⟨g,0,none⟩) 19 sc) 19 (ivs (tnA n k 19))):=hR'
 have HB:Hid (Blk w35 bp (pnA 14 kv (.slice (some ⟨g,0,none⟩) 19 sc) tv) 66):=hB'
 have HK:Hid (w35.ownsRow (w.heap.size+1) 52 5 kv ((ks7 n k)).length (kvs (ks7 n k))):=hK
 have hgb:g≠bp:=fun e=>Dh hR' hB' (by decide) (by simp[e,Value.ownBlock])
 have hbg:bp≠g:=fun e=>hgb e.symm
 have x7:w35.cell? ⟨bp,7,none⟩=some (.slice (some ⟨g,0,none⟩) 19 sc):=x0 7
 clear hR hB hR' hB' hK hr x0
 go_region_held3 (fun w'=>w'.cell? ⟨bp,7,none⟩=some (.slice (some ⟨g,0,none⟩) 19 sc)) (go_keep)
  (first|(go_at_call 15;refine(A2n bp _ 14 _ _ _ (HN.out.l (Below.refl _ _).drew)).mono ?_;rintro e w77 ⟨rfl,rfl⟩))
 have C4:Chg [g] w35 (w35.setCell ⟨g,77,none⟩ (.int .i64 19)).drew:=((Chg.refl _ _).set (by simp) _ _).below (Below.refl _ _).drew
 have Y4:=HB.out.chg C4 (by simpa using hbg)
 have R4:(w35.setCell ⟨g,77,none⟩ (.int .i64 19)).drew.ownsRow (w.heap.size+1) 58 5 (.slice (some ⟨g,0,none⟩) 19 sc) 19 (ivs (tnB n k 19)):=Ab (HR.out.stored 77 (.int .i64 19)).1 (Below.refl _ _).drew
 have K4:=Ae HK.out (fun k hk=>C4.block k (by intro e;simp at e;subst e;exact Ka HK.out HR.out (by decide) hk (by simp[Value.ownBlock])) (HK.out.lt k hk).2)
 have hg:=(HR.out.lt g (by simp[Value.ownBlock])).1
 have B4:Below (w.heap.size+1) (w.alloc (.cells #[.slice none 0 0] 26)) (w35.setCell ⟨g,77,none⟩ (.int .i64 19)).drew:=BB.out.trans (C4.low (by have:=BB.out.size;simpa using this) (fun q hq=>by simp at hq;omega))
 replace HN:PN w (w35.setCell ⟨g,77,none⟩ (.int .i64 19)).drew bp (ks7 n k) (tnB n k 19):=(show Dm _ _ _ _ _ _ from ⟨⟨kv,.slice (some ⟨g,0,none⟩) 19 sc,tv,Y4,K4,R4⟩,hlb⟩)
 replace BB:BN w (w35.setCell ⟨g,77,none⟩ (.int .i64 19)).drew:=B4
 clear C4 Y4 R4 K4 B4 HB HR HK x1 x2 x7 hg hgb hbg qL
 revert HN BB
 generalize (w35.setCell ⟨g,77,none⟩ (.int .i64 19)).drew=w36
 intro HN BB
 go_wp2_with fail
 refine(Am bp _ 14 _ _ 4 8 0 0 0 w36 (A1t n k 19) HN.out).mono ?_
 rintro e w37 ⟨rfl,N,B⟩
 replace BB:BN w w37:=BB.out.trans B
 replace HN:PN w w37 bp (ks7 n k) (tnB n k 20):=N
 clear N B
 go_wp2_with fail
 refine(Am bp _ 14 _ _ 15 7 4 (-9) 0 w37 (A1t n k 20) HN.out).mono ?_
 rintro e w38 ⟨rfl,N,B⟩
 replace BB:BN w w38:=BB.out.trans B
 replace HN:PN w w38 bp (ks7 n k) (tnB n k 21):=N
 clear N B
 go_wp2_with fail
 refine(Am bp _ 14 _ _ 39 0 9 0 0 w38 (A1t n k 21) HN.out).mono ?_
 rintro e w39 ⟨rfl,N,B⟩
 replace BB:BN w w39:=BB.out.trans B
 replace HN:PN w w39 bp (ks7 n k) (tnB n k 22):=N
 clear N B
 go_wp2_with fail
 obtain⟨⟨kv,qv,tv,hB,hK,hR⟩,hlb⟩:=HN.out
 rcases Aj hR with ⟨_,h⟩|⟨g,sc,rfl,hr⟩
 ·simp[tnB]at h
 have qL:(tnB n k 22).length=22:=rfl
 have hR':w39.ownsRow (w.heap.size+1) 58 5 (.slice (some ⟨g,0,none⟩) 22 sc) 22 (ivs (tnB n k 22)):=hR
 have hB':Blk w39 bp (pnA 14 kv (.slice (some ⟨g,0,none⟩) 22 sc) tv) 66:=hB
 have x0:=hB'.cell
 have x1:=hR'.frozenAt
 have x2:w39.cell? ⟨g,47,none⟩=some (.int .i64 0):=Ai hR' (j:=47) rfl
 have HR:Hid (w39.ownsRow (w.heap.size+1) 58 5 (.slice (some ⟨g,0,none⟩) 22 sc) 22 (ivs (tnB n k 22))):=hR'
 have HB:Hid (Blk w39 bp (pnA 14 kv (.slice (some ⟨g,0,none⟩) 22 sc) tv) 66):=hB'
 have HK:Hid (w39.ownsRow (w.heap.size+1) 52 5 kv ((ks7 n k)).length (kvs (ks7 n k))):=hK
 have hgb:g≠bp:=fun e=>Dh hR' hB' (by decide) (by simp[e,Value.ownBlock])
 have hbg:bp≠g:=fun e=>hgb e.symm
 have x7:w39.cell? ⟨bp,7,none⟩=some (.slice (some ⟨g,0,none⟩) 22 sc):=x0 7
 clear hR hB hR' hB' hK hr x0
 go_region_held3 (fun w'=>w'.cell? ⟨bp,7,none⟩=some (.slice (some ⟨g,0,none⟩) 22 sc)) (go_keep)
  (first|(go_at_call 15;refine(A2n bp _ 14 _ _ _ (HN.out.l (Below.refl _ _).drew)).mono ?_;rintro e w77 ⟨rfl,rfl⟩))
 have C4:Chg [g] w39 (w39.setCell ⟨g,47,none⟩ (.int .i64 22)).drew:=((Chg.refl _ _).set (by simp) _ _).below (Below.refl _ _).drew
 have Y4:=HB.out.chg C4 (by simpa using hbg)
 have R4:(w39.setCell ⟨g,47,none⟩ (.int .i64 22)).drew.ownsRow (w.heap.size+1) 58 5 (.slice (some ⟨g,0,none⟩) 22 sc) 22 (ivs (tnC n k 22)):=Ab (HR.out.stored 47 (.int .i64 22)).1 (Below.refl _ _).drew
 have K4:=Ae HK.out (fun k hk=>C4.block k (by intro e;simp at e;subst e;exact Ka HK.out HR.out (by decide) hk (by simp[Value.ownBlock])) (HK.out.lt k hk).2)
 have hg:=(HR.out.lt g (by simp[Value.ownBlock])).1
 have B4:Below (w.heap.size+1) (w.alloc (.cells #[.slice none 0 0] 26)) (w39.setCell ⟨g,47,none⟩ (.int .i64 22)).drew:=BB.out.trans (C4.low (by have:=BB.out.size;simpa using this) (fun q hq=>by simp at hq;omega))
 replace HN:PN w (w39.setCell ⟨g,47,none⟩ (.int .i64 22)).drew bp (ks7 n k) (tnC n k 22):=(show Dm _ _ _ _ _ _ from ⟨⟨kv,.slice (some ⟨g,0,none⟩) 22 sc,tv,Y4,K4,R4⟩,hlb⟩)
 replace BB:BN w (w39.setCell ⟨g,47,none⟩ (.int .i64 22)).drew:=B4
 clear C4 Y4 R4 K4 B4 HB HR HK x1 x2 x7 hg hgb hbg qL
 revert HN BB
 generalize (w39.setCell ⟨g,47,none⟩ (.int .i64 22)).drew=w40
 intro HN BB
 go_wp2_with fail
 refine(A2y bp _ 14 _ _ w40 (len7 n k) (A5m n k) (Nat.le_trans (List.length_take_le _ _) (by decide)) HN.out).mono ?_
 rintro e wA ⟨rfl,N,B⟩
 replace BB:BN w wA:=BB.out.trans B
 replace HN:PN w wA bp (ks8 n k) ((tnC n k 22)++[⟨4,8,(kIx (ks7 n k) kB:Nat),0,0⟩,⟨22,9,0,0,0⟩,⟨23,9,7,0,0⟩,⟨28,9,-9,-10,0⟩,⟨42,9,0,0,0⟩]):=N
 clear N B
 go_wp2_with fail
 refine(A2o bp _ 14 (ks8 n k) _ wA (by rw[List.length_append];exact Nat.le_trans (Nat.add_le_add_right (show ((tnC n k 22)).length<=40 from Nat.le_trans (List.length_take_le _ _) (by decide)) _) (by simp)) HN.out).mono ?_
 rintro e wB ⟨rfl,N,B⟩
 replace BB:BN w wB:=BB.out.trans B
 replace HN:PN w wB bp (ks8 n k) (A11 n k false):=N
 clear N B
 obtain⟨⟨kv,qv,tv,hB,hK,hR⟩,hlb⟩:=HN.out
 have x0:=hB.cell
 have HK:Hid (wB.ownsRow (w.heap.size+1) 52 5 kv (ks8 n k).length (kvs (ks8 n k))):=hK
 have HR:Hid (wB.ownsRow (w.heap.size+1) 58 5 qv 29 (ivs (A11 n k false))):=hR
 have Z:=(Blk.new w #[.slice none 0 0] 26).l (by simpa using BB.out)
 have Za:=fun o=>(Z.alloc o).cell
 have Zf:=fun o=>(Z.alloc o).frozen
 clear hB hK hR
 go_wp2_with fail
 have s17:=BB.out.size
 simp only[World.size_alloc]at s17
 have A1:Below wB.heap.size wB (wB.alloc (.cells (pr6 ⟨#[109,97,105,110]⟩ 0 14 (.slice none 0 0) kv qv (.slice none 0 0)) 63)):=(Below.refl _ _).alloc (Nat.le_refl _) _
 have C5:Chg [w.heap.size] (wB.alloc (.cells (pr6 ⟨#[109,97,105,110]⟩ 0 14 (.slice none 0 0) kv qv (.slice none 0 0)) 63)) ((wB.alloc (.cells (pr6 ⟨#[109,97,105,110]⟩ 0 14 (.slice none 0 0) kv qv (.slice none 0 0)) 63)).setCell ⟨w.heap.size,0,none⟩ (.slice (some ⟨wB.heap.size,0,none⟩) 1 1)):=(Chg.refl _ _).set (by simp) _ _
 have P:=(Blk.new wB (pr6 ⟨#[109,97,105,110]⟩ 0 14 (.slice none 0 0) kv qv (.slice none 0 0)) 63).chg C5 (by simp;omega)
 have K5:=Ae (Ab HK.out A1) (fun k hk=>C5.block k (by have:=(HK.out.lt k hk).1;simp;omega) ((Ab HK.out A1).lt k hk).2)
 have R5:=Ae (Ab HR.out A1) (fun k hk=>C5.block k (by have:=(HR.out.lt k hk).1;simp;omega) ((Ab HR.out A1).lt k hk).2)
 have F5:Below w.heap.size w ((wB.alloc (.cells (pr6 ⟨#[109,97,105,110]⟩ 0 14 (.slice none 0 0) kv qv (.slice none 0 0)) 63)).setCell ⟨w.heap.size,0,none⟩ (.slice (some ⟨wB.heap.size,0,none⟩) 1 1)):=((A0.trans ((BB.out.mono (Nat.le_succ _)).trans (A1.mono (by omega))))).trans (C5.low (by simp;omega) (fun q hq=>by simp at hq;omega))
 have Z5:=((Z.alloc (.cells (pr6 ⟨#[109,97,105,110]⟩ 0 14 (.slice none 0 0) kv qv (.slice none 0 0)) 63)).set 0 (.slice (some ⟨wB.heap.size,0,none⟩) 1 1)).cell
 generalize hW5:(wB.alloc (.cells #[.string ⟨#[109,97,105,110]⟩,.int .i64 0,.int .i64 0,.bool false,.int .i64 14,.slice none 0 0,kv,qv,.slice none 0 0] 63)).setCell ⟨w.heap.size,0,none⟩ (.slice (some ⟨wB.heap.size,0,none⟩) 1 1)=W5
 have e5:(wB.alloc (.cells (pr6 ⟨#[109,97,105,110]⟩ 0 14 (.slice none 0 0) kv qv (.slice none 0 0)) 63)).setCell ⟨w.heap.size,0,none⟩ (.slice (some ⟨wB.heap.size,0,none⟩) 1 1)=W5:=hW5
 rw[e5]at P K5 R5 F5 Z5
 clear C5 A1 Za Zf hW5 e5
 have z0:W5.cell? ⟨w.heap.size,0,none⟩=some (.slice (some ⟨wB.heap.size,0,none⟩) 1 1):=Z5 0
 refine bodyPost_ret (v:=.agg #[.slice (some ⟨wB.heap.size,0,none⟩) 1 1]) (by simp[results,results5,go_sem,z0]) rfl ?_
 exact⟨wB.heap.size,w.heap.size+1,kv,qv,rfl,P,by omega,K5,R5,by omega,F5⟩
end Go.Proofs.YtbefeflgjipfhaaGreatDoor
