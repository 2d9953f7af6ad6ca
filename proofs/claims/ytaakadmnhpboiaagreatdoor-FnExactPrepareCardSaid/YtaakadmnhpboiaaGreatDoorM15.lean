import Derived.Test.YtaakadmnhpboiaaGreatDoorM14
import Derived.Test.YtaakadmnhpboiaaGreatDoorM04
namespace Go.Proofs.YtaakadmnhpboiaaGreatDoor
open Go.RowKit Go.Deep
theorem grown_comp {w a b:World} {row row':Option Nat} (h:w.grownBy a row) (k:a.grownBy b row') (hr:∀i,row'=some i→w.heap.size≤i):w.grownBy b row:=
 ⟨k.os.trans h.os,k.tape.trans h.tape,k.output.trans h.output,Nat.le_trans h.size k.size,fun i hi hn=>(k.block i (Nat.lt_of_lt_of_le hi h.size) (fun e=>by have:=hr i e.symm;omega)).trans (h.block i hi hn)⟩
theorem grown_alloc {w a:World} {row:Option Nat} (h:w.grownBy a row) (o:Obj):w.grownBy (a.alloc o) row:=
 ⟨h.os,h.tape,h.output,by have:=h.size;simp;omega,fun i hi hn=>(blk_alloc_lt _ _ _ (Nat.lt_of_lt_of_le hi h.size)).trans (h.block i hi hn)⟩
theorem arr4 {r0 r1 r2 r3 r:Nat} {k:Nat} (h:[r0,r1,r2,r3][k]?=some r):(#[.int .i64 r0,.int .i64 r1,.int .i64 r2,.int .i64 r3]:Array Value)[k]?=some (.int .i64 r):=by
 match k,h with
 | 0,h=>simp at h;subst h;rfl
 | 1,h=>simp at h;subst h;rfl
 | 2,h=>simp at h;subst h;rfl
 | 3,h=>simp at h;subst h;rfl
theorem arr4i {r0 r1 r2 r3 r:Int} {k:Nat} (h:[r0,r1,r2,r3][k]?=some r):(#[.int .i64 r0,.int .i64 r1,.int .i64 r2,.int .i64 r3]:Array Value)[k]?=some (.int .i64 r):=by
 match k,h with
 | 0,h=>simp at h;subst h;rfl
 | 1,h=>simp at h;subst h;rfl
 | 2,h=>simp at h;subst h;rfl
 | 3,h=>simp at h;subst h;rfl
theorem rdsS_drop {rs:List Nat} {xs:List Int} {k r:Nat} {x:Int} (hr:rs[k]?=some r) (hx:xs[k]?=some x) (s:Rd):rdsS (rs.drop k) (xs.drop k) s=(rdS r x s).bind (rdsS (rs.drop (k+1)) (xs.drop (k+1))):=by
 rw [drop_some hr,drop_some hx];rfl
theorem fitAll_get {np:Nat} {p:Pd} : ∀{rs:List Nat} {xs:List Int} {k r:Nat} {x:Int},fitAll np p rs xs=true→rs[k]?=some r→xs[k]?=some x→fitsR np p r x=true
 | [],_,_,_,_,_,h,_=>by simp at h
 | _::_,[],_,_,_,_,_,h=>by simp at h
 | a::rs,b::xs,0,r,x,h,h1,h2=>by simp at h1 h2;subst h1;subst h2;simp [fitAll] at h;exact h.1
 | a::rs,b::xs,k+1,r,x,h,h1,h2=>by simp at h1 h2;simp [fitAll] at h;exact fitAll_get h.2 h1 h2
theorem role_class (r:Nat) (hr:r≤21):((wantsR r).1=0∧∀x s,rdS r x s=some s)∨
  (∃t,wantsR r=(t,true)∧(t=1∨t=3)∧(∀x s,rdS r x s=rdOp t x s)∧r≠18∧r≠19∧r≠20∧∀np p x,fitsR np p r x=inR x (-p.regs) (p.regs - 1))∨
  (∃t,wantsR r=(t,false)∧(t=1∨t=2∨t=3)∧(∀x s,rdS r x s=rdPlace t x s)∧r≠18∧r≠19∧r≠20∧∀np p x,fitsR np p r x=inR x 0 (p.regs - 1))∨r=18∨r=19∨r=20:=by
 rcases roles_all r hr with rfl | rfl | rfl | rfl | rfl | rfl | rfl | rfl | rfl | rfl | rfl | rfl | rfl | rfl | rfl | rfl | rfl | rfl | rfl | rfl | rfl | rfl
 all_goals first
  | exact .inl ⟨rfl,fun _ _=>rfl⟩
  | exact .inr (.inl ⟨1,rfl,.inl rfl,fun _ _=>rfl,by decide,by decide,by decide,fun _ _ _=>rfl⟩)
  | exact .inr (.inl ⟨3,rfl,.inr rfl,fun _ _=>rfl,by decide,by decide,by decide,fun _ _ _=>rfl⟩)
  | exact .inr (.inr (.inl ⟨1,rfl,.inl rfl,fun _ _=>rfl,by decide,by decide,by decide,fun _ _ _=>rfl⟩))
  | exact .inr (.inr (.inl ⟨2,rfl,.inr (.inl rfl),fun _ _=>rfl,by decide,by decide,by decide,fun _ _ _=>rfl⟩))
  | exact .inr (.inr (.inl ⟨3,rfl,.inr (.inr rfl),fun _ _=>rfl,by decide,by decide,by decide,fun _ _ _=>rfl⟩))
  | exact .inr (.inr (.inr (.inl rfl)))
  | exact .inr (.inr (.inr (.inr (.inl rfl))))
  | exact .inr (.inr (.inr (.inr (.inr rfl))))
def ReadPost (ps:List Pd) (n:Nd) (ts:List Int) (base:Nat) (v:Value) (w:World) (e:Ending) (w':World):Prop:=
 match readF ps n ts with
 | none=>∃u,e=.returned (.tuple #[u,.bool false])
 | some (t1,tk)=>∃u,e=.returned (.tuple #[u,.bool true])∧tk.length≤4∧w'.ownsRow w.heap.size 3 1 u tk.length (ints tk)∧w'.ownsRow base 3 1 v ts.length (ints t1)
theorem readF_none {ps:List Pd} {n:Nd} {ts:List Int} (h:rdsS (rolesOf n.op.toNat) n.fs ⟨ts,[],[]⟩=none):readF ps n ts=none:=by unfold readF;rw [h]
theorem readF_some {ps:List Pd} {n:Nd} {ts:List Int} {r:Rd} (h:rdsS (rolesOf n.op.toNat) n.fs ⟨ts,[],[]⟩=some r):readF ps n ts=if upsBoxedB r.types (fnUps ps n) then some (r.types,r.taken) else none:=by unfold readF;rw [h]
set_option maxHeartbeats 400000 in
theorem l3fields_at (n:Nd) (w:World) :
  Calls Tryz.prog 97 #[n.val] w fun e w'=>∃g,e=.returned (.slice (some ⟨g,0,none⟩) 4 4)∧w.heap.size≤g∧Blk w' g #[.int .i64 n.a,.int .i64 n.b,.int .i64 n.c,.int .i64 n.d] 3∧Below w.heap.size w w':=by
 obtain⟨x0,x1,x2,x3,x4⟩:=n
 dsimp only [Nd.val]
 go_enter Tryz.func97,Tryz.ntmps97
 go_wp2_with fail
 go_ret
 refine⟨w.heap.size+1,rfl,by omega,?_,((Below.refl _ _).alloc (Nat.le_refl _) _).alloc (by simp) _⟩
 have:=Blk.new (w.alloc (.cells #[.int .i64 x0,.int .i64 x1,.int .i64 x2,.int .i64 x3,.int .i64 x4] 93)) #[.int .i64 x1,.int .i64 x2,.int .i64 x3,.int .i64 x4] 3
 rwa [nblk_alloc] at this
structure RdAt (base B1:Nat) (v vt vs:Value) (m:Nat) (w1 wr:World) (rd:Rd):Prop where
 types:wr.ownsRow base 3 1 v m (ints rd.types)
 taken:wr.ownsRow B1 3 1 vt rd.taken.length (ints rd.taken)
 stay:wr.ownsRow B1 3 1 vs rd.stay.length (ints rd.stay)
 sep:∀k,vt.ownBlock=some k→vs.ownBlock≠some k
 grown:w1.grownBy wr v.ownBlock
theorem RdAt.addStay {base B1:Nat} {v vt vs vs':Value} {m:Nat} {w1 wr w2:World} {rd:Rd} {x:Int} {o:Obj} (h:RdAt base B1 v vt vs m w1 wr rd) (hB:w1.heap.size=B1) (hv:∀k,v.ownBlock=some k→k<B1)
  (h1:w2.ownsRow B1 3 1 vs' (rd.stay.length+1) (ints (rd.stay ++ [x]))) (h2:(wr.alloc o).grownBy w2 vs.ownBlock) {S:Nat} (hS:wr.heap.size≤S) (h3:vs'.ownBlock=vs.ownBlock∨vs'.ownBlock=some S) :
  RdAt base B1 v vt vs' m w1 w2 ⟨rd.types,rd.stay ++ [x],rd.taken⟩:=by
 have hs:∀k,vs.ownBlock=some k→B1≤k:=fun k hk=>(h.stay.lt k hk).1
 refine⟨owns_grown (h.types.alloc o) h2 (fun k hk e=>by have:=hs k e.symm;have:=hv k hk;omega),owns_grown (h.taken.alloc o) h2 (fun k hk e=>h.sep k hk e.symm),by simpa using h1,?_,grown_comp (grown_alloc h.grown o) h2 (fun i hi=>by have:=hs i hi;omega)⟩
 intro k hk e
 rcases h3 with h3 | h3
 ·exact h.sep k hk (h3▸e)
 ·have:=(h.taken.lt k hk).2
  rw [h3] at e
  simp at e
  omega
theorem RdAt.addTaken {base B1:Nat} {v vt vt' vs:Value} {m:Nat} {w1 wr w2:World} {rd:Rd} {x:Int} {o:Obj} (h:RdAt base B1 v vt vs m w1 wr rd) (hB:w1.heap.size=B1) (hv:∀k,v.ownBlock=some k→k<B1)
  (h1:w2.ownsRow B1 3 1 vt' (rd.taken.length+1) (ints (rd.taken ++ [x]))) (h2:(wr.alloc o).grownBy w2 vt.ownBlock) {S:Nat} (hS:wr.heap.size≤S) (h3:vt'.ownBlock=vt.ownBlock∨vt'.ownBlock=some S) :
  RdAt base B1 v vt' vs m w1 w2 ⟨rd.types,rd.stay,rd.taken ++ [x]⟩:=by
 have hs:∀k,vt.ownBlock=some k→B1≤k:=fun k hk=>(h.taken.lt k hk).1
 refine⟨owns_grown (h.types.alloc o) h2 (fun k hk e=>by have:=hs k e.symm;have:=hv k hk;omega),by simpa using h1,owns_grown (h.stay.alloc o) h2 (fun k hk e=>h.sep k e.symm hk),?_,grown_comp (grown_alloc h.grown o) h2 (fun i hi=>by have:=hs i hi;omega)⟩
 intro k hk e
 rcases h3 with h3 | h3
 ·exact h.sep k (h3▸hk) e
 ·have:=(h.stay.lt k e).2
  rw [h3] at hk
  simp at hk
  omega
theorem RdAt.store {base B1:Nat} {vt vs:Value} {m g cap:Nat} {w1 wr:World} {rd:Rd} {i:Nat} (h:RdAt base B1 (.slice (some ⟨g,0,none⟩) m cap) vt vs m w1 wr rd) (hv:g<B1) (x:Int) :
  RdAt base B1 (.slice (some ⟨g,0,none⟩) m cap) vt vs m w1 (wr.setCell ⟨g,i,none⟩ (.int .i64 x)) ⟨rd.types.set i x,rd.stay,rd.taken⟩:=by
 obtain⟨s1,s2⟩:=h.types.stored i (.int .i64 x)
 rw [ints_set] at s1
 refine⟨s1,owns_grown h.taken s2 (fun k hk e=>?_),owns_grown h.stay s2 (fun k hk e=>?_),h.sep,grown_trans h.grown s2⟩
 ·have:=(h.taken.lt k hk).1
  simp at e
  omega
 ·have:=(h.stay.lt k hk).1
  simp at e
  omega
theorem RdAt.ty {base B1:Nat} {ao:Option Addr} {cap:Nat} {vt vs:Value} {m:Nat} {w1 wr:World} {rd:Rd} (h:RdAt base B1 (.slice ao m cap) vt vs m w1 wr rd) {i:Nat} (hi:i<m) (hm:rd.types.length=m) :
  ∃g,ao=some ⟨g,0,none⟩∧wr.cell? ⟨g,i,none⟩=some (.int .i64 (rd.types.getD i 0))∧wr.frozen? ⟨g,i,none⟩=false:=by
 rcases owns_form h.types with ⟨h1,h2⟩ | ⟨g,cap',h1,h2,h3⟩
 ·omega
 ·simp only [Value.slice.injEq] at h1
  obtain⟨rfl,_,rfl⟩:=h1
  have ho:=h.types
  exact⟨g,rfl,(ho.cellAt i (by omega)).trans (ints_get (by omega)),ho.frozenAt i⟩
theorem l3wants_at (r:Nat) (t:Int) (b:Bool) (hr:r≤21) (h:wantsR r=(t,b)) (w:World):Calls Tryz.prog 98 #[.int .i64 r] w fun e w'=>e=.returned (.tuple #[.int .i64 t,.bool b])∧w'=w:=by
 have:=l3wants_any r w hr
 rw [h] at this
 exact this
theorem regOf_neg (q:Nat):regOf (-1 - (q:Int))=q:=by unfold regOf;rw [if_pos (by omega)];omega
theorem regOf_nat (q:Nat):regOf (q:Int)=q:=by unfold regOf;rw [if_neg (by omega)]
theorem take_not {xs:List Int} {j:Nat} {x q:Int} (h:q ∉ xs.take j) (hx:xs[j]?=some x) (hn:¬x=q):q ∉ xs.take (j+1):=by
 rw [List.take_add_one,hx]
 simp only [Option.toList_some,List.mem_append,List.mem_singleton]
 rintro (h1 | h1)
 ·exact h h1
 ·exact hn h1.symm
set_option maxRecDepth 100000 in
set_option maxHeartbeats 8000000 in
theorem l3read_any (ps:List Pd) (cao:Option Addr) (ccap:Nat) (p:Pd) (pi:Int) (n:Nd) (v:Value) (base:Nat) (ts:List Int) (w0 w:World) (hn:InsFit ps.length p n) (hl:(ts.length:Int)=p.regs) (hr:p.regs≤250)
  (hu:∀u ∈ fnUps ps n,u.loc=true→0≤u.idx∧u.idx<p.regs) (hul:(fnUps ps n).length≤1048576)
  (hv:ProtosAt 0 w0 cao ps) (hb0:Below w0.heap.size w0 w) (hbase:w0.heap.size≤base) (hown:w.ownsRow base 3 1 v ts.length (ints ts)) :
  Calls Tryz.prog 47 #[.agg #[.slice cao ps.length ccap],.int .i64 pi,n.val,v] w fun e w'=>ReadPost ps n ts base v w e w'∧w.grownBy w' v.ownBlock:=by
 have hvlt:∀k,v.ownBlock=some k→k<w.heap.size:=fun k hk=>(hown.lt k hk).2
 have hvb:∀k,v.ownBlock=some k→w0.heap.size≤k:=fun k hk=>by have:=(hown.lt k hk).1;omega
 obtain⟨ao,cap,rfl⟩:=owns_slice hown
 have ho1:=hn.lo
 have ho2:=hn.hi
 have HF:Hid _:=hn.fit
 have HFT:Hid _:=(fit_tab hn).2.2.2.2.2
 obtain⟨op,a,b,c,d⟩:=n
 dsimp only at *
 obtain⟨opN,rfl⟩:∃k:Nat,op=k:=Int.eq_ofNat_of_zero_le (by omega)
 simp only [Int.toNat_natCast] at *
 obtain⟨r0,r1,r2,r3,hro,l0,l1,l2,l3⟩:=roles_four (n:=opN) (by omega) (by omega)
 have HR:Hid _:=fun W=>l3roles_any opN r0 r1 r2 r3 W (by omega) (by omega) hro
 have hrl:∀(k r:Nat),[r0,r1,r2,r3][k]?=some r→r≤21:=by
  intro k r h
  have:=List.mem_of_getElem? h
  simp at this
  omega
 have HRL:Hid _:=hrl
 have HNO:Hid (rdsS [r0,r1,r2,r3] [a,b,c,d] ⟨ts,[],[]⟩=none→readF ps ⟨opN,a,b,c,d⟩ ts=none):=by
  intro h
  refine readF_none ?_
  simp only [Int.toNat_natCast,Nd.fs,hro]
  exact h
 have HYES:Hid (∀r,rdsS [r0,r1,r2,r3] [a,b,c,d] ⟨ts,[],[]⟩=some r→readF ps ⟨opN,a,b,c,d⟩ ts=if upsBoxedB r.types (fnUps ps ⟨opN,a,b,c,d⟩) then some (r.types,r.taken) else none):=by
  intro r h
  refine readF_some ?_
  simp only [Int.toNat_natCast,Nd.fs,hro]
  exact h
 rw [hro] at HF
 unfold Nd.val
 dsimp only
 have C0:=(Blk.new w #[.slice cao ps.length ccap] 31).alloc (.cells #[.int .i64 opN,.int .i64 a,.int .i64 b,.int .i64 c,.int .i64 d] 93)
 have I0:=Blk.new (w.alloc (.cells #[.slice cao ps.length ccap] 31)) #[.int .i64 opN,.int .i64 a,.int .i64 b,.int .i64 c,.int .i64 d] 93
 rw [nblk_alloc] at I0
 have hb2:∀o1 o2,Below w.heap.size w ((w.alloc o1).alloc o2):=fun o1 o2=>((Below.refl _ _).alloc (Nat.le_refl _) o1).alloc (by simp) o2
 have i0:=I0.cell
 clear hro hrl
 go_enter Tryz.func47,Tryz.ntmps47
 go_wp2_with fail
 refine (HR.out _).mono ?_
 rintro e wa ⟨rfl,rfl⟩
 have C1:=C0.alloc (.cells #[.int .i64 r0,.int .i64 r1,.int .i64 r2,.int .i64 r3] 3)
 have I1:=I0.alloc (.cells #[.int .i64 r0,.int .i64 r1,.int .i64 r2,.int .i64 r3] 3)
 have R1:=Blk.new ((w.alloc (.cells #[.slice cao ps.length ccap] 31)).alloc (.cells #[.int .i64 opN,.int .i64 a,.int .i64 b,.int .i64 c,.int .i64 d] 93)) #[.int .i64 r0,.int .i64 r1,.int .i64 r2,.int .i64 r3] 3
 have B1:=(hb2 (.cells #[.slice cao ps.length ccap] 31) (.cells #[.int .i64 opN,.int .i64 a,.int .i64 b,.int .i64 c,.int .i64 d] 93)).alloc (by simp;omega) (.cells #[.int .i64 r0,.int .i64 r1,.int .i64 r2,.int .i64 r3] 3)
 clear C0 I0 hb2 HR
 have i1:=I1.cell
 go_wp2_with fail
 refine (l3fields_at ⟨opN,a,b,c,d⟩ _).mono ?_
 rintro e w1 ⟨fb,rfl,hfb0,F2,hw1⟩
 have C2:=C1.later hw1
 have I2:=I1.later hw1
 have R2:=R1.later hw1
 have B2:=B1.trans (hw1.mono (by simp;omega))
 have hfb:w.heap.size≤fb:=by simp at hfb0;omega
 rw [nblk_alloc,nblk_alloc] at R2
 clear C1 I1 R1 B1 hw1 i0 i1 hfb0
 have hcb:∀k,w.heap.size≤k→some k≠(Value.slice ao ts.length cap).ownBlock:=fun k hk e=>by have:=hvlt k e.symm;omega
 have hvl1:∀k,(Value.slice ao ts.length cap).ownBlock=some k→k<w1.heap.size:=fun k hk=>by have:=hvlt k hk;have:=B2.size;omega
 have T2:w1.ownsRow base 3 1 (.slice ao ts.length cap) ts.length (ints ts):=owns_below hown B2
 have hG2:w.grownBy w1 (Value.slice ao ts.length cap).ownBlock:=grown_of_below B2 _
 have HBB:Hid (w.heap.size≤w1.heap.size):=B2.size
 have HB0:Hid (∀wr,w1.grownBy wr (Value.slice ao ts.length cap).ownBlock→Below w0.heap.size w0 wr):=fun wr h=>(hb0.trans (B2.mono hb0.size)).grown h (by have:=hb0.size;have:=B2.size;omega) hvb
 clear hvb hb0 hown B2
 have i2:=I2.cell
 go_wp2_with fail
 go_loopw [10,11,30] (fun vt vs y wr=>∃(k:Nat) (rd:Rd),k≤4∧y=.int .i64 k∧Hid (rdsS ([r0,r1,r2,r3].drop k) ([a,b,c,d].drop k) rd=rdsS [r0,r1,r2,r3] [a,b,c,d] ⟨ts,[],[]⟩)∧Hid (rd.types.length=ts.length∧rd.taken.length≤k∧rd.stay.length≤k)∧RdAt base w1.heap.size (.slice ao ts.length cap) vt vs ts.length w1 wr rd) (fun _ _ y _=>4 - (intOf y).toNat)
 case atStart=>exact ⟨0,⟨ts,[],[]⟩,by omega,rfl,rfl,⟨rfl,by simp,by simp⟩,⟨T2,World.ownsRow_nil _ _ _ _,World.ownsRow_nil _ _ _ _,by simp [Value.ownBlock],grown_of_below (Below.refl _ _) _⟩⟩
 case round=>
  obtain⟨k,rd,hk,rfl,HQ,HL,hR⟩:=hrel
  obtain⟨to,tc,rfl⟩:=owns_slice hR.taken
  obtain⟨so,sc,rfl⟩:=owns_slice hR.stay
  have C3:=blk_grown C2 hR.grown (hcb _ (Nat.le_refl _))
  have I3:=blk_grown I2 hR.grown (hcb _ (by omega))
  have R3:=blk_grown R2 hR.grown (hcb _ (by omega))
  have F3:=blk_grown F2 hR.grown (hcb _ hfb)
  have HBW:Hid (w.heap.size≤w1.heap.size∧w1.heap.size≤wr.heap.size):=⟨HBB.out,hR.grown.size⟩
  clear i2 C2 I2 F2 T2
  by_cases hk4:k<4
  ·obtain⟨r,x,hr21,hrk,hxk,ar,ax⟩:=four_at r0 r1 r2 r3 ⟨opN,a,b,c,d⟩ k hk4 l0 l1 l2 l3
   have HD:Hid (rdsS [r0,r1,r2,r3] [a,b,c,d] ⟨ts,[],[]⟩=_):=HQ.out.symm.trans (rdsS_drop hrk hxk rd)
   have hfx:=fitAll_get HF.out hrk hxk
   have c3:=(R3.cell k).trans ar
   have d3:=(F3.cell k).trans ax
   have hk4i:(k:Int)<4:=by omega
   have HAR:Hid _:=ar
   clear hrk hxk ar ax HQ HRL l0 l1 l2 l3 R3 F3 C3 I3
   rcases role_class r hr21 with ⟨hw0,hs⟩ | ⟨t,hwt,ht,hs,n1,n2,n3,hfr⟩ | ⟨t,hwt,ht,hs,n1,n2,n3,hfr⟩ | rfl | rfl | rfl
   ·obtain⟨t,bb,hwt⟩:∃t bb,wantsR r=(t,bb):=⟨_,_,rfl⟩
    rw [hwt] at hw0
    dsimp only at hw0
    subst hw0
    have HW:Hid _:=fun W=>l3wants_at r 0 bb hr21 hwt W
    have HN:Hid (rdsS ([r0,r1,r2,r3].drop (k+1)) ([a,b,c,d].drop (k+1)) rd=rdsS [r0,r1,r2,r3] [a,b,c,d] ⟨ts,[],[]⟩):=by show _=_;rw [HD.out,hs];rfl
    clear HD hs hwt
    go_wp2_with fail
    refine (HW.out _).mono ?_
    rintro e w' ⟨rfl,hw'⟩
    subst w'
    go_wp2_with fail
    go_roundw
    case rel=>exact ⟨k+1,rd,by omega,by go_num,HN.out,⟨HL.out.1,by have:=HL.out;omega,by have:=HL.out;omega⟩,hR⟩
    case measure=>simp [intOf];omega
   ·rw [hfr] at hfx
    simp only [inR,Bool.and_eq_true,decide_eq_true_iff] at hfx
    have HW:Hid _:=fun W=>l3wants_at r t true hr21 hwt W
    have k1:(t == 0)=false:=by rcases ht with rfl | rfl <;> rfl
    have k18:((r:Int) == 18)=false:=by simp;omega
    have k19:((r:Int) == 19)=false:=by simp;omega
    have k20:((r:Int) == 20)=false:=by simp;omega
    clear n1 n2 n3 hfr hwt ht
    rw [hs] at HD
    clear hs
    by_cases hx0:x<0
    ·obtain⟨q,rfl⟩:∃q:Nat,x = -1 - (q:Int):=⟨(-1 - x).toNat,by omega⟩
     obtain⟨g,rfl,ct,fz⟩:=hR.ty (i:=q) (by omega) HL.out.1
     obtain⟨ty,hty⟩:∃ty,ty=rd.types.getD q 0:=⟨_,rfl⟩
     rw [←hty] at ct
     have HTY:Hid (tyAt rd.types (regOf (-1 - (q:Int)))=ty):=by show _=_;rw [regOf_neg,hty];rfl
     have k2:(-1 - (q:Int))<0:=by omega
     have k3:(-1 - (-1 - (q:Int)))=q:=by omega
     have k4:(q:Int)<ts.length:=by omega
     have HREG:Hid (regOf (-1 - (q:Int))=q):=regOf_neg q
     have hsl4:rd.stay.length≤4:=by have:=HL.out;omega
     have htl4:rd.taken.length≤4:=by have:=HL.out;omega
     clear hty hfx
     by_cases hne:ty=t
     ·subst hne
      have hg1:g<w1.heap.size:=hvl1 g rfl
      go_wp2_with fail
      refine (HW.out _).mono ?_
      rintro e w' ⟨rfl,hw'⟩
      subst w'
      go_wp2_with fail
      go_loopw [66] (fun y wi=>∃j:Nat,j≤rd.stay.length∧y=.int .i64 j∧Hid ((q:Int) ∉ rd.stay.take j)∧wi=wr) (fun y _=>rd.stay.length - (intOf y).toNat)
      case atStart=>exact ⟨0,Nat.zero_le _,rfl,by show _ ∉ _;simp,rfl⟩
      case round=>
       obtain⟨j,hj,rfl,HJ,rfl⟩:=hrel
       by_cases hjl:j<rd.stay.length
       ·obtain⟨z,hz⟩:=some_of_lt hjl
        obtain⟨sb,so',rfl,_,hsl,p0⟩:=(owns_ints hR.stay).1 j z hz
        unfold IntAt at p0
        rw [Nat.mul_one] at p0
        by_cases hzq:z=q
        ·subst hzq
         have HNO2:Hid (readF ps ⟨opN,a,b,c,d⟩ ts=none):=HNO.out (by rw [HD.out,rdOp_stays HTY.out k2 (by rw [HREG.out];exact List.mem_of_getElem? hz)];rfl)
         clear HD HAR HTY hz HJ
         go_wp2_with fail
         go_ret2
         refine⟨?_,grown_trans hG2 hR.grown⟩
         unfold ReadPost
         rw [HNO2.out]
         exact⟨_,rfl⟩
        ·have HJ2:Hid ((q:Int) ∉ rd.stay.take (j+1)):=take_not HJ.out hz hzq
         have k5:(z == (q:Int))=false:=by simpa using hzq
         clear hz HJ hzq
         go_wp2_with fail
         go_roundw
         case rel=>exact ⟨j+1,by omega,by go_num,HJ2.out,trivial⟩
         case measure=>simp [intOf];omega
       ·have hni:(q:Int) ∉ rd.stay:=by have:=HJ.out;rwa [List.take_of_length_le (by omega)] at this
        have HN:Hid (rdsS ([r0,r1,r2,r3].drop (k+1)) ([a,b,c,d].drop (k+1)) ⟨rd.types.set q 0,rd.stay,rd.taken ++ [(q:Int)]⟩=rdsS [r0,r1,r2,r3] [a,b,c,d] ⟨ts,[],[]⟩):=by
         show _=_
         rw [HD.out,rdOp_takes HTY.out k2 (by rw [HREG.out];exact hni),HREG.out]
         rfl
        have hR2:=hR.store (i:=q) hg1 0
        have HLL:=HL.out
        clear HD HTY HJ hni
        go_wp2_with (at_builtin;refine app_int rfl _ _ rfl w1.heap.size _ rd.taken.length rd.taken q wr.heap.size rfl (hR2.taken.alloc _) rfl ?c1 ?c2 ?c3 ?_)
        case c1=>
         have h:=(Blk.new (wr.setCell ⟨g,q,none⟩ (.int .i64 0)) #[.int .i64 (q:Int)] 3).cell 0
         rw [size_set] at h
         exact h
        case c2=>omega
        case c3=>have:=hR.grown.size;first | omega | (simp;omega)
        ·intro v' w2 H1 H2 H3
         have hR3:=hR2.addTaken rfl hvl1 H1 H2 (by simp) H3
         obtain⟨to',tc',rfl⟩:=owns_slice H1
         have c4:=((blk_grown R2 hR3.grown (hcb _ (by omega))).cell k).trans HAR.out
         clear H1 H2 H3 c3 d3 ct fz hR hR2
         go_wp2_with fail
         go_loopw [21] (fun y wi=>y=.int .i64 1∧wi=w2) (fun _ _=>0)
         case atStart=>exact ⟨rfl,rfl⟩
         case round=>
          obtain⟨rfl,rfl⟩:=hrel
          go_wp2_with fail
          go_roundw
          case rel=>exact ⟨k+1,⟨rd.types.set q 0,rd.stay,rd.taken ++ [(q:Int)]⟩,by omega,by go_num,HN.out,⟨by simpa using HLL.1,by simp;omega,by dsimp only;omega⟩,hR3⟩
          case measure=>simp [intOf];omega
     ·have HNO2:Hid (readF ps ⟨opN,a,b,c,d⟩ ts=none):=HNO.out (by rw [HD.out,rdOp_no (by rw [HTY.out];exact hne)];rfl)
      have k5:(ty != t)=true:=by simpa using hne
      clear HD HAR HTY hne
      go_wp2_with fail
      refine (HW.out _).mono ?_
      rintro e w' ⟨rfl,hw'⟩
      subst w'
      go_wp2_with fail
      go_ret2
      refine⟨?_,grown_trans hG2 hR.grown⟩
      unfold ReadPost
      rw [HNO2.out]
      exact⟨_,rfl⟩
    ·obtain⟨q,rfl⟩:∃q:Nat,x=(q:Int):=Int.eq_ofNat_of_zero_le (by omega)
     obtain⟨g,rfl,ct,fz⟩:=hR.ty (i:=q) (by omega) HL.out.1
     obtain⟨ty,hty⟩:∃ty,ty=rd.types.getD q 0:=⟨_,rfl⟩
     rw [←hty] at ct
     have HTY:Hid (tyAt rd.types (regOf (q:Int))=ty):=by show _=_;rw [regOf_nat,hty];rfl
     have k2:¬(q:Int)<0:=by omega
     have k4:(q:Int)<ts.length:=by omega
     clear hty hfx hx0 fz
     by_cases hne:ty=t
     ·subst hne
      have HN:Hid (rdsS ([r0,r1,r2,r3].drop (k+1)) ([a,b,c,d].drop (k+1)) rd=rdsS [r0,r1,r2,r3] [a,b,c,d] ⟨ts,[],[]⟩):=by
       show _=_
       rw [HD.out,rdOp_read HTY.out k2]
       rfl
      have HLL:=HL.out
      clear HD HTY
      go_wp2_with fail
      refine (HW.out _).mono ?_
      rintro e w' ⟨rfl,hw'⟩
      subst w'
      go_wp2_with fail
      go_loopw [21] (fun y wi=>y=.int .i64 1∧wi=wr) (fun _ _=>0)
      case atStart=>exact ⟨rfl,rfl⟩
      case round=>
       obtain⟨rfl,rfl⟩:=hrel
       go_wp2_with fail
       go_roundw
       case rel=>exact ⟨k+1,rd,by omega,by go_num,HN.out,⟨HLL.1,by omega,by omega⟩,hR⟩
       case measure=>simp [intOf];omega
     ·have HNO2:Hid (readF ps ⟨opN,a,b,c,d⟩ ts=none):=HNO.out (by rw [HD.out,rdOp_no (by rw [HTY.out];exact hne)];rfl)
      have k5:(ty != t)=true:=by simpa using hne
      clear HD HAR HTY hne
      go_wp2_with fail
      refine (HW.out _).mono ?_
      rintro e w' ⟨rfl,hw'⟩
      subst w'
      go_wp2_with fail
      go_ret2
      refine⟨?_,grown_trans hG2 hR.grown⟩
      unfold ReadPost
      rw [HNO2.out]
      exact⟨_,rfl⟩
   ·rw [hfr] at hfx
    simp only [inR,Bool.and_eq_true,decide_eq_true_iff] at hfx
    have HW:Hid _:=fun W=>l3wants_at r t false hr21 hwt W
    have k1:(t == 0)=false:=by rcases ht with rfl | rfl | rfl <;> rfl
    have k18:((r:Int) == 18)=false:=by simp;omega
    have k19:((r:Int) == 19)=false:=by simp;omega
    have k20:((r:Int) == 20)=false:=by simp;omega
    clear n1 n2 n3 hfr hwt ht
    rw [hs] at HD
    clear hs
    obtain⟨q,rfl⟩:∃q:Nat,x=(q:Int):=Int.eq_ofNat_of_zero_le (by omega)
    obtain⟨g,rfl,ct,fz⟩:=hR.ty (i:=q) (by omega) HL.out.1
    obtain⟨ty,hty⟩:∃ty,ty=rd.types.getD q 0:=⟨_,rfl⟩
    rw [←hty] at ct
    have HTY:Hid (tyAt rd.types (q:Int)=ty):=hty.symm
    have k4:(q:Int)<ts.length:=by omega
    have hsl4:rd.stay.length≤4:=by have:=HL.out;omega
    clear hty hfx fz
    by_cases hne:ty=t
    ·subst hne
     have HN:Hid (rdsS ([r0,r1,r2,r3].drop (k+1)) ([a,b,c,d].drop (k+1)) ⟨rd.types,rd.stay ++ [(q:Int)],rd.taken⟩=rdsS [r0,r1,r2,r3] [a,b,c,d] ⟨ts,[],[]⟩):=by
      show _=_
      rw [HD.out,rdPlace_yes HTY.out]
      rfl
     have HLL:=HL.out
     clear HD HTY
     go_wp2_with fail
     refine (HW.out _).mono ?_
     rintro e w' ⟨rfl,hw'⟩
     subst w'
     go_wp2_with (at_builtin;refine app_int rfl _ _ rfl w1.heap.size _ rd.stay.length rd.stay q wr.heap.size rfl (hR.stay.alloc _) rfl ?c1 ?c2 ?c3 ?_)
     case c1=>simp
     case c2=>omega
     case c3=>have:=hR.grown.size;first | omega | (simp;omega)
     ·intro v' w2 H1 H2 H3
      have hR3:=hR.addStay rfl hvl1 H1 H2 (by omega) H3
      obtain⟨to',tc',rfl⟩:=owns_slice H1
      have c4:=((blk_grown R2 hR3.grown (hcb _ (by omega))).cell k).trans HAR.out
      clear H1 H2 H3 c3 d3 ct hR
      go_wp2_with fail
      go_loopw [21] (fun y wi=>y=.int .i64 1∧wi=w2) (fun _ _=>0)
      case atStart=>exact ⟨rfl,rfl⟩
      case round=>
       obtain⟨rfl,rfl⟩:=hrel
       go_wp2_with fail
       go_roundw
       case rel=>exact ⟨k+1,⟨rd.types,rd.stay ++ [(q:Int)],rd.taken⟩,by omega,by go_num,HN.out,⟨HLL.1,by dsimp only;omega,by simp;omega⟩,hR3⟩
       case measure=>simp [intOf];omega
    ·have HNO2:Hid (readF ps ⟨opN,a,b,c,d⟩ ts=none):=HNO.out (by rw [HD.out,rdPlace_no (by rw [HTY.out];exact hne)];rfl)
     have k5:(ty != t)=true:=by simpa using hne
     clear HD HAR HTY hne
     go_wp2_with fail
     refine (HW.out _).mono ?_
     rintro e w' ⟨rfl,hw'⟩
     subst w'
     go_wp2_with fail
     go_ret2
     refine⟨?_,grown_trans hG2 hR.grown⟩
     unfold ReadPost
     rw [HNO2.out]
     exact⟨_,rfl⟩
   ·simp only [fitsR,inR,Bool.and_eq_true,decide_eq_true_iff] at hfx
    have HW:Hid _:=fun W=>l3wants_at 18 1 false hr21 rfl W
    obtain⟨q,rfl⟩:∃q:Nat,x=(q:Int):=Int.eq_ofNat_of_zero_le (by omega)
    obtain⟨g,rfl,ct,_⟩:=hR.ty (i:=q) (by omega) HL.out.1
    have HTYS:Hid (∀(W:World) (rd':Rd) (vt' vs':Value) (e:Nat),e≤2→RdAt base w1.heap.size (.slice (some ⟨g,0,none⟩) ts.length cap) vt' vs' ts.length w1 W rd'→rd'.types=rd.types→W.cell? ⟨g,q+e,none⟩=some (.int .i64 (tyAt rd.types ((q:Int)+e)))):=by
     intro W rd' vt' vs' e he h1 h2
     obtain⟨g',e1,e2,_⟩:=h1.ty (i:=q+e) (by omega) (by rw [h2];exact HL.out.1)
     simp at e1
     subst e1
     rw [h2] at e2
     rw [e2]
     unfold tyAt
     rw [show ((q:Int)+e).toNat=q+e by omega]
    have HD2:Hid (rdsS [r0,r1,r2,r3] [a,b,c,d] ⟨ts,[],[]⟩=(if tyAt rd.types ((q:Int))=1∧tyAt rd.types ((q:Int)+1)=1∧tyAt rd.types ((q:Int)+2)=1 then some (⟨rd.types,rd.stay ++ [(q:Int)],rd.taken⟩:Rd) else none).bind (rdsS ([r0,r1,r2,r3].drop (k+1)) ([a,b,c,d].drop (k+1)))):=HD.out
    have k4:(q:Int)+2<ts.length:=by omega
    have k5:(q:Int)<ts.length:=by omega
    have k6:(q:Int)≤250:=by omega
    have hsl4:rd.stay.length≤4:=by have:=HL.out;omega
    have HLL:=HL.out
    obtain⟨ty,hty⟩:∃ty,ty=rd.types.getD q 0:=⟨_,rfl⟩
    rw [←hty] at ct
    have HTY:Hid (tyAt rd.types (q:Int)=ty):=hty.symm
    clear hfx HD hty
    by_cases hne:ty=1
    ·subst hne
     go_wp2_with fail
     refine (HW.out _).mono ?_
     rintro e w' ⟨rfl,hw'⟩
     subst w'
     go_wp2_with (at_builtin;refine app_int rfl _ _ rfl w1.heap.size _ rd.stay.length rd.stay q wr.heap.size rfl (hR.stay.alloc _) rfl ?c1 ?c2 ?c3 ?_)
     case c1=>simp
     case c2=>omega
     case c3=>have:=hR.grown.size;first | omega | (simp;omega)
     ·intro v' w2 H1 H2 H3
      have hR3:=hR.addStay rfl hvl1 H1 H2 (by omega) H3
      obtain⟨to',tc',rfl⟩:=owns_slice H1
      have c4:=((blk_grown R2 hR3.grown (hcb _ (by omega))).cell k).trans HAR.out
      clear H1 H2 H3 c3 d3 ct hR
      go_wp2_with fail
      go_loopw [21] (fun y wi=>∃e:Nat,y=.int .i64 e∧1≤e∧e≤2+1∧Hid (∀f:Nat,1≤f→f<e→tyAt rd.types ((q:Int)+f)=1)∧wi=w2) (fun y _=>2+1 - (intOf y).toNat)
      case atStart=>exact ⟨1,rfl,by omega,by omega,fun f h1 h2=>absurd h2 (by omega),rfl⟩
      case round=>
       obtain⟨e,rfl,he1,he2,HE,rfl⟩:=hrel
       by_cases hel:e≤2
       ·have ce:=HTYS.out _ _ _ _ e hel hR3 rfl
        obtain⟨te,hte⟩:∃te,te=tyAt rd.types ((q:Int)+e):=⟨_,rfl⟩
        rw [←hte] at ce
        have k7:(e:Int)≤2:=by omega
        have k8:(q:Int)+e<ts.length:=by omega
        by_cases ht1:te=1
        ·have HE2:Hid (∀f:Nat,1≤f→f<e+1→tyAt rd.types ((q:Int)+f)=1):=by
          intro f h1 h2
          by_cases hfe:f=e
          ·subst hfe;rw [←hte];exact ht1
          ·exact HE.out f h1 (by omega)
         subst ht1
         clear HE hte
         go_wp2_with fail
         go_roundw
         case rel=>exact ⟨e+1,by go_num,by omega,by omega,HE2.out,trivial⟩
         case measure=>simp [intOf];omega
        ·have HNO2:Hid (readF ps ⟨opN,a,b,c,d⟩ ts=none):=by
          refine HNO.out ?_
          rw [HD2.out,if_neg]
          ·rfl
          ·rintro⟨h0,h1,h2⟩
           rcases (by omega:e=1∨e=2) with rfl | rfl
           ·exact ht1 (hte.trans h1)
           ·exact ht1 (hte.trans h2)
         have k9:(te != 1)=true:=by simpa using ht1
         clear HE hte ht1 HD2
         go_wp2_with fail
         go_ret2
         refine⟨?_,grown_trans hG2 hR3.grown⟩
         unfold ReadPost
         rw [HNO2.out]
         exact⟨_,rfl⟩
       ·have HN:Hid (rdsS ([r0,r1,r2,r3].drop (k+1)) ([a,b,c,d].drop (k+1)) ⟨rd.types,rd.stay ++ [(q:Int)],rd.taken⟩=rdsS [r0,r1,r2,r3] [a,b,c,d] ⟨ts,[],[]⟩):=by
         show _=_
         rw [HD2.out,if_pos]
         ·rfl
         ·exact⟨HTY.out,HE.out 1 (by omega) (by omega),HE.out 2 (by omega) (by omega)⟩
        have k7:¬(e:Int)≤2:=by omega
        clear HE HD2
        go_wp2_with fail
        go_roundw
        case rel=>exact ⟨k+1,⟨rd.types,rd.stay ++ [(q:Int)],rd.taken⟩,by omega,by go_num,HN.out,⟨HLL.1,by dsimp only;omega,by simp;omega⟩,hR3⟩
        case measure=>simp [intOf];omega
    ·have HNO2:Hid (readF ps ⟨opN,a,b,c,d⟩ ts=none):=by
      refine HNO.out ?_
      rw [HD2.out,if_neg]
      ·rfl
      ·rintro⟨h0,h1,h2⟩
       exact hne (HTY.out.symm.trans h0)
     have k9:(ty != 1)=true:=by simpa using hne
     clear HD2 HAR HTY hne
     go_wp2_with fail
     refine (HW.out _).mono ?_
     rintro e w' ⟨rfl,hw'⟩
     subst w'
     go_wp2_with fail
     go_ret2
     refine⟨?_,grown_trans hG2 hR.grown⟩
     unfold ReadPost
     rw [HNO2.out]
     exact⟨_,rfl⟩
   ·simp only [fitsR,inR,Bool.and_eq_true,decide_eq_true_iff] at hfx
    have HW:Hid _:=fun W=>l3wants_at 19 1 false hr21 rfl W
    obtain⟨q,rfl⟩:∃q:Nat,x=(q:Int):=Int.eq_ofNat_of_zero_le (by omega)
    obtain⟨g,rfl,ct,_⟩:=hR.ty (i:=q) (by omega) HL.out.1
    have HTYS:Hid (∀(W:World) (rd':Rd) (vt' vs':Value),RdAt base w1.heap.size (.slice (some ⟨g,0,none⟩) ts.length cap) vt' vs' ts.length w1 W rd'→rd'.types=rd.types→W.cell? ⟨g,q+1,none⟩=some (.int .i64 (tyAt rd.types ((q:Int)+1)))):=by
     intro W rd' vt' vs' h1 h2
     obtain⟨g',e1,e2,_⟩:=h1.ty (i:=q+1) (by omega) (by rw [h2];exact HL.out.1)
     simp at e1
     subst e1
     rw [h2] at e2
     exact e2
    have HD2:Hid (rdsS [r0,r1,r2,r3] [a,b,c,d] ⟨ts,[],[]⟩=(if tyAt rd.types (q:Int)=1∧tyAt rd.types ((q:Int)+1)=0 then some (⟨rd.types,rd.stay ++ [(q:Int)],rd.taken ++ [(q:Int)]⟩:Rd) else none).bind (rdsS ([r0,r1,r2,r3].drop (k+1)) ([a,b,c,d].drop (k+1)))):=HD.out
    have k4:(q:Int)+1<ts.length:=by omega
    have k5:(q:Int)<ts.length:=by omega
    have k6:(q:Int)≤250:=by omega
    have hsl4:rd.stay.length≤4:=by have:=HL.out;omega
    have htl4:rd.taken.length≤4:=by have:=HL.out;omega
    have HLL:=HL.out
    obtain⟨ty,hty⟩:∃ty,ty=rd.types.getD q 0:=⟨_,rfl⟩
    rw [←hty] at ct
    have HTY:Hid (tyAt rd.types (q:Int)=ty):=hty.symm
    clear hfx HD hty
    by_cases hne:ty=1
    ·subst hne
     go_wp2_with fail
     refine (HW.out _).mono ?_
     rintro e w' ⟨rfl,hw'⟩
     subst w'
     go_wp2_with (at_builtin;refine app_int rfl _ _ rfl w1.heap.size _ rd.stay.length rd.stay q wr.heap.size rfl (hR.stay.alloc _) rfl ?c1 ?c2 ?c3 ?_)
     case c1=>simp
     case c2=>omega
     case c3=>have:=hR.grown.size;first | omega | (simp;omega)
     ·intro v' w2 H1 H2 H3
      have hR3:=hR.addStay rfl hvl1 H1 H2 (by omega) H3
      obtain⟨to',tc',rfl⟩:=owns_slice H1
      have c4:=((blk_grown R2 hR3.grown (hcb _ (by omega))).cell k).trans HAR.out
      have ce:=HTYS.out _ _ _ _ hR3 rfl
      obtain⟨te,hte⟩:∃te,te=tyAt rd.types ((q:Int)+1):=⟨_,rfl⟩
      rw [←hte] at ce
      have HTE:Hid _:=hte
      clear H1 H2 H3 c3 d3 ct hR hte
      go_wp2_with fail
      go_loopw [21] (fun y wi=>y=.int .i64 1∧wi=w2) (fun _ _=>0)
      case atStart=>exact ⟨rfl,rfl⟩
      case round=>
       obtain⟨rfl,rfl⟩:=hrel
       by_cases ht0:te=0
       ·subst ht0
        have HN:Hid (rdsS ([r0,r1,r2,r3].drop (k+1)) ([a,b,c,d].drop (k+1)) ⟨rd.types,rd.stay ++ [(q:Int)],rd.taken ++ [(q:Int)]⟩=rdsS [r0,r1,r2,r3] [a,b,c,d] ⟨ts,[],[]⟩):=by
         show _=_
         rw [HD2.out,if_pos ⟨HTY.out,HTE.out.symm⟩]
         rfl
        clear HD2 HTY HTE
        go_wp2_with (at_builtin;refine app_int rfl _ _ rfl w1.heap.size _ rd.taken.length rd.taken q wr.heap.size rfl (hR3.taken.alloc _) rfl ?c1 ?c2 ?c3 ?_)
        case c1=>simp
        case c2=>omega
        case c3=>have:=hR3.grown.size;first | omega | (simp;omega)
        ·intro v2 w3 H1 H2 H3
         have hR4:=hR3.addTaken rfl hvl1 H1 H2 (by omega) H3
         obtain⟨to2,tc2,rfl⟩:=owns_slice H1
         clear H1 H2 H3 c4 ce hR3
         go_wp2_with fail
         go_roundw
         case rel=>exact ⟨k+1,⟨rd.types,rd.stay ++ [(q:Int)],rd.taken ++ [(q:Int)]⟩,by omega,by go_num,HN.out,⟨HLL.1,by simp;omega,by simp;omega⟩,hR4⟩
         case measure=>simp [intOf];omega
       ·have HNO2:Hid (readF ps ⟨opN,a,b,c,d⟩ ts=none):=by
         refine HNO.out ?_
         rw [HD2.out,if_neg]
         ·rfl
         ·rintro⟨h0,h1⟩
          exact ht0 (HTE.out.trans h1)
        have k9:(te != 0)=true:=by simpa using ht0
        clear HTE ht0 HD2
        go_wp2_with fail
        go_ret2
        refine⟨?_,grown_trans hG2 hR3.grown⟩
        unfold ReadPost
        rw [HNO2.out]
        exact⟨_,rfl⟩
    ·have HNO2:Hid (readF ps ⟨opN,a,b,c,d⟩ ts=none):=by
      refine HNO.out ?_
      rw [HD2.out,if_neg]
      ·rfl
      ·rintro⟨h0,h1⟩
       exact hne (HTY.out.symm.trans h0)
     have k9:(ty != 1)=true:=by simpa using hne
     clear HD2 HAR HTY hne
     go_wp2_with fail
     refine (HW.out _).mono ?_
     rintro e w' ⟨rfl,hw'⟩
     subst w'
     go_wp2_with fail
     go_ret2
     refine⟨?_,grown_trans hG2 hR.grown⟩
     unfold ReadPost
     rw [HNO2.out]
     exact⟨_,rfl⟩
   ·simp only [fitsR,inR,Bool.and_eq_true,decide_eq_true_iff] at hfx
    have HW:Hid _:=fun W=>l3wants_at 20 1 false hr21 rfl W
    obtain⟨q,rfl⟩:∃q:Nat,x=(q:Int):=Int.eq_ofNat_of_zero_le (by omega)
    obtain⟨g,rfl,ct,_⟩:=hR.ty (i:=q) (by omega) HL.out.1
    have HTYS:Hid (∀(W:World) (rd':Rd) (vt' vs':Value) (e:Nat),e≤1→RdAt base w1.heap.size (.slice (some ⟨g,0,none⟩) ts.length cap) vt' vs' ts.length w1 W rd'→rd'.types=rd.types→W.cell? ⟨g,q+e,none⟩=some (.int .i64 (tyAt rd.types ((q:Int)+e)))):=by
     intro W rd' vt' vs' e he h1 h2
     obtain⟨g',e1,e2,_⟩:=h1.ty (i:=q+e) (by omega) (by rw [h2];exact HL.out.1)
     simp at e1
     subst e1
     rw [h2] at e2
     rw [e2]
     unfold tyAt
     rw [show ((q:Int)+e).toNat=q+e by omega]
    have HD2:Hid (rdsS [r0,r1,r2,r3] [a,b,c,d] ⟨ts,[],[]⟩=(if tyAt rd.types ((q:Int))=1∧tyAt rd.types ((q:Int)+1)=1 then some (⟨rd.types,rd.stay ++ [(q:Int)],rd.taken⟩:Rd) else none).bind (rdsS ([r0,r1,r2,r3].drop (k+1)) ([a,b,c,d].drop (k+1)))):=HD.out
    have k4:(q:Int)+1<ts.length:=by omega
    have k5:(q:Int)<ts.length:=by omega
    have k6:(q:Int)≤250:=by omega
    have hsl4:rd.stay.length≤4:=by have:=HL.out;omega
    have HLL:=HL.out
    obtain⟨ty,hty⟩:∃ty,ty=rd.types.getD q 0:=⟨_,rfl⟩
    rw [←hty] at ct
    have HTY:Hid (tyAt rd.types (q:Int)=ty):=hty.symm
    clear hfx HD hty
    by_cases hne:ty=1
    ·subst hne
     go_wp2_with fail
     refine (HW.out _).mono ?_
     rintro e w' ⟨rfl,hw'⟩
     subst w'
     go_wp2_with (at_builtin;refine app_int rfl _ _ rfl w1.heap.size _ rd.stay.length rd.stay q wr.heap.size rfl (hR.stay.alloc _) rfl ?c1 ?c2 ?c3 ?_)
     case c1=>simp
     case c2=>omega
     case c3=>have:=hR.grown.size;first | omega | (simp;omega)
     ·intro v' w2 H1 H2 H3
      have hR3:=hR.addStay rfl hvl1 H1 H2 (by omega) H3
      obtain⟨to',tc',rfl⟩:=owns_slice H1
      have c4:=((blk_grown R2 hR3.grown (hcb _ (by omega))).cell k).trans HAR.out
      clear H1 H2 H3 c3 d3 ct hR
      go_wp2_with fail
      go_loopw [21] (fun y wi=>∃e:Nat,y=.int .i64 e∧1≤e∧e≤1+1∧Hid (∀f:Nat,1≤f→f<e→tyAt rd.types ((q:Int)+f)=1)∧wi=w2) (fun y _=>1+1 - (intOf y).toNat)
      case atStart=>exact ⟨1,rfl,by omega,by omega,fun f h1 h2=>absurd h2 (by omega),rfl⟩
      case round=>
       obtain⟨e,rfl,he1,he2,HE,rfl⟩:=hrel
       by_cases hel:e≤1
       ·have ce:=HTYS.out _ _ _ _ e hel hR3 rfl
        obtain⟨te,hte⟩:∃te,te=tyAt rd.types ((q:Int)+e):=⟨_,rfl⟩
        rw [←hte] at ce
        have k7:(e:Int)≤1:=by omega
        have k8:(q:Int)+e<ts.length:=by omega
        by_cases ht1:te=1
        ·have HE2:Hid (∀f:Nat,1≤f→f<e+1→tyAt rd.types ((q:Int)+f)=1):=by
          intro f h1 h2
          by_cases hfe:f=e
          ·subst hfe;rw [←hte];exact ht1
          ·exact HE.out f h1 (by omega)
         subst ht1
         clear HE hte
         go_wp2_with fail
         go_roundw
         case rel=>exact ⟨e+1,by go_num,by omega,by omega,HE2.out,trivial⟩
         case measure=>simp [intOf];omega
        ·have HNO2:Hid (readF ps ⟨opN,a,b,c,d⟩ ts=none):=by
          refine HNO.out ?_
          rw [HD2.out,if_neg]
          ·rfl
          ·rintro⟨h0,h1⟩
           rcases (by omega:e=1∨e=1) with rfl | rfl
           ·exact ht1 (hte.trans h1)
           ·exact ht1 (hte.trans h1)
         have k9:(te != 1)=true:=by simpa using ht1
         clear HE hte ht1 HD2
         go_wp2_with fail
         go_ret2
         refine⟨?_,grown_trans hG2 hR3.grown⟩
         unfold ReadPost
         rw [HNO2.out]
         exact⟨_,rfl⟩
       ·have HN:Hid (rdsS ([r0,r1,r2,r3].drop (k+1)) ([a,b,c,d].drop (k+1)) ⟨rd.types,rd.stay ++ [(q:Int)],rd.taken⟩=rdsS [r0,r1,r2,r3] [a,b,c,d] ⟨ts,[],[]⟩):=by
         show _=_
         rw [HD2.out,if_pos]
         ·rfl
         ·exact⟨HTY.out,HE.out 1 (by omega) (by omega)⟩
        have k7:¬(e:Int)≤1:=by omega
        clear HE HD2
        go_wp2_with fail
        go_roundw
        case rel=>exact ⟨k+1,⟨rd.types,rd.stay ++ [(q:Int)],rd.taken⟩,by omega,by go_num,HN.out,⟨HLL.1,by dsimp only;omega,by simp;omega⟩,hR3⟩
        case measure=>simp [intOf];omega
    ·have HNO2:Hid (readF ps ⟨opN,a,b,c,d⟩ ts=none):=by
      refine HNO.out ?_
      rw [HD2.out,if_neg]
      ·rfl
      ·rintro⟨h0,h1⟩
       exact hne (HTY.out.symm.trans h0)
     have k9:(ty != 1)=true:=by simpa using hne
     clear HD2 HAR HTY hne
     go_wp2_with fail
     refine (HW.out _).mono ?_
     rintro e w' ⟨rfl,hw'⟩
     subst w'
     go_wp2_with fail
     go_ret2
     refine⟨?_,grown_trans hG2 hR.grown⟩
     unfold ReadPost
     rw [HNO2.out]
     exact⟨_,rfl⟩
  ·obtain rfl:k=4:=by omega
   have HE:Hid (rdsS [r0,r1,r2,r3] [a,b,c,d] ⟨ts,[],[]⟩=some rd):=HQ.out.symm
   have HYE:=HYES.out rd HE.out
   have HG3:Hid (w.grownBy wr (Value.slice ao ts.length cap).ownBlock):=grown_trans hG2 hR.grown
   have i3:=I3.cell
   have htl4:rd.taken.length≤4:=by have:=HL.out;omega
   by_cases h11:opN=11
   ·subst h11
    obtain⟨hb1,hb2⟩:=HFT.out rfl
    obtain⟨bN,rfl⟩:=Int.eq_ofNat_of_zero_le hb1
    obtain⟨pq,hpq⟩:=some_of_lt (show bN<ps.length by omega)
    have hfu:fnUps ps ⟨(11:Nat),a,bN,c,d⟩=pq.ups:=by unfold fnUps;simp [hpq]
    rw [hfu] at hu hul HYE
    obtain⟨cb,co,rfl,_,hcl,ph,N,PI⟩:=(hv.later (Keeps.of_below (HB0.out wr hR.grown))) bN pq hpq
    obtain⟨N1,N2,N3,N4,N5,N6,N7,N8,N9⟩:=N
    obtain⟨p1,p2,p3,p4,p5,p6,p7,p8⟩:=ph
    dsimp only at N6
    have hbl:(bN:Int)<ps.length:=by omega
    have c3:=C3.cell 0
    have HUS:Hid (UpsAt 0 wr p1 pq.ups):=PI.ups
    have HU:Hid _:=hu
    have HYE2:Hid _:=HYE
    clear hu HYE hpq hfu hb1 hb2 N1 N2 N3 N4 N5 N7 N8 N9 PI HQ
    go_wp2_with fail
    generalize wr=wx at *
    go_loopw [136] (fun y wi=>∃j:Nat,j≤pq.ups.length∧y=.int .i64 j∧Hid (upsBoxedB rd.types (pq.ups.drop j)=upsBoxedB rd.types pq.ups)∧Below wx.heap.size wx wi) (fun y _=>pq.ups.length - (intOf y).toNat)
    case atStart=>exact ⟨0,Nat.zero_le _,rfl,rfl,Below.refl _ _⟩
    case round=>
     obtain⟨j,hj,rfl,HJ,hbj⟩:=hrel
     have hRt:=owns_below hR.types hbj
     have hRk:=owns_below hR.taken hbj
     have hG4:Hid (w.grownBy wr (Value.slice ao ts.length cap).ownBlock):=grown_comp HG3.out (grown_of_below hbj none) (fun i hi=>by cases hi)
     by_cases hjl:j<pq.ups.length
     ·obtain⟨u,hu⟩:=some_of_lt hjl
      obtain⟨ub,uo,rfl,_,hul2,u0,u1⟩:=HUS.out.later (Keeps.of_below hbj) j u hu
      have HD:Hid (upsBoxedB rd.types pq.ups=(!(u.loc && decide (tyAt rd.types u.idx≠2)) && upsBoxedB rd.types (pq.ups.drop (j+1)))):=by
       show _=_
       rw [←HJ.out,drop_some hu]
       rfl
      have HUU:Hid _:=HU.out u (List.mem_of_getElem? hu)
      obtain⟨ul,ui⟩:=u
      dsimp only at *
      clear hu HJ
      cases ul
      ·have HN:Hid (upsBoxedB rd.types (pq.ups.drop (j+1))=upsBoxedB rd.types pq.ups):=by show _=_;rw [HD.out];rfl
       clear HD HUU
       go_wp2_with fail
       go_roundw
       case rel=>exact ⟨j+1,by omega,by go_num,HN.out,hbj.alloc hbj.size _⟩
       case measure=>simp [intOf];omega
      ·obtain⟨hu1,hu2⟩:=HUU.out rfl
       obtain⟨q,rfl⟩:=Int.eq_ofNat_of_zero_le hu1
       have hR5:RdAt base w1.heap.size (.slice ao ts.length cap) (.slice none 0 0) (.slice none 0 0) ts.length wr wr ⟨rd.types,[],[]⟩:=⟨hRt,World.ownsRow_nil _ _ _ _,World.ownsRow_nil _ _ _ _,by simp [Value.ownBlock],grown_of_below (Below.refl _ _) _⟩
       obtain⟨g,rfl,ct,_⟩:=hR5.ty (i:=q) (by omega) HL.out.1
       obtain⟨ty,hty⟩:∃ty,ty=rd.types.getD q 0:=⟨_,rfl⟩
       rw [←hty] at ct
       have k4:(q:Int)<ts.length:=by omega
       have HTY:Hid (tyAt rd.types (q:Int)=ty):=hty.symm
       have hgl:g<wr.heap.size:=(hRt.lt g rfl).2
       clear hty hR5 HUU hu1 hu2
       by_cases ht2:ty=2
       ·subst ht2
        have HN:Hid (upsBoxedB rd.types (pq.ups.drop (j+1))=upsBoxedB rd.types pq.ups):=by show _=_;rw [HD.out,HTY.out];rfl
        clear HD HTY
        go_wp2_with fail
        go_roundw
        case rel=>exact ⟨j+1,by omega,by go_num,HN.out,hbj.alloc hbj.size _⟩
        case measure=>simp [intOf];omega
       ·have HN:Hid (readF ps ⟨(11:Nat),a,bN,c,d⟩ ts=none):=by
         show _=_
         rw [HYE2.out,HD.out,HTY.out]
         simp [ht2]
        have k5:(ty != 2)=true:=by simpa using ht2
        clear HD HTY ht2 HYE2
        go_wp2_with fail
        go_ret2
        refine⟨?_,grown_alloc hG4.out _⟩
        unfold ReadPost
        rw [HN.out]
        exact⟨_,rfl⟩
     ·have HN:Hid (readF ps ⟨(11:Nat),a,bN,c,d⟩ ts=some (rd.types,rd.taken)):=by
       have h:=HJ.out
       rw [List.drop_of_length_le (by omega)] at h
       show _=_
       rw [HYE2.out,←h]
       rfl
      clear HJ HYE2
      go_wp2_with fail
      go_ret2
      refine⟨?_,hG4.out⟩
      unfold ReadPost
      rw [HN.out]
      refine⟨_,rfl,htl4,?_,hRt⟩
      obtain⟨r1',r2' | ⟨g',c',cur,r3',r4',r5'⟩⟩:=hRk
      ·exact⟨r1',.inl r2'⟩
      ·exact⟨r1',.inr ⟨g',c',cur,r3',by have:=HBB.out;omega,r5'⟩⟩
   ·have HF0:Hid (readF ps ⟨opN,a,b,c,d⟩ ts=some (rd.types,rd.taken)):=by
     have hfu:fnUps ps ⟨opN,a,b,c,d⟩=[]:=by unfold fnUps;rw [if_neg (by dsimp only;omega)]
     show _=_
     rw [HYE,hfu]
     rfl
    have k1:((opN:Int) == 11)=false:=by simp;omega
    clear HYE HE HQ
    go_wp2_with fail
    go_ret2
    refine⟨?_,HG3.out⟩
    unfold ReadPost
    rw [HF0.out]
    refine⟨_,rfl,htl4,?_,hR.types⟩
    obtain⟨r1',r2' | ⟨g',c',cur,r3',r4',r5'⟩⟩:=hR.taken
    ·exact⟨r1',.inl r2'⟩
    ·exact⟨r1',.inr ⟨g',c',cur,r3',by have:=HBB.out;omega,r5'⟩⟩
end Go.Proofs.YtaakadmnhpboiaaGreatDoor
