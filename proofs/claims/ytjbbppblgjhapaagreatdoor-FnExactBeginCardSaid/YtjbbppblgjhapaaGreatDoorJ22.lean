import Derived.Test.YtjbbppblgjhapaaGreatDoorJ09
set_option maxRecDepth 100000
set_option maxHeartbeats 8000000
namespace Go.Proofs.YtjbbppblgjhapaaGreatDoor
open Go.Deep Go.Proofs.Tryz Go.RowKit
variable{x:Int}{ts xs:List Int}{rs:List Nat}{ps:List Pd}{B1 base cap i j m np:Nat}{n:Nd}{o:Obj}{ao:Option Addr}{row:Option Nat}{p:Pd}{rd:Rd}{v vs vt:Value}{a w w1 w2 wr:World}
theorem Pj{b:World}{row':Option Nat} (h:w.grownBy a row) (k:a.grownBy b row') (hr:∀i,row'=some i->(w:Nat)<=i):w.grownBy b row:=
 ⟨k.os.trans h.os,k.tape.trans h.tape,k.output.trans h.output,yI h.size k.size,fun i hi hn=>(k.block i (yF hi h.size) (fun e=>by have:=hr i e.symm;omega)).trans (h.block i hi hn)⟩
theorem Mx (h:w.grownBy a row) (o:Obj):w.grownBy (a.alloc o) row:=
 ⟨h.os,h.tape,h.output,by have:=h.size;simp;omega,fun i hi hn=>(blk_alloc_lt _ _ _ (yF hi h.size)).trans (h.block i hi hn)⟩
theorem A9b {k r:Nat} (hr:rs[k]?=some r) (hx:xs[k]?=some x) (s:Rd):Ef (rs.drop k) (xs.drop k) s=(rdS r x s).bind (Ef (rs.drop (k+1)) (xs.drop (k+1))):=by rw[Ao hr,Ao hx];rfl
theorem Uz : ∀{rs:List Nat} {xs:List Int} {k r:Nat} {x:Int},Da np p rs xs=true->rs[k]?=some r->xs[k]?=some x->Bg np p r x=true
 | [],_,_,_,_,_,h,_=>by simp at h
 | _::_,[],_,_,_,_,_,h=>by simp at h
 | a::rs,b::xs,0,r,x,h,h1,h2=>by simp at h1 h2;subst h1;subst h2;simp[Da]at h;exact h.1
 | a::rs,b::xs,k+1,r,x,h,h1,h2=>by simp at h1 h2;simp[Da]at h;exact Uz h.2 h1 h2
theorem A6f (r:Nat) (hr:r<=21):((Pz r).1=0/\∀x s,rdS r x s=some s)∨
  (∃t,Pz r=(t,true)/\(t=1∨t=3)/\(∀x s,rdS r x s=Hu t x s)/\r≠18/\r≠19/\r≠20/\∀np p x,Bg np p r x=inR x (-p.regs) (p.regs-1))∨
  (∃t,Pz r=(t,false)/\(t=1∨t=2∨t=3)/\(∀x s,rdS r x s=Dq t x s)/\r≠18/\r≠19/\r≠20/\∀np p x,Bg np p r x=inR x 0 (p.regs-1))∨r=18∨r=19∨r=20:=by
 rcases Sg r hr with rfl|rfl|rfl|rfl|rfl|rfl|rfl|rfl|rfl|rfl|rfl|rfl|rfl|rfl|rfl|rfl|rfl|rfl|rfl|rfl|rfl|rfl;all_goals first
  | exact .inl ⟨rfl,fun _ _=>rfl⟩
  | exact .inr (.inl ⟨1,rfl,.inl rfl,fun _ _=>rfl,by decide,by decide,by decide,fun _ _ _=>rfl⟩)
  | exact .inr (.inl ⟨3,rfl,.inr rfl,fun _ _=>rfl,by decide,by decide,by decide,fun _ _ _=>rfl⟩)
  | exact .inr (.inr (.inl ⟨1,rfl,.inl rfl,fun _ _=>rfl,by decide,by decide,by decide,fun _ _ _=>rfl⟩))
  | exact .inr (.inr (.inl ⟨2,rfl,.inr (.inl rfl),fun _ _=>rfl,by decide,by decide,by decide,fun _ _ _=>rfl⟩))
  | exact .inr (.inr (.inl ⟨3,rfl,.inr (.inr rfl),fun _ _=>rfl,by decide,by decide,by decide,fun _ _ _=>rfl⟩))
  | exact .inr (.inr (.inr (.inl rfl)))
  | exact .inr (.inr (.inr (.inr (.inl rfl))))
  | exact .inr (.inr (.inr (.inr (.inr rfl))))
def Eb (ps:List Pd) (n:Nd) (ts:List Int) (base:Nat) (v:Value) (w:World) (e:Ending) (w':World):Prop:=
 match Fu ps n ts with
 | none=>∃u,e=.returned (.tuple #[u,false])
 | some (t1,tk)=>∃u,e=.returned (.tuple #[u,true])/\tk.length<=4/\w'.ownsRow (w:Nat) 3 1 u tk.length (Az tk)/\w'.ownsRow base 3 1 v ts.length (Az t1)
theorem A6d (h:Ef (Bh n.op.toNat) n.fs ⟨ts,[],[]⟩=none):Fu ps n ts=none:=by unfold Fu;rw[h]
theorem A6e {r:Rd} (h:Ef (Bh n.op.toNat) n.fs ⟨ts,[],[]⟩=some r):Fu ps n ts=if Au r.types (Cy ps n) then some (r.types,r.taken) else none:=by unfold Fu;rw[h]
theorem A36 (n:Nd) (w:World) :
  Calls prog 169 #[n.val] w fun e w'=>∃g,e=.returned (.slice (some ⟨g,0,none⟩) 4 4)/\(w:Nat)<=g/\Blk w' g #[n.a,n.b,n.c,n.d] 3/\Below w w w':=by
 obtain⟨x0,x1,x2,x3,x4⟩:=n;dsimp only[Nd.val];go_in;go_wp2;go_ret;refine⟨(w:Nat)+1,rfl,by omega,?_,((yA _ _).alloc (yB _) _).alloc (by simp) _⟩;have:=Blk.new (w.alloc (.cells #[x0,x1,x2,x3,x4] 81)) #[x1,x2,x3,x4] 3
 rwa [nblk_alloc]at this
structure Ny (base B1:Nat) (v vt vs:Value) (m:Nat) (w1 wr:World) (rd:Rd):Prop where
 types:wr.ownsRow base 3 1 v m (Az rd.types)
 taken:wr.ownsRow B1 3 1 vt rd.taken.length (Az rd.taken)
 stay:wr.ownsRow B1 3 1 vs rd.stay.length (Az rd.stay)
 sep:∀k,vt.ownBlock=some k->vs.ownBlock≠some k
 grown:w1.grownBy wr v.ownBlock
theorem Ny.addStay{vs':Value} (h:Ny base B1 v vt vs m w1 wr rd) (hB:(w1:Nat)=B1) (hv:∀k,v.ownBlock=some k->k<B1)
  (h1:w2.ownsRow B1 3 1 vs' (rd.stay.length+1) (Az (rd.stay++[x]))) (h2:(wr.alloc o).grownBy w2 vs.ownBlock) {S:Nat} (hS:(wr:Nat)<=S) (h3:vs'.ownBlock=vs.ownBlock∨vs'.ownBlock=some S) :
  Ny base B1 v vt vs' m w1 w2 ⟨rd.types,rd.stay++[x],rd.taken⟩:=by
 have hs:=fun k hk=>(h.stay.lt k hk).1;refine⟨D6 (h.types.alloc o) h2 (fun k hk e=>by have:=hs k e.symm;have:=hv k hk;omega),D6 (h.taken.alloc o) h2 (fun k hk e=>h.sep k hk e.symm),by simpa using h1,?_,Pj (Mx h.grown o) h2 (fun i hi=>by have:=hs i hi;omega)⟩;intro k hk e;rcases h3 with h3|h3
 ·exact h.sep k hk (h3▸e)
 ·have:=(h.taken.lt k hk).2;rw[h3]at e;simp at e;omega
theorem Ny.addTaken{vt':Value} (h:Ny base B1 v vt vs m w1 wr rd) (hB:(w1:Nat)=B1) (hv:∀k,v.ownBlock=some k->k<B1)
  (h1:w2.ownsRow B1 3 1 vt' (rd.taken.length+1) (Az (rd.taken++[x]))) (h2:(wr.alloc o).grownBy w2 vt.ownBlock) {S:Nat} (hS:(wr:Nat)<=S) (h3:vt'.ownBlock=vt.ownBlock∨vt'.ownBlock=some S) :
  Ny base B1 v vt' vs m w1 w2 ⟨rd.types,rd.stay,rd.taken++[x]⟩:=by
 have hs:=fun k hk=>(h.taken.lt k hk).1;refine⟨D6 (h.types.alloc o) h2 (fun k hk e=>by have:=hs k e.symm;have:=hv k hk;omega),by simpa using h1,D6 (h.stay.alloc o) h2 (fun k hk e=>h.sep k e.symm hk),?_,Pj (Mx h.grown o) h2 (fun i hi=>by have:=hs i hi;omega)⟩;intro k hk e;rcases h3 with h3|h3
 ·exact h.sep k (h3▸hk) e
 ·have:=(h.stay.lt k e).2;rw[h3]at hk;simp at hk;omega
theorem Ny.store{g:Nat} (h:Ny base B1 (.slice g m cap) vt vs m w1 wr rd) (hv:g<B1) (x:Int) :
  Ny base B1 (.slice g m cap) vt vs m w1 (wr.setCell (g,i) x) ⟨rd.types.set i x,rd.stay,rd.taken⟩:=by
 obtain⟨s1,s2⟩:=h.types.stored i x;rw[Dx]at s1;refine⟨s1,D6 h.taken s2 (fun k hk e=>?_),D6 h.stay s2 (fun k hk e=>?_),h.sep,Cw h.grown s2⟩
 ·have:=(h.taken.lt k hk).1;simp at e;omega
 ·have:=(h.stay.lt k hk).1;simp at e;omega
theorem Ny.ty (h:Ny base B1 (.slice ao m cap) vt vs m w1 wr rd) (hi:i<m) (hm:rd.types.length=m) :
  ∃g,ao=some ⟨g,0,none⟩/\wr.cell? ⟨g,i,none⟩=some (.int .i64 (rd.types.getD i 0))/\wr.frozen? ⟨g,i,none⟩=false:=by
 rcases Ce h.types with ⟨h1,h2⟩|⟨g,cap',h1,h2,h3⟩
 ·omega
 ·simp only[Value.slice.injEq]at h1;obtain⟨rfl,_,rfl⟩:=h1;have ho:=h.types;exact⟨g,rfl,(ho.cellAt i (by omega)).trans (Co (by omega)),ho.frozenAt i⟩
theorem Im (r:Nat) (t:Int) (b:Bool) (hr:r<=21) (h:Pz r=(t,b)) (w:World):Calls prog 170 #[r] w fun e w'=>e=.returned (.tuple #[t,.bool b])/\w'=w:=by have:=A3b r w hr;rw[h]at this;exact this
theorem Zb (q:Nat):Bz (-1-(q:Int))=q:=by unfold Bz;rw[if_pos (by omega)];omega
theorem A9d (q:Nat):Bz (q:Int)=q:=by unfold Bz;rw[if_neg (by omega)]
theorem Ac8{q:Int} (h:q∉xs.take j) (hx:xs[j]?=some x) (hn:¬x=q):q∉xs.take (j+1):=by
 rw[List.take_add_one,hx];simp only[Option.toList_some,yZ,yT];rintro(h1|h1)
 ·exact h h1
 ·exact hn h1.symm
theorem A5u (ps:List Pd) (cao:Option Addr) (ccap:Nat) (p:Pd) (pi:Int) (n:Nd) (v:Value) (base:Nat) (ts:List Int) (w0 w:World) (hn:Ep ps.length p n) (hl:(ts.length:Int)=p.regs) (hr:p.regs<=250)
  (hu:∀u∈Cy ps n,u.loc=true->0<=u.idx/\u.idx<p.regs) (hul:(Cy ps n).length<=1048576)
  (hv:Ad 0 w0 cao ps) (hb0:Below w0 w0 w) (hbase:(w0:Nat)<=base) (hown:w.ownsRow base 3 1 v ts.length (Az ts)) :
  Calls prog 87 #[.agg #[.slice cao ps.length ccap],pi,n.val,v] w fun e w'=>Eb ps n ts base v w e w'/\w.grownBy w' v.ownBlock:=by
 have hvlt:=fun k hk=>(hown.lt k hk).2;have hvb:∀k,v.ownBlock=some k->(w0:Nat)<=k:=fun k hk=>by have:=(hown.lt k hk).1;omega
 obtain⟨ao,cap,rfl⟩:=Aa hown;have ho1:=hn.lo;have ho2:=hn.hi;have HF:Hid _:=hn.fit;have HFT:Hid _:=(Hr hn).2.2.2.2.2;obtain⟨op,a,b,c,d⟩:=n;dsimp only at *;obtain⟨opN,rfl⟩:∃k:Nat,op=k:=yN (by omega);simp only[Int.toNat_natCast]at *;obtain⟨r0,r1,r2,r3,hro,l0,l1,l2,l3⟩:=Mh (n:=opN) (by omega) (by omega);have HR:Hid _:=fun W=>Nf opN r0 r1 r2 r3 W (by omega) (by omega) hro;have hrl:∀(k r:Nat),[r0,r1,r2,r3][k]?=some r->r<=21:=by intro k r h;have:=yH h;simp at this;omega
 have HRL:Hid _:=hrl;have HNO:Hid (Ef [r0,r1,r2,r3] [a,b,c,d] ⟨ts,[],[]⟩=none->Fu ps ⟨opN,a,b,c,d⟩ ts=none):=by intro h;refine A6d ?_;simp only[Int.toNat_natCast,Nd.fs,hro];exact h
 have HYES:Hid (∀r,Ef [r0,r1,r2,r3] [a,b,c,d] ⟨ts,[],[]⟩=some r->Fu ps ⟨opN,a,b,c,d⟩ ts=if Au r.types (Cy ps ⟨opN,a,b,c,d⟩) then some (r.types,r.taken) else none):=by intro r h;refine A6e ?_;simp only[Int.toNat_natCast,Nd.fs,hro];exact h
 rw[hro]at HF;unfold Nd.val;dsimp only;have C0:=(Blk.new w #[.slice cao ps.length ccap] 31).alloc (.cells #[opN,a,b,c,d] 81);have I0:=Blk.new (w.alloc (.cells #[.slice cao ps.length ccap] 31)) #[opN,a,b,c,d] 81;rw[nblk_alloc]at I0;have hb2:∀o1 o2,Below w w ((w.alloc o1).alloc o2):=fun o1 o2=>((yA _ _).alloc (yB _) o1).alloc (by simp) o2;have i0:=I0.cell;clear hro hrl;go_in;go_wp2_with fail;refine(HR.out _).mono ?_;rintro e wa ⟨rfl,rfl⟩;have C1:=C0.alloc (.cells #[r0,r1,r2,r3] 3);have I1:=I0.alloc (.cells #[r0,r1,r2,r3] 3);have R1:=Blk.new ((w.alloc (.cells #[.slice cao ps.length ccap] 31)).alloc (.cells #[opN,a,b,c,d] 81)) #[r0,r1,r2,r3] 3;have B1:=(hb2 (.cells #[.slice cao ps.length ccap] 31) (.cells #[opN,a,b,c,d] 81)).alloc (by simp;omega) (.cells #[r0,r1,r2,r3] 3);clear C0 I0 hb2 HR;have i1:=I1.cell;go_wp2_with fail;refine(A36 ⟨opN,a,b,c,d⟩ _).mono ?_;rintro e w1 ⟨fb,rfl,hfb0,F2,hw1⟩;have C2:=C1.l hw1;have I2:=I1.l hw1;have R2:=R1.l hw1;have B2:=B1.trans (hw1.mono (by simp;omega));have hfb:(w:Nat)<=fb:=by simp at hfb0;omega
 rw[nblk_alloc,nblk_alloc]at R2;clear C1 I1 R1 B1 hw1 i0 i1 hfb0;have hcb:∀k,(w:Nat)<=k->some k≠(Value.slice ao ts.length cap).ownBlock:=fun k hk e=>by have:=hvlt k e.symm;omega
 have hvl1:∀k,(Value.slice ao ts.length cap).ownBlock=some k->k<(w1:Nat):=fun k hk=>by have:=hvlt k hk;have:=B2.size;omega
 have T2:=Ai hown B2;have hG2:w.grownBy w1 (Value.slice ao ts.length cap).ownBlock:=Et B2 _;have HBB:Hid _:=B2.size;have HB0:Hid (∀wr,w1.grownBy wr (Value.slice ao ts.length cap).ownBlock->Below w0 w0 wr):=fun wr h=>(hb0.trans (B2.mono hb0.size)).grown h (by have:=hb0.size;have:=B2.size;omega) hvb;clear hvb hb0 hown B2;have i2:=I2.cell;go_wp2;go_loopw [10,11,30] (fun vt vs y wr=>∃(k:Nat) (rd:Rd),k<=4/\y=k/\Hid (Ef ([r0,r1,r2,r3].drop k) ([a,b,c,d].drop k) rd=Ef [r0,r1,r2,r3] [a,b,c,d] ⟨ts,[],[]⟩)/\Hid (rd.types.length=ts.length/\rd.taken.length<=k/\rd.stay.length<=k)/\Ny base (w1:Nat) (.slice ao ts.length cap) vt vs ts.length w1 wr rd) (fun _ _ y _=>4-(intOf y).toNat);case atStart=>exact⟨0,⟨ts,[],[]⟩,by omega,rfl,rfl,⟨rfl,by simp,by simp⟩,⟨T2,yU _ _ _ _,yU _ _ _ _,by simp[Value.ownBlock],Et (yA _ _) _⟩⟩
 case round=>
  obtain⟨k,rd,hk,rfl,HQ,HL,hR⟩:=hrel;obtain⟨to,tc,rfl⟩:=Aa hR.taken;obtain⟨so,sc,rfl⟩:=Aa hR.stay;have C3:=Am C2 hR.grown (hcb _ (yB _));have I3:=Am I2 hR.grown (hcb _ (by omega));have R3:=Am R2 hR.grown (hcb _ (by omega));have F3:=Am F2 hR.grown (hcb _ hfb);have HBW:Hid ((w:Nat)<=(w1:Nat)/\(w1:Nat)<=(wr:Nat)):=⟨HBB.out,hR.grown.size⟩;clear i2 C2 I2 F2 T2;by_cases hk4:k<4
  ·obtain⟨r,x,hr21,hrk,hxk,ar,ax⟩:=A78 r0 r1 r2 r3 ⟨opN,a,b,c,d⟩ k hk4 l0 l1 l2 l3;have HD:Hid (Ef [r0,r1,r2,r3] [a,b,c,d] ⟨ts,[],[]⟩=_):=HQ.out.symm.trans (A9b hrk hxk rd);have hfx:=Uz HF.out hrk hxk;have c3:=(R3.cell k).trans ar;have d3:=(F3.cell k).trans ax;have hk4i:(k:Int)<4:=by omega
   have HAR:Hid _:=ar;clear hrk hxk ar ax HQ HRL l0 l1 l2 l3 R3 F3 C3 I3;rcases A6f r hr21 with ⟨hw0,hs⟩|⟨t,hwt,ht,hs,n1,n2,n3,hfr⟩|⟨t,hwt,ht,hs,n1,n2,n3,hfr⟩|rfl|rfl|rfl
   ·obtain⟨t,bb,hwt⟩:∃t bb,Pz r=(t,bb):=⟨_,_,rfl⟩;rw[hwt]at hw0;dsimp only at hw0;subst hw0;have HW:Hid _:=fun W=>Im r 0 bb hr21 hwt W;have HN:Hid (Ef ([r0,r1,r2,r3].drop (k+1)) ([a,b,c,d].drop (k+1)) rd=Ef [r0,r1,r2,r3] [a,b,c,d] ⟨ts,[],[]⟩):=by show _=_;rw[HD.out,hs];rfl
    clear HD hs hwt;go_wp2_with fail;refine(HW.out _).mono ?_;rintro e w' ⟨rfl,hw'⟩;subst w';go_wp2;go_roundw;case rel=>exact⟨k+1,rd,by omega,by go_num,HN.out,⟨HL.out.1,by have:=HL.out;omega,by have:=HL.out;omega⟩,hR⟩
    case measure=>simp[intOf];omega
   ·rw[hfr]at hfx;simp only[inR,yY,decide_eq_true_iff]at hfx;have HW:Hid _:=fun W=>Im r t true hr21 hwt W;have k1:(t==0)=false:=by rcases ht with rfl|rfl<;>rfl
    have k18:((r:Int)==18)=false:=by simp;omega
    have k19:((r:Int)==19)=false:=by simp;omega
    have k20:((r:Int)==20)=false:=by simp;omega
    clear n1 n2 n3 hfr hwt ht;rw[hs]at HD;clear hs;by_cases hx0:x<0
    ·obtain⟨q,rfl⟩:∃q:Nat,x = -1-(q:Int):=⟨(-1-x).toNat,by omega⟩;obtain⟨g,rfl,ct,fz⟩:=hR.ty (i:=q) (by omega) HL.out.1;obtain⟨ty,hty⟩:∃ty,ty=rd.types.getD q 0:=⟨_,rfl⟩;rw[←hty]at ct;have HTY:Hid (Ca rd.types (Bz (-1-(q:Int)))=ty):=by show _=_;rw[Zb,hty];rfl
     have k2:(-1-(q:Int))<0:=by omega
     have k3:(-1-(-1-(q:Int)))=q:=by omega
     have k4:(q:Int)<ts.length:=by omega
     have HREG:Hid _:=Zb q;have hsl4:rd.stay.length<=4:=by have:=HL.out;omega
     have htl4:rd.taken.length<=4:=by have:=HL.out;omega
     clear hty hfx;by_cases hne:ty=t
     ·subst hne;have hg1:=hvl1 g rfl;go_wp2_with fail;refine(HW.out _).mono ?_;rintro e w' ⟨rfl,hw'⟩;subst w';go_wp2;go_loopw [66] (fun y wi=>∃j:Nat,j<=rd.stay.length/\y=j/\Hid ((q:Int)∉rd.stay.take j)/\wi=wr) (fun y _=>rd.stay.length-(intOf y).toNat);case atStart=>exact⟨0,yE _,rfl,by show _∉_;simp,rfl⟩
      case round=>
       obtain⟨j,hj,rfl,HJ,rfl⟩:=hrel;by_cases hjl:j<rd.stay.length
       ·obtain⟨z,hz⟩:=A8 hjl;obtain⟨sb,so',rfl,_,hsl,p0⟩:=(Dp hR.stay).1 j z hz;unfold Ho at p0;rw[Nat.mul_one]at p0;by_cases hzq:z=q
        ·subst hzq;have HNO2:Hid (Fu ps ⟨opN,a,b,c,d⟩ ts=none):=HNO.out (by rw[HD.out,Ps HTY.out k2 (by rw[HREG.out];exact yH hz)];rfl);clear HD HAR HTY hz HJ;go_wp2;go_ret2;refine⟨?_,Cw hG2 hR.grown⟩;unfold Eb;rw[HNO2.out];exact⟨_,rfl⟩
        ·have HJ2:Hid ((q:Int)∉rd.stay.take (j+1)):=Ac8 HJ.out hz hzq;have k5:(z==(q:Int))=false:=by simpa using hzq
         clear hz HJ hzq;go_wp2;go_roundw;case rel=>exact⟨j+1,by omega,by go_num,HJ2.out,trivial⟩
         case measure=>simp[intOf];omega
       ·have hni:(q:Int)∉rd.stay:=by have:=HJ.out;rwa [List.take_of_length_le (by omega)]at this
        have HN:Hid (Ef ([r0,r1,r2,r3].drop (k+1)) ([a,b,c,d].drop (k+1)) ⟨rd.types.set q 0,rd.stay,rd.taken++[(q:Int)]⟩=Ef [r0,r1,r2,r3] [a,b,c,d] ⟨ts,[],[]⟩):=by show _=_;rw[HD.out,Pt HTY.out k2 (by rw[HREG.out];exact hni),HREG.out];rfl
        have hR2:=hR.store (i:=q) hg1 0;have HLL:=HL.out;clear HD HTY HJ hni;go_wp2_with (at_builtin;refine Df rfl _ _ rfl (w1:Nat) _ rd.taken.length rd.taken q (wr:Nat) rfl (hR2.taken.alloc _) rfl ?c1 ?c2 ?c3 ?_);case c1=> have h:=(Blk.new (wr.setCell (g,q) ()) #[(q:Int)] 3).cell 0;rw[Cr]at h;exact h
        case c2=>omega
        case c3=>have:=hR.grown.size;first|omega|(simp;omega)
        ·intro v' w2 H1 H2 H3;have hR3:=hR2.addTaken rfl hvl1 H1 H2 (by simp) H3;obtain⟨to',tc',rfl⟩:=Aa H1;have c4:=((Am R2 hR3.grown (hcb _ (by omega))).cell k).trans HAR.out;clear H1 H2 H3 c3 d3 ct fz hR hR2;go_wp2;go_loopw [21] (fun y wi=>y=(1:Int)/\wi=w2) (fun _ _=>0);case atStart=>exact⟨rfl,rfl⟩
         case round=>
          obtain⟨rfl,rfl⟩:=hrel;go_wp2;go_roundw;case rel=>exact⟨k+1,⟨rd.types.set q 0,rd.stay,rd.taken++[(q:Int)]⟩,by omega,by go_num,HN.out,⟨by simpa using HLL.1,by simp;omega,by dsimp only;omega⟩,hR3⟩
          case measure=>simp[intOf];omega
     ·have HNO2:Hid (Fu ps ⟨opN,a,b,c,d⟩ ts=none):=HNO.out (by rw[HD.out,Re (by rw[HTY.out];exact hne)];rfl);have k5:(ty !=t)=true:=by simpa using hne
      clear HD HAR HTY hne;go_wp2_with fail;refine(HW.out _).mono ?_;rintro e w' ⟨rfl,hw'⟩;subst w';go_wp2;go_ret2;refine⟨?_,Cw hG2 hR.grown⟩;unfold Eb;rw[HNO2.out];exact⟨_,rfl⟩
    ·obtain⟨q,rfl⟩:∃q:Nat,x=(q:Int):=yN (by omega);obtain⟨g,rfl,ct,fz⟩:=hR.ty (i:=q) (by omega) HL.out.1;obtain⟨ty,hty⟩:∃ty,ty=rd.types.getD q 0:=⟨_,rfl⟩;rw[←hty]at ct;have HTY:Hid (Ca rd.types (Bz (q:Int))=ty):=by show _=_;rw[A9d,hty];rfl
     have k2:¬(q:Int)<0:=by omega
     have k4:(q:Int)<ts.length:=by omega
     clear hty hfx hx0 fz;by_cases hne:ty=t
     ·subst hne;have HN:Hid (Ef ([r0,r1,r2,r3].drop (k+1)) ([a,b,c,d].drop (k+1)) rd=Ef [r0,r1,r2,r3] [a,b,c,d] ⟨ts,[],[]⟩):=by show _=_;rw[HD.out,Sb HTY.out k2];rfl
      have HLL:=HL.out;clear HD HTY;go_wp2_with fail;refine(HW.out _).mono ?_;rintro e w' ⟨rfl,hw'⟩;subst w';go_wp2;go_loopw [21] (fun y wi=>y=(1:Int)/\wi=wr) (fun _ _=>0);case atStart=>exact⟨rfl,rfl⟩
      case round=>
       obtain⟨rfl,rfl⟩:=hrel;go_wp2;go_roundw;case rel=>exact⟨k+1,rd,by omega,by go_num,HN.out,⟨HLL.1,by omega,by omega⟩,hR⟩
       case measure=>simp[intOf];omega
     ·have HNO2:Hid (Fu ps ⟨opN,a,b,c,d⟩ ts=none):=HNO.out (by rw[HD.out,Re (by rw[HTY.out];exact hne)];rfl);have k5:(ty !=t)=true:=by simpa using hne
      clear HD HAR HTY hne;go_wp2_with fail;refine(HW.out _).mono ?_;rintro e w' ⟨rfl,hw'⟩;subst w';go_wp2;go_ret2;refine⟨?_,Cw hG2 hR.grown⟩;unfold Eb;rw[HNO2.out];exact⟨_,rfl⟩
   ·rw[hfr]at hfx;simp only[inR,yY,decide_eq_true_iff]at hfx;have HW:Hid _:=fun W=>Im r t false hr21 hwt W;have k1:(t==0)=false:=by rcases ht with rfl|rfl|rfl<;>rfl
    have k18:((r:Int)==18)=false:=by simp;omega
    have k19:((r:Int)==19)=false:=by simp;omega
    have k20:((r:Int)==20)=false:=by simp;omega
    clear n1 n2 n3 hfr hwt ht;rw[hs]at HD;clear hs;obtain⟨q,rfl⟩:∃q:Nat,x=(q:Int):=yN (by omega);obtain⟨g,rfl,ct,fz⟩:=hR.ty (i:=q) (by omega) HL.out.1;obtain⟨ty,hty⟩:∃ty,ty=rd.types.getD q 0:=⟨_,rfl⟩;rw[←hty]at ct;have HTY:Hid (Ca rd.types (q:Int)=ty):=hty.symm;have k4:(q:Int)<ts.length:=by omega
    have hsl4:rd.stay.length<=4:=by have:=HL.out;omega
    clear hty hfx fz;by_cases hne:ty=t
    ·subst hne;have HN:Hid (Ef ([r0,r1,r2,r3].drop (k+1)) ([a,b,c,d].drop (k+1)) ⟨rd.types,rd.stay++[(q:Int)],rd.taken⟩=Ef [r0,r1,r2,r3] [a,b,c,d] ⟨ts,[],[]⟩):=by show _=_;rw[HD.out,A43 HTY.out];rfl
     have HLL:=HL.out;clear HD HTY;go_wp2_with fail;refine(HW.out _).mono ?_;rintro e w' ⟨rfl,hw'⟩;subst w';go_wp2_with (at_builtin;refine Df rfl _ _ rfl (w1:Nat) _ rd.stay.length rd.stay q (wr:Nat) rfl (hR.stay.alloc _) rfl ?c1 ?c2 ?c3 ?_);case c1=>simp
     case c2=>omega
     case c3=>have:=hR.grown.size;first|omega|(simp;omega)
     ·intro v' w2 H1 H2 H3;have hR3:=hR.addStay rfl hvl1 H1 H2 (by omega) H3;obtain⟨to',tc',rfl⟩:=Aa H1;have c4:=((Am R2 hR3.grown (hcb _ (by omega))).cell k).trans HAR.out;clear H1 H2 H3 c3 d3 ct hR;go_wp2;go_loopw [21] (fun y wi=>y=(1:Int)/\wi=w2) (fun _ _=>0);case atStart=>exact⟨rfl,rfl⟩
      case round=>
       obtain⟨rfl,rfl⟩:=hrel;go_wp2;go_roundw;case rel=>exact⟨k+1,⟨rd.types,rd.stay++[(q:Int)],rd.taken⟩,by omega,by go_num,HN.out,⟨HLL.1,by dsimp only;omega,by simp;omega⟩,hR3⟩
       case measure=>simp[intOf];omega
    ·have HNO2:Hid (Fu ps ⟨opN,a,b,c,d⟩ ts=none):=HNO.out (by rw[HD.out,A6b (by rw[HTY.out];exact hne)];rfl);have k5:(ty !=t)=true:=by simpa using hne
     clear HD HAR HTY hne;go_wp2_with fail;refine(HW.out _).mono ?_;rintro e w' ⟨rfl,hw'⟩;subst w';go_wp2;go_ret2;refine⟨?_,Cw hG2 hR.grown⟩;unfold Eb;rw[HNO2.out];exact⟨_,rfl⟩
   ·simp only[Bg,inR,yY,decide_eq_true_iff]at hfx;have HW:Hid _:=fun W=>Im 18 1 false hr21 rfl W;obtain⟨q,rfl⟩:∃q:Nat,x=(q:Int):=yN (by omega);obtain⟨g,rfl,ct,_⟩:=hR.ty (i:=q) (by omega) HL.out.1;have HTYS:Hid (∀(W:World) (rd':Rd) (vt' vs':Value) (e:Nat),e<=2->Ny base (w1:Nat) (.slice g ts.length cap) vt' vs' ts.length w1 W rd'->rd'.types=rd.types->W.cell? (g,q+e)=some (.int .i64 (Ca rd.types ((q:Int)+e)))):=by intro W rd' vt' vs' e he h1 h2;obtain⟨g',e1,e2,_⟩:=h1.ty (i:=q+e) (by omega) (by rw[h2];exact HL.out.1);simp at e1;subst e1;rw[h2]at e2;rw[e2];unfold Ca;rw[show ((q:Int)+e).toNat=q+e by omega]
    have HD2:Hid (Ef [r0,r1,r2,r3] [a,b,c,d] ⟨ts,[],[]⟩=(if Ca rd.types ((q:Int))=1/\Ca rd.types ((q:Int)+1)=1/\Ca rd.types ((q:Int)+2)=1 then some (⟨rd.types,rd.stay++[(q:Int)],rd.taken⟩:Rd) else none).bind (Ef ([r0,r1,r2,r3].drop (k+1)) ([a,b,c,d].drop (k+1)))):=HD.out;have k4:(q:Int)+2<ts.length:=by omega
    have k5:(q:Int)<ts.length:=by omega
    have k6:(q:Int)<=250:=by omega
    have hsl4:rd.stay.length<=4:=by have:=HL.out;omega
    have HLL:=HL.out;obtain⟨ty,hty⟩:∃ty,ty=rd.types.getD q 0:=⟨_,rfl⟩;rw[←hty]at ct;have HTY:Hid (Ca rd.types (q:Int)=ty):=hty.symm;clear hfx HD hty;by_cases hne:ty=1
    ·subst hne;go_wp2_with fail;refine(HW.out _).mono ?_;rintro e w' ⟨rfl,hw'⟩;subst w';go_wp2_with (at_builtin;refine Df rfl _ _ rfl (w1:Nat) _ rd.stay.length rd.stay q (wr:Nat) rfl (hR.stay.alloc _) rfl ?c1 ?c2 ?c3 ?_);case c1=>simp
     case c2=>omega
     case c3=>have:=hR.grown.size;first|omega|(simp;omega)
     ·intro v' w2 H1 H2 H3;have hR3:=hR.addStay rfl hvl1 H1 H2 (by omega) H3;obtain⟨to',tc',rfl⟩:=Aa H1;have c4:=((Am R2 hR3.grown (hcb _ (by omega))).cell k).trans HAR.out;clear H1 H2 H3 c3 d3 ct hR;go_wp2;go_loopw [21] (fun y wi=>∃e:Nat,y=e/\1<=e/\e<=2+1/\Hid (∀f:Nat,1<=f->f<e->Ca rd.types ((q:Int)+f)=1)/\wi=w2) (fun y _=>2+1-(intOf y).toNat);case atStart=>exact⟨1,rfl,by omega,by omega,fun f h1 h2=>absurd h2 (by omega),rfl⟩
      case round=>
       obtain⟨e,rfl,he1,he2,HE,rfl⟩:=hrel;by_cases hel:e<=2
       ·have ce:=HTYS.out _ _ _ _ e hel hR3 rfl;obtain⟨te,hte⟩:∃te,te=Ca rd.types ((q:Int)+e):=⟨_,rfl⟩;rw[←hte]at ce;have k7:(e:Int)<=2:=by omega
        have k8:(q:Int)+e<ts.length:=by omega
        by_cases ht1:te=1
        ·have HE2:Hid (∀f:Nat,1<=f->f<e+1->Ca rd.types ((q:Int)+f)=1):=by
          intro f h1 h2;by_cases hfe:f=e
          ·subst hfe;rw[←hte];exact ht1
          ·exact HE.out f h1 (by omega)
         subst ht1;clear HE hte;go_wp2;go_roundw;case rel=>exact⟨e+1,by go_num,by omega,by omega,HE2.out,trivial⟩
         case measure=>simp[intOf];omega
        ·have HNO2:Hid (Fu ps ⟨opN,a,b,c,d⟩ ts=none):=by
          refine HNO.out ?_;rw[HD2.out,if_neg]
          ·rfl
          ·rintro⟨h0,h1,h2⟩;rcases (by omega:e=1∨e=2) with rfl|rfl
           ·exact ht1 (hte.trans h1)
           ·exact ht1 (hte.trans h2)
         have k9:(te !=1)=true:=by simpa using ht1
         clear HE hte ht1 HD2;go_wp2;go_ret2;refine⟨?_,Cw hG2 hR3.grown⟩;unfold Eb;rw[HNO2.out];exact⟨_,rfl⟩
       ·have HN:Hid (Ef ([r0,r1,r2,r3].drop (k+1)) ([a,b,c,d].drop (k+1)) ⟨rd.types,rd.stay++[(q:Int)],rd.taken⟩=Ef [r0,r1,r2,r3] [a,b,c,d] ⟨ts,[],[]⟩):=by
         show _=_;rw[HD2.out,if_pos]
         ·rfl
         ·exact⟨HTY.out,HE.out 1 (by omega) (by omega),HE.out 2 (by omega) (by omega)⟩
        have k7:¬(e:Int)<=2:=by omega
        clear HE HD2;go_wp2;go_roundw;case rel=>exact⟨k+1,⟨rd.types,rd.stay++[(q:Int)],rd.taken⟩,by omega,by go_num,HN.out,⟨HLL.1,by dsimp only;omega,by simp;omega⟩,hR3⟩
        case measure=>simp[intOf];omega
    ·have HNO2:Hid (Fu ps ⟨opN,a,b,c,d⟩ ts=none):=by
      refine HNO.out ?_;rw[HD2.out,if_neg]
      ·rfl
      ·rintro⟨h0,h1,h2⟩;exact hne (HTY.out.symm.trans h0)
     have k9:(ty !=1)=true:=by simpa using hne
     clear HD2 HAR HTY hne;go_wp2_with fail;refine(HW.out _).mono ?_;rintro e w' ⟨rfl,hw'⟩;subst w';go_wp2;go_ret2;refine⟨?_,Cw hG2 hR.grown⟩;unfold Eb;rw[HNO2.out];exact⟨_,rfl⟩
   ·simp only[Bg,inR,yY,decide_eq_true_iff]at hfx;have HW:Hid _:=fun W=>Im 19 1 false hr21 rfl W;obtain⟨q,rfl⟩:∃q:Nat,x=(q:Int):=yN (by omega);obtain⟨g,rfl,ct,_⟩:=hR.ty (i:=q) (by omega) HL.out.1;have HTYS:Hid (∀(W:World) (rd':Rd) (vt' vs':Value),Ny base (w1:Nat) (.slice g ts.length cap) vt' vs' ts.length w1 W rd'->rd'.types=rd.types->W.cell? (g,q+1)=some (.int .i64 (Ca rd.types ((q:Int)+1)))):=by intro W rd' vt' vs' h1 h2;obtain⟨g',e1,e2,_⟩:=h1.ty (i:=q+1) (by omega) (by rw[h2];exact HL.out.1);simp at e1;subst e1;rw[h2]at e2;exact e2
    have HD2:Hid (Ef [r0,r1,r2,r3] [a,b,c,d] ⟨ts,[],[]⟩=(if Ca rd.types (q:Int)=1/\Ca rd.types ((q:Int)+1)=0 then some (⟨rd.types,rd.stay++[(q:Int)],rd.taken++[(q:Int)]⟩:Rd) else none).bind (Ef ([r0,r1,r2,r3].drop (k+1)) ([a,b,c,d].drop (k+1)))):=HD.out;have k4:(q:Int)+1<ts.length:=by omega
    have k5:(q:Int)<ts.length:=by omega
    have k6:(q:Int)<=250:=by omega
    have hsl4:rd.stay.length<=4:=by have:=HL.out;omega
    have htl4:rd.taken.length<=4:=by have:=HL.out;omega
    have HLL:=HL.out;obtain⟨ty,hty⟩:∃ty,ty=rd.types.getD q 0:=⟨_,rfl⟩;rw[←hty]at ct;have HTY:Hid (Ca rd.types (q:Int)=ty):=hty.symm;clear hfx HD hty;by_cases hne:ty=1
    ·subst hne;go_wp2_with fail;refine(HW.out _).mono ?_;rintro e w' ⟨rfl,hw'⟩;subst w';go_wp2_with (at_builtin;refine Df rfl _ _ rfl (w1:Nat) _ rd.stay.length rd.stay q (wr:Nat) rfl (hR.stay.alloc _) rfl ?c1 ?c2 ?c3 ?_);case c1=>simp
     case c2=>omega
     case c3=>have:=hR.grown.size;first|omega|(simp;omega)
     ·intro v' w2 H1 H2 H3;have hR3:=hR.addStay rfl hvl1 H1 H2 (by omega) H3;obtain⟨to',tc',rfl⟩:=Aa H1;have c4:=((Am R2 hR3.grown (hcb _ (by omega))).cell k).trans HAR.out;have ce:=HTYS.out _ _ _ _ hR3 rfl;obtain⟨te,hte⟩:∃te,te=Ca rd.types ((q:Int)+1):=⟨_,rfl⟩;rw[←hte]at ce;have HTE:Hid _:=hte;clear H1 H2 H3 c3 d3 ct hR hte;go_wp2;go_loopw [21] (fun y wi=>y=(1:Int)/\wi=w2) (fun _ _=>0);case atStart=>exact⟨rfl,rfl⟩
      case round=>
       obtain⟨rfl,rfl⟩:=hrel;by_cases ht0:te=0
       ·subst ht0;have HN:Hid (Ef ([r0,r1,r2,r3].drop (k+1)) ([a,b,c,d].drop (k+1)) ⟨rd.types,rd.stay++[(q:Int)],rd.taken++[(q:Int)]⟩=Ef [r0,r1,r2,r3] [a,b,c,d] ⟨ts,[],[]⟩):=by show _=_;rw[HD2.out,if_pos ⟨HTY.out,HTE.out.symm⟩];rfl
        clear HD2 HTY HTE;go_wp2_with (at_builtin;refine Df rfl _ _ rfl (w1:Nat) _ rd.taken.length rd.taken q (wr:Nat) rfl (hR3.taken.alloc _) rfl ?c1 ?c2 ?c3 ?_);case c1=>simp
        case c2=>omega
        case c3=>have:=hR3.grown.size;first|omega|(simp;omega)
        ·intro v2 w3 H1 H2 H3;have hR4:=hR3.addTaken rfl hvl1 H1 H2 (by omega) H3;obtain⟨to2,tc2,rfl⟩:=Aa H1;clear H1 H2 H3 c4 ce hR3;go_wp2;go_roundw;case rel=>exact⟨k+1,⟨rd.types,rd.stay++[(q:Int)],rd.taken++[(q:Int)]⟩,by omega,by go_num,HN.out,⟨HLL.1,by simp;omega,by simp;omega⟩,hR4⟩
         case measure=>simp[intOf];omega
       ·have HNO2:Hid (Fu ps ⟨opN,a,b,c,d⟩ ts=none):=by
         refine HNO.out ?_;rw[HD2.out,if_neg]
         ·rfl
         ·rintro⟨h0,h1⟩;exact ht0 (HTE.out.trans h1)
        have k9:(te !=0)=true:=by simpa using ht0
        clear HTE ht0 HD2;go_wp2;go_ret2;refine⟨?_,Cw hG2 hR3.grown⟩;unfold Eb;rw[HNO2.out];exact⟨_,rfl⟩
    ·have HNO2:Hid (Fu ps ⟨opN,a,b,c,d⟩ ts=none):=by
      refine HNO.out ?_;rw[HD2.out,if_neg]
      ·rfl
      ·rintro⟨h0,h1⟩;exact hne (HTY.out.symm.trans h0)
     have k9:(ty !=1)=true:=by simpa using hne
     clear HD2 HAR HTY hne;go_wp2_with fail;refine(HW.out _).mono ?_;rintro e w' ⟨rfl,hw'⟩;subst w';go_wp2;go_ret2;refine⟨?_,Cw hG2 hR.grown⟩;unfold Eb;rw[HNO2.out];exact⟨_,rfl⟩
   ·simp only[Bg,inR,yY,decide_eq_true_iff]at hfx;have HW:Hid _:=fun W=>Im 20 1 false hr21 rfl W;obtain⟨q,rfl⟩:∃q:Nat,x=(q:Int):=yN (by omega);obtain⟨g,rfl,ct,_⟩:=hR.ty (i:=q) (by omega) HL.out.1;have HTYS:Hid (∀(W:World) (rd':Rd) (vt' vs':Value) (e:Nat),e<=1->Ny base (w1:Nat) (.slice g ts.length cap) vt' vs' ts.length w1 W rd'->rd'.types=rd.types->W.cell? (g,q+e)=some (.int .i64 (Ca rd.types ((q:Int)+e)))):=by intro W rd' vt' vs' e he h1 h2;obtain⟨g',e1,e2,_⟩:=h1.ty (i:=q+e) (by omega) (by rw[h2];exact HL.out.1);simp at e1;subst e1;rw[h2]at e2;rw[e2];unfold Ca;rw[show ((q:Int)+e).toNat=q+e by omega]
    have HD2:Hid (Ef [r0,r1,r2,r3] [a,b,c,d] ⟨ts,[],[]⟩=(if Ca rd.types ((q:Int))=1/\Ca rd.types ((q:Int)+1)=1 then some (⟨rd.types,rd.stay++[(q:Int)],rd.taken⟩:Rd) else none).bind (Ef ([r0,r1,r2,r3].drop (k+1)) ([a,b,c,d].drop (k+1)))):=HD.out;have k4:(q:Int)+1<ts.length:=by omega
    have k5:(q:Int)<ts.length:=by omega
    have k6:(q:Int)<=250:=by omega
    have hsl4:rd.stay.length<=4:=by have:=HL.out;omega
    have HLL:=HL.out;obtain⟨ty,hty⟩:∃ty,ty=rd.types.getD q 0:=⟨_,rfl⟩;rw[←hty]at ct;have HTY:Hid (Ca rd.types (q:Int)=ty):=hty.symm;clear hfx HD hty;by_cases hne:ty=1
    ·subst hne;go_wp2_with fail;refine(HW.out _).mono ?_;rintro e w' ⟨rfl,hw'⟩;subst w';go_wp2_with (at_builtin;refine Df rfl _ _ rfl (w1:Nat) _ rd.stay.length rd.stay q (wr:Nat) rfl (hR.stay.alloc _) rfl ?c1 ?c2 ?c3 ?_);case c1=>simp
     case c2=>omega
     case c3=>have:=hR.grown.size;first|omega|(simp;omega)
     ·intro v' w2 H1 H2 H3;have hR3:=hR.addStay rfl hvl1 H1 H2 (by omega) H3;obtain⟨to',tc',rfl⟩:=Aa H1;have c4:=((Am R2 hR3.grown (hcb _ (by omega))).cell k).trans HAR.out;clear H1 H2 H3 c3 d3 ct hR;go_wp2;go_loopw [21] (fun y wi=>∃e:Nat,y=e/\1<=e/\e<=1+1/\Hid (∀f:Nat,1<=f->f<e->Ca rd.types ((q:Int)+f)=1)/\wi=w2) (fun y _=>1+1-(intOf y).toNat);case atStart=>exact⟨1,rfl,by omega,by omega,fun f h1 h2=>absurd h2 (by omega),rfl⟩
      case round=>
       obtain⟨e,rfl,he1,he2,HE,rfl⟩:=hrel;by_cases hel:e<=1
       ·have ce:=HTYS.out _ _ _ _ e hel hR3 rfl;obtain⟨te,hte⟩:∃te,te=Ca rd.types ((q:Int)+e):=⟨_,rfl⟩;rw[←hte]at ce;have k7:(e:Int)<=1:=by omega
        have k8:(q:Int)+e<ts.length:=by omega
        by_cases ht1:te=1
        ·have HE2:Hid (∀f:Nat,1<=f->f<e+1->Ca rd.types ((q:Int)+f)=1):=by
          intro f h1 h2;by_cases hfe:f=e
          ·subst hfe;rw[←hte];exact ht1
          ·exact HE.out f h1 (by omega)
         subst ht1;clear HE hte;go_wp2;go_roundw;case rel=>exact⟨e+1,by go_num,by omega,by omega,HE2.out,trivial⟩
         case measure=>simp[intOf];omega
        ·have HNO2:Hid (Fu ps ⟨opN,a,b,c,d⟩ ts=none):=by
          refine HNO.out ?_;rw[HD2.out,if_neg]
          ·rfl
          ·rintro⟨h0,h1⟩;rcases (by omega:e=1∨e=1) with rfl|rfl
           ·exact ht1 (hte.trans h1)
           ·exact ht1 (hte.trans h1)
         have k9:(te !=1)=true:=by simpa using ht1
         clear HE hte ht1 HD2;go_wp2;go_ret2;refine⟨?_,Cw hG2 hR3.grown⟩;unfold Eb;rw[HNO2.out];exact⟨_,rfl⟩
       ·have HN:Hid (Ef ([r0,r1,r2,r3].drop (k+1)) ([a,b,c,d].drop (k+1)) ⟨rd.types,rd.stay++[(q:Int)],rd.taken⟩=Ef [r0,r1,r2,r3] [a,b,c,d] ⟨ts,[],[]⟩):=by
         show _=_;rw[HD2.out,if_pos]
         ·rfl
         ·exact⟨HTY.out,HE.out 1 (by omega) (by omega)⟩
        have k7:¬(e:Int)<=1:=by omega
        clear HE HD2;go_wp2;go_roundw;case rel=>exact⟨k+1,⟨rd.types,rd.stay++[(q:Int)],rd.taken⟩,by omega,by go_num,HN.out,⟨HLL.1,by dsimp only;omega,by simp;omega⟩,hR3⟩
        case measure=>simp[intOf];omega
    ·have HNO2:Hid (Fu ps ⟨opN,a,b,c,d⟩ ts=none):=by
      refine HNO.out ?_;rw[HD2.out,if_neg]
      ·rfl
      ·rintro⟨h0,h1⟩;exact hne (HTY.out.symm.trans h0)
     have k9:(ty !=1)=true:=by simpa using hne
     clear HD2 HAR HTY hne;go_wp2_with fail;refine(HW.out _).mono ?_;rintro e w' ⟨rfl,hw'⟩;subst w';go_wp2;go_ret2;refine⟨?_,Cw hG2 hR.grown⟩;unfold Eb;rw[HNO2.out];exact⟨_,rfl⟩
  ·obtain rfl:k=4:=by omega
   have HE:Hid (Ef [r0,r1,r2,r3] [a,b,c,d] ⟨ts,[],[]⟩=some rd):=HQ.out.symm;have HYE:=HYES.out rd HE.out;have HG3:Hid _:=Cw hG2 hR.grown;have i3:=I3.cell;have htl4:rd.taken.length<=4:=by have:=HL.out;omega
   by_cases h11:opN=11
   ·subst h11;obtain⟨hb1,hb2⟩:=HFT.out rfl;obtain⟨bN,rfl⟩:=yN hb1;obtain⟨pq,hpq⟩:=A8 (show bN<ps.length by omega);have hfu:Cy ps ⟨(11:Nat),a,bN,c,d⟩=pq.ups:=by unfold Cy;simp[hpq]
    rw[hfu]at hu hul HYE;obtain⟨cb,co,rfl,_,hcl,ph,N,PI⟩:=(hv.l (A7.o (HB0.out wr hR.grown))) bN pq hpq;obtain⟨N1,N2,N3,N4,N5,N6,N7,N8,N9⟩:=N;obtain⟨p1,p2,p3,p4,p5,p6,p7,p8⟩:=ph;dsimp only at N6;have hbl:(bN:Int)<ps.length:=by omega
    have c3:=C3.cell 0;have HUS:Hid (Je 0 wr p1 pq.ups):=PI.ups;have HU:Hid _:=hu;have HYE2:Hid _:=HYE;clear hu HYE hpq hfu hb1 hb2 N1 N2 N3 N4 N5 N7 N8 N9 PI HQ;go_wp2_with fail;generalize wr=wx at *;go_loopw [136] (fun y wi=>∃j:Nat,j<=pq.ups.length/\y=j/\Hid (Au rd.types (pq.ups.drop j)=Au rd.types pq.ups)/\Below wx wx wi) (fun y _=>pq.ups.length-(intOf y).toNat);case atStart=>exact⟨0,yE _,rfl,rfl,yA _ _⟩
    case round=>
     obtain⟨j,hj,rfl,HJ,hbj⟩:=hrel;have hRt:=Ai hR.types hbj;have hRk:=Ai hR.taken hbj;have hG4:Hid _:=Pj HG3.out (Et hbj none) (fun i hi=>by cases hi);by_cases hjl:j<pq.ups.length
     ·obtain⟨u,hu⟩:=A8 hjl;obtain⟨ub,uo,rfl,_,hul2,u0,u1⟩:=HUS.out.l (A7.o hbj) j u hu;have HD:Hid (Au rd.types pq.ups=(!(u.loc&&decide (Ca rd.types u.idx≠2))&&Au rd.types (pq.ups.drop (j+1)))):=by show _=_;rw[←HJ.out,Ao hu];rfl
      have HUU:Hid _:=HU.out u (yH hu);obtain⟨ul,ui⟩:=u;dsimp only at *;clear hu HJ;cases ul
      ·have HN:Hid (Au rd.types (pq.ups.drop (j+1))=Au rd.types pq.ups):=by show _=_;rw[HD.out];rfl
       clear HD HUU;go_wp2;go_roundw;case rel=>exact⟨j+1,by omega,by go_num,HN.out,hbj.alloc hbj.size _⟩
       case measure=>simp[intOf];omega
      ·obtain⟨hu1,hu2⟩:=HUU.out rfl;obtain⟨q,rfl⟩:=yN hu1;have hR5:Ny base (w1:Nat) (.slice ao ts.length cap) nS nS ts.length wr wr ⟨rd.types,[],[]⟩:=⟨hRt,yU _ _ _ _,yU _ _ _ _,by simp[Value.ownBlock],Et (yA _ _) _⟩;obtain⟨g,rfl,ct,_⟩:=hR5.ty (i:=q) (by omega) HL.out.1;obtain⟨ty,hty⟩:∃ty,ty=rd.types.getD q 0:=⟨_,rfl⟩;rw[←hty]at ct;have k4:(q:Int)<ts.length:=by omega
       have HTY:Hid (Ca rd.types (q:Int)=ty):=hty.symm;have hgl:=(hRt.lt g rfl).2;clear hty hR5 HUU hu1 hu2;by_cases ht2:ty=2
       ·subst ht2;have HN:Hid (Au rd.types (pq.ups.drop (j+1))=Au rd.types pq.ups):=by show _=_;rw[HD.out,HTY.out];rfl
        clear HD HTY;go_wp2;go_roundw;case rel=>exact⟨j+1,by omega,by go_num,HN.out,hbj.alloc hbj.size _⟩
        case measure=>simp[intOf];omega
       ·have HN:Hid (Fu ps ⟨(11:Nat),a,bN,c,d⟩ ts=none):=by show _=_;rw[HYE2.out,HD.out,HTY.out];simp[ht2]
        have k5:(ty !=2)=true:=by simpa using ht2
        clear HD HTY ht2 HYE2;go_wp2;go_ret2;refine⟨?_,Mx hG4.out _⟩;unfold Eb;rw[HN.out];exact⟨_,rfl⟩
     ·have HN:Hid (Fu ps ⟨(11:Nat),a,bN,c,d⟩ ts=some (rd.types,rd.taken)):=by have h:=HJ.out;rw[yQ (by omega)]at h;show _=_;rw[HYE2.out,←h];rfl
      clear HJ HYE2;go_wp2;go_ret2;refine⟨?_,hG4.out⟩;unfold Eb;rw[HN.out];refine⟨_,rfl,htl4,?_,hRt⟩;obtain⟨r1',r2'|⟨g',c',cur,r3',r4',r5'⟩⟩:=hRk
      ·exact⟨r1',.inl r2'⟩
      ·exact⟨r1',.inr ⟨g',c',cur,r3',by have:=HBB.out;omega,r5'⟩⟩
   ·have HF0:Hid (Fu ps ⟨opN,a,b,c,d⟩ ts=some (rd.types,rd.taken)):=by
     have hfu:Cy ps ⟨opN,a,b,c,d⟩=[]:=by unfold Cy;rw[if_neg (by dsimp only;omega)]
     show _=_;rw[HYE,hfu];rfl
    have k1:((opN:Int)==11)=false:=by simp;omega
    clear HYE HE HQ;go_wp2;go_ret2;refine⟨?_,HG3.out⟩;unfold Eb;rw[HF0.out];refine⟨_,rfl,htl4,?_,hR.types⟩;obtain⟨r1',r2'|⟨g',c',cur,r3',r4',r5'⟩⟩:=hR.taken
    ·exact⟨r1',.inl r2'⟩
    ·exact⟨r1',.inr ⟨g',c',cur,r3',by have:=HBB.out;omega,r5'⟩⟩
end Go.Proofs.YtjbbppblgjhapaaGreatDoor
