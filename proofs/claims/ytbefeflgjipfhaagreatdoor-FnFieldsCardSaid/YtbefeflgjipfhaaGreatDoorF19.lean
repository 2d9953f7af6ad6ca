import Derived.Test.YtbefeflgjipfhaaGreatDoorF17
import Derived.Test.YtbefeflgjipfhaaGreatDoorF18
set_option maxRecDepth 100000
set_option maxHeartbeats 4000000
namespace Go.Proofs.YtbefeflgjipfhaaGreatDoor
open Go.Deep Go.Proofs.Tryz Go.RowKit
attribute [local go_sem] A7 vi
theorem A8q (bl bm N:Nat) (Z Z0 Z1:Nat->World->Prop) (E:Mc->World->Prop) (w:World) (hN:N<=9223372036854775807)
  (hZ:Hid (∀j W,Z j W->W.cell? ⟨w.heap.size,0,none⟩=some (pl bl)/\W.cell? ⟨bl,0,none⟩=some (pl bm)/\∃mv,W.cell? ⟨bm,20,none⟩=some (.int .i64 mv)/\W.frozen? ⟨bm,20,none⟩=false))
  (hS:Hid (∀j W mv,j<N->Z j W->W.cell? ⟨bm,20,none⟩=some (.int .i64 mv)->Z0 j (W.setCell ⟨bm,20,none⟩ (.int .i64 (wrap64 (mv+1))))))
  (hZ0:Hid (∀j W,Z0 j W->W.cell? ⟨w.heap.size,0,none⟩=some (pl bl)/\W.cell? ⟨bl,0,none⟩=some (pl bm)))
  (hZ1:Hid (∀j W,Z1 j W->W.cell? ⟨w.heap.size,0,none⟩=some (pl bl)))
  (hE:Hid (∀m W,E m W->W.cell? ⟨w.heap.size,0,none⟩=some (pl bl)/\W.cell? ⟨bl,0,none⟩=some (pl bm)/\MAt W bm m))
  (HG:Hid (∀j W,j<N->Z0 j W->Calls prog 27 #[pl bm] W fun e w'=>e=.returned (.tuple #[])/\Z1 j w'))
  (HM:Hid (∀j W,j<N->Z1 j W->Calls prog 28 #[pl bl] W fun e w'=>e=.returned (.tuple #[])/\Z (j+1) w'∨e=Qr/\∃m,E m w'))
  (h0:Z 0 (w.alloc (.cells #[pl bl] 69))) :
  Calls prog 19 #[pl bl,.int .i64 N] w fun e w'=>e=.returned (.tuple #[])/\(Z N w'∨∃m W,E m W/\Chg [bm] W w'/\MAt w' bm {m with over:=.bool true,rc:=.int .i64 0}):=by
 have hmf:∀(fn:Fn) (first cap:Array Value) (w:World),(Instr.makeFunc fn first cap).run prog w=.ok (.func fn first cap) w:=fun _ _ _ _=>rfl
 have H0:Hid (Z 0 (w.alloc (.cells #[pl bl] 69))):=h0
 clear h0
 go_enter_defers func19,ntmps19
 go_wp2_with fail
 go_loopw [6] (fun y ws=>∃j:Nat,j<=N/\y=.int .i64 j/\Hid (Z j ws)) (fun y _=>N-(intOf y).toNat)
 case atStart=>exact⟨0,by omega,rfl,H0⟩
 case round=>
  obtain⟨j,hj,rfl,HZ⟩:=hrel
  have j0:(0:Int)<=j:=by omega
  by_cases hjN:j=N
  ·subst hjN
   go_wp2_with fail
   refine leaves_cons (f:=26) (args:=#[.pointer (some ⟨w.heap.size,0,none⟩)]) (by simp) (by simp[go_sem]) ?_
   refine(A02 w.heap.size _).mono ?_
   rintro e u' w'' ⟨rfl,rfl,rfl⟩
   simp only[Leaves,settle]
   exact⟨_,results_none rfl _ _ _,rfl,.inl HZ.out⟩
  ·have j1:(j:Int)<N:=by omega
   have ew:IntKind.i64.wrap ((j:Int)+1)=((j+1:Nat):Int):=by
    rw[show (j:Int)+1=((j+1:Nat):Int) by omega]
    unfold IntKind.wrap
    simp[IntKind.signed,IntKind.bits]
    omega
   obtain⟨z1,z2,mv,z3,z4⟩:=hZ.out j wr HZ.out
   have HS1:Hid (Z0 j (wr.setCell ⟨bm,20,none⟩ (.int .i64 (wrap64 (mv+1))))):=hS.out j wr _ (by omega) HZ.out z3
   obtain⟨y1,y2⟩:=hZ0.out j _ HS1.out
   go_wp2_with fail
   refine(HG.out j _ (by omega) HS1.out).mono ?_
   rintro e w2 ⟨rfl,hz1⟩
   have c1:=hZ1.out j w2 hz1
   have HZ1:Hid (Z1 j w2):=hz1
   clear hz1 HS1
   go_wp2_with fail
   refine(HM.out j w2 (by omega) HZ1.out).mono ?_
   rintro e w3 (⟨rfl,hz⟩|⟨rfl,m,hEm⟩)
   ·have HZ3:Hid (Z (j+1) w3):=hz
    clear hz
    go_wp2_with fail
    go_roundw
    case rel=>exact⟨j+1,by omega,by go_num,HZ3⟩
    case measure=>simp[intOf];omega
   ·obtain⟨e1,e2,e3⟩:=hE.out m w3 hEm
    go_wp2_with fail
    refine leaves_cons (f:=26) (args:=#[.pointer (some ⟨w.heap.size,0,none⟩)]) (by simp) (by simp[go_sem]) ?_
    refine(Tm w.heap.size bl bm m [] w3 e1 e2 e3).mono ?_
    rintro e u' w'' ⟨rfl,rfl,hc,hM⟩
    have hfin:(Ending.returned (Value.tuple #[]):Ending)=.returned (.tuple #[])/\(Z N w''∨∃m W,E m W/\Chg [bm] W w''/\MAt w'' bm {m with over:=.bool true,rc:=.int .i64 0}):=⟨rfl,.inr ⟨m,w3,hEm,hc,hM⟩⟩
    simp only[settle]
    exact⟨_,results_none rfl _ _ _,hfin⟩
end Go.Proofs.YtbefeflgjipfhaaGreatDoor
namespace Go.Proofs.YtbefeflgjipfhaaGreatDoor
open Go.Deep Go.Proofs.Tryz Go.RowKit
structure Fb where
 (bl bm bts bt bf bc br qb qi cp ck ci gc pc kn kc ic lo:Nat)
 w0:World
 bx:Option Nat
structure Fk where
 gone:Bool
 (n k:Int)
 (kN kK k0 kb:Nat)
def pos (K:Fk) (x:Nat):Nat:=if K.gone then x else if x<19 then x else x-3
def nq (K:Fk):Nat:=if K.gone then 32 else 29
def Ng (K:Fk):Nat->Array Value
 | 0=>qa 12 4 0 0 0 0 0
 | 1=>qa 4 5 0 0 0 0 0
 | 2=>qa 4 6 1 0 0 0 0
 | 3=>qa 13 4 (-6) (-7) 0 0 0
 | 4=>qa 4 7 2 0 0 0 0
 | 5=>qa 4 0 3 0 0 0 0
 | 6=>qa 4 1 K.kN 0 0 0 0
 | 7=>qa 4 2 3 0 0 0 0
 | 8=>qa 37 0 0 0 0 0 0
 | 9=>qa 38 0 (pos K 25) 0 0 0 0
 | 10=>qa 3 0 0 0 0 0 0
 | 11=>qa 44 8 6 0 K.kK 0 8
 | 13=>qa 44 8 13 (-9) K.k0 0 9
 | 15=>qa 21 (-9) (pos K 22) 0 0 0 0
 | 16=>qa 5 8 0 0 0 0 0
 | 17=>qa 5 9 0 0 0 0 0
 | 18=>qa 13 4 (-9) (-10) 0 0 0
 | 19=>qa 5 8 0 0 0 0 0
 | 20=>qa 4 9 2 0 0 0 0
 | 21=>qa 13 4 (-9) (-10) 0 0 0
 | 22=>qa 45 7 4 0 0 0 8
 | 24=>qa 39 0 9 0 0 0 0
 | 25=>qa 4 8 K.kb 0 0 0 0
 | 26=>qa 22 9 0 0 0 0 0
 | 27=>qa 23 9 7 0 0 0 0
 | 28=>qa 28 9 (-9) (-10) 0 0 0
 | 29=>qa 42 9 0 0 0 0 0
 | 30=>qa 22 8 0 0 0 0 0
 | _=>qa 29 (-9) 0 0 0 0 0
def Lq (K:Fk) (x:Nat):Bool:=x<32&&x !=12&&x !=14&&x !=23&&(K.gone||x<19||22<=x)
abbrev pa (o a b c d:Int):Array Value:=#[.int .i64 o,.int .i64 a,.int .i64 b,.int .i64 c,.int .i64 d]
def A6g:Nat->Array Value
 | 12=>pa 18 8 6 0 (-9)
 | 14=>pa 18 8 13 (-9) (-10)
 | 23=>pa 15 7 4 (-9) 0
 | _=>pa 28 9 (-9) (-10) 0
abbrev sA:ByteArray:=⟨#[97]⟩
def kF (K:Fk):List (Nat×Array Value):=[(0,va 4 0 0 sA 0),(1,vi 7),(2,va 0 0 0 ByteArray.empty 0),(3,vi 1),(K.kN,vi K.n),(K.kK,vi K.k),(K.k0,vi 0),(K.kb,va 8 0 0 ByteArray.empty 0)]
abbrev aF (la:Array Value) (o fn:Nat) (g:Bool):Prop:=la[8+o*2]?=some (.func (.func fn) #[] #[])/\la[8+o*2+1]?=some (.bool g)
structure LF (la:Array Value):Prop where
 tb:aF la 12 46 true
 ct:aF la 4 38 true
 rw':aF la 13 47 true
 fo:aF la 37 70 true
 ft:aF la 38 71 false
 ti:aF la 3 37 true
 qw:aF la 44 77 false
 un:aF la 21 54 false
 mv:aF la 5 39 true
 qf:aF la 45 78 false
 fx:aF la 39 72 false
 ls:aF la 22 55 true
 ad:aF la 23 56 true
 cl:aF la 28 61 false
 dr:aF la 42 75 true
 rt:aF la 29 62 false
 pr:la[102]?=some (.func (.func 80) #[] #[])
 hk:la[117]?=some .nilFunc
structure Fs (b:Fb) (K:Fk) (W:World):Prop where
 l:∃la,Blk W b.bl la 82/\Lm la b.bm b.cp b.qb b.pc 1 1000 1000/\LF la
 q:∃A,Blk W b.qb A 166/\∃ic,A[0]?=some (.slice (some ⟨b.qi,0,none⟩) (nq K) ic)
 i:∃A,Blk W b.qi A 161/\∀x,Lq K x=true->∀j,j<7->A[pos K x*7+j]?=(Ng K x)[j]?
 p:∃A,Blk W b.cp A 63/\A[6]?=some (.slice (some ⟨b.ck,0,none⟩) b.kn b.kc)/\A[7]?=some (.slice (some ⟨b.ci,0,none⟩) (nq K) b.ic)/\∃pv,A[2]?=some (.int .i64 pv)
 pi:∃A,Blk W b.ci A 58/\∀x,(x=12∨x=14∨x=23∨x=28)->∀j,j<5->A[pos K x*5+j]?=(A6g x)[j]?
 k:∃A,Blk W b.ck A 52/\∀e∈kF K,e.1<b.kn/\∀j,j<5->A[e.1*5+j]?=e.2[j]?
 ts:Blk W b.bts #[.pointer (some ⟨b.bt,0,none⟩)] 106
 f:Blk W b.bf #[.iface 107 (.pointer (some ⟨b.bc,0,none⟩))] 117
 low:Below b.lo b.w0 W
 ge:b.lo<=b.br/\b.lo<=b.bc/\b.lo<=b.bt/\b.lo<=b.bm/\b.lo<=b.gc
 box:∀x,b.bx=some x->Blk W x #[.pointer (some ⟨b.bl,0,none⟩)] 69
abbrev ts1:List TypeId:=[178,88,127,3,131,111,176,223,141]
theorem Fs.fr {b:Fb} {K:Fk} {W W':World} (h:Fs b K W) (hf:FrT ts1 W W') (hb:Below b.lo W W'):Fs b K W':=
 let ⟨a1,h1,h1'⟩:=h.l;let ⟨a2,h2,h2'⟩:=h.q;let ⟨a3,h3,h3'⟩:=h.i;let ⟨a4,h4,h4'⟩:=h.p;let ⟨a5,h5,h5'⟩:=h.k;let ⟨a6,h6,h6'⟩:=h.pi
 ⟨⟨a1,h1.fr hf (by decide),h1'⟩,⟨a2,h2.fr hf (by decide),h2'⟩,⟨a3,h3.fr hf (by decide),h3'⟩,⟨a4,h4.fr hf (by decide),h4'⟩,⟨a6,h6.fr hf (by decide),h6'⟩,⟨a5,h5.fr hf (by decide),h5'⟩,h.ts.fr hf (by decide),h.f.fr hf (by decide),h.low.trans hb,h.ge,fun x hx=>(h.box x hx).fr hf (by decide)⟩
structure Rr where
 (r0 r1 r2 r4 r5 r6 r7 r8 r9:R8)
def rg (r:Rr):Nat->R8
 | 0=>r.r0|1=>r.r1|2=>r.r2|4=>r.r4|5=>r.r5|6=>r.r6|7=>r.r7|8=>r.r8|9=>r.r9|_=>.none
section
variable (r:Rr) (q:R8)
theorem up0:upd (rg r) 0 q=rg {r with r0:=q}:=by
 funext k;unfold upd;match k with
 | 0=>rfl|1=>rfl|2=>rfl|3=>rfl|4=>rfl|5=>rfl|6=>rfl|7=>rfl|8=>rfl|9=>rfl|k+10=>simp[rg]
theorem up1:upd (rg r) 1 q=rg {r with r1:=q}:=by
 funext k;unfold upd;match k with
 | 0=>rfl|1=>rfl|2=>rfl|3=>rfl|4=>rfl|5=>rfl|6=>rfl|7=>rfl|8=>rfl|9=>rfl|k+10=>simp[rg]
theorem up2:upd (rg r) 2 q=rg {r with r2:=q}:=by
 funext k;unfold upd;match k with
 | 0=>rfl|1=>rfl|2=>rfl|3=>rfl|4=>rfl|5=>rfl|6=>rfl|7=>rfl|8=>rfl|9=>rfl|k+10=>simp[rg]
theorem up5:upd (rg r) 5 q=rg {r with r5:=q}:=by
 funext k;unfold upd;match k with
 | 0=>rfl|1=>rfl|2=>rfl|3=>rfl|4=>rfl|5=>rfl|6=>rfl|7=>rfl|8=>rfl|9=>rfl|k+10=>simp[rg]
theorem up6:upd (rg r) 6 q=rg {r with r6:=q}:=by
 funext k;unfold upd;match k with
 | 0=>rfl|1=>rfl|2=>rfl|3=>rfl|4=>rfl|5=>rfl|6=>rfl|7=>rfl|8=>rfl|9=>rfl|k+10=>simp[rg]
theorem up7:upd (rg r) 7 q=rg {r with r7:=q}:=by
 funext k;unfold upd;match k with
 | 0=>rfl|1=>rfl|2=>rfl|3=>rfl|4=>rfl|5=>rfl|6=>rfl|7=>rfl|8=>rfl|9=>rfl|k+10=>simp[rg]
theorem up8:upd (rg r) 8 q=rg {r with r8:=q}:=by
 funext k;unfold upd;match k with
 | 0=>rfl|1=>rfl|2=>rfl|3=>rfl|4=>rfl|5=>rfl|6=>rfl|7=>rfl|8=>rfl|9=>rfl|k+10=>simp[rg]
theorem up9:upd (rg r) 9 q=rg {r with r9:=q}:=by
 funext k;unfold upd;match k with
 | 0=>rfl|1=>rfl|2=>rfl|3=>rfl|4=>rfl|5=>rfl|6=>rfl|7=>rfl|8=>rfl|9=>rfl|k+10=>simp[rg]
end
structure Dy where
 a:Nat
 r:Rr
 (d hi mi ve sn tn cv cq mv tk:Int)
 hs:Bool
 (go rr:Value)
 ps:List Pr
abbrev mF (b:Fb) (pc:Int) (s:Dy) (sv fv:Value):Mc:=⟨.int .i64 pc,.int .i64 s.d,.int .i64 0,.int .i64 1,.int .i64 s.ve,sv,fv,.slice (some ⟨b.gc,0,none⟩) 1 1,.int .i64 s.hi,.int .i64 s.mi,.slice (some ⟨b.bts,0,none⟩) 1 1,.int .i64 0,.bool s.hs,s.go,.int .i64 0,.slice none 0 0,.string ByteArray.empty,.bool false,.int .i64 0,.int .i64 s.sn,.int .i64 s.mv,.int .i64 0,s.rr,.slice none 0 0,.string ByteArray.empty,.string ByteArray.empty,.int .i64 s.tk,.int .i64 s.sn⟩
abbrev cF (b:Fb) (a:Int):Cc:=⟨.int .i64 1,.int .i64 0,.pointer none,.int .i64 a,.int .i64 0,.int .i64 0,.slice (some ⟨b.br,0,none⟩) 14 14,.slice none 0 0,.bool false,.bool false,.int .i64 0,.slice none 0 0,.string ByteArray.empty,.int .i64 (-1)⟩
abbrev tF (b:Fb) (l:Nat):Tc:=⟨.int .i64 2,.int .i64 0,.int .i64 0,.float .f64 0,.string ByteArray.empty,.int .i64 0,.slice (some ⟨b.bf,0,none⟩) l 1,.int .i64 (-1),.bool false,.slice none 0 0⟩
abbrev stF (ve:Int) (v:Value) (tn:Int):Array Value:=st (.int .i64 0) (.int .i64 1) (.int .i64 1) (.int .i64 ve) v (.int .i64 tn)
def Uv (b:Fb) (v:Value) (W:World):Prop:=v=.slice none 0 0∨∃h hc,v=.slice (some ⟨h,0,none⟩) 1 hc/\W.ownsRow b.lo 92 5 v 1 [.int .i64 6,.int .i64 0,.int .i64 0,.int .i64 0,.string s7]
theorem Uv.fr {b:Fb} {v:Value} {W W':World} {ts:List TypeId} (h:Uv b v W) (hf:FrT ts W W') (ht:92∉ts):Uv b v W':=h.imp id fun ⟨h,hc,e,o⟩=>⟨h,hc,e,Ei o hf ht⟩
structure Ft (b:Fb) (bs gs:Nat) (s:Dy) (W:World):Prop where
 g:∃A,Blk W gs A 127/\A[0]?=some (pz' bs)
 y:∃v,Blk W bs (stF s.ve v s.tn) 176/\Cz W b.lo v s.ps
 k:Blk W b.gc #[.int .i64 s.cv,.int .i64 s.cq] 141
 ge:b.lo<=bs
 r:Uv b s.rr W
structure FS (b:Fb) (K:Fk) (pc:Int) (bs:Nat) (D:Dy) (W:World):Prop where
 s:Fs b K W
 c:CAt W b.bc (cF b D.a)
 x:RgA W b.br 14 (rg D.r)
 t:TAt W b.bt (tF b 1)
 m:∃gs lc fo fcc,MAt W b.bm (mF b pc D (.slice (some ⟨gs,0,none⟩) 1 lc) (.slice fo 0 fcc))/\Ft b bs gs D W
section
variable {b:Fb} {K:Fk} {pc:Int} {bs:Nat} {s s':Dy} {W W':World}
theorem Ft.fr {gs:Nat} (h:Ft b bs gs s W) (hf:FrT [131,178,88] W W'):Ft b bs gs s W':=
 let ⟨A,a1,a2⟩:=h.g;let ⟨v,y1,y2⟩:=h.y
 ⟨⟨A,a1.fr hf (by decide),a2⟩,⟨v,y1.fr hf (by decide),Ei y2 hf (by decide)⟩,h.k.fr hf (by decide),h.ge,h.r.fr hf (by decide)⟩
theorem FS.lo (h:FS b K pc bs s W):b.lo<=W.heap.size:=Nat.le_trans h.s.ge.1 (Nat.le_of_lt h.x.lt)
theorem FS.l (h:FS b K pc bs s W) (hb:Below W.heap.size W W'):FS b K pc bs s W':=
 let ⟨gs,lc,fo,fcc,m1,m2⟩:=h.m
 ⟨h.s.fr (FrT.below hb) (hb.mono h.lo),h.c.l hb,h.x.l hb,h.t.l hb,gs,lc,fo,fcc,m1.l hb,m2.fr (FrT.below hb)⟩
theorem FS.fr3 (h:FS b K pc bs s W) (hc:Chg [b.bc,b.br,b.bm] W W'):FrT [131,178,88] W W'/\Below b.lo W W':=by
 obtain⟨gs,lc,fo,fcc,m1,m2⟩:=h.m
 refine⟨FrT.chg hc fun x hx=>?_,hc.low h.lo fun x hx=>?_⟩
 ·simp only[List.mem_cons,List.not_mem_nil,or_false]at hx
  rcases hx with rfl|rfl|rfl
  ·exact⟨_,_,_,h.c,by simp⟩
  ·exact⟨_,_,_,h.x.blk,by simp⟩
  ·exact⟨_,_,_,m1,by simp⟩
 ·simp only[List.mem_cons,List.not_mem_nil,or_false]at hx
  rcases hx with rfl|rfl|rfl
  ·exact h.s.ge.2.1
  ·exact h.s.ge.1
  ·exact h.s.ge.2.2.2.1
theorem FrT.wide {ts ts':List TypeId} (h:FrT ts W W') (hs:∀t∈ts,t∈ts'):FrT ts' W W':=⟨h.os,h.tape,h.output,h.size,fun b c t f e n=>h.block b c t f e fun m=>n (hs t m)⟩
theorem FS.put3 {gs lc fcc:Nat} {fo:Option Addr} (h:FS b K pc bs s W) (hc:Chg [b.bc,b.br,b.bm] W W') (C:CAt W' b.bc (cF b s'.a)) (X:RgA W' b.br 14 (rg s'.r)) (M:MAt W' b.bm (mF b pc s' (.slice (some ⟨gs,0,none⟩) 1 lc) (.slice fo 0 fcc))) (T:Ft b bs gs s W) (e1:s'.ve=s.ve) (e2:s'.tn=s.tn) (e3:s'.cv=s.cv) (e4:s'.cq=s.cq) (e5:s'.ps=s.ps) (e6:s'.rr=s.rr):FS b K pc bs s' W':=by
 obtain⟨f1,f2⟩:=h.fr3 hc
 have T':=T.fr f1
 refine⟨h.s.fr (f1.wide (by simp)) f2,C,X,h.t.fr f1 (by decide),gs,lc,fo,fcc,M,?_⟩
 obtain⟨t1,t2,t3,t4,t5⟩:=T'
 exact⟨t1,by rw[e1,e2,e5];exact t2,by rw[e3,e4];exact t3,t4,by rw[e6];exact t5⟩
end
section
variable {b:Fb} {K:Fk} {pc:Int} {bs:Nat} {s s':Dy} {w W W':World}
theorem FS.l0 (h:FS b K pc bs s W):W.cell? ⟨b.bl,0,none⟩=some (pl b.bm):=let ⟨_,h1,h2,_⟩:=h.s.l;(h1.cell 0).trans h2.m
theorem FS.b0 (h:FS b K pc bs s W):W.cell? ⟨b.bts,0,none⟩=some (pl b.bt):=h.s.ts.cell 0
theorem FS.f0 (h:FS b K pc bs s W):W.cell? ⟨b.bf,0,none⟩=some (.iface 107 (pl b.bc)):=h.s.f.cell 0
theorem FS.hl (h:FS b K pc bs s W) (hs:s.hs=false):W.cell? ⟨b.bl,0,none⟩=some (pl b.bm)/\W.cell? ⟨b.bm,12,none⟩=some (.bool false):=
 let ⟨_,_,_,_,h1,_⟩:=h.m;⟨h.l0,(h1.cell 12).trans (by rw[←hs];rfl)⟩
theorem Rm {x:Nat} (hx:Lq K x=true):pos K x<nq K:=by
 unfold Lq at hx
 unfold pos nq
 simp only[Bool.and_eq_true,Bool.or_eq_true,decide_eq_true_eq]at hx
 cases hg:K.gone
 ·simp only[hg]at hx ⊢
  simp only[Bool.false_eq_true,if_false,false_or]at hx ⊢
  split<;>omega
 ·simp only[if_true];omega
theorem FS.ac (h:FS b K pc bs s W) {x:Nat} (hx:Lq K x=true) (ha:s.a=pos K x) {fn:Nat} {g:Bool} {q x1 y1 c d e f:Int} (h0:0<=q) (h1:q<47) (hi:Ng K x=qa q x1 y1 c d e f) (hf:∀la,LF la->aF la q.toNat fn g):AcN (nq K) W b.bl b.qb b.qi s.a fn g q x1 y1 c d e f:=by
 obtain⟨la,l1,l2,l3⟩:=h.s.l
 obtain⟨A,q1,ic,q2⟩:=h.s.q
 obtain⟨A2,i1,i2⟩:=h.s.i
 have hl:=hf la l3
 exact⟨⟨1,(l1.cell 2).trans l2.q⟩,⟨ic,(q1.cell 0).trans q2⟩,ha▸Rm hx,⟨h0,h1⟩,fun j hj=>by rw[i1.cell,ha,i2 x hx j hj,hi],(l1.cell _).trans hl.1,(l1.cell _).trans hl.2⟩
theorem Rf:nq K<=100:=by unfold nq;split<;>decide
theorem FS.setC {a':Nat} (h:FS b K pc bs s W) (hc:Chg [b.bc] W W') (C:CAt W' b.bc (cF b a')):FS b K pc bs {s with a:=a'} W':=by
 have h3:=h.fr3 (hc.mono (by simp))
 obtain⟨gs,lc,fo,fcc,m1,m2⟩:=h.m
 exact h.put3 (hc.mono (by simp)) C (h.x.chg hc (by simpa using Ne.symm (Aa h.c h.x.blk (by decide)))) (m1.chg hc (by simpa using Aa m1 h.c (by decide))) m2 rfl rfl rfl rfl rfl rfl
theorem mvF (P:World->Prop) (S:FS b K pc bs s w) (hs:s.hs=false) (hP:∀W W',P W->Below W.heap.size W W'->P W') (hl:∀W,P W->W.cell? ⟨b.bl,0,none⟩=some (pl b.bm)/\W.cell? ⟨b.bm,12,none⟩=some (.bool false))
  (HD:Hid (∀W,FS b K pc bs s W->Calls prog 186 #[pl b.bl,pl b.bc] W fun e w'=>e=.returned .nilIface/\P w')) :
  Calls prog 28 #[pl b.bl] w fun e w'=>e=.returned (.tuple #[])/\P w':=by
 obtain⟨gs,lc,fo,fcc,h1,_⟩:=S.m
 refine K6 b.bl b.bm b.bt b.bts b.bf b.bc 1 (mF b pc s (.slice (some ⟨gs,0,none⟩) 1 lc) (.slice fo 0 fcc)) (tF b 1) P w S.l0 h1 S.b0 S.t S.f0 (S.c.cell 8) (fun W hW=>?_)
 have SW:=S.l hW
 have hlW:=SW.hl hs
 refine(A0c b.bl b.bc b.bm P W hlW.1 hlW.2 ((HD.out W SW).mono fun e w' ⟨he,hp⟩=>⟨he,(hl w' hp).1,(hl w' hp).2,hp⟩)).mono ?_
 rintro e w' ⟨rfl,w1,hp,hb⟩
 exact⟨rfl,hP _ _ hp hb⟩
theorem onF {x fn:Nat} {q x1 y1 c d e f:Int} (S:FS b K pc bs s w) (hs:s.hs=false) (hs':s'.hs=false) (ha':s'.a=s.a) (hx:Lq K x=true) (ha:s.a=pos K x) (h0:0<=q) (h1:q<47) (hi:Ng K x=qa q x1 y1 c d e f) (hf:∀la,LF la->aF la q.toNat fn true) (hcf:Hid (∀args W,(callFunc fn args).run prog W=.ok (.enter fn args) W))
  (HD:Hid (∀W,FS b K pc bs s W->Calls prog fn #[pl b.bl,pl b.bc,.agg (qa q x1 y1 c d e f)] W fun e w'=>e=.returned .nilIface/\FrT ts1 W w'/\FS b K pc bs s' w')) :
  Calls prog 28 #[pl b.bl] w fun e w'=>e=.returned (.tuple #[])/\FS b K pc bs {s' with a:=s.a+1} w':=by
 refine mvF (fun w'=>FS b K pc bs {s' with a:=s.a+1} w') S hs (fun _ _ h hb=>h.l hb) (fun _ h=>h.hl hs') (fun W SW=>?_)
 refine(A0r (nq K) b.bl b.bc b.qb b.qi s.a fn q x1 y1 c d e f (cF b s.a) ts1 (fun w'=>FS b K pc bs s' w') W (by decide) hcf Rf (SW.ac hx ha h0 h1 hi hf) SW.c (fun W1 hW1=>?_)).mono ?_
 ·refine(HD.out W1 (SW.l hW1)).mono ?_
  rintro e w' ⟨rfl,h2,h3⟩
  exact⟨rfl,h2,by have:=h3.c;rw[ha']at this;exact this,h3⟩
 ·rintro e w' ⟨rfl,w1,h2,_,h4,h5⟩
  exact⟨rfl,h2.setC (a':=s.a+1) h4 h5⟩
theorem offF {x fn:Nat} {q x1 y1 c d e f:Int} (P:World->Prop) (S:FS b K pc bs s w) (hs:s.hs=false) (hP:∀W W',P W->Below W.heap.size W W'->P W') (hl:∀W,P W->W.cell? ⟨b.bl,0,none⟩=some (pl b.bm)/\W.cell? ⟨b.bm,12,none⟩=some (.bool false)) (hx:Lq K x=true) (ha:s.a=pos K x) (h0:0<=q) (h1:q<47) (hi:Ng K x=qa q x1 y1 c d e f) (hf:∀la,LF la->aF la q.toNat fn false) (hcf:Hid (∀args W,(callFunc fn args).run prog W=.ok (.enter fn args) W))
  (HD:Hid (∀W,FS b K pc bs s W->Calls prog fn #[pl b.bl,pl b.bc,.agg (qa q x1 y1 c d e f)] W fun e w'=>e=.returned .nilIface/\FrT ts1 W w'/\P w')) :
  Calls prog 28 #[pl b.bl] w fun e w'=>e=.returned (.tuple #[])/\P w':=by
 refine mvF P S hs hP hl (fun W SW=>?_)
 refine(Ve (nq K) b.bl b.bc b.qb b.qi s.a fn q x1 y1 c d e f (cF b s.a) ts1 P W (by decide) hcf (SW.ac hx ha h0 h1 hi hf) SW.c (fun W1 hW1=>HD.out W1 (SW.l hW1))).mono ?_
 rintro e w' ⟨rfl,_,h2⟩
 exact⟨rfl,h2⟩
theorem A9j {x fn:Nat} {q x1 y1 c d e f:Int} (P R:World->Prop) (S:FS b K pc bs s w) (hs:s.hs=false) (hP:∀W W',P W->Below W.heap.size W W'->P W') (hR:∀W W',R W->Below W.heap.size W W'->R W') (hG:∀W,P W->WG b.bl b.bm b.bt b.bts b.bf b.bc 1 W) (hx:Lq K x=true) (ha:s.a=pos K x) (h0:0<=q) (h1:q<47) (hi:Ng K x=qa q x1 y1 c d e f) (hf:∀la,LF la->aF la q.toNat fn false) (hcf:Hid (∀args W,(callFunc fn args).run prog W=.ok (.enter fn args) W))
  (HD:Hid (∀W,FS b K pc bs s W->Calls prog fn #[pl b.bl,pl b.bc,.agg (qa q x1 y1 c d e f)] W fun e w'=>e=.returned .nilIface/\FrT ts1 W w'/\P w'))
  (HC:Hid (∀W,P W->Calls prog 187 #[pl b.bl,pl b.bc] W fun e w'=>e=.returned .nilIface/\R w')) :
  Calls prog 28 #[pl b.bl] w fun e w'=>e=.returned (.tuple #[])/\R w':=by
 obtain⟨gs,lc,fo,fcc,h1',_⟩:=S.m
 refine K6 b.bl b.bm b.bt b.bts b.bf b.bc 1 (mF b pc s (.slice (some ⟨gs,0,none⟩) 1 lc) (.slice fo 0 fcc)) (tF b 1) R w S.l0 h1' S.b0 S.t S.f0 (S.c.cell 8) (fun W hW=>?_)
 have SW:=S.l hW
 have hlW:=SW.hl hs
 refine(Uq b.bl b.bc b.bm b.bt b.bts b.bf 1 P R W hlW.1 hlW.2 hP hG ?_ HC).mono ?_
 ·refine(Ve (nq K) b.bl b.bc b.qb b.qi s.a fn q x1 y1 c d e f (cF b s.a) ts1 P W (by decide) hcf (SW.ac hx ha h0 h1 hi hf) SW.c (fun W1 hW1=>HD.out W1 (SW.l hW1))).mono ?_
  rintro e w' ⟨rfl,_,h2⟩
  exact⟨rfl,h2⟩
 ·rintro e w' ⟨rfl,w1,hp,hb⟩
  exact⟨rfl,hR _ _ hp hb⟩
end
section
variable {b:Fb} {K:Fk} {pc:Int} {bs:Nat} {s s':Dy} {w W W':World}
theorem FS.kat (h:FS b K pc bs s W):KAt W b.bl b.cp b.ck b.pc b.kn b.kc:=
 let ⟨_,l1,l2,_⟩:=h.s.l;let ⟨_,p1,p2,_⟩:=h.s.p
 ⟨(l1.cell 1).trans l2.p,(p1.cell 6).trans p2⟩
theorem FS.kon (h:FS b K pc bs s W) {i:Nat} {v:Array Value} (hm:(i,v)∈kF K):i<b.kn/\∀j,j<5->W.cell? ⟨b.ck,i*5+j,none⟩=v[j]?:=
 let ⟨_,k1,k2⟩:=h.s.k
 ⟨(k2 _ hm).1,fun j hj=>(k1.cell _).trans ((k2 _ hm).2 j hj)⟩
theorem FS.ko (h:FS b K pc bs s W) {i:Nat} {v:Array Value} (hm:(i,v)∈kF K):KO b.bl b.cp b.ck b.pc b.kn b.kc i b.br v W W:=
 let ⟨_,l1,_⟩:=h.s.l;let ⟨_,p1,_⟩:=h.s.p;let ⟨_,k1,_⟩:=h.s.k
 ⟨h.kat,(h.kon hm).2,⟨l1.lt,p1.lt,k1.lt⟩,⟨Aa l1 h.x.blk (by decide),Aa p1 h.x.blk (by decide),Aa k1 h.x.blk (by decide)⟩⟩
theorem FS.putX {r':Rr} (h:FS b K pc bs s W) (hc:Chg [b.br] W W') (X:RgA W' b.br 14 (rg r')):FrT ts1 W W'/\FS b K pc bs {s with r:=r'} W':=by
 have hc3:Chg [b.bc,b.br,b.bm] W W':=hc.mono (by simp)
 obtain⟨gs,lc,fo,fcc,m1,m2⟩:=h.m
 exact⟨(h.fr3 hc3).1.wide (by simp),h.put3 hc3 (h.c.chg hc (by simpa using Aa h.c h.x.blk (by decide))) X (m1.chg hc (by simpa using Aa m1 h.x.blk (by decide))) m2 rfl rfl rfl rfl rfl rfl⟩
theorem FS.putCX {r':Rr} {a':Nat} (h:FS b K pc bs s W) (hc:Chg [b.bc,b.br] W W') (C:CAt W' b.bc (cF b a')) (X:RgA W' b.br 14 (rg r')):FrT ts1 W W'/\FS b K pc bs {s with r:=r',a:=a'} W':=by
 have hc3:Chg [b.bc,b.br,b.bm] W W':=hc.mono (by simp)
 obtain⟨gs,lc,fo,fcc,m1,m2⟩:=h.m
 exact⟨(h.fr3 hc3).1.wide (by simp),h.put3 hc3 C X (m1.chg hc (by simp only[List.mem_cons,List.not_mem_nil,or_false,not_or];exact⟨Aa m1 h.c (by decide),Aa m1 h.x.blk (by decide)⟩)) m2 rfl rfl rfl rfl rfl rfl⟩
theorem Ji {x r i:Nat} {va1 vb:Int} {vc:Nat} {vd':ByteArray} {ve:Int} {r':Rr} (S:FS b K pc bs s w) (hs:s.hs=false) (hx:Lq K x=true) (ha:s.a=pos K x) (hi:Ng K x=qa 4 r i 0 0 0 0) (hm:(i,va va1 vb vc vd' ve)∈kF K) (hr:r<14) (hr':upd (rg s.r) r (.val va1 vb vc vd' ve)=rg r') :
  Calls prog 28 #[pl b.bl] w fun e w'=>e=.returned (.tuple #[])/\FS b K pc bs {s with a:=s.a+1,r:=r'} w':=
 onF (s':={s with r:=r'}) S hs hs rfl hx ha (by decide) (by decide) hi (fun _ h=>h.ct) (Di (fn:=Tryz.f38) (by kernel_rfl) (by kernel_rfl) rfl) fun W SW=>
  (A3m b.bl b.bc 4 r i 0 0 0 0 (.agg (va va1 vb vc vd' ve)) [b.br] (fun w'=>RgA w' b.br 14 (rg r')) W (by simpa using SW.x.lt)
   (fun W1 hW1=>have S1:=SW.l hW1;V9 b.bl b.bc b.cp b.ck b.pc b.kn b.kc i (cF b s.a) va1 vb vc vd' ve W1 S1.kat S1.c (S1.kon hm).1 (S1.kon hm).2)
   (fun W1 hW1=>have S1:=SW.l hW1;(A6j b.bc b.br r 14 (cF b s.a) (rg s.r) va1 vb vc vd' ve W1 hr S1.c S1.x).mono fun _ _ ⟨he,hc,hX⟩=>⟨he,hc,hr'▸hX⟩)).mono
   fun _ _ ⟨he,hc,hX⟩=>⟨he,SW.putX hc hX⟩
theorem A63 {x r1 r2:Nat} {va1 vb:Int} {vc:Nat} {vd':ByteArray} {ve:Int} {k p l:Value} {r':Rr} (S:FS b K pc bs s w) (hs:s.hs=false) (hx:Lq K x=true) (ha:s.a=pos K x) (hi:Ng K x=qa 5 r1 r2 0 0 0 0) (hr1:r1<14) (hr2:r2<14) (hρ:rg s.r r2=.v5 k va1 vb vc vd' ve p l) (hr':upd (rg s.r) r1 (.val va1 vb vc vd' ve)=rg r') :
  Calls prog 28 #[pl b.bl] w fun e w'=>e=.returned (.tuple #[])/\FS b K pc bs {s with a:=s.a+1,r:=r'} w':=
 onF (s':={s with r:=r'}) S hs hs rfl hx ha (by decide) (by decide) hi (fun _ h=>h.mv) (Di (fn:=Tryz.f39) (by kernel_rfl) (by kernel_rfl) rfl) fun W SW=>
  (A7z b.bl b.bc b.br 14 r1 r2 5 r2 0 0 0 0 (cF b s.a) (rg s.r) (rg s.r) k p l va1 vb vc vd' ve W hr1 hr2 (by decide) (.inl rfl) hρ (by rw[if_neg (by omega)]) SW.c SW.x).mono
   fun _ _ ⟨he,hc,hX⟩=>⟨he,SW.putX hc (hr'▸hX)⟩
theorem A9n {x r:Nat} {r':Rr} (S:FS b K pc bs s w) (hs:s.hs=false) (hx:Lq K x=true) (ha:s.a=pos K x) (hi:Ng K x=qa 22 r 0 0 0 0 0) (hr:r<14) (hr':upd (rg s.r) r (.li none 0 0)=rg r') :
  Calls prog 28 #[pl b.bl] w fun e w'=>e=.returned (.tuple #[])/\FS b K pc bs {s with a:=s.a+1,r:=r'} w':=
 onF (s':={s with r:=r'}) S hs hs rfl hx ha (by decide) (by decide) hi (fun _ h=>h.ls) (Di (fn:=Tryz.f55) (by kernel_rfl) (by kernel_rfl) rfl) fun W SW=>
  (A7y b.bl b.bc b.br 14 r 22 0 0 0 0 0 (cF b s.a) (rg s.r) W hr SW.c SW.x).mono fun _ _ ⟨he,hc,hX⟩=>⟨he,SW.putX hc (hr'▸hX)⟩
theorem dropF {x r:Nat} {r':Rr} (S:FS b K pc bs s w) (hs:s.hs=false) (hx:Lq K x=true) (ha:s.a=pos K x) (hi:Ng K x=qa 42 r 0 0 0 0 0) (hr:r<14) (hr':upd (rg s.r) r .none=rg r') :
  Calls prog 28 #[pl b.bl] w fun e w'=>e=.returned (.tuple #[])/\FS b K pc bs {s with a:=s.a+1,r:=r'} w':=
 onF (s':={s with r:=r'}) S hs hs rfl hx ha (by decide) (by decide) hi (fun _ h=>h.dr) (Di (fn:=Tryz.f75) (by kernel_rfl) (by kernel_rfl) rfl) fun W SW=>
  (A7x b.bl b.bc b.br 14 r 42 0 0 0 0 0 (cF b s.a) (rg s.r) W hr SW.c SW.x).mono fun _ _ ⟨he,hc,hX⟩=>⟨he,SW.putX hc (hr'▸hX)⟩
abbrev ri (i:Int):R8:=.val 2 i 0 ByteArray.empty 0
theorem forF {i n:Int} (S:FS b K pc bs s w) (hs:s.hs=false) (ha:s.a=pos K 8) (h0:s.r.r0=ri i) (h1:s.r.r1=ri n) (h2:s.r.r2=ri 1) :
  Calls prog 28 #[pl b.bl] w fun e w'=>e=.returned (.tuple #[])/\FS b K pc bs {s with a:=s.a+1} w':=
 onF (s':=s) S hs hs rfl (x:=8) (by unfold Lq;simp) ha (by decide) (by decide) rfl (fun _ h=>h.fo) (Di (fn:=Tryz.f70) (by kernel_rfl) (by kernel_rfl) rfl) fun W SW=>
  (A9w b.bl b.bc b.br 14 37 0 0 0 0 0 i n (cF b s.a) (rg s.r) W (by decide) h0 h1 h2 SW.c SW.x).mono fun _ _ ⟨he,hb⟩=>⟨he,FrT.below hb,SW.l hb⟩
theorem A1j (x:Nat) (h:x<=40):(pos K x:Int)<=6000:=by unfold pos;split<;>(try split)<;>omega
theorem testF {i n:Int} (S:FS b K pc bs s w) (hs:s.hs=false) (ha:s.a=pos K 9) (h0:s.r.r0=ri i) (h1:s.r.r1=ri n) (h2:s.r.r2=ri 1) :
  Calls prog 28 #[pl b.bl] w fun e w'=>e=.returned (.tuple #[])/\FS b K pc bs {s with a:=if n<i then pos K 25 else s.a+1} w':=
 offF (x:=9) (fun w'=>FS b K pc bs {s with a:=if n<i then pos K 25 else s.a+1} w') S hs (fun _ _ h hb=>h.l hb) (fun _ h=>h.hl hs) (by unfold Lq;simp) ha (by decide) (by decide) rfl (fun _ h=>h.ft) (Di (fn:=Tryz.f71) (by kernel_rfl) (by kernel_rfl) rfl) fun W SW=>
  (A0p b.bl b.bc b.br 14 38 (pos K 25) 0 0 0 0 i n s.a (cF b s.a) (rg s.r) _ _ _ _ _ _ _ _ _ W (by decide) (by decide) (by omega) (by rw[ha];exact A1j _ (by decide)) h0 h1 h2 SW.c SW.x).mono fun _ _ ⟨he,hc,hC⟩=>⟨he,(SW.fr3 (hc.mono (by simp))).1.wide (by simp),SW.setC hc (by split<;>(rename_i h;simp only[h,if_true,if_false]at hC;exact hC))⟩
theorem nextF {i n:Int} {r':Rr} (S:FS b K pc bs s w) (hs:s.hs=false) (ha:s.a=pos K 24) (hi0:0<=i) (hi1:i<=100000) (h0:s.r.r0=ri i) (h1:s.r.r1=ri n) (h2:s.r.r2=ri 1) (hr':upd (rg s.r) 0 (ri (i+1))=rg r') :
  Calls prog 28 #[pl b.bl] w fun e w'=>e=.returned (.tuple #[])/\FS b K pc bs {s with r:=r',a:=9} w':=
 offF (x:=24) (fun w'=>FS b K pc bs {s with r:=r',a:=9} w') S hs (fun _ _ h hb=>h.l hb) (fun _ h=>h.hl hs) (by unfold Lq;simp) ha (by decide) (by decide) rfl (fun _ h=>h.fx) (Di (fn:=Tryz.f72) (by kernel_rfl) (by kernel_rfl) rfl) fun W SW=>
  (A0o b.bl b.bc b.br 14 39 9 0 0 0 0 i n s.a (cF b s.a) (rg s.r) _ _ _ _ _ _ _ _ _ W (by decide) (by decide) hi0 hi1 (by omega) (by rw[ha];exact A1j _ (by decide)) h0 h1 h2 SW.c SW.x).mono fun _ _ ⟨he,hc,hC,hX⟩=>⟨he,SW.putCX hc hC (hr'▸hX)⟩
theorem ifF {q:Bool} {k p l:Value} {r':Rr} (S:FS b K pc bs s w) (hs:s.hs=false) (ha:s.a=pos K 15) (h8:s.r.r8=.v5 k 1 (bi q) 0 ByteArray.empty 0 p l) (hr':upd (rg s.r) 8 .none=rg r') :
  Calls prog 28 #[pl b.bl] w fun e w'=>e=.returned (.tuple #[])/\FS b K pc bs {s with r:=r',a:=if q=true then s.a+1 else pos K 22} w':=
 offF (x:=15) (fun w'=>FS b K pc bs {s with r:=r',a:=if q=true then s.a+1 else pos K 22} w') S hs (fun _ _ h hb=>h.l hb) (fun _ h=>h.hl hs) (by unfold Lq;simp) ha (by decide) (by decide) rfl (fun _ h=>h.un) (Di (fn:=Tryz.f54) (by kernel_rfl) (by kernel_rfl) rfl) fun W SW=>
  (doIfR b.bl b.bc b.br 14 8 (-9) (pos K 22) 0 0 0 0 s.a q (cF b s.a) (rg s.r) k p l W (by decide) (by decide) (by decide) (by omega) (by rw[ha];exact A1j _ (by decide)) h8 SW.c SW.x).mono fun _ _ ⟨he,hc,hX,hC⟩=>⟨he,SW.putCX hc (by cases q<;>exact hC) (hr'▸hX)⟩
theorem tickF (S:FS b K pc bs s w) (hs:s.hs=false) (ha:s.a=pos K 10) (ht:0<=s.tk) (ht1:s.tk<1000) :
  Calls prog 28 #[pl b.bl] w fun e w'=>e=.returned (.tuple #[])/\FS b K pc bs {s with a:=s.a+1,tk:=s.tk+1} w':=
 onF (s':={s with tk:=s.tk+1}) S hs hs rfl (x:=10) (by unfold Lq;simp) ha (by decide) (by decide) rfl (fun _ h=>h.ti) (Di (fn:=Tryz.f37) (by kernel_rfl) (by kernel_rfl) rfl) fun W SW=>by
  obtain⟨la,l1,l2,_⟩:=SW.s.l
  obtain⟨gs,lc,fo,fcc,m1,m2⟩:=SW.m
  refine(A0q b.bl b.bm b.bc 3 0 0 0 0 0 0 (mF b pc s (.slice (some ⟨gs,0,none⟩) 1 lc) (.slice fo 0 fcc)) s.tk 1000 W SW.l0 ((l1.cell 5).trans l2.ti) ht ht1 (by decide) m1).mono ?_
  rintro e w' ⟨rfl,hc,hM⟩
  have hc3:Chg [b.bc,b.br,b.bm] W w':=hc.mono (by simp)
  exact⟨rfl,(SW.fr3 hc3).1.wide (by simp),SW.put3 hc3 (SW.c.chg hc (by simpa using Ne.symm (Aa m1 SW.c (by decide)))) (SW.x.chg hc (by simpa using Ne.symm (Aa m1 SW.x.blk (by decide)))) hM m2 rfl rfl rfl rfl rfl rfl⟩
end
theorem A2x {w:World} {v:Value} {n e lo size:Nat} {xs:List Value} (h:w.ownsRow lo e size v n xs):∀g,v.ownBlock=some g->lo<=g/\∃(c:Array Value) (f:Nat×Nat),w.heap[g]?=some (Obj.cells c e f):=fun g hg=>by
 refine⟨(h.lt g hg).1,?_⟩
 rcases Bz h with ⟨rfl,_,_⟩|⟨g',c,rfl,_,⟨d,hd,_⟩,_,_⟩
 ·simp[Value.ownBlock]at hg
 ·simp[Value.ownBlock]at hg
  subst hg
  exact⟨_,_,hd⟩
section
variable {b:Fb} {K:Fk} {pc:Int} {bs:Nat} {s s':Dy} {w W W':World}
theorem FS.frT {v:Value} (h:FS b K pc bs s W) (hv:Cz W b.lo v s.ps) (hbs:∃A,Blk W bs A 176) (hlo:b.lo<=bs) (hc:Chg (b.bm::bs::v.ownBlock.toList) W W'):FrT [88,176,223] W W'/\Below b.lo W W':=by
 obtain⟨gs,lc,fo,fcc,m1,m2⟩:=h.m
 obtain⟨A,hA⟩:=hbs
 refine⟨FrT.chg hc fun x hx=>?_,hc.low h.lo fun x hx=>?_⟩
 ·simp only[List.mem_cons,Option.mem_toList]at hx
  rcases hx with rfl|rfl|hx
  ·exact⟨_,_,_,m1,by simp⟩
  ·exact⟨_,_,_,hA,by simp⟩
  ·obtain⟨_,c,f,e⟩:=A2x hv x hx
   exact⟨_,_,_,e,by simp⟩
 ·simp only[List.mem_cons,Option.mem_toList]at hx
  rcases hx with rfl|rfl|hx
  ·exact h.s.ge.2.2.2.1
  ·exact hlo
  ·exact(A2x hv x hx).1
theorem FS.putT {gs lc fcc:Nat} {fo:Option Addr} {v v':Value} (h:FS b K pc bs s W) (T:Ft b bs gs s W) (hy:Blk W bs (stF s.ve v s.tn) 176) (hv:Cz W b.lo v s.ps) (hc:Chg (b.bm::bs::v.ownBlock.toList) W W') (M:MAt W' b.bm (mF b pc s' (.slice (some ⟨gs,0,none⟩) 1 lc) (.slice fo 0 fcc))) (Y:Blk W' bs (stF s'.ve v' s'.tn) 176) (P:Cz W' b.lo v' s'.ps) (ea:s'.a=s.a) (er:s'.r=s.r) (e3:s'.cv=s.cv) (e4:s'.cq=s.cq) (e6:s'.rr=s.rr):FrT ts1 W W'/\FS b K pc bs s' W':=by
 obtain⟨f1,f2⟩:=h.frT hv ⟨_,hy⟩ T.ge hc
 have f3:FrT ts1 W W':=f1.wide (by simp)
 obtain⟨A,a1,a2⟩:=T.g
 exact⟨f3,h.s.fr f3 f2,by rw[ea];exact h.c.fr f1 (by decide),by rw[er];exact h.x.fr f1 (by decide),h.t.fr f1 (by decide),gs,lc,fo,fcc,M,⟨A,a1.fr f1 (by decide),a2⟩,⟨v',Y,P⟩,by rw[e3,e4];exact T.k.fr f1 (by decide),T.ge,by rw[e6];exact T.r.fr f1 (by decide)⟩
theorem A2p {x r1 r2:Nat} {xB xC:Int} {ka kb xa xb:Int} {kd xd:ByteArray} {k1 k2 p1 l1 p2 l2:Value} {r':Rr} (S:FS b K pc bs s w) (hs:s.hs=false) (hx:Lq K x=true) (ha:s.a=pos K x) (hi:Ng K x=qa 13 4 xB xC 0 0 0) (hr1:r1<14) (hr2:r2<14) (hb:xB = -1-r1) (hc:xC = -1-r2) (h12:r2≠r1) (h41:4≠r1) (h42:4≠r2)
  (h1:rg s.r r1=.v5 k1 ka kb 0 kd 0 p1 l1) (h2:rg s.r r2=.v5 k2 xa xb 0 xd 0 p2 l2) (h4:s.r.r4=.val 5 0 0 ByteArray.empty 0) (hsn:0<=s.sn) (hsn1:s.sn<1000) (hve:0<=s.ve) (hve1:s.ve<=1000000) (hka:ka=2∨ka=4) (hkv:Bl ⟨ka,kb,0,kd,0⟩=true) (hl:s.ps.length<500) (ht:0<=s.tn) (ht1:s.tn<=100000) (hxa:¬xa=0) (hpl:G8 s.ps ka kb kd = -1)
  (hr':upd (upd (rg s.r) r1 .none) r2 .none=rg r') :
  Calls prog 28 #[pl b.bl] w fun e w'=>e=.returned (.tuple #[])/\FS b K pc bs {s with a:=s.a+1,r:=r',ve:=s.ve+1,sn:=s.sn+1,tn:=s.tn+1,ps:=s.ps++[⟨ka,kb,kd,xa,xb,xd,s.tn+1⟩]} w':=
 onF (s':={s with r:=r',ve:=s.ve+1,sn:=s.sn+1,tn:=s.tn+1,ps:=s.ps++[⟨ka,kb,kd,xa,xb,xd,s.tn+1⟩]}) S hs hs rfl hx ha (by decide) (by decide) hi (fun _ h=>h.rw') (Di (fn:=Tryz.f47) (by kernel_rfl) (by kernel_rfl) rfl) fun W SW=>by
  obtain⟨la,l1',l2',_⟩:=SW.s.l
  obtain⟨gs,lc,fo,fcc,m1,m2⟩:=SW.m
  obtain⟨A,g1,g2⟩:=m2.g
  obtain⟨v,y1,y2⟩:=m2.y
  have nlr:b.bl≠b.br:=Aa l1' SW.x.blk (by decide)
  refine(Tz b.bl b.bm bs gs 1 lc 0 b.bc b.br 14 r1 r2 4 13 4 xB xC 0 0 0 (cF b s.a) (rg s.r) k1 k2 p1 l1 p2 l2 ka kb xa xb kd xd W hr1 hr2 (by decide) hb hc h12 h1 h2 SW.c SW.x (mF b pc s (.slice (some ⟨gs,0,none⟩) 1 lc) (.slice fo 0 fcc)) _ _ _ (fun W1 w'=>∃v',Chg (b.bm::bs::v.ownBlock.toList) W1 w'/\MAt w' b.bm (mF b pc {s with ve:=s.ve+1,sn:=s.sn+1} (.slice (some ⟨gs,0,none⟩) 1 lc) (.slice fo 0 fcc))/\Blk w' bs (stF (s.ve+1) v' (s.tn+1)) 176/\Cz w' b.lo v' (s.ps++[⟨ka,kb,kd,xa,xb,xd,s.tn+1⟩])) rfl (by decide) h41 h42 h4 (by decide) SW.l0 nlr (Aa g1 SW.x.blk (by decide)) m1 ((g1.cell 0).trans g2) (fun W1 hW1=>?_)).mono ?_
  ·have f1:FrT [178] W W1:=FrT.chg hW1 (by simp only[List.mem_singleton];rintro _ rfl;exact⟨_,_,_,SW.x.blk,by simp⟩)
   have l3:=l1'.fr f1 (by decide)
   refine(A1l b.bl b.bm bs b.lo (mF b pc s (.slice (some ⟨gs,0,none⟩) 1 lc) (.slice fo 0 fcc)) s.sn 1000 s.ve (.int .i64 0) (.int .i64 1) (.int .i64 1) v s.ps s.tn ka kb xa xb kd xd W1 ((l3.cell 0).trans l2'.m) ((l3.cell 7).trans l2'.ce) hsn hsn1 (by decide) hve hve1 hka hkv hl ht ht1 hxa (Nat.le_trans SW.lo hW1.size) hpl (Aa l1' m1 (by decide)) (Aa l1' y1 (by decide)) (fun hm=>?_) (m1.fr f1 (by decide)) (y1.fr f1 (by decide)) (Ei y2 f1 (by decide))).mono ?_
   ·simp only[Option.mem_toList]at hm
    exact Ba y2 l1' (by decide) _ hm rfl
   ·rintro e w' ⟨rfl,v',c1,c2,c3,c4,_⟩
    exact⟨rfl,v',c1,c2,c3,c4⟩
  ·rintro e w' ⟨rfl,W1,hW1,X1,v',c1,c2,c3,c4⟩
   have f1:FrT [178] W W1:=FrT.chg hW1 (by simp only[List.mem_singleton];rintro _ rfl;exact⟨_,_,_,SW.x.blk,by simp⟩)
   have S1:=SW.putX hW1 (hr'▸X1)
   obtain⟨F2,S2⟩:=S1.2.putT (s':={s with r:=r',ve:=s.ve+1,sn:=s.sn+1,tn:=s.tn+1,ps:=s.ps++[⟨ka,kb,kd,xa,xb,xd,s.tn+1⟩]}) ⟨⟨A,g1.fr f1 (by decide),g2⟩,⟨v,y1.fr f1 (by decide),Ei y2 f1 (by decide)⟩,m2.k.fr f1 (by decide),m2.ge,m2.r.fr f1 (by decide)⟩ (y1.fr f1 (by decide)) (Ei y2 f1 (by decide)) c1 c2 c3 c4 rfl rfl rfl rfl rfl
   exact⟨rfl,S1.1.trans F2 (fun _ h=>h),S2⟩
theorem A6l {x r1 r2:Nat} {xB xC:Int} {ka kb:Int} {kd:ByteArray} {k1 k2 p1 l1 p2 l2:Value} {r':Rr} {q0 q1:Pr} (S:FS b K pc bs s w) (hs:s.hs=false) (hx:Lq K x=true) (ha:s.a=pos K x) (hi:Ng K x=qa 13 4 xB xC 0 0 0) (hr1:r1<14) (hr2:r2<14) (hb:xB = -1-r1) (hc:xC = -1-r2) (h12:r2≠r1) (h41:4≠r1) (h42:4≠r2)
  (h1:rg s.r r1=.v5 k1 ka kb 0 kd 0 p1 l1) (h2:rg s.r r2=.v5 k2 0 0 0 ByteArray.empty 0 p2 l2) (h4:s.r.r4=.val 5 0 0 ByteArray.empty 0) (hve:0<=s.ve) (hve1:s.ve<=1000000) (hka:ka=2∨ka=4) (hkv:Bl ⟨ka,kb,0,kd,0⟩=true) (hps:s.ps=[q0,q1]) (hpl:G8 [q0,q1] ka kb kd=1)
  (hr':upd (upd (rg s.r) r1 .none) r2 .none=rg r') :
  Calls prog 28 #[pl b.bl] w fun e w'=>e=.returned (.tuple #[])/\FS b K pc bs {s with a:=s.a+1,r:=r',ve:=s.ve+1,ps:=[q0]} w':=
 onF (s':={s with r:=r',ve:=s.ve+1,ps:=[q0]}) S hs hs rfl hx ha (by decide) (by decide) hi (fun _ h=>h.rw') (Di (fn:=Tryz.f47) (by kernel_rfl) (by kernel_rfl) rfl) fun W SW=>by
  obtain⟨la,l1',l2',_⟩:=SW.s.l
  obtain⟨gs,lc,fo,fcc,m1,m2⟩:=SW.m
  obtain⟨A,g1,g2⟩:=m2.g
  obtain⟨v,y1,y2⟩:=m2.y
  have y3:=y2
  rw[hps]at y3
  obtain⟨g,cap,rfl⟩:∃g cap,v=sl g 2 cap:=by
   rcases Aj y3 with ⟨_,h⟩|⟨h,cap,e1,_⟩
   ·cases h
   ·exact⟨h,cap,e1⟩
  have nlr:b.bl≠b.br:=Aa l1' SW.x.blk (by decide)
  refine(Tz b.bl b.bm bs gs 1 lc 0 b.bc b.br 14 r1 r2 4 13 4 xB xC 0 0 0 (cF b s.a) (rg s.r) k1 k2 p1 l1 p2 l2 ka kb 0 0 kd ByteArray.empty W hr1 hr2 (by decide) hb hc h12 h1 h2 SW.c SW.x (mF b pc s (.slice (some ⟨gs,0,none⟩) 1 lc) (.slice fo 0 fcc)) _ _ _ (fun W1 w'=>Chg [b.bm,bs,g] W1 w'/\MAt w' b.bm (mF b pc {s with ve:=s.ve+1} (.slice (some ⟨gs,0,none⟩) 1 lc) (.slice fo 0 fcc))/\Blk w' bs (stF (s.ve+1) (sl g 1 cap) s.tn) 176/\Cz w' b.lo (sl g 1 cap) [q0]) rfl (by decide) h41 h42 h4 (by decide) SW.l0 nlr (Aa g1 SW.x.blk (by decide)) m1 ((g1.cell 0).trans g2) (fun W1 hW1=>?_)).mono ?_
  ·have f1:FrT [178] W W1:=FrT.chg hW1 (by simp only[List.mem_singleton];rintro _ rfl;exact⟨_,_,_,SW.x.blk,by simp⟩)
   have l3:=l1'.fr f1 (by decide)
   exact(Zr b.bl b.bm bs b.lo g cap (mF b pc s (.slice (some ⟨gs,0,none⟩) 1 lc) (.slice fo 0 fcc)) s.ve (.int .i64 0) (.int .i64 1) (.int .i64 1) q0 q1 s.tn ka kb kd W1 ((l3.cell 0).trans l2'.m) hve hve1 hka hkv hpl (Aa l1' y1 (by decide)) (fun hm=>Ba y2 l1' (by decide) _ (by rw[List.mem_singleton.1 hm];rfl) rfl) (m1.fr f1 (by decide)) (y1.fr f1 (by decide)) (Ei y3 f1 (by decide)))
  ·rintro e w' ⟨rfl,W1,hW1,X1,c1,c2,c3,c4⟩
   have f1:FrT [178] W W1:=FrT.chg hW1 (by simp only[List.mem_singleton];rintro _ rfl;exact⟨_,_,_,SW.x.blk,by simp⟩)
   have S1:=SW.putX hW1 (hr'▸X1)
   obtain⟨F2,S2⟩:=S1.2.putT (s':={s with r:=r',ve:=s.ve+1,ps:=[q0]}) (v:=sl g 2 cap) ⟨⟨A,g1.fr f1 (by decide),g2⟩,⟨_,y1.fr f1 (by decide),Ei y2 f1 (by decide)⟩,m2.k.fr f1 (by decide),m2.ge,m2.r.fr f1 (by decide)⟩ (y1.fr f1 (by decide)) (Ei y2 f1 (by decide)) c1 c2 c3 c4 rfl rfl rfl rfl rfl
   exact⟨rfl,S1.1.trans F2 (fun _ h=>h),S2⟩
end
section
variable {b:Fb} {K:Fk} {pc:Int} {bs:Nat} {s s':Dy} {w W W':World}
theorem FS.cs (h:FS b K pc bs s W) {y:Nat} (hy:y=12∨y=14∨y=23∨y=28) (ha:s.a=pos K y) {op xA xB xC xD:Int} (hp:A6g y=pa op xA xB xC xD):CS b.bl b.bm b.bc b.cp b.pc b.ci (nq K) b.ic s.a op xA xB xC xD W:=by
 obtain⟨_,l1,l2,_⟩:=h.s.l
 obtain⟨_,p1,_,p3,_⟩:=h.s.p
 obtain⟨_,i1,i2⟩:=h.s.pi
 have e:=i2 y hy
 rw[hp,←ha]at e
 exact⟨h.l0,(l1.cell 1).trans l2.p,h.c.cell 1,h.c.cell 3,(p1.cell 7).trans p3,(i1.cell _).trans (e 0 (by decide)),(i1.cell _).trans (e 1 (by decide)),(i1.cell _).trans (e 2 (by decide)),(i1.cell _).trans (e 3 (by decide)),(i1.cell _).trans (e 4 (by decide))⟩
theorem FS.wg (h:FS b K pc bs s W) (hs:s.hs=true):WG b.bl b.bm b.bt b.bts b.bf b.bc 1 W:=
 ⟨h.l0,let ⟨gs,lc,fo,fcc,m1,_⟩:=h.m;⟨mF b pc s (.slice (some ⟨gs,0,none⟩) 1 lc) (.slice fo 0 fcc),by have:=m1;simp only[mF,hs]at this;exact this⟩,h.b0,⟨tF b 1,h.t⟩,h.f0,h.c.cell 8⟩
theorem FS.nes (h:FS b K pc bs s W):b.bl∉[b.bm]/\b.bc∉[b.bm]/\b.cp∉[b.bm]/\b.ci∉[b.bm]/\b.bl≠b.bc/\b.cp≠b.bc/\b.ck≠b.bc:=by
 obtain⟨_,l1,_⟩:=h.s.l
 obtain⟨_,p1,_⟩:=h.s.p
 obtain⟨_,i1,_⟩:=h.s.pi
 obtain⟨_,k1,_⟩:=h.s.k
 obtain⟨_,_,_,_,m1,_⟩:=h.m
 exact⟨by simpa using Aa l1 m1 (by decide),by simpa using Aa h.c m1 (by decide),by simpa using Aa p1 m1 (by decide),by simpa using Aa i1 m1 (by decide),Aa l1 h.c (by decide),Aa p1 h.c (by decide),Aa k1 h.c (by decide)⟩
theorem A5b {y r g:Nat} {op xB xC xD va1 vb:Int} {vd':ByteArray} {r':Rr} (S:FS b K pc bs s W) (hg:s.go=.slice (some ⟨g,0,none⟩) 1 1) (G:Blk W g (va va1 vb 0 vd' 0) 52) (hy:y=12∨y=14∨y=23) (ha:s.a=pos K y) (hp:A6g y=pa op r xB xC xD) (hop:op=15∨op=18) (hr:r<14) (hr':upd (rg s.r) r (.val va1 vb 0 vd' 0)=rg r') :
  Calls prog 187 #[pl b.bl,pl b.bc] W fun e w'=>e=.returned .nilIface/\FS b K pc bs {s with a:=s.a+1,r:=r',hs:=false,go:=.slice none 0 0} w':=by
 obtain⟨gs,lc,fo,fcc,m1,m2⟩:=S.m
 have hn:=S.nes
 have hlt:s.a<nq K:=by
  rw[ha]
  unfold pos nq
  split
  ·omega
  ·split<;>omega
 refine(Qn b.bl b.bm b.bc b.br 14 r b.cp b.pc b.ci (nq K) b.ic s.a g op xB xC xD va1 vb 0 vd' 0 (cF b s.a) (mF b pc s (.slice (some ⟨gs,0,none⟩) 1 lc) (.slice fo 0 fcc)) (rg s.r) W hop hr hlt (Nat.le_trans Rf (by decide)) (S.cs (hy.elim .inl fun h=>.inr (h.elim .inl fun h=>.inr (.inl h))) ha hp) hn.1 hn.2.1 hn.2.2.1 hn.2.2.2.1 (by simp only[mF,hg]at m1;exact m1) G S.c S.x).mono ?_
 rintro e w' ⟨rfl,hc,hM,hX,hC⟩
 exact⟨rfl,S.put3 hc hC (hr'▸hX) hM m2 rfl rfl rfl rfl rfl rfl⟩
theorem A9q {x y i rF rC:Nat} {op xB' xC xC' xD' xv yv ra rb:Int} {k1 p1 l1:Value} {r1 r2:Rr} (S:FS b K pc bs s w) (hs:s.hs=false) (hx:Lq K x=true) (ha:s.a=pos K x) (hi:Ng K x=qa 44 8 op xC i 0 rF) (hy:y=12∨y=14) (hay:s.a+1=pos K y) (hp:A6g y=pa 18 8 xB' xC' xD') (hm:(i,vi yv)∈kF K) (hrF:rF<14) (hrC:rC<14) (hC:xC=rC∨xC = -1-rC)
  (h1:upd (rg s.r) rF .none rC=.v5 k1 2 xv 0 ByteArray.empty 0 p1 l1) (hr1:(if xC<0 then upd (upd (rg s.r) rF .none) rC .none else upd (rg s.r) rF .none)=rg r1) (hr2:upd (rg r1) 8 (.val ra rb 0 ByteArray.empty 0)=rg r2)
  (HBIN:∀W,Calls prog 137 #[pz' b.bl,.int .i64 op,.agg (vi xv),.agg (vi yv)] W fun e' w'=>∃g,e'=.returned (.tuple #[.agg (oc (.slice (some ⟨g,0,none⟩) 1 1)),.nilIface])/\W.heap.size<=g/\Blk w' g (va ra rb 0 ByteArray.empty 0) 52/\Below W.heap.size W w') :
  Calls prog 28 #[pl b.bl] w fun e w'=>e=.returned (.tuple #[])/\FS b K pc bs {s with a:=s.a+1+1,r:=r2,hs:=false,go:=.slice none 0 0} w':=by
 refine A9j (fun w'=>∃g,FS b K pc bs {s with a:=s.a+1,r:=r1,hs:=true,go:=.slice (some ⟨g,0,none⟩) 1 1} w'/\Blk w' g (va ra rb 0 ByteArray.empty 0) 52) (fun w'=>FS b K pc bs {s with a:=s.a+1+1,r:=r2,hs:=false,go:=.slice none 0 0} w') S hs (fun _ _ ⟨g,h,G⟩ hb=>⟨g,h.l hb,G.l hb⟩) (fun _ _ h hb=>h.l hb) (fun _ ⟨g,h,G⟩=>h.wg rfl) hx ha (by decide) (by decide) hi (fun _ h=>h.qw) (Di (fn:=Tryz.f77) (by kernel_rfl) (by kernel_rfl) rfl) (fun W SW=>?_) (fun W ⟨g,h,G⟩=>?_)
 ·obtain⟨gs,lc,fo,fcc,m1,m2⟩:=SW.m
  have hn:=SW.nes
  have hle:(s.a:Int)<=6000:=by
   have:=Rm hx
   have:=Rf (K:=K)
   omega
  refine(Xx b.bl b.bm b.bc b.br 14 rF rC b.cp b.ck b.pc b.kn b.kc i 44 8 op xC rF 0 s.a xv yv ra rb (cF b s.a) (mF b pc s (.slice (some ⟨gs,0,none⟩) 1 lc) (.slice fo 0 fcc)) (rg s.r) k1 p1 l1 W hrF hrC (by decide) rfl hC rfl (by omega) hle (SW.kon hm).1 h1 SW.c SW.x SW.l0 hn.2.2.2.2.1 ⟨hn.2.2.2.2.2.1,hn.2.2.2.2.2.2⟩ hn.1 m1 (SW.ko hm) HBIN).mono ?_
  rintro e w' ⟨rfl,g,_,G,hc,hX,hC',hM⟩
  rw[hr1]at hX
  exact⟨rfl,(SW.fr3 hc).1.wide (by simp),g,SW.put3 hc hC' hX hM m2 rfl rfl rfl rfl rfl rfl,G⟩
 ·exact(A5b (y:=y) h rfl G (hy.elim .inl fun h=>.inr (.inl h)) hay hp (.inr rfl) (by decide) hr2)
theorem FS.put4 {gs lc fcc:Nat} {fo:Option Addr} (h:FS b K pc bs s W) (hc:Chg [b.bc,b.br,b.bm,b.gc] W W') (C:CAt W' b.bc (cF b s'.a)) (X:RgA W' b.br 14 (rg s'.r)) (M:MAt W' b.bm (mF b pc s' (.slice (some ⟨gs,0,none⟩) 1 lc) (.slice fo 0 fcc))) (T:Ft b bs gs s W) (k:Blk W' b.gc #[.int .i64 s'.cv,.int .i64 s'.cq] 141) (e1:s'.ve=s.ve) (e2:s'.tn=s.tn) (e5:s'.ps=s.ps) (e6:s'.rr=s.rr):FrT ts1 W W'/\FS b K pc bs s' W':=by
 obtain⟨_,_,_,_,m1,_⟩:=h.m
 have f1:FrT [131,178,88,141] W W':=FrT.chg hc fun x hx=>by
  simp only[List.mem_cons,List.not_mem_nil,or_false]at hx
  rcases hx with rfl|rfl|rfl|rfl
  ·exact⟨_,_,_,h.c,by simp⟩
  ·exact⟨_,_,_,h.x.blk,by simp⟩
  ·exact⟨_,_,_,m1,by simp⟩
  ·exact⟨_,_,_,T.k,by simp⟩
 have f2:Below b.lo W W':=hc.low h.lo fun x hx=>by
  simp only[List.mem_cons,List.not_mem_nil,or_false]at hx
  rcases hx with rfl|rfl|rfl|rfl
  ·exact h.s.ge.2.1
  ·exact h.s.ge.1
  ·exact h.s.ge.2.2.2.1
  ·exact h.s.ge.2.2.2.2
 have f3:FrT ts1 W W':=f1.wide (by simp)
 obtain⟨A,a1,a2⟩:=T.g
 obtain⟨v,y1,y2⟩:=T.y
 exact⟨f3,h.s.fr f3 f2,C,X,h.t.fr f1 (by decide),gs,lc,fo,fcc,M,⟨A,a1.fr f1 (by decide),a2⟩,⟨v,by rw[e1,e2];exact y1.fr f1 (by decide),by rw[e5];exact Ei y2 f1 (by decide)⟩,k,T.ge,by rw[e6];exact T.r.fr f1 (by decide)⟩
abbrev tab0:R8:=.val 5 0 0 ByteArray.empty 0
theorem A9x {q0:Pr} {qs:List Pr} {r1 r2:Rr} (S:FS b K pc bs s w) (hs:s.hs=false) (ha:s.a=pos K 22) (h4:s.r.r4=tab0) (hps:s.ps=q0::qs) (hl:s.ps.length<=500) (hpl:G8 s.ps 4 0 sA=0) (hq:q0.xa=2) (hq1:q0.xb=7) (hq2:q0.xd=ByteArray.empty) (hh:0<=s.hi) (hh1:s.hi<=100000) (hm0:0<=s.mi) (hm1:s.mi<=100000) (hcq:s.ve=s.cv->s.cq=0)
  (hr1:upd (rg s.r) 8 .none=rg r1) (hr2:upd (rg r1) 7 (ri 7)=rg r2) :
  Calls prog 28 #[pl b.bl] w fun e w'=>e=.returned (.tuple #[])/\FS b K pc bs {s with a:=s.a+1+1,r:=r2,hs:=false,go:=.slice none 0 0,hi:=if s.ve=s.cv then s.hi+1 else s.hi,mi:=if s.ve=s.cv then s.mi else s.mi+1,cv:=s.ve,cq:=0} w':=by
 have hx:Lq K 22=true:=by unfold Lq;simp
 refine A9j (x:=22) (fun w'=>∃g,FS b K pc bs {s with a:=s.a+1,r:=r1,hs:=true,go:=.slice (some ⟨g,0,none⟩) 1 1,hi:=if s.ve=s.cv then s.hi+1 else s.hi,mi:=if s.ve=s.cv then s.mi else s.mi+1,cv:=s.ve,cq:=0} w'/\Blk w' g (va 2 7 0 ByteArray.empty 0) 52) (fun w'=>FS b K pc bs {s with a:=s.a+1+1,r:=r2,hs:=false,go:=.slice none 0 0,hi:=if s.ve=s.cv then s.hi+1 else s.hi,mi:=if s.ve=s.cv then s.mi else s.mi+1,cv:=s.ve,cq:=0} w') S hs (fun _ _ ⟨g,h,G⟩ hb=>⟨g,h.l hb,G.l hb⟩) (fun _ _ h hb=>h.l hb) (fun _ ⟨g,h,G⟩=>h.wg rfl) hx ha (by decide) (by decide) rfl (fun _ h=>h.qf) (Di (fn:=Tryz.f78) (by kernel_rfl) (by kernel_rfl) rfl) (fun W SW=>?_) (fun W ⟨g,h,G⟩=>?_)
 ·obtain⟨_,l1,l2,_⟩:=SW.s.l
  obtain⟨gs,lc,fo,fcc,m1,m2⟩:=SW.m
  obtain⟨v,y1,y2⟩:=m2.y
  have hn:=SW.nes
  have hle:(s.a:Int)<=6000:=by
   have:=Rm hx
   have:=Rf (K:=K)
   omega
  obtain⟨g,cap,hv⟩:∃g cap,v=.slice (some ⟨g,0,none⟩) s.ps.length cap:=by
   rcases Aj y2 with ⟨_,h⟩|⟨h,cap,e1,_⟩
   ·rw[hps]at h;cases h
   ·exact⟨h,cap,e1⟩
  subst hv
  have hm:(0,va 4 0 0 sA 0)∈kF K:=by simp[kF]
  have h1:upd (rg s.r) 8 .none 4=.v5 (.int .i64 1) 5 0 0 ByteArray.empty 0 (.pointer none) (.slice none 0 0):=(Gb _ (by decide)).trans h4
  have hj:s.ps[0]?=some q0:=by rw[hps];rfl
  by_cases he:s.ve=s.cv
  ·have hc0:=hcq he
   refine(Vb b.bl b.bm b.bc b.br 14 8 4 0 gs 1 lc bs b.lo g cap b.gc b.cp b.ck b.pc b.kn b.kc 0 s.ps.length 0 45 7 0 s.a 4 0 s.ve s.tn s.hi sA (cF b s.a) (mF b pc s (.slice (some ⟨gs,0,none⟩) 1 lc) (.slice fo 0 fcc)) (.int .i64 0) (.int .i64 1) (.int .i64 1) s.ps q0 (rg s.r) _ _ _ W (by decide) (by decide) (by decide) (by omega) hle (SW.kon hm).1 hh hh1 (by decide) rfl hj h1 SW.c SW.x ⟨hn.2.2.2.2.2.1,hn.2.2.2.2.2.2⟩ ⟨⟨_,l1,l2.m⟩,m1,m2.g,y1,y2,by have:=m2.k;rw[←he,hc0]at this;exact this⟩ (SW.ko hm)).mono ?_
   rintro e w' ⟨rfl,h,_,G,hc,hX,hC',hM⟩
   rw[hr1]at hX
   rw[hq,hq1,hq2]at G
   refine⟨rfl,(SW.fr3 hc).1.wide (by simp),h,?_,G⟩
   rw[if_pos he,if_pos he]
   exact SW.put3 hc hC' hX hM m2 rfl rfl he hc0.symm rfl rfl
  ·refine(Sq b.bl b.bm b.bc b.br 14 8 4 0 gs 1 lc bs b.lo g cap b.gc b.cp b.ck b.pc b.kn b.kc 0 s.ps.length 0 45 7 0 s.a 4 0 s.ve s.tn s.cv s.cq s.mi sA (cF b s.a) (mF b pc s (.slice (some ⟨gs,0,none⟩) 1 lc) (.slice fo 0 fcc)) (.int .i64 0) (.int .i64 1) (.int .i64 1) s.ps q0 (rg s.r) _ _ _ W (by decide) (by decide) (by decide) (by omega) hle (SW.kon hm).1 hm0 hm1 he (.inr rfl) (by kernel_rfl) hl hpl (by rw[hq];decide) (by decide) rfl hj h1 SW.c SW.x ⟨hn.2.2.2.2.2.1,hn.2.2.2.2.2.2⟩ ⟨⟨_,l1,l2.m⟩,m1,m2.g,y1,y2,m2.k⟩ (SW.ko hm)).mono ?_
   rintro e w' ⟨rfl,h,_,G,hc,hX,hC',hM,hK⟩
   rw[hr1]at hX
   rw[hq,hq1,hq2]at G
   have P4:=SW.put4 (s':={s with a:=s.a+1,r:=r1,hs:=true,go:=.slice (some ⟨h,0,none⟩) 1 1,mi:=s.mi+1,cv:=s.ve,cq:=0}) hc hC' hX hM m2 hK rfl rfl rfl rfl
   refine⟨rfl,P4.1,h,?_,G⟩
   rw[if_neg he,if_neg he]
   exact P4.2
 ·refine A5b (y:=23) h rfl G (.inr (.inr rfl)) ?_ rfl (.inl rfl) (by decide) hr2
  show s.a+1=pos K 23
  rw[ha]
  unfold pos
  cases K.gone<;>rfl
end
section
variable {b:Fb} {K:Fk} {pc:Int} {bs:Nat} {s s':Dy} {w W W':World}
def GA (h:Nat) (W:World):Prop:=∃A,Blk W h A 52/\∀j,j<5->A[j]?=(va 2 7 0 ByteArray.empty 0)[j]?
theorem GA.fr {h:Nat} {ts:List TypeId} (g:GA h W) (hf:FrT ts W W') (ht:52∉ts):GA h W':=let ⟨A,a,c⟩:=g;⟨A,a.fr hf ht,c⟩
theorem GA.of {h hc lo:Nat} (o:W.ownsRow lo 52 5 (.slice (some ⟨h,0,none⟩) 1 hc) 1 [.int .i64 2,.int .i64 7,.float .f64 0,.string ByteArray.empty,.int .i64 0]):GA h W:=by
 rcases Bz o with ⟨e,_,_⟩|⟨g,c,e,_,⟨d,hd,_⟩,_,hC⟩
 ·cases e
 ·injection e with e _ _
  injection e with e
  injection e with e _ _
  subst e
  refine⟨d,hd,fun j hj=>?_⟩
  have hB:Blk W h d 52:=hd
  rw[←hB.cell]
  have:=hC j
  match j,hj with
  | 0,_=>simpa using this _ rfl
  | 1,_=>simpa using this _ rfl
  | 2,_=>simpa using this _ rfl
  | 3,_=>simpa using this _ rfl
  | 4,_=>simpa using this _ rfl
theorem addF (S:FS b K pc bs s w) (hs:s.hs=false) (ha:s.a=pos K 27) (h7:s.r.r7=ri 7) (h9:s.r.r9=.li none 0 0) :
  Calls prog 28 #[pl b.bl] w fun e w'=>e=.returned (.tuple #[])/\∃h hc,FS b K pc bs {s with a:=s.a+1,r:={s.r with r9:=.li (some ⟨h,0,none⟩) 1 hc}} w'/\GA h w':=by
 have hx:Lq K 27=true:=by unfold Lq;simp
 refine mvF (fun w'=>∃h hc,FS b K pc bs {s with a:=s.a+1,r:={s.r with r9:=.li (some ⟨h,0,none⟩) 1 hc}} w'/\GA h w') S hs (fun _ _ ⟨h,hc,f,g⟩ hb=>⟨h,hc,f.l hb,g.fr (FrT.below (ts:=[]) hb) (by decide)⟩) (fun _ ⟨_,_,f,_⟩=>f.hl hs) (fun W SW=>?_)
 refine(A0r (nq K) b.bl b.bc b.qb b.qi s.a 56 23 9 7 0 0 0 0 (cF b s.a) ts1 (fun w'=>∃h hc,FS b K pc bs {s with r:={s.r with r9:=.li (some ⟨h,0,none⟩) 1 hc}} w'/\GA h w') W (by decide) (Di (fn:=Tryz.f56) (by kernel_rfl) (by kernel_rfl) rfl) Rf (SW.ac hx ha (by decide) (by decide) rfl (fun _ h=>h.ad)) SW.c (fun W1 hW1=>?_)).mono ?_
 ·have S1:=SW.l hW1
  refine(A9v b.bl b.bc b.br 14 9 7 23 7 0 0 0 0 (cF b s.a) (rg s.r) _ _ _ 2 7 0 ByteArray.empty 0 W1 (by decide) (by decide) (by decide) rfl h7 h9 S1.c S1.x).mono ?_
  rintro e w' ⟨rfl,h,hc,_,o,hC,hX⟩
  have P:=S1.putX hC (up9 s.r _▸hX)
  exact⟨rfl,P.1,P.2.c,h,hc,P.2,GA.of o⟩
 ·rintro e w' ⟨rfl,w1,⟨h,hc,f,g⟩,_,h4,h5⟩
  exact⟨rfl,h,hc,f.setC (a':=s.a+1) h4 h5,g.fr (ts:=[131]) (FrT.chg h4 (by simp only[List.mem_singleton];rintro _ rfl;exact⟨_,_,_,f.c,by simp⟩)) (by decide)⟩
theorem callF {h hc:Nat} {r1 r2:Rr} (S:FS b K pc bs s w) (g0:GA h w) (hs:s.hs=false) (ha:s.a=pos K 28) (h8:s.r.r8=.val 8 0 0 ByteArray.empty 0) (h9:s.r.r9=.li (some ⟨h,0,none⟩) 1 hc) (hrr:s.rr=.slice none 0 0) (ht:0<=s.tk) (ht1:s.tk<1000) (hr1:upd (upd (rg s.r) 8 .none) 9 .none=rg r1) (hr2:upd (rg r1) 9 (.li none 0 0)=rg r2) :
  Calls prog 28 #[pl b.bl] w fun e w'=>e=.returned (.tuple #[])/\∃v:Value,v≠.slice none 0 0/\FS b K pc bs {s with a:=s.a+1,r:=r2,hs:=false,go:=.slice none 0 0,tk:=s.tk+1,rr:=v} w':=by
 have hx:Lq K 28=true:=by unfold Lq;simp
 obtain⟨gs,lc,fo,fcc,h1',_⟩:=S.m
 refine K6 b.bl b.bm b.bt b.bts b.bf b.bc 1 (mF b pc s (.slice (some ⟨gs,0,none⟩) 1 lc) (.slice fo 0 fcc)) (tF b 1) (fun w'=>∃v:Value,v≠.slice none 0 0/\FS b K pc bs {s with a:=s.a+1,r:=r2,hs:=false,go:=.slice none 0 0,tk:=s.tk+1,rr:=v} w') w S.l0 h1' S.b0 S.t S.f0 (S.c.cell 8) (fun W hW=>?_)
 have SW:=S.l hW
 have gW:=g0.fr (FrT.below (ts:=[]) hW) (by decide)
 have hlW:=SW.hl hs
 refine(Uq b.bl b.bc b.bm b.bt b.bts b.bf 1 (fun w'=>∃v:Value,v≠.slice none 0 0/\FS b K pc bs {s with r:=r1,hs:=true,go:=.slice none 0 0,tk:=s.tk+1,rr:=v} w') (fun w'=>∃v:Value,v≠.slice none 0 0/\FS b K pc bs {s with a:=s.a+1,r:=r2,hs:=false,go:=.slice none 0 0,tk:=s.tk+1,rr:=v} w') W hlW.1 hlW.2 (fun _ _ ⟨v,hv,h⟩ hb=>⟨v,hv,h.l hb⟩) (fun _ ⟨_,_,h⟩=>h.wg rfl) ?_ (fun W1 ⟨v,hv,h⟩=>?_)).mono ?_
 ·refine(Ve (nq K) b.bl b.bc b.qb b.qi s.a 61 28 9 (-9) (-10) 0 0 0 (cF b s.a) ts1 (fun w'=>∃v:Value,v≠.slice none 0 0/\FS b K pc bs {s with r:=r1,hs:=true,go:=.slice none 0 0,tk:=s.tk+1,rr:=v} w') W (by decide) (Di (fn:=Tryz.f61) (by kernel_rfl) (by kernel_rfl) rfl) (SW.ac hx ha (by decide) (by decide) rfl (fun _ h=>h.cl)) SW.c (fun W1 hW1=>?_)).mono ?_
  ·have S1:=SW.l hW1
   obtain⟨A,g1,g2⟩:=gW.fr (FrT.below (ts:=[]) hW1) (by decide)
   obtain⟨la,l1,l2,l3⟩:=S1.s.l
   obtain⟨gs,lc,fo,fcc,m1,m2⟩:=S1.m
   have nlm:b.bl≠b.bm:=Aa l1 m1 (by decide)
   have nlr:b.bl≠b.br:=Aa l1 S1.x.blk (by decide)
   refine(A7w b.bl b.bm b.bts b.bt b.bf b.bc 1 b.br 14 8 9 h hc 28 9 (-9) (-10) 0 0 0 0 s.tk 1000 (cF b s.a) (mF b pc s (.slice (some ⟨gs,0,none⟩) 1 lc) (.slice fo 0 fcc)) (rg s.r) _ _ _ W1 (by decide) (by decide) (by decide) rfl rfl (by decide) h8 h9 S1.c S1.x ⟨S1.l0,(l1.cell 117).trans l3.hk,S1.b0,⟨tF b 1,S1.t⟩,S1.f0,S1.c.cell 1,S1.c.cell 4⟩ (by simp[nlm,nlr]) ((l1.cell 5).trans l2.ti) ((l1.cell 102).trans l3.pr) ht ht1 (by decide) ⟨Aa g1 m1 (by decide),Aa g1 S1.x.blk (by decide)⟩ (fun x hx=>?_) (fun j hj=>(g1.cell j).trans (g2 j hj)) (by simp only[mF,hrr]at m1;exact m1)).mono ?_
   ·simp only[List.mem_cons,List.not_mem_nil,or_false]at hx
    rcases hx with rfl|rfl|rfl|rfl
    ·exact⟨Aa S1.s.ts m1 (by decide),Aa S1.s.ts S1.x.blk (by decide)⟩
    ·exact⟨Aa S1.t m1 (by decide),Aa S1.t S1.x.blk (by decide)⟩
    ·exact⟨Aa S1.s.f m1 (by decide),Aa S1.s.f S1.x.blk (by decide)⟩
    ·exact⟨Aa S1.c m1 (by decide),Aa S1.c S1.x.blk (by decide)⟩
   ·rintro e w' ⟨rfl,h',hc',hh,o,hC,hX,hM⟩
    have hc3:Chg [b.bc,b.br,b.bm] W1 w':=hC.mono (by simp)
    obtain⟨f1,f2⟩:=S1.fr3 hc3
    have T':=m2.fr f1
    refine⟨rfl,f1.wide (by simp),.slice (some ⟨h',0,none⟩) 1 hc',by simp,S1.s.fr (f1.wide (by simp)) f2,S1.c.chg hC (by simp only[List.mem_cons,List.not_mem_nil,or_false,not_or];exact⟨Aa S1.c m1 (by decide),Aa S1.c S1.x.blk (by decide)⟩),hr1▸hX,S1.t.fr f1 (by decide),gs,lc,fo,fcc,hM,T'.g,T'.y,T'.k,T'.ge,.inr ⟨h',hc',rfl,Fg o S1.lo⟩⟩
  ·rintro e w' ⟨rfl,_,h2⟩
   exact⟨rfl,h2⟩
 ·obtain⟨gs,lc,fo,fcc,m1,m2⟩:=h.m
  have hn:=h.nes
  refine(Si b.bl b.bm b.bc b.br 14 9 b.cp b.pc b.ci (nq K) b.ic s.a 0 0 none (-9) (-10) 0 (cF b s.a) (mF b pc {s with r:=r1,hs:=true,go:=.slice none 0 0,tk:=s.tk+1,rr:=v} (.slice (some ⟨gs,0,none⟩) 1 lc) (.slice fo 0 fcc)) (rg r1) W1 (by decide) (by rw[ha];exact Rm hx) (Nat.le_trans Rf (by decide)) (h.cs (y:=28) (.inr (.inr (.inr rfl))) ha rfl) hn.1 hn.2.1 hn.2.2.1 hn.2.2.2.1 m1 h.c h.x).mono ?_
  rintro e w' ⟨rfl,hc,hM,hX,hC⟩
  exact⟨rfl,v,hv,h.put3 (s':={s with a:=s.a+1,r:=r2,hs:=false,go:=.slice none 0 0,tk:=s.tk+1,rr:=v}) hc hC (hr2▸hX) hM m2 rfl rfl rfl rfl rfl rfl⟩
 ·rintro e w' ⟨rfl,w1,⟨v,hv,h⟩,hb⟩
  exact⟨rfl,v,hv,h.l hb⟩
end
abbrev m0F (b:Fb) (pc mv:Int):Mc:=⟨.int .i64 pc,.int .i64 0,.int .i64 0,.int .i64 0,.int .i64 0,.slice none 0 0,.slice none 0 0,.slice (some ⟨b.gc,0,none⟩) 1 1,.int .i64 0,.int .i64 0,.slice (some ⟨b.bts,0,none⟩) 1 1,.int .i64 0,.bool false,.slice none 0 0,.int .i64 0,.slice none 0 0,.string ByteArray.empty,.bool false,.int .i64 0,.int .i64 0,.int .i64 mv,.int .i64 0,.slice none 0 0,.slice none 0 0,.string ByteArray.empty,.string ByteArray.empty,.int .i64 0,.int .i64 0⟩
structure FS0 (b:Fb) (K:Fk) (pc mv:Int) (W:World):Prop where
 s:Fs b K W
 c:CAt W b.bc (cF b 0)
 x:RgA W b.br 14 ρ0
 t:TAt W b.bt (tF b 1)
 m:MAt W b.bm (m0F b pc mv)
 k:Blk W b.gc #[.int .i64 0,.int .i64 0] 141
abbrev rT:Rr:=⟨.none,.none,.none,tab0,.none,.none,.none,.none,.none⟩
abbrev sT (mv d:Int):Dy:=⟨1,rT,d,0,0,1,1,0,0,0,mv,0,false,.slice none 0 0,.slice none 0 0,[]⟩
theorem A9o:rg rT=ρ4 0:=by
 funext k;unfold ρ4 upd;match k with
 | 0=>rfl|1=>rfl|2=>rfl|3=>rfl|4=>rfl|5=>rfl|6=>rfl|7=>rfl|8=>rfl|9=>rfl|k+10=>simp[rg]
theorem ρ0_rT:upd ρ0 4 (.val 5 0 0 ByteArray.empty 0)=rg rT:=A9o.symm
section
variable {b:Fb} {K:Fk} {pc mv d:Int} {bs:Nat} {s s':Dy} {w W W':World}
theorem FS0.lo (h:FS0 b K pc mv W):b.lo<=W.heap.size:=Nat.le_trans h.s.ge.1 (Nat.le_of_lt h.x.lt)
theorem FS0.l (h:FS0 b K pc mv W) (hb:Below W.heap.size W W'):FS0 b K pc mv W':=⟨h.s.fr (FrT.below hb) (hb.mono h.lo),h.c.l hb,h.x.l hb,h.t.l hb,h.m.l hb,h.k.l hb⟩
theorem Da.toM {lo bm bs:Nat} {m:Mc} (h:Da lo W bm m 1 0 [pv bs]):∃gs lc fo fcc,m.slots=.slice (some ⟨gs,0,none⟩) 1 lc/\m.free=.slice fo 0 fcc/\∃A,Blk W gs A 127/\A[0]?=some (pz' bs):=by
 have hfr:∃fo fcc,m.free=.slice fo 0 fcc:=by
  rcases h.heap with ⟨_,fo,fc,e⟩|⟨g,c,e,_⟩
  ·exact⟨fo,fc,e⟩
  ·exact⟨_,c,e⟩
 obtain⟨fo,fcc,e⟩:=hfr
 rcases Bz h.row with ⟨_,e1,_⟩|⟨g,c,e1,_,⟨A,hA,_⟩,_,hC⟩
 ·cases e1
 ·have hB:Blk W g A 127:=hA
  refine⟨g,c,fo,fcc,e1,e,A,hB,?_⟩
  rw[←hB.cell]
  simpa using hC 0 _ rfl
theorem Da.chgs {L nf lo:Nat} {X:List Nat} {bm:Nat} {m:Mc} {xs:List Value} (h:Da lo W bm m L nf xs) (hc:Chg X W W') (hX:∀b∈X,∃(c:Array Value) (t:TypeId) (f:Nat×Nat),W.heap[b]?=some (Obj.cells c t f)/\t∉tsS):Da lo W' bm m L nf xs:=by
 have ne:∀{g:Nat} {A:Array Value} {t:TypeId} {f:Nat×Nat},W.heap[g]?=some (Obj.cells A t f)->t∈tsS->g∉X:=fun hg ht hm=>by
  obtain⟨c',t',f',h1,h2⟩:=hX _ hm
  have e:=h1.symm.trans hg
  injection e with e
  injection e with _ e
  exact h2 (e▸ht)
 refine⟨h.x.chg hc (ne h.x (by simp)),Gj h.row hc (fun g hg=>?_),h.heap.imp id fun ⟨g,c,h1,h2,h3,h4⟩=>?_,h.hl,h.lb⟩
 ·obtain⟨c,f,h1⟩:=Ov h.row g hg
  exact ne h1 (by simp)
 ·obtain⟨A,hA,hs⟩:=h3
  have hg:=ne hA (by simp)
  exact⟨g,c,h1,h2,hc.own hg ⟨A,hA,hs⟩,fun i hi=>let ⟨x,h5,h6⟩:=h4 i hi;⟨x,hc.cell hg h5,h6⟩⟩
def Sl (b:Fb) (pc:Int) (s:Dy) (bs:Nat) (W:World):Prop:=(∃sv fv,Da b.lo W b.bm (mF b pc s sv fv) 1 0 [pv bs])/\Blk W bs (stF 1 (.slice none 0 0) 0) 176
theorem Sl.l (h:Sl b pc s bs W) (hb:Below W.heap.size W W'):Sl b pc s bs W':=let ⟨⟨sv,fv,h1⟩,h2⟩:=h;⟨⟨sv,fv,h1.l hb⟩,h2.l hb⟩
theorem Aam (S:FS0 b K pc mv w):Calls prog 28 #[pl b.bl] w fun e w'=>e=.returned (.tuple #[])/\∃bs,FS b K pc bs (sT mv 1) w'/\Sl b pc (sT mv 1) bs w':=by
 have l0:∀{W:World},FS0 b K pc mv W->W.cell? ⟨b.bl,0,none⟩=some (pl b.bm):=fun h=>let ⟨_,h1,h2,_⟩:=h.s.l;(h1.cell 0).trans h2.m
 have hx:Lq K 0=true:=by unfold Lq;simp
 have hp:pos K 0=0:=by unfold pos;split<;>rfl
 refine K6 b.bl b.bm b.bt b.bts b.bf b.bc 1 (m0F b pc mv) (tF b 1) (fun w'=>∃bs,FS b K pc bs (sT mv 1) w'/\Sl b pc (sT mv 1) bs w') w (l0 S) S.m (S.s.ts.cell 0) S.t (S.s.f.cell 0) (S.c.cell 8) (fun W hW=>?_)
 have SW:=S.l hW
 obtain⟨la,l1,l2,l3⟩:=SW.s.l
 obtain⟨A,q1,ic,q2⟩:=SW.s.q
 obtain⟨A2,i1,i2⟩:=SW.s.i
 have hac:AcN (nq K) W b.bl b.qb b.qi 0 46 true 12 4 0 0 0 0 0:=⟨⟨1,(l1.cell 2).trans l2.q⟩,⟨ic,(q1.cell 0).trans q2⟩,hp▸Rm hx,⟨by decide,by decide⟩,fun j hj=>by rw[i1.cell];have:=i2 0 hx j hj;rw[hp]at this;exact this,(l1.cell _).trans l3.tb.1,(l1.cell _).trans l3.tb.2⟩
 refine(A0c b.bl b.bc b.bm (fun w'=>∃bs,FS b K pc bs (sT mv 1) w'/\Sl b pc (sT mv 1) bs w') W (l0 SW) (SW.m.cell 12) ((A0r (nq K) b.bl b.bc b.qb b.qi 0 46 12 4 0 0 0 0 0 (cF b 0) ts1 (fun w'=>∃bs,FS b K pc bs {sT mv 1 with a:=0} w'/\Sl b pc (sT mv 1) bs w') W (by decide) (Di (fn:=Tryz.f46) (by kernel_rfl) (by kernel_rfl) rfl) Rf hac SW.c (fun W1 hW1=>?_)).mono ?_)).mono ?_
 ·have S1:=SW.l hW1
  obtain⟨la,l1,l2,l3⟩:=S1.s.l
  refine(A5c b.lo b.bl b.bm b.bc b.br 14 4 0 0 b.cp b.qb b.pc 1 1000 1000 la [] (m0F b pc mv) (cF b 0) ρ0 0 0 0 0 12 0 0 0 0 0 W1 (by decide) (by decide) (by decide) (by decide) (by decide) (by decide) (by decide) (by decide) (by decide) (by decide) (by decide) S1.s.ge.1 (by decide) l2 l1 S1.c S1.x ⟨S1.m,World.ownsRow_nil _ _ _ _,.inl ⟨rfl,none,0,rfl⟩,fun _ h=>by simp[Value.ownBlock]at h,S1.s.ge.2.2.2.1⟩).mono ?_
  rintro e w' ⟨bs,p,L',n',xs',sv,fv,rfl,hbs,hp,hc,hF,hlw,hS,hB,hX⟩
  obtain⟨rfl,rfl,rfl⟩:L'=1/\n'=0/\xs'=[.pointer none]:=by
   rcases hc with ⟨_,rfl,rfl,rfl⟩|⟨h,_⟩
   ·exact⟨rfl,rfl,rfl⟩
   ·omega
  obtain rfl:p=0:=by omega
  have hS':Da b.lo w' b.bm (mF b pc (sT mv 1) sv fv) 1 0 [pv bs]:=hS
  obtain⟨gs,lc,fo,fcc,e1,e2,hA⟩:=hS'.toM
  have e1':sv=.slice (some ⟨gs,0,none⟩) 1 lc:=e1
  have e2':fv=.slice fo 0 fcc:=e2
  have hM:=hS'.x
  rw[e1',e2']at hM
  have f3:FrT ts1 W1 w':=hF.wide (by decide)
  have hC:=S1.c.fr hF (by decide)
  exact⟨rfl,f3,hC,bs,⟨S1.s.fr f3 hlw,hC,ρ0_rT▸hX,S1.t.fr hF (by decide),gs,lc,fo,fcc,hM,hA,⟨.slice none 0 0,hB,World.ownsRow_nil _ _ _ _⟩,S1.k.fr hF (by decide),Nat.le_trans S1.lo hbs,.inl rfl⟩,⟨sv,fv,hS'⟩,hB⟩
 ·rintro e w' ⟨rfl,w1,⟨bs,h2,⟨sv,fv,h3⟩,hB⟩,_,h4,h5⟩
  have h6:=h2.setC (a':=1) h4 h5
  refine⟨rfl,?_,?_,bs,h6,⟨sv,fv,h3.chgs h4 (by simp only[List.mem_singleton];rintro _ rfl;exact⟨_,_,_,h2.c,by decide⟩)⟩,hB.chg h4 (by simpa using Aa hB h2.c (by decide))⟩
  ·exact h6.l0
  ·exact(h6.hl rfl).2
 ·rintro e w' ⟨rfl,w1,⟨bs,h1,h2⟩,hb⟩
  exact⟨rfl,bs,h1.l hb,h2.l hb⟩
theorem gbF (S:FS b K pc bs (sT mv d) w) (hS:Sl b pc (sT mv d) bs w):Calls prog 95 #[pl b.bm] w fun e w'=>e=.returned (.tuple #[])/\FS b K pc bs (sT mv 0) w':=by
 obtain⟨⟨sv,fv,h1⟩,y1⟩:=hS
 obtain⟨gs,lc,fo,fcc,m1,m2⟩:=S.m
 refine(Vg b.lo b.bm b.bts b.bt b.bf 1 b.bc b.br bs 1 0 0 0 0 0 0 ByteArray.empty 2 1 1 (cF b 1) (tF b 1) (mF b pc (sT mv d) sv fv) [pv bs] w (by decide) S.c.lt S.x.lt (by decide) (by decide) (by decide) (by decide) (by decide) h1 S.s.ts S.t S.f0 S.c (A9o▸S.x) rfl y1 (fun i hi=>.inr ⟨bs,(by obtain rfl:i=0:=(by omega);rfl),y1.lt,_,_,_,y1⟩)).mono ?_
 rintro e w' ⟨rfl,hc,sv',fv',hS'⟩
 have hS2:Da b.lo w' b.bm (mF b pc (sT mv 0) sv' fv') 1 0 [pv bs]:=hS'
 obtain⟨gs',lc',fo',fcc',e1,e2,hA⟩:=hS2.toM
 have e1':sv'=.slice (some ⟨gs',0,none⟩) 1 lc':=e1
 have e2':fv'=.slice fo' 0 fcc':=e2
 have hM:=hS2.x
 rw[e1',e2']at hM
 have hc3:Chg [b.bc,b.br,b.bm] w w':=hc.mono (by simp)
 obtain⟨f1,f2⟩:=S.fr3 hc3
 have T':=m2.fr f1
 exact⟨rfl,S.s.fr (f1.wide (by simp)) f2,S.c.chg hc (by simpa using Aa S.c m1 (by decide)),S.x.chg hc (by simpa using Ne.symm (Aa m1 S.x.blk (by decide))),S.t.fr f1 (by decide),gs',lc',fo',fcc',hM,hA,T'.y,T'.k,T'.ge,T'.r⟩
end
abbrev cL (b:Fb) (a:Int):Cc:={cF b a with leaving:=.bool true,one:=.bool false,wk:=.int .i64 1,wv:=.slice none 0 0,wt:=.string ByteArray.empty,saved:=.int .i64 0}
abbrev slv (q:Option Addr×Nat×Nat):Value:=.slice q.1 q.2.1 q.2.2
structure FL (b:Fb) (K:Fk) (pc:Int) (D:Dy) (W:World):Prop where
 s:Fs b K W
 c:∃a,CAt W b.bc (cL b a)
 t:TAt W b.bt (tF b 1)
 m:∃(sv:Option Addr×Nat×Nat) (fv:Value),MAt W b.bm (mF b pc D (slv sv) fv)
 r:Uv b D.rr W
structure FE (b:Fb) (K:Fk) (pc:Int) (D:Dy) (W:World):Prop where
 s:Fs b K W
 t:TAt W b.bt (tF b 0)
 m:∃(sv:Option Addr×Nat×Nat) (fv:Value),MAt W b.bm (mF b pc D (slv sv) fv)
 r:Uv b D.rr W
section
variable {b:Fb} {K:Fk} {pc mv d:Int} {bs:Nat} {s s':Dy} {w W W':World}
theorem FL.lo (h:FL b K pc s W):b.lo<=W.heap.size:=Nat.le_trans h.s.ge.2.2.1 (Nat.le_of_lt h.t.lt)
theorem FE.lo (h:FE b K pc s W):b.lo<=W.heap.size:=Nat.le_trans h.s.ge.2.2.1 (Nat.le_of_lt h.t.lt)
theorem FL.l (h:FL b K pc s W) (hb:Below W.heap.size W W'):FL b K pc s W':=
 let ⟨sv,fv,h1⟩:=h.m;let ⟨a,h2⟩:=h.c
 ⟨h.s.fr (FrT.below hb) (hb.mono h.lo),⟨a,h2.l hb⟩,h.t.l hb,⟨sv,fv,h1.l hb⟩,h.r.fr (FrT.below (ts:=[]) hb) (by decide)⟩
theorem FE.l (h:FE b K pc s W) (hb:Below W.heap.size W W'):FE b K pc s W':=
 let ⟨sv,fv,h1⟩:=h.m
 ⟨h.s.fr (FrT.below hb) (hb.mono h.lo),h.t.l hb,⟨sv,fv,h1.l hb⟩,h.r.fr (FrT.below (ts:=[]) hb) (by decide)⟩
theorem A8p (S:FS b K pc bs s w) (hs:s.hs=false) (ha:s.a=pos K 31) (h8:s.r.r8=.li none 0 0) :
  Calls prog 28 #[pl b.bl] w fun e w'=>e=.returned (.tuple #[])/\FL b K pc s w':=
 offF (x:=31) (fun w'=>FL b K pc s w') S hs (fun _ _ h hb=>h.l hb) (fun _ h=>let ⟨_,h1,h2,_⟩:=h.s.l;let ⟨_,_,h3⟩:=h.m;⟨(h1.cell 0).trans h2.m,(h3.cell 12).trans (by rw[←hs];rfl)⟩) (by unfold Lq;simp) ha (by decide) (by decide) rfl (fun _ h=>h.rt) (Di (fn:=Tryz.f62) (by kernel_rfl) (by kernel_rfl) rfl) fun W SW=>by
  obtain⟨gs,lc,fo,fcc,m1,m2⟩:=SW.m
  refine(A3n b.bl b.bc b.br 14 8 29 (-9) 0 0 0 0 0 0 (cF b s.a) (rg s.r) none 0 0 W (by decide) (by decide) rfl h8 SW.c SW.x).mono ?_
  rintro e w' ⟨rfl,hc,hC,_⟩
  obtain⟨f1,f2⟩:=SW.fr3 (hc.mono (by simp))
  exact⟨rfl,f1.wide (by simp),SW.s.fr (f1.wide (by simp)) f2,⟨_,hC⟩,SW.t.fr f1 (by decide),⟨(some ⟨gs,0,none⟩,1,lc),_,m1.chg hc (by simp only[List.mem_cons,List.not_mem_nil,or_false,not_or];exact⟨Aa m1 SW.c (by decide),Aa m1 SW.x.blk (by decide)⟩)⟩,m2.r.fr f1 (by decide)⟩
theorem Aa0 (hg:s.go=.slice none 0 0) (S:FL b K pc s w):Calls prog 28 #[pl b.bl] w fun e w'=>e=.returned (.tuple #[])/\FE b K pc {s with hs:=true} w':=by
 obtain⟨sv,fv,h1⟩:=S.m
 obtain⟨la,l1,l2,_⟩:=S.s.l
 obtain⟨a,C⟩:=S.c
 refine A1a b.bl b.bm b.bt b.bts b.bf b.bc 1 (mF b pc s (slv sv) fv) (tF b 1) _ w ((l1.cell 0).trans l2.m) h1 (S.s.ts.cell 0) S.t (S.s.f.cell 0) (C.cell 8) (fun W hW=>?_)
 have SW:=S.l hW
 obtain⟨la,l1,l2,_⟩:=SW.s.l
 obtain⟨A,p1,_,_,pv,p2⟩:=SW.s.p
 have h1:=h1.l hW
 have C:=C.l hW
 refine(A40 b.bl b.bm b.bt b.bf b.bc 1 b.cp b.pc pv 0 (cL b a) (mF b pc s (slv sv) fv) (tF b 1) none none 0 0 0 0 W (by decide) ((l1.cell 0).trans l2.m) ⟨_,l1⟩ ((l1.cell 1).trans l2.p) ⟨_,p1⟩ ((p1.cell 2).trans p2) C (by simp only[mF,hg]at h1;exact h1) SW.t).mono ?_
 rintro e w' ⟨rfl,hc,hM,hT⟩
 have hf:FrT [131,111,88] W w':=FrT.chg hc (fun x hx=>by
  rcases List.mem_cons.1 hx with rfl|hx
  ·exact⟨_,_,_,C,by simp⟩
  rcases List.mem_cons.1 hx with rfl|hx
  ·exact⟨_,_,_,SW.t,by simp⟩
  ·obtain rfl:=List.mem_singleton.1 hx
   exact⟨_,_,_,h1,by simp⟩)
 exact⟨rfl,SW.s.fr (hf.wide (by simp)) (hc.low SW.lo (by simpa using ⟨SW.s.ge.2.1,SW.s.ge.2.2.1,SW.s.ge.2.2.2.1⟩)),hT,⟨sv,fv,by simp only[mF,hg];exact hM⟩,SW.r.fr hf (by decide)⟩
theorem endF (hg:s.go=.slice none 0 0) (S:FE b K pc s w):Calls prog 28 #[pl b.bl] w fun e w'=>e=Qr/\Fs b K w'/\TAt w' b.bt (tF b 0)/\Uv b s.rr w'/\∃(sv:Option Addr×Nat×Nat) (fv:Value),MAt w' b.bm (mF b pc {s with hs:=false} (slv sv) fv):=by
 obtain⟨sv,fv,h1⟩:=S.m
 obtain⟨la,l1,l2,_⟩:=S.s.l
 refine(A64 b.bl b.bm b.bt b.bts 1 _ (mF b pc s (slv sv) fv) (tF b 0) w ((l1.cell 0).trans l2.m) (by simpa using Aa l1 h1 (by decide)) (by simp only[mF,hg]at h1;exact h1) (S.s.ts.cell 0) S.t).mono ?_
 rintro e w' ⟨rfl,hc,hM⟩
 have hf:FrT [88] w w':=FrT.chg hc (by simp only[List.mem_singleton];rintro _ rfl;exact⟨_,_,_,h1,by simp⟩)
 exact⟨rfl,S.s.fr (hf.wide (by simp)) (hc.low S.lo (by simpa using S.s.ge.2.2.2.1)),S.t.fr hf (by decide),S.r.fr hf (by decide),sv,fv,by simp only[mF,hg];exact hM⟩
theorem A3j (W:World) (bm:Nat) (v:Value):Chg [bm] W (W.setCell ⟨bm,20,none⟩ v):=(Chg.refl _ _).set (by simp) _ _
theorem FS0.set20 (h:FS0 b K pc mv W) (mv':Int):FS0 b K pc mv' (W.setCell ⟨b.bm,20,none⟩ (.int .i64 mv')):=by
 have hc:=A3j W b.bm (.int .i64 mv')
 have hf:FrT [88] W (W.setCell ⟨b.bm,20,none⟩ (.int .i64 mv')):=FrT.chg hc (by simp only[List.mem_singleton];rintro _ rfl;exact⟨_,_,_,h.m,by simp⟩)
 exact⟨h.s.fr (hf.wide (by simp)) (hc.low h.lo (by simpa using h.s.ge.2.2.2.1)),h.c.fr hf (by decide),h.x.fr hf (by decide),h.t.fr hf (by decide),h.m.set 20 _,h.k.fr hf (by decide)⟩
theorem FS.set20 (h:FS b K pc bs s W) (mv':Int):FS b K pc bs {s with mv:=mv'} (W.setCell ⟨b.bm,20,none⟩ (.int .i64 mv')):=by
 have hc:=A3j W b.bm (.int .i64 mv')
 obtain⟨gs,lc,fo,fcc,m1,m2⟩:=h.m
 exact h.put3 (hc.mono (by simp)) (h.c.chg hc (by simpa using Aa h.c m1 (by decide))) (h.x.chg hc (by simpa using Ne.symm (Aa m1 h.x.blk (by decide)))) (m1.set 20 _) m2 rfl rfl rfl rfl rfl rfl
theorem Sl.set20 (h:Sl b pc s bs W) (mv':Int):Sl b pc {s with mv:=mv'} bs (W.setCell ⟨b.bm,20,none⟩ (.int .i64 mv')):=
 let ⟨⟨sv,fv,h1⟩,h2⟩:=h
 ⟨⟨sv,fv,h1.setM (m':=mF b pc {s with mv:=mv'} sv fv) 20 (.int .i64 mv') rfl rfl rfl⟩,h2.chg (A3j W b.bm _) (by simpa using Aa h2 h1.x (by decide))⟩
theorem FL.set20 (h:FL b K pc s W) (mv':Int):FL b K pc {s with mv:=mv'} (W.setCell ⟨b.bm,20,none⟩ (.int .i64 mv')):=by
 have hc:=A3j W b.bm (.int .i64 mv')
 obtain⟨sv,fv,m1⟩:=h.m
 obtain⟨a,C⟩:=h.c
 have hf:FrT [88] W (W.setCell ⟨b.bm,20,none⟩ (.int .i64 mv')):=FrT.chg hc (by simp only[List.mem_singleton];rintro _ rfl;exact⟨_,_,_,m1,by simp⟩)
 exact⟨h.s.fr (hf.wide (by simp)) (hc.low h.lo (by simpa using h.s.ge.2.2.2.1)),⟨a,C.fr hf (by decide)⟩,h.t.fr hf (by decide),⟨sv,fv,m1.set 20 _⟩,h.r.fr hf (by decide)⟩
theorem FE.set20 (h:FE b K pc s W) (mv':Int):FE b K pc {s with mv:=mv'} (W.setCell ⟨b.bm,20,none⟩ (.int .i64 mv')):=by
 have hc:=A3j W b.bm (.int .i64 mv')
 obtain⟨sv,fv,m1⟩:=h.m
 have hf:FrT [88] W (W.setCell ⟨b.bm,20,none⟩ (.int .i64 mv')):=FrT.chg hc (by simp only[List.mem_singleton];rintro _ rfl;exact⟨_,_,_,m1,by simp⟩)
 exact⟨h.s.fr (hf.wide (by simp)) (hc.low h.lo (by simpa using h.s.ge.2.2.2.1)),h.t.fr hf (by decide),⟨sv,fv,m1.set 20 _⟩,h.r.fr hf (by decide)⟩
end
abbrev pA:Pr:=⟨4,0,sA,2,7,ByteArray.empty,1⟩
abbrev nv:R8:=.val 0 0 0 ByteArray.empty 0
abbrev rsA:R8:=.val 4 0 0 sA 0
abbrev bv:R8:=.val 8 0 0 ByteArray.empty 0
def miss (k R:Int):Int:=R / k+(if 1<k/\1<=R then 1 else 0)
def gI (K:Fk):Int:=if K.gone=true then 2 else 1
def ev (K:Fk) (x:Nat) (i:Int):Int:=if x=22∨x=24 then i / K.k else (i-1) / K.k
def rd (x:Nat) (i:Int):Int:=if x=24 then i else i-1
def bnd (x:Nat) (i:Int):Int:=if x=22∨x=24 then i else i-1
abbrev u7 (i:Int):R8:=if i=1 then nv else ri 7
abbrev rL (K:Fk) (i:Int) (u r8 r9:R8):Rr:=⟨ri i,ri K.n,ri 1,tab0,.none,.none,u,r8,r9⟩
def rx (K:Fk) (x:Nat) (i:Int) (q:R8):Rr:=
 match x with
 | 4=>rT
 | 5=>{rT with r7:=nv}
 | 6=>{rT with r7:=nv,r0:=ri 1}
 | 7=>{rT with r7:=nv,r0:=ri 1,r1:=ri K.n}
 | 13=>rL K i (u7 i) (ri (i%K.k)) .none
 | 15=>rL K i (u7 i) (.val 1 (bi (decide (i%K.k=0))) 0 ByteArray.empty 0) .none
 | 17=>rL K i (u7 i) (ri i) .none
 | 18=>rL K i (u7 i) (ri i) (ri i)
 | 20=>rL K i (u7 i) (ri i) .none
 | 21=>rL K i (u7 i) (ri i) nv
 | 24=>rL K i (ri 7) .none .none
 | 26=>rL K i (u7 i) bv .none
 | 27=>rL K i (u7 i) bv (.li none 0 0)
 | 28=>rL K i (u7 i) bv q
 | 29=>rL K i (u7 i) .none (.li none 0 0)
 | 31=>rL K i (u7 i) (.li none 0 0) .none
 | _=>rL K i (u7 i) .none .none
def tkx (x:Nat) (i:Int):Int:=if x<=10 then i-1 else if x<=24 then i else if x<=28 then i-1 else i
structure Co (K:Fk) (E B:Int) (s:Dy):Prop where
 ve:s.ve=2+gI K*E
 sn:s.sn=2+E
 tn:s.tn=1+E
 ps:∃qs,s.ps=pA::qs/\(∀q∈qs,q.ka=2/\q.kb<=B)/\(K.gone=true->qs=[])/\(qs.length:Int)<=E
structure CoG (K:Fk) (i:Int) (s:Dy):Prop where
 ve:s.ve=2+gI K*((i-1) / K.k)+1
 sn:s.sn=2+(i-1) / K.k+1
 tn:s.tn=1+(i-1) / K.k+1
 ps:∃t,s.ps=[pA,⟨2,i,ByteArray.empty,2,i,ByteArray.empty,t⟩]
structure Mo (K:Fk) (x:Nat) (i:Int) (s:Dy):Prop where
 a:s.a=pos K x
 hs:s.hs=false
 go:s.go=.slice none 0 0
 r:s.r=rx K x i s.r.r9
 tk:s.tk=tkx x i
 r1:x<=28->s.rr=.slice none 0 0
 r2:29<=x->s.rr≠.slice none 0 0
 mi:s.mi=miss K.k (rd x i)
 hi:s.hi=rd x i-miss K.k (rd x i)
 cv:s.cv=if rd x i=0 then 0 else 2+gI K*(rd x i / K.k)
 cq:s.cq=0
 c:if x=19∨x=20∨x=21 then CoG K i s else Co K (ev K x i) (bnd x i) s
structure Rgi (K:Fk) (x:Nat) (i:Int):Prop where
 i1:1<=i
 i8:x<=8->i=1
 i9:x=9->i<=K.n+1
 i10:10<=x->x<=24->i<=K.n
 i25:25<=x->i=K.n+1
 i16:16<=x->x<=21->i%K.k=0
 g:19<=x->x<=21->K.gone=true
 no:x≠12/\x≠14/\x≠23
 le:x<=33
structure Kk (K:Fk):Prop where
 n1:1<=K.n
 n:K.n<=100
 k1:1<=K.k
 k:K.k<=20
def nx (K:Fk) (x:Nat) (i:Int):Nat×Int:=
 if x=9 then (if K.n<i then (25,i) else (10,i))
 else if x=11 then (13,i)
 else if x=13 then (15,i)
 else if x=15 then (if i%K.k=0 then (16,i) else (22,i))
 else if x=18 then (if K.gone=true then (19,i) else (22,i))
 else if x=22 then (24,i)
 else if x=24 then (9,i+1)
 else (x+1,i)
def muF (K:Fk) (x:Nat) (i:Int):Nat:=(40*(K.n+1-i)).toNat+(40-x)
section
variable {K:Fk} {x:Nat} {i:Int}
theorem nx_ok (hK:Kk K) (h:Rgi K x i) (hx:x<33):Rgi K (nx K x i).1 (nx K x i).2/\muF K (nx K x i).1 (nx K x i).2<muF K x i:=by
 obtain⟨i1,i8,i9,i10,i25,i16,g,no,le⟩:=h
 have hn:=hK.n1
 unfold nx muF
 split
 ·split
  ·exact⟨⟨i1,by omega,by omega,by omega,by omega,by omega,by omega,by omega,by omega⟩,by simp only;omega⟩
  ·exact⟨⟨i1,by omega,by omega,by omega,by omega,by omega,by omega,by omega,by omega⟩,by simp only;omega⟩
 split
 ·exact⟨⟨i1,by omega,by omega,by omega,by omega,by omega,by omega,by omega,by omega⟩,by simp only;omega⟩
 split
 ·exact⟨⟨i1,by omega,by omega,by omega,by omega,by omega,by omega,by omega,by omega⟩,by simp only;omega⟩
 split
 ·split
  ·rename_i h0
   exact⟨⟨i1,by omega,by omega,by omega,by omega,fun _ _=>h0,by omega,by omega,by omega⟩,by simp only;omega⟩
  ·exact⟨⟨i1,by omega,by omega,by omega,by omega,by omega,by omega,by omega,by omega⟩,by simp only;omega⟩
 split
 ·split
  ·rename_i hg
   exact⟨⟨i1,by omega,by omega,by omega,by omega,fun _ _=>i16 (by omega) (by omega),fun _ _=>hg,by omega,by omega⟩,by simp only;omega⟩
  ·exact⟨⟨i1,by omega,by omega,by omega,by omega,by omega,by omega,by omega,by omega⟩,by simp only;omega⟩
 split
 ·exact⟨⟨i1,by omega,by omega,by omega,by omega,by omega,by omega,by omega,by omega⟩,by simp only;omega⟩
 split
 ·exact⟨⟨by simp only;omega,by omega,by simp only;omega,by omega,by omega,by omega,by omega,by omega,by omega⟩,by simp only;omega⟩
 ·exact⟨⟨i1,by omega,by omega,fun h1 h2=>i10 (by omega) (by omega),fun h1=>i25 (by omega),fun h1 h2=>i16 (by omega) (by omega),fun h1 h2=>g (by omega) (by omega),by omega,by omega⟩,by simp only;omega⟩
theorem Va (hk:1<=K.k) (h:i%K.k=0):i / K.k=(i-1) / K.k+1:=by
 have e0:=Int.mul_ediv_add_emod i K.k
 rw[h,Int.add_zero]at e0
 have e:i-1=(K.k-1)+K.k*(i / K.k-1):=by rw[Int.mul_sub,e0,Int.mul_one];omega
 have e2:(i-1) / K.k=i / K.k-1:=by
  rw[e,Int.add_mul_ediv_left _ _ (by omega),Int.ediv_eq_zero_of_lt (a:=K.k-1) (b:=K.k) (by omega) (by omega)]
  omega
 omega
theorem Xw (hk:1<=K.k) (h:i%K.k≠0):i / K.k=(i-1) / K.k:=by
 have h0:=Int.emod_nonneg i (b:=K.k) (by omega)
 have h2:=Int.emod_lt_of_pos i (b:=K.k) (by omega)
 have e0:=Int.mul_ediv_add_emod i K.k
 have e:i-1=(i%K.k-1)+K.k*(i / K.k):=by omega
 have e2:(i-1) / K.k=i / K.k:=by
  rw[e,Int.add_mul_ediv_left _ _ (by omega),Int.ediv_eq_zero_of_lt (a:=i%K.k-1) (b:=K.k) (by omega) (by omega)]
  omega
 exact e2.symm
theorem Qp (hk:1<=K.k) {a:Int} (h:0<=a):0<=a / K.k/\a / K.k<=a:=⟨Int.ediv_nonneg h (by omega),Int.ediv_le_self _ h⟩
end
section
variable {b:Fb} {K:Fk} {pc mv d:Int} {bs:Nat} {x:Nat} {i:Int} {s s':Dy} {w W W':World}
structure Same (s s':Dy):Prop where
 rr:s'.rr=s.rr
 mi:s'.mi=s.mi
 hi:s'.hi=s.hi
 cv:s'.cv=s.cv
 cq:s'.cq=s.cq
 ve:s'.ve=s.ve
 sn:s'.sn=s.sn
 tn:s'.tn=s.tn
 ps:s'.ps=s.ps
theorem Co.same {E B B':Int} (h:Co K E B s) (e:Same s s') (hb:B<=B'):Co K E B' s':=
 ⟨e.ve.trans h.ve,e.sn.trans h.sn,e.tn.trans h.tn,let ⟨qs,h1,h2,h3,h4⟩:=h.ps;⟨qs,e.ps.trans h1,fun q hq=>⟨(h2 q hq).1,Int.le_trans (h2 q hq).2 hb⟩,h3,h4⟩⟩
theorem CoG.same (h:CoG K i s) (e:Same s s'):CoG K i s':=⟨e.ve.trans h.ve,e.sn.trans h.sn,e.tn.trans h.tn,let ⟨t,h1⟩:=h.ps;⟨t,e.ps.trans h1⟩⟩
theorem Mo.of {x':Nat} (h:Mo K x i s) (e:Same s s') (ha:s'.a=pos K x') (hs:s'.hs=false) (hgo:s'.go=.slice none 0 0) (hr:s'.r=rx K x' i s'.r.r9) (ht:s'.tk=tkx x' i) (h28:x'<=28/\x<=28∨29<=x'/\29<=x) (hrd:rd x' i=rd x i) (hev:ev K x' i=ev K x i) (hb:bnd x i<=bnd x' i) (hg:(x=19∨x=20∨x=21) ↔ (x'=19∨x'=20∨x'=21)):Mo K x' i s':=by
 refine⟨ha,hs,hgo,hr,ht,fun h1=>e.rr.trans (h.r1 (by omega)),fun h1=>by rw[e.rr];exact h.r2 (by omega),by rw[e.mi,hrd];exact h.mi,by rw[e.hi,hrd];exact h.hi,by rw[e.cv,hrd];exact h.cv,e.cq.trans h.cq,?_⟩
 have hc:=h.c
 by_cases h19:x=19∨x=20∨x=21
 ·rw[if_pos h19]at hc
  rw[if_pos (hg.1 h19)]
  exact hc.same e
 ·rw[if_neg h19]at hc
  rw[if_neg (fun h=>h19 (hg.2 h)),hev]
  exact hc.same e hb
def At (b:Fb) (K:Fk) (pc:Int) (x:Nat) (i d mv:Int) (W:World):Prop:=
 if x=0 then FS0 b K pc mv W
 else if x=1 then ∃bs,FS b K pc bs (sT mv d) W/\(d=1->Sl b pc (sT mv 1) bs W)
 else if x=2 then ∃bs,FS b K pc bs {sT mv d with a:=2,r:={rT with r5:=rsA}} W
 else if x=3 then ∃bs,FS b K pc bs {sT mv d with a:=3,r:={rT with r5:=rsA,r6:=ri 7}} W
 else if x=28 then ∃bs s h hc,FS b K pc bs s W/\Mo K 28 i s/\s.d=d/\s.mv=mv/\s.r.r9=.li (some ⟨h,0,none⟩) 1 hc/\GA h W
 else if x=32 then ∃s,FL b K pc s W/\Mo K 31 i s/\s.d=d/\s.mv=mv
 else if x=33 then ∃s,FE b K pc {s with hs:=true} W/\Mo K 31 i s/\s.d=d/\s.mv=mv
 else ∃bs s,FS b K pc bs s W/\Mo K x i s/\s.d=d/\s.mv=mv
theorem At.mk (h0:x≠0) (h1:x≠1) (h2:x≠2) (h3:x≠3) (h28:x≠28) (h32:x≠32) (h33:x≠33) (h:∃bs s,FS b K pc bs s W/\Mo K x i s/\s.d=d/\s.mv=mv):At b K pc x i d mv W:=by
 unfold At
 rw[if_neg h0,if_neg h1,if_neg h2,if_neg h3,if_neg h28,if_neg h32,if_neg h33]
 exact h
theorem At.out (h0:x≠0) (h1:x≠1) (h2:x≠2) (h3:x≠3) (h28:x≠28) (h32:x≠32) (h33:x≠33) (h:At b K pc x i d mv W):∃bs s,FS b K pc bs s W/\Mo K x i s/\s.d=d/\s.mv=mv:=by
 unfold At at h
 rw[if_neg h0,if_neg h1,if_neg h2,if_neg h3,if_neg h28,if_neg h32,if_neg h33]at h
 exact h
theorem ps1 {a:Nat} {x y:Nat} (h:a=pos K x) (e:pos K x+1=pos K y):a+1=pos K y:=h▸e
theorem Eb (x:Nat) (h:x<18∨22<=x):pos K x+1=pos K (x+1):=by unfold pos;split<;>(try split)<;>(try split)<;>omega
abbrev G0 (b:Fb) (K:Fk) (pc:Int) (x:Nat) (i d mv:Int) (w:World):Prop:=Calls prog 28 #[pl b.bl] w fun e w'=>e=.returned (.tuple #[])/\At b K pc x i d mv w'
theorem m1 (A:At b K pc 1 i d mv w):G0 b K pc 2 i d mv w:=by
 obtain⟨bs,S,_⟩:=A
 exact(Ji (x:=1) (r:=5) (i:=0) (va1:=4) (vb:=0) (vc:=0) (vd':=sA) (ve:=0) (r':={rT with r5:=rsA}) S rfl (by unfold Lq;simp) (by unfold pos;split<;>rfl) rfl (by simp[kF]) (by decide) (up5 _ _)).mono fun _ _ ⟨he,h⟩=>⟨he,bs,h⟩
theorem m2 (A:At b K pc 2 i d mv w):G0 b K pc 3 i d mv w:=by
 obtain⟨bs,S⟩:=A
 exact(Ji (x:=2) (r:=6) (i:=1) (va1:=2) (vb:=7) (vc:=0) (vd':=ByteArray.empty) (ve:=0) (r':={rT with r5:=rsA,r6:=ri 7}) S rfl (by unfold Lq;simp) (by unfold pos;split<;>rfl) rfl (by simp[kF]) (by decide) (up6 _ _)).mono fun _ _ ⟨he,h⟩=>⟨he,bs,h⟩
theorem m3 (A:At b K pc 3 1 d mv w):G0 b K pc 4 1 d mv w:=by
 obtain⟨bs,S⟩:=A
 have h0:(0:Int) / K.k=0:=Int.zero_ediv _
 refine(A2p (x:=3) (r1:=5) (r2:=6) (xB:=-6) (xC:=-7) (ka:=4) (kb:=0) (xa:=2) (xb:=7) (kd:=sA) (xd:=ByteArray.empty) (r':=rT) S rfl (by unfold Lq;simp) (by unfold pos;split<;>rfl) rfl (by decide) (by decide) rfl rfl (by decide) (by decide) (by decide) rfl rfl rfl (show (0:Int)<=1 by decide) (show (1:Int)<1000 by decide) (show (0:Int)<=1 by decide) (show (1:Int)<=1000000 by decide) (.inr rfl) (by kernel_rfl) (show 0<500 by decide) (show (0:Int)<=0 by decide) (show (0:Int)<=100000 by decide) (by decide) (Jq (fun j q h=>by simp at h)) ?_).mono fun _ _ ⟨he,h⟩=>⟨he,At.mk (by decide) (by decide) (by decide) (by decide) (by decide) (by decide) (by decide) ⟨bs,_,h,?_,rfl,rfl⟩⟩
 ·rw[up5,up6]
 ·refine⟨by unfold pos;split<;>rfl,rfl,rfl,rfl,rfl,fun _=>rfl,fun h=>by omega,?_,?_,rfl,rfl,?_⟩
  ·show (0:Int)=miss K.k (1-1);unfold miss;simp
  ·show (0:Int)=(1-1)-miss K.k (1-1);unfold miss;simp
  ·rw[if_neg (by decide)]
   have e:ev K 4 1=0:=by show (1-1:Int) / K.k=0;exact h0
   rw[e]
   exact⟨by simp,rfl,rfl,[],rfl,fun _ h=>by simp at h,fun _=>rfl,by decide⟩
end
section
variable {b:Fb} {K:Fk} {pc mv d:Int} {i:Int} {w:World}
theorem m4 (A:At b K pc 4 1 d mv w):G0 b K pc 5 1 d mv w:=by
 obtain⟨bs,s,S,H,hd,hm⟩:=At.out (by decide) (by decide) (by decide) (by decide) (by decide) (by decide) (by decide) A
 have HS:=H.hs
 have HG:=H.go
 exact(Ji (x:=4) (r:=7) (i:=2) (va1:=0) (vb:=0) (vc:=0) (vd':=ByteArray.empty) (ve:=0) (r':=rx K 5 1 .none) S HS (by unfold Lq;simp) H.a rfl (by simp[kF]) (by decide) (by rw[H.r];exact up7 _ _)).mono fun _ _ ⟨he,h⟩=>⟨he,At.mk (by decide) (by decide) (by decide) (by decide) (by decide) (by decide) (by decide) ⟨bs,_,h,(H.of ⟨rfl,rfl,rfl,rfl,rfl,rfl,rfl,rfl,rfl⟩ (ps1 H.a (Eb 4 (by decide))) HS HG rfl H.tk (.inl ⟨by decide,by decide⟩) rfl rfl (Int.le_refl _) (by decide)),hd,hm⟩⟩
theorem m5 (A:At b K pc 5 1 d mv w):G0 b K pc 6 1 d mv w:=by
 obtain⟨bs,s,S,H,hd,hm⟩:=At.out (by decide) (by decide) (by decide) (by decide) (by decide) (by decide) (by decide) A
 have HS:=H.hs
 have HG:=H.go
 exact(Ji (x:=5) (r:=0) (i:=3) (va1:=2) (vb:=1) (vc:=0) (vd':=ByteArray.empty) (ve:=0) (r':=rx K 6 1 .none) S HS (by unfold Lq;simp) H.a rfl (by simp[kF]) (by decide) (by rw[H.r];exact up0 _ _)).mono fun _ _ ⟨he,h⟩=>⟨he,At.mk (by decide) (by decide) (by decide) (by decide) (by decide) (by decide) (by decide) ⟨bs,_,h,(H.of ⟨rfl,rfl,rfl,rfl,rfl,rfl,rfl,rfl,rfl⟩ (ps1 H.a (Eb 5 (by decide))) HS HG rfl H.tk (.inl ⟨by decide,by decide⟩) rfl rfl (Int.le_refl _) (by decide)),hd,hm⟩⟩
theorem m6 (A:At b K pc 6 1 d mv w):G0 b K pc 7 1 d mv w:=by
 obtain⟨bs,s,S,H,hd,hm⟩:=At.out (by decide) (by decide) (by decide) (by decide) (by decide) (by decide) (by decide) A
 have HS:=H.hs
 have HG:=H.go
 exact(Ji (x:=6) (r:=1) (i:=K.kN) (va1:=2) (vb:=K.n) (vc:=0) (vd':=ByteArray.empty) (ve:=0) (r':=rx K 7 1 .none) S HS (by unfold Lq;simp) H.a rfl (by simp[kF]) (by decide) (by rw[H.r];exact up1 _ _)).mono fun _ _ ⟨he,h⟩=>⟨he,At.mk (by decide) (by decide) (by decide) (by decide) (by decide) (by decide) (by decide) ⟨bs,_,h,(H.of ⟨rfl,rfl,rfl,rfl,rfl,rfl,rfl,rfl,rfl⟩ (ps1 H.a (Eb 6 (by decide))) HS HG rfl H.tk (.inl ⟨by decide,by decide⟩) rfl rfl (Int.le_refl _) (by decide)),hd,hm⟩⟩
theorem m7 (A:At b K pc 7 1 d mv w):G0 b K pc 8 1 d mv w:=by
 obtain⟨bs,s,S,H,hd,hm⟩:=At.out (by decide) (by decide) (by decide) (by decide) (by decide) (by decide) (by decide) A
 have HS:=H.hs
 have HG:=H.go
 exact(Ji (x:=7) (r:=2) (i:=3) (va1:=2) (vb:=1) (vc:=0) (vd':=ByteArray.empty) (ve:=0) (r':=rx K 8 1 .none) S HS (by unfold Lq;simp) H.a rfl (by simp[kF]) (by decide) (by rw[H.r];exact up2 _ _)).mono fun _ _ ⟨he,h⟩=>⟨he,At.mk (by decide) (by decide) (by decide) (by decide) (by decide) (by decide) (by decide) ⟨bs,_,h,(H.of ⟨rfl,rfl,rfl,rfl,rfl,rfl,rfl,rfl,rfl⟩ (ps1 H.a (Eb 7 (by decide))) HS HG rfl H.tk (.inl ⟨by decide,by decide⟩) rfl rfl (Int.le_refl _) (by decide)),hd,hm⟩⟩
theorem m8 (A:At b K pc 8 i d mv w):G0 b K pc 9 i d mv w:=by
 obtain⟨bs,s,S,H,hd,hm⟩:=At.out (by decide) (by decide) (by decide) (by decide) (by decide) (by decide) (by decide) A
 have HS:=H.hs
 have HG:=H.go
 exact(forF (i:=i) (n:=K.n) S HS H.a (by rw[H.r];rfl) (by rw[H.r];rfl) (by rw[H.r];rfl)).mono fun _ _ ⟨he,h⟩=>⟨he,At.mk (by decide) (by decide) (by decide) (by decide) (by decide) (by decide) (by decide) ⟨bs,_,h,(H.of ⟨rfl,rfl,rfl,rfl,rfl,rfl,rfl,rfl,rfl⟩ (ps1 H.a (Eb 8 (by decide))) HS HG H.r H.tk (.inl ⟨by decide,by decide⟩) rfl rfl (Int.le_refl _) (by decide)),hd,hm⟩⟩
theorem m9 (A:At b K pc 9 i d mv w):G0 b K pc (nx K 9 i).1 i d mv w:=by
 obtain⟨bs,s,S,H,hd,hm⟩:=At.out (by decide) (by decide) (by decide) (by decide) (by decide) (by decide) (by decide) A
 have HS:=H.hs
 have HG:=H.go
 refine(testF (i:=i) (n:=K.n) S HS H.a (by rw[H.r];rfl) (by rw[H.r];rfl) (by rw[H.r];rfl)).mono fun _ _ ⟨he,h⟩=>⟨he,?_⟩
 by_cases hn:K.n<i
 ·rw[if_pos hn]at h
  have e:(nx K 9 i).1=25:=by unfold nx;simp[hn]
  rw[e]
  exact At.mk (by decide) (by decide) (by decide) (by decide) (by decide) (by decide) (by decide) ⟨bs,_,h,(H.of ⟨rfl,rfl,rfl,rfl,rfl,rfl,rfl,rfl,rfl⟩ rfl HS HG H.r H.tk (.inl ⟨by decide,by decide⟩) rfl rfl (Int.le_refl _) (by decide)),hd,hm⟩
 ·rw[if_neg hn]at h
  have e:(nx K 9 i).1=10:=by unfold nx;simp[hn]
  rw[e]
  exact At.mk (by decide) (by decide) (by decide) (by decide) (by decide) (by decide) (by decide) ⟨bs,_,h,(H.of ⟨rfl,rfl,rfl,rfl,rfl,rfl,rfl,rfl,rfl⟩ (ps1 H.a (Eb 9 (by decide))) HS HG H.r H.tk (.inl ⟨by decide,by decide⟩) rfl rfl (Int.le_refl _) (by decide)),hd,hm⟩
theorem m10 (h1:1<=i) (h2:i<=200) (A:At b K pc 10 i d mv w):G0 b K pc 11 i d mv w:=by
 obtain⟨bs,s,S,H,hd,hm⟩:=At.out (by decide) (by decide) (by decide) (by decide) (by decide) (by decide) (by decide) A
 have HS:=H.hs
 have HG:=H.go
 exact(tickF S HS H.a (by rw[H.tk];show 0<=i-1;omega) (by rw[H.tk];show i-1<1000;omega)).mono fun _ _ ⟨he,h⟩=>⟨he,At.mk (by decide) (by decide) (by decide) (by decide) (by decide) (by decide) (by decide) ⟨bs,_,h,(H.of ⟨rfl,rfl,rfl,rfl,rfl,rfl,rfl,rfl,rfl⟩ (ps1 H.a (Eb 10 (by decide))) HS HG H.r (by show s.tk+1=i;rw[H.tk];show i-1+1=i;omega) (.inl ⟨by decide,by decide⟩) rfl rfl (Int.le_refl _) (by decide)),hd,hm⟩⟩
theorem m11 (h1:1<=i) (h2:i<=200) (h3:1<=K.k) (h4:K.k<=20) (A:At b K pc 11 i d mv w):G0 b K pc 13 i d mv w:=by
 obtain⟨bs,s,S,H,hd,hm⟩:=At.out (by decide) (by decide) (by decide) (by decide) (by decide) (by decide) (by decide) A
 have HS:=H.hs
 have HG:=H.go
 exact(A9q (x:=11) (y:=12) (i:=K.kK) (rF:=8) (rC:=0) (op:=6) (xC:=0) (xv:=i) (yv:=K.k) (ra:=2) (rb:=i%K.k) (k1:=.int .i64 1) (p1:=.pointer none) (l1:=.slice none 0 0) (r1:=rx K 11 i .none) (r2:=rx K 13 i .none) S HS (by unfold Lq;simp) H.a rfl (.inl rfl) (ps1 H.a (Eb 11 (by decide))) rfl (by simp[kF]) (by decide) (by decide) (.inl rfl) (by rw[H.r];rfl) (by rw[H.r,if_neg (by decide)];exact up8 _ _) (up8 _ _) (fun W=>Yu b.bl i K.k W (by omega) (by omega) (by omega) (by omega))).mono fun _ _ ⟨he,h⟩=>⟨he,At.mk (by decide) (by decide) (by decide) (by decide) (by decide) (by decide) (by decide) ⟨bs,_,h,(H.of ⟨rfl,rfl,rfl,rfl,rfl,rfl,rfl,rfl,rfl⟩ (ps1 (ps1 H.a (Eb 11 (by decide))) (Eb 12 (by decide))) rfl rfl rfl H.tk (.inl ⟨by decide,by decide⟩) rfl rfl (Int.le_refl _) (by decide)),hd,hm⟩⟩
theorem m13 (A:At b K pc 13 i d mv w):G0 b K pc 15 i d mv w:=by
 obtain⟨bs,s,S,H,hd,hm⟩:=At.out (by decide) (by decide) (by decide) (by decide) (by decide) (by decide) (by decide) A
 have HS:=H.hs
 have HG:=H.go
 exact(A9q (x:=13) (y:=14) (i:=K.k0) (rF:=9) (rC:=8) (op:=13) (xC:=-9) (xv:=i%K.k) (yv:=0) (ra:=1) (rb:=bi (decide (i%K.k=0))) (k1:=.int .i64 1) (p1:=.pointer none) (l1:=.slice none 0 0) (r1:=rx K 11 i .none) (r2:=rx K 15 i .none) S HS (by unfold Lq;simp) H.a rfl (.inr rfl) (ps1 H.a (Eb 13 (by decide))) rfl (by simp[kF]) (by decide) (by decide) (.inr rfl) (by rw[H.r];rfl) (by rw[H.r,if_pos (by decide),up9,up8];rfl) (up8 _ _) (fun W=>A14 b.bl (i%K.k) 0 W)).mono fun _ _ ⟨he,h⟩=>⟨he,At.mk (by decide) (by decide) (by decide) (by decide) (by decide) (by decide) (by decide) ⟨bs,_,h,(H.of ⟨rfl,rfl,rfl,rfl,rfl,rfl,rfl,rfl,rfl⟩ (ps1 (ps1 H.a (Eb 13 (by decide))) (Eb 14 (by decide))) rfl rfl rfl H.tk (.inl ⟨by decide,by decide⟩) rfl rfl (Int.le_refl _) (by decide)),hd,hm⟩⟩
theorem m15 (hk:1<=K.k) (A:At b K pc 15 i d mv w):G0 b K pc (nx K 15 i).1 i d mv w:=by
 obtain⟨bs,s,S,H,hd,hm⟩:=At.out (by decide) (by decide) (by decide) (by decide) (by decide) (by decide) (by decide) A
 have HS:=H.hs
 have HG:=H.go
 refine(ifF (q:=decide (i%K.k=0)) (r':=rx K 16 i .none) S HS H.a (by rw[H.r];rfl) (by rw[H.r];exact up8 _ _)).mono fun _ _ ⟨he,h⟩=>⟨he,?_⟩
 by_cases hn:i%K.k=0
 ·rw[if_pos (by simpa using hn)]at h
  have e:(nx K 15 i).1=16:=by unfold nx;simp[hn]
  rw[e]
  exact At.mk (by decide) (by decide) (by decide) (by decide) (by decide) (by decide) (by decide) ⟨bs,_,h,(H.of ⟨rfl,rfl,rfl,rfl,rfl,rfl,rfl,rfl,rfl⟩ (ps1 H.a (Eb 15 (by decide))) HS HG rfl H.tk (.inl ⟨by decide,by decide⟩) rfl rfl (Int.le_refl _) (by decide)),hd,hm⟩
 ·rw[if_neg (by simpa using hn)]at h
  have e:(nx K 15 i).1=22:=by unfold nx;simp[hn]
  rw[e]
  exact At.mk (by decide) (by decide) (by decide) (by decide) (by decide) (by decide) (by decide) ⟨bs,_,h,(H.of ⟨rfl,rfl,rfl,rfl,rfl,rfl,rfl,rfl,rfl⟩ rfl HS HG rfl H.tk (.inl ⟨by decide,by decide⟩) rfl (Xw hk hn) (by show i-1<=i;omega) (by decide)),hd,hm⟩
theorem m16 (A:At b K pc 16 i d mv w):G0 b K pc 17 i d mv w:=by
 obtain⟨bs,s,S,H,hd,hm⟩:=At.out (by decide) (by decide) (by decide) (by decide) (by decide) (by decide) (by decide) A
 have HS:=H.hs
 have HG:=H.go
 exact(A63 (x:=16) (r1:=8) (r2:=0) (va1:=2) (vb:=i) (vc:=0) (vd':=ByteArray.empty) (ve:=0) (k:=.int .i64 1) (p:=.pointer none) (l:=.slice none 0 0) (r':=rx K 17 i .none) S HS (by unfold Lq;simp) H.a rfl (by decide) (by decide) (by rw[H.r];rfl) (by rw[H.r];exact up8 _ _)).mono fun _ _ ⟨he,h⟩=>⟨he,At.mk (by decide) (by decide) (by decide) (by decide) (by decide) (by decide) (by decide) ⟨bs,_,h,(H.of ⟨rfl,rfl,rfl,rfl,rfl,rfl,rfl,rfl,rfl⟩ (ps1 H.a (Eb 16 (by decide))) HS HG rfl H.tk (.inl ⟨by decide,by decide⟩) rfl rfl (Int.le_refl _) (by decide)),hd,hm⟩⟩
theorem m17 (A:At b K pc 17 i d mv w):G0 b K pc 18 i d mv w:=by
 obtain⟨bs,s,S,H,hd,hm⟩:=At.out (by decide) (by decide) (by decide) (by decide) (by decide) (by decide) (by decide) A
 have HS:=H.hs
 have HG:=H.go
 exact(A63 (x:=17) (r1:=9) (r2:=0) (va1:=2) (vb:=i) (vc:=0) (vd':=ByteArray.empty) (ve:=0) (k:=.int .i64 1) (p:=.pointer none) (l:=.slice none 0 0) (r':=rx K 18 i .none) S HS (by unfold Lq;simp) H.a rfl (by decide) (by decide) (by rw[H.r];rfl) (by rw[H.r];exact up9 _ _)).mono fun _ _ ⟨he,h⟩=>⟨he,At.mk (by decide) (by decide) (by decide) (by decide) (by decide) (by decide) (by decide) ⟨bs,_,h,(H.of ⟨rfl,rfl,rfl,rfl,rfl,rfl,rfl,rfl,rfl⟩ (ps1 H.a (Eb 17 (by decide))) HS HG rfl H.tk (.inl ⟨by decide,by decide⟩) rfl rfl (Int.le_refl _) (by decide)),hd,hm⟩⟩
theorem m19 (hg:K.gone=true) (A:At b K pc 19 i d mv w):G0 b K pc 20 i d mv w:=by
 obtain⟨bs,s,S,H,hd,hm⟩:=At.out (by decide) (by decide) (by decide) (by decide) (by decide) (by decide) (by decide) A
 have HS:=H.hs
 have HG:=H.go
 exact(A63 (x:=19) (r1:=8) (r2:=0) (va1:=2) (vb:=i) (vc:=0) (vd':=ByteArray.empty) (ve:=0) (k:=.int .i64 1) (p:=.pointer none) (l:=.slice none 0 0) (r':=rx K 20 i .none) S HS (by unfold Lq;simp[hg]) H.a rfl (by decide) (by decide) (by rw[H.r];rfl) (by rw[H.r];exact up8 _ _)).mono fun _ _ ⟨he,h⟩=>⟨he,At.mk (by decide) (by decide) (by decide) (by decide) (by decide) (by decide) (by decide) ⟨bs,_,h,(H.of ⟨rfl,rfl,rfl,rfl,rfl,rfl,rfl,rfl,rfl⟩ (ps1 H.a (by unfold pos;rw[hg];rfl)) HS HG rfl H.tk (.inl ⟨by decide,by decide⟩) rfl rfl (Int.le_refl _) (by decide)),hd,hm⟩⟩
theorem m20 (hg:K.gone=true) (A:At b K pc 20 i d mv w):G0 b K pc 21 i d mv w:=by
 obtain⟨bs,s,S,H,hd,hm⟩:=At.out (by decide) (by decide) (by decide) (by decide) (by decide) (by decide) (by decide) A
 have HS:=H.hs
 have HG:=H.go
 exact(Ji (x:=20) (r:=9) (i:=2) (va1:=0) (vb:=0) (vc:=0) (vd':=ByteArray.empty) (ve:=0) (r':=rx K 21 i .none) S HS (by unfold Lq;simp[hg]) H.a rfl (by simp[kF]) (by decide) (by rw[H.r];exact up9 _ _)).mono fun _ _ ⟨he,h⟩=>⟨he,At.mk (by decide) (by decide) (by decide) (by decide) (by decide) (by decide) (by decide) ⟨bs,_,h,(H.of ⟨rfl,rfl,rfl,rfl,rfl,rfl,rfl,rfl,rfl⟩ (ps1 H.a (by unfold pos;rw[hg];rfl)) HS HG rfl H.tk (.inl ⟨by decide,by decide⟩) rfl rfl (Int.le_refl _) (by decide)),hd,hm⟩⟩
theorem m25 (A:At b K pc 25 i d mv w):G0 b K pc 26 i d mv w:=by
 obtain⟨bs,s,S,H,hd,hm⟩:=At.out (by decide) (by decide) (by decide) (by decide) (by decide) (by decide) (by decide) A
 have HS:=H.hs
 have HG:=H.go
 exact(Ji (x:=25) (r:=8) (i:=K.kb) (va1:=8) (vb:=0) (vc:=0) (vd':=ByteArray.empty) (ve:=0) (r':=rx K 26 i .none) S HS (by unfold Lq;simp) H.a rfl (by simp[kF]) (by decide) (by rw[H.r];exact up8 _ _)).mono fun _ _ ⟨he,h⟩=>⟨he,At.mk (by decide) (by decide) (by decide) (by decide) (by decide) (by decide) (by decide) ⟨bs,_,h,(H.of ⟨rfl,rfl,rfl,rfl,rfl,rfl,rfl,rfl,rfl⟩ (ps1 H.a (Eb 25 (by decide))) HS HG rfl H.tk (.inl ⟨by decide,by decide⟩) rfl rfl (Int.le_refl _) (by decide)),hd,hm⟩⟩
theorem m26 (A:At b K pc 26 i d mv w):G0 b K pc 27 i d mv w:=by
 obtain⟨bs,s,S,H,hd,hm⟩:=At.out (by decide) (by decide) (by decide) (by decide) (by decide) (by decide) (by decide) A
 have HS:=H.hs
 have HG:=H.go
 exact(A9n (x:=26) (r:=9) (r':=rx K 27 i .none) S HS (by unfold Lq;simp) H.a rfl (by decide) (by rw[H.r];exact up9 _ _)).mono fun _ _ ⟨he,h⟩=>⟨he,At.mk (by decide) (by decide) (by decide) (by decide) (by decide) (by decide) (by decide) ⟨bs,_,h,(H.of ⟨rfl,rfl,rfl,rfl,rfl,rfl,rfl,rfl,rfl⟩ (ps1 H.a (Eb 26 (by decide))) HS HG rfl H.tk (.inl ⟨by decide,by decide⟩) rfl rfl (Int.le_refl _) (by decide)),hd,hm⟩⟩
theorem m29 (A:At b K pc 29 i d mv w):G0 b K pc 30 i d mv w:=by
 obtain⟨bs,s,S,H,hd,hm⟩:=At.out (by decide) (by decide) (by decide) (by decide) (by decide) (by decide) (by decide) A
 have HS:=H.hs
 have HG:=H.go
 exact(dropF (x:=29) (r:=9) (r':=rx K 30 i .none) S HS (by unfold Lq;simp) H.a rfl (by decide) (by rw[H.r];exact up9 _ _)).mono fun _ _ ⟨he,h⟩=>⟨he,At.mk (by decide) (by decide) (by decide) (by decide) (by decide) (by decide) (by decide) ⟨bs,_,h,(H.of ⟨rfl,rfl,rfl,rfl,rfl,rfl,rfl,rfl,rfl⟩ (ps1 H.a (Eb 29 (by decide))) HS HG rfl H.tk (.inr ⟨by decide,by decide⟩) rfl rfl (Int.le_refl _) (by decide)),hd,hm⟩⟩
theorem m30 (A:At b K pc 30 i d mv w):G0 b K pc 31 i d mv w:=by
 obtain⟨bs,s,S,H,hd,hm⟩:=At.out (by decide) (by decide) (by decide) (by decide) (by decide) (by decide) (by decide) A
 have HS:=H.hs
 have HG:=H.go
 exact(A9n (x:=30) (r:=8) (r':=rx K 31 i .none) S HS (by unfold Lq;simp) H.a rfl (by decide) (by rw[H.r];exact up8 _ _)).mono fun _ _ ⟨he,h⟩=>⟨he,At.mk (by decide) (by decide) (by decide) (by decide) (by decide) (by decide) (by decide) ⟨bs,_,h,(H.of ⟨rfl,rfl,rfl,rfl,rfl,rfl,rfl,rfl,rfl⟩ (ps1 H.a (Eb 30 (by decide))) HS HG rfl H.tk (.inr ⟨by decide,by decide⟩) rfl rfl (Int.le_refl _) (by decide)),hd,hm⟩⟩
end
section
variable {b:Fb} {K:Fk} {pc mv d:Int} {i:Int} {w:World}
theorem m0 (A:At b K pc 0 i d mv w):G0 b K pc 1 i 1 mv w:=(Aam A).mono fun _ _ ⟨he,bs,h,hS⟩=>⟨he,bs,h,fun _=>hS⟩
theorem vint (i:Int):Bl ⟨2,i,0,ByteArray.empty,0⟩=true:=by kernel_rfl
theorem gI2:gI K=1/\K.gone=false∨gI K=2/\K.gone=true:=by unfold gI;cases K.gone<;>simp
theorem gIE (E:Int):gI K*(E+1)=gI K*E+gI K:=by rw[Int.mul_add,Int.mul_one]
theorem m18 (hK:Kk K) (h1:1<=i) (h2:i<=100) (h0:i%K.k=0) (A:At b K pc 18 i d mv w):G0 b K pc (nx K 18 i).1 i d mv w:=by
 obtain⟨bs,s,S,H,hd,hm⟩:=At.out (by decide) (by decide) (by decide) (by decide) (by decide) (by decide) (by decide) A
 have HS:=H.hs
 have HG:=H.go
 have C:Co K ((i-1) / K.k) (i-1) s:=H.c
 obtain⟨qs,q1,q2,q3,q4⟩:=C.ps
 have hE:=Qp (K:=K) hK.k1 (a:=i-1) (by omega)
 have hg:=gI2 (K:=K)
 have hdv:=Va (K:=K) hK.k1 h0
 have hve:s.ve=2+gI K*((i-1) / K.k):=C.ve
 have hsn:=C.sn
 have htn:=C.tn
 have hb:0<=gI K*((i-1) / K.k)/\gI K*((i-1) / K.k)<=200:=by
  rcases hg with ⟨e,_⟩|⟨e,_⟩<;>rw[e]<;>omega
 refine(A2p (x:=18) (r1:=8) (r2:=9) (xB:=-9) (xC:=-10) (ka:=2) (kb:=i) (xa:=2) (xb:=i) (kd:=ByteArray.empty) (xd:=ByteArray.empty) (k1:=.int .i64 1) (k2:=.int .i64 1) (p1:=.pointer none) (l1:=.slice none 0 0) (p2:=.pointer none) (l2:=.slice none 0 0) (r':=rx K 16 i .none) S HS (by unfold Lq;simp) H.a rfl (by decide) (by decide) rfl rfl (by decide) (by decide) (by decide) (by rw[H.r];rfl) (by rw[H.r];rfl) (by rw[H.r];rfl) (by omega) (by omega) (by omega) (by omega) (.inl rfl) (vint i) (by rw[q1];simp only[List.length_cons];omega) (by omega) (by omega) (by decide) ?_ (by rw[H.r,up8,up9];rfl)).mono fun _ _ ⟨he,h⟩=>⟨he,?_⟩
 ·rw[q1]
  refine Jq fun j q hj hq=>?_
  cases j with
  | zero=>
   obtain rfl:pA=q:=Option.some.inj hj
   exact absurd hq.1 (by decide)
  | succ j=>
   have hm2:q∈qs:=List.mem_of_getElem? (by simpa using hj)
   have h3:=(q2 q hm2).2
   have h4:q.kb=i:=hq.2.1
   omega
 ·by_cases hgo:K.gone=true
  ·have e:(nx K 18 i).1=19:=by unfold nx;simp[hgo]
   rw[e]
   refine At.mk (by decide) (by decide) (by decide) (by decide) (by decide) (by decide) (by decide) ⟨bs,_,h,⟨ps1 H.a (by unfold pos;rw[hgo];rfl),HS,HG,rfl,H.tk,fun _=>H.r1 (by decide),fun h=>by omega,H.mi,H.hi,H.cv,H.cq,?_⟩,hd,hm⟩
   rw[if_pos (by decide)]
   refine⟨by show s.ve+1=_;rw[hve],by show s.sn+1=_;rw[hsn],by show s.tn+1=_;rw[htn],s.tn+1,?_⟩
   show s.ps++_=_
   rw[q1,q3 hgo]
   rfl
  ·have e:(nx K 18 i).1=22:=by unfold nx;simp[hgo]
   have hgf:K.gone=false:=by simpa using hgo
   rw[e]
   refine At.mk (by decide) (by decide) (by decide) (by decide) (by decide) (by decide) (by decide) ⟨bs,_,h,⟨ps1 H.a (by unfold pos;rw[hgf];rfl),HS,HG,rfl,H.tk,fun _=>H.r1 (by decide),fun h=>by omega,H.mi,H.hi,H.cv,H.cq,?_⟩,hd,hm⟩
   rw[if_neg (by decide)]
   have he1:gI K=1:=by unfold gI;simp[hgf]
   have e2:ev K 22 i=(i-1) / K.k+1:=hdv
   rw[e2]
   refine⟨by show s.ve+1=_;rw[hve,he1];omega,by show s.sn+1=_;rw[hsn];omega,by show s.tn+1=_;rw[htn];omega,qs++[⟨2,i,ByteArray.empty,2,i,ByteArray.empty,s.tn+1⟩],by show s.ps++_=_;rw[q1];rfl,fun q hq=>?_,fun h=>absurd h hgo,by simp only[List.length_append,List.length_singleton];omega⟩
   rcases List.mem_append.1 hq with hq|hq
   ·have:=q2 q hq
    exact⟨this.1,by show q.kb<=i;omega⟩
   ·obtain rfl:=List.mem_singleton.1 hq
    exact⟨rfl,Int.le_refl _⟩
theorem m21 (hK:Kk K) (h1:1<=i) (h2:i<=100) (h0:i%K.k=0) (hg:K.gone=true) (A:At b K pc 21 i d mv w):G0 b K pc 22 i d mv w:=by
 obtain⟨bs,s,S,H,hd,hm⟩:=At.out (by decide) (by decide) (by decide) (by decide) (by decide) (by decide) (by decide) A
 have HS:=H.hs
 have HG:=H.go
 have C:CoG K i s:=H.c
 obtain⟨t,q1⟩:=C.ps
 have hE:=Qp (K:=K) hK.k1 (a:=i-1) (by omega)
 have hdv:=Va (K:=K) hK.k1 h0
 have hg2:gI K=2:=by unfold gI;simp[hg]
 have hve:=C.ve
 have hsn:=C.sn
 have htn:=C.tn
 rw[hg2]at hve
 refine(A6l (x:=21) (r1:=8) (r2:=9) (xB:=-9) (xC:=-10) (ka:=2) (kb:=i) (kd:=ByteArray.empty) (k1:=.int .i64 1) (k2:=.int .i64 1) (p1:=.pointer none) (l1:=.slice none 0 0) (p2:=.pointer none) (l2:=.slice none 0 0) (r':=rx K 16 i .none) S HS (by unfold Lq;simp[hg]) H.a rfl (by decide) (by decide) rfl rfl (by decide) (by decide) (by decide) (by rw[H.r];rfl) (by rw[H.r];rfl) (by rw[H.r];rfl) (by omega) (by omega) (.inl rfl) (vint i) q1 ?_ (by rw[H.r,up8,up9];rfl)).mono fun _ _ ⟨he,h⟩=>⟨he,?_⟩
 ·refine Jr (i:=1) rfl ⟨rfl,rfl,rfl⟩ fun j q hj hq hi=>?_
  obtain rfl:j=0:=by omega
  obtain rfl:pA=q:=Option.some.inj hq
  exact absurd hi.1 (by decide)
 ·refine At.mk (by decide) (by decide) (by decide) (by decide) (by decide) (by decide) (by decide) ⟨bs,_,h,⟨ps1 H.a (by unfold pos;rw[hg];rfl),HS,HG,rfl,H.tk,fun _=>H.r1 (by decide),fun h=>by omega,H.mi,H.hi,H.cv,H.cq,?_⟩,hd,hm⟩
  rw[if_neg (by decide)]
  have e2:ev K 22 i=(i-1) / K.k+1:=hdv
  rw[e2]
  exact⟨by show s.ve+1=_;rw[hve,hg2];omega,by show s.sn=_;rw[hsn];omega,by show s.tn=_;rw[htn];omega,[],rfl,fun _ h=>by simp at h,fun _=>rfl,by simp only[List.length_nil];omega⟩
theorem A8b (hK:Kk K) {R:Int} (h:0<=R) (h2:R<=100):0<=miss K.k R/\miss K.k R<=R:=by
 have:=Qp (K:=K) hK.k1 h
 unfold miss
 split
 ·rename_i hc
  have:R / K.k<R:=Int.ediv_lt_self_of_pos_of_ne_one (by omega) (by omega)
  omega
 ·omega
theorem m22 (hK:Kk K) (h1:1<=i) (h2:i<=100) (A:At b K pc 22 i d mv w):G0 b K pc 24 i d mv w:=by
 obtain⟨bs,s,S,H,hd,hm⟩:=At.out (by decide) (by decide) (by decide) (by decide) (by decide) (by decide) (by decide) A
 have HS:=H.hs
 have HG:=H.go
 have C:Co K (i / K.k) i s:=H.c
 obtain⟨qs,q1,q2,q3,q4⟩:=C.ps
 have hE:=Qp (K:=K) hK.k1 (a:=i) (by omega)
 have hE1:=Qp (K:=K) hK.k1 (a:=i-1) (by omega)
 have hml:=A8b hK (R:=i-1) (by omega) (by omega)
 have hmi:s.mi=miss K.k (i-1):=H.mi
 have hhi:s.hi=i-1-miss K.k (i-1):=H.hi
 have hcv:s.cv=if i-1=0 then 0 else 2+gI K*((i-1) / K.k):=H.cv
 have hve:=C.ve
 have key:(s.ve=s.cv/\miss K.k i=miss K.k (i-1))∨(s.ve≠s.cv/\miss K.k i=miss K.k (i-1)+1):=by
  have hk:=hK.k1
  by_cases hi:i=1
  ·subst hi
   right
   rw[if_pos (by omega)]at hcv
   refine⟨?_,?_⟩
   ·rw[hve,hcv]
    rcases gI2 (K:=K) with ⟨e,_⟩|⟨e,_⟩<;>rw[e]<;>omega
   ·unfold miss
    rw[show (1:Int)-1=0 by omega,Int.zero_ediv]
    by_cases hk1:1<K.k
    ·rw[if_pos ⟨hk1,by omega⟩,if_neg (by omega),Int.ediv_eq_zero_of_lt (a:=1) (b:=K.k) (by omega) hk1]
     rfl
    ·have:K.k=1:=by omega
     rw[this]
     decide
  ·rw[if_neg (by omega)]at hcv
   have e1:(1<K.k/\1<=i) ↔ (1<K.k/\1<=i-1):=by omega
   by_cases h0:i%K.k=0
   ·have hdv:=Va (K:=K) hk h0
    right
    refine⟨?_,?_⟩
    ·rw[hve,hcv,hdv,gIE]
     rcases gI2 (K:=K) with ⟨e,_⟩|⟨e,_⟩<;>rw[e]<;>omega
    ·unfold miss
     rw[hdv]
     simp only[e1]
     omega
   ·have hdv:=Xw (K:=K) hk h0
    left
    refine⟨by rw[hve,hcv,hdv],?_⟩
    unfold miss
    rw[hdv]
    simp only[e1]
 refine(A9x (q0:=pA) (qs:=qs) (r1:=rx K 16 i .none) (r2:=rx K 24 i .none) S HS H.a (by rw[H.r];rfl) q1 (by rw[q1];simp only[List.length_cons];omega) (by rw[q1];exact Jr (i:=0) rfl ⟨rfl,rfl,rfl⟩ fun j q hj=>by omega) rfl rfl rfl (by omega) (by omega) (by omega) (by omega) (fun _=>H.cq) (by rw[H.r];exact up8 _ _) (up7 _ _)).mono fun _ _ ⟨he,h⟩=>⟨he,?_⟩
 refine At.mk (by decide) (by decide) (by decide) (by decide) (by decide) (by decide) (by decide) ⟨bs,_,h,⟨ps1 (ps1 H.a (Eb 22 (by decide))) (Eb 23 (by decide)),rfl,rfl,rfl,H.tk,fun _=>H.r1 (by decide),fun h=>by omega,?_,?_,?_,rfl,?_⟩,hd,hm⟩
 ·show (if s.ve=s.cv then s.mi else s.mi+1)=miss K.k i
  rcases key with ⟨e1,e2⟩|⟨e1,e2⟩
  ·rw[if_pos e1];omega
  ·rw[if_neg e1];omega
 ·show (if s.ve=s.cv then s.hi+1 else s.hi)=i-miss K.k i
  rcases key with ⟨e1,e2⟩|⟨e1,e2⟩
  ·rw[if_pos e1];omega
  ·rw[if_neg e1];omega
 ·show s.ve=if i=0 then 0 else 2+gI K*(i / K.k)
  rw[if_neg (by omega)]
  exact hve
 ·rw[if_neg (by decide)]
  exact⟨C.ve,C.sn,C.tn,qs,q1,q2,q3,q4⟩
theorem m24 (h1:1<=i) (h2:i<=100) (A:At b K pc 24 i d mv w):G0 b K pc 9 (i+1) d mv w:=by
 obtain⟨bs,s,S,H,hd,hm⟩:=At.out (by decide) (by decide) (by decide) (by decide) (by decide) (by decide) (by decide) A
 have HS:=H.hs
 have HG:=H.go
 have C:Co K (i / K.k) i s:=H.c
 have ei:i+1-1=i:=by omega
 have hu:u7 (i+1)=ri 7:=by unfold u7;rw[if_neg (by omega)]
 have hr9:rx K 9 (i+1) .none=rL K (i+1) (ri 7) .none .none:=by show rL K (i+1) (u7 (i+1)) .none .none=_;rw[hu]
 refine(nextF (i:=i) (n:=K.n) (r':=rx K 9 (i+1) .none) S HS H.a (by omega) (by omega) (by rw[H.r];rfl) (by rw[H.r];rfl) (by rw[H.r];rfl) (by rw[H.r,hr9];exact up0 _ _)).mono fun _ _ ⟨he,h⟩=>⟨he,?_⟩
 refine At.mk (by decide) (by decide) (by decide) (by decide) (by decide) (by decide) (by decide) ⟨bs,_,h,⟨by unfold pos;split<;>rfl,HS,HG,rfl,?_,fun _=>H.r1 (by decide),fun h=>by omega,?_,?_,?_,H.cq,?_⟩,hd,hm⟩
 ·show s.tk=i+1-1
  rw[ei];exact H.tk
 ·show s.mi=miss K.k (i+1-1)
  rw[ei];exact H.mi
 ·show s.hi=(i+1-1)-miss K.k (i+1-1)
  rw[ei];exact H.hi
 ·show s.cv=if i+1-1=0 then 0 else 2+gI K*((i+1-1) / K.k)
  rw[ei];exact H.cv
 ·rw[if_neg (by decide)]
  show Co K ((i+1-1) / K.k) (i+1-1) _
  rw[ei]
  exact⟨C.ve,C.sn,C.tn,C.ps⟩
theorem m27 (hi:i≠1) (A:At b K pc 27 i d mv w):G0 b K pc 28 i d mv w:=by
 obtain⟨bs,s,S,H,hd,hm⟩:=At.out (by decide) (by decide) (by decide) (by decide) (by decide) (by decide) (by decide) A
 have HS:=H.hs
 have HG:=H.go
 have hu:u7 i=ri 7:=by unfold u7;rw[if_neg hi]
 refine(addF S HS H.a (by rw[H.r];exact hu) (by rw[H.r];rfl)).mono fun _ _ ⟨he,h,hc,F,G⟩=>⟨he,?_⟩
 show ∃bs s h hc,_
 refine⟨bs,_,h,hc,F,H.of ⟨rfl,rfl,rfl,rfl,rfl,rfl,rfl,rfl,rfl⟩ (ps1 H.a (Eb 27 (by decide))) HS HG ?_ H.tk (.inl ⟨by decide,by decide⟩) rfl rfl (Int.le_refl _) (by decide),hd,hm,rfl,G⟩
 show {s.r with r9:=.li (some ⟨h,0,none⟩) 1 hc} = rx K 28 i (.li (some ⟨h,0,none⟩) 1 hc)
 rw[H.r]
 rfl
theorem m28 (h1:1<=i) (h2:i<=200) (A:At b K pc 28 i d mv w):G0 b K pc 29 i d mv w:=by
 obtain⟨bs,s,h,hc,S,H,hd,hm,h9,G⟩:=A
 have HS:=H.hs
 have HG:=H.go
 have htk:s.tk=i-1:=H.tk
 refine(callF (h:=h) (hc:=hc) (r1:=rx K 16 i .none) (r2:=rx K 29 i .none) S G HS H.a (by rw[H.r];rfl) h9 (H.r1 (by decide)) (by omega) (by omega) (by rw[H.r,up8,up9];rfl) (up9 _ _)).mono fun _ _ ⟨he,v,hv,F⟩=>⟨he,At.mk (by decide) (by decide) (by decide) (by decide) (by decide) (by decide) (by decide) ⟨bs,_,F,⟨ps1 H.a (Eb 28 (by decide)),rfl,rfl,rfl,?_,fun h=>by omega,fun _=>hv,H.mi,H.hi,H.cv,H.cq,?_⟩,hd,hm⟩⟩
 ·show s.tk+1=i
  omega
 ·rw[if_neg (by decide)]
  have C:Co K ((i-1) / K.k) (i-1) s:=H.c
  exact⟨C.ve,C.sn,C.tn,C.ps⟩
theorem m31 (A:At b K pc 31 i d mv w):G0 b K pc 32 i d mv w:=by
 obtain⟨bs,s,S,H,hd,hm⟩:=At.out (by decide) (by decide) (by decide) (by decide) (by decide) (by decide) (by decide) A
 exact(A8p S H.hs H.a (by rw[H.r];rfl)).mono fun _ _ ⟨he,h⟩=>⟨he,s,h,H,hd,hm⟩
theorem m32 (A:At b K pc 32 i d mv w):G0 b K pc 33 i d mv w:=by
 obtain⟨s,S,H,hd,hm⟩:=A
 exact(Aa0 H.go S).mono fun _ _ ⟨he,h⟩=>⟨he,s,h,H,hd,hm⟩
end
def sq (K:Fk):Nat->Nat×Int
 | 0=>(0,1)
 | j+1=>nx K (sq K j).1 (sq K j).2
def dd (pc:Int):Int:=if pc=1 then 0 else 1
section
variable {b:Fb} {K:Fk} {pc mv d:Int} {x:Nat} {i:Int} {w W W':World}
theorem rg0:Rgi K (sq K 0).1 (sq K 0).2:=by
 show Rgi K 0 1
 exact⟨by decide,fun _=>rfl,fun h=>absurd h (by decide),fun h=>absurd h (by decide),fun h=>absurd h (by decide),fun h=>absurd h (by decide),fun h=>absurd h (by decide),by decide,by decide⟩
theorem exT (hK:Kk K):∀m j,Rgi K (sq K j).1 (sq K j).2->muF K (sq K j).1 (sq K j).2<=m->∃T,j<=T/\T<=j+m/\(sq K T).1=33/\∀l,j<=l->l<=T->Rgi K (sq K l).1 (sq K l).2/\(l<T->(sq K l).1<33):=by
 intro m
 induction m with
 | zero=>
  intro j hR hm
  have h33:=hR.le
  unfold muF at hm
  omega
 | succ m ih=>
  intro j hR hm
  have h33:=hR.le
  by_cases h:(sq K j).1=33
  ·refine⟨j,Nat.le_refl _,by omega,h,fun l h1 h2=>?_⟩
   obtain rfl:l=j:=by omega
   exact⟨hR,fun h=>by omega⟩
  ·obtain⟨h1,h2⟩:=nx_ok hK hR (by omega)
   obtain⟨T,t1,t2,t3,t4⟩:=ih (j+1) h1 (by show muF K (nx K (sq K j).1 (sq K j).2).1 (nx K (sq K j).1 (sq K j).2).2<=m;omega)
   refine⟨T,by omega,by omega,t3,fun l h3 h4=>?_⟩
   by_cases hl:l=j
   ·subst hl
    exact⟨hR,fun _=>by omega⟩
   ·exact t4 l (by omega) h4
theorem ex_T (hK:Kk K):∃T,T<=5000/\(sq K T).1=33/\∀l,l<=T->Rgi K (sq K l).1 (sq K l).2/\(l<T->(sq K l).1<33):=by
 have hn:=hK.n
 have hn1:=hK.n1
 obtain⟨T,_,t2,t3,t4⟩:=exT hK 5000 0 rg0 (by unfold muF;simp only[sq];omega)
 exact⟨T,by omega,t3,fun l h=>t4 l (by omega) h⟩
theorem mvAt (hK:Kk K) (R:Rgi K x i) (hx:x<33) (A:At b K pc x i (dd pc) mv w):G0 b K pc (nx K x i).1 (nx K x i).2 (if (nx K x i).1=1 then 1 else dd pc) mv w:=by
 have n1:=hK.n1
 have n2:=hK.n
 have k1:=hK.k1
 have k2:=hK.k
 have i1:=R.i1
 have i8:=R.i8
 have i9:=R.i9
 have i10:=R.i10
 have i25:=R.i25
 have i16:=R.i16
 have hg:=R.g
 have hno:=R.no
 rcases (by omega:x=0∨x=1∨x=2∨x=3∨x=4∨x=5∨x=6∨x=7∨x=8∨x=9∨x=10∨x=11∨x=13∨x=15∨x=16∨x=17∨x=18∨x=19∨x=20∨x=21∨x=22∨x=24∨x=25∨x=26∨x=27∨x=28∨x=29∨x=30∨x=31∨x=32) with rfl|rfl|rfl|rfl|rfl|rfl|rfl|rfl|rfl|rfl|rfl|rfl|rfl|rfl|rfl|rfl|rfl|rfl|rfl|rfl|rfl|rfl|rfl|rfl|rfl|rfl|rfl|rfl|rfl|rfl
 ·exact m0 A
 ·exact m1 A
 ·exact m2 A
 ·obtain rfl:=i8 (by decide);exact m3 A
 ·obtain rfl:=i8 (by decide);exact m4 A
 ·obtain rfl:=i8 (by decide);exact m5 A
 ·obtain rfl:=i8 (by decide);exact m6 A
 ·obtain rfl:=i8 (by decide);exact m7 A
 ·exact m8 A
 ·have h:=m9 A
  have e:(nx K 9 i).2=i:=by unfold nx;simp only[if_true];split<;>rfl
  have e1:(nx K 9 i).1≠1:=by unfold nx;simp only[if_true];split<;>simp
  rw[e,if_neg e1]
  exact h
 ·exact m10 (i:=i) i1 (by have:=i10 (by decide) (by decide);omega) A
 ·exact m11 (i:=i) i1 (by have:=i10 (by decide) (by decide);omega) k1 k2 A
 ·exact m13 A
 ·have h:=m15 k1 A
  have e:(nx K 15 i).2=i:=by unfold nx;simp;split<;>rfl
  have e1:(nx K 15 i).1≠1:=by unfold nx;simp;split<;>simp
  rw[e,if_neg e1]
  exact h
 ·exact m16 A
 ·exact m17 A
 ·have h:=m18 hK i1 (by have:=i10 (by decide) (by decide);omega) (i16 (by decide) (by decide)) A
  have e:(nx K 18 i).2=i:=by unfold nx;simp;split<;>rfl
  have e1:(nx K 18 i).1≠1:=by unfold nx;simp;split<;>simp
  rw[e,if_neg e1]
  exact h
 ·exact m19 (hg (by decide) (by decide)) A
 ·exact m20 (hg (by decide) (by decide)) A
 ·exact m21 (i:=i) hK i1 (by have:=i10 (by decide) (by decide);omega) (i16 (by decide) (by decide)) (hg (by decide) (by decide)) A
 ·exact m22 (i:=i) hK i1 (by have:=i10 (by decide) (by decide);omega) A
 ·exact m24 (i:=i) i1 (by have:=i10 (by decide) (by decide);omega) A
 ·exact m25 A
 ·exact m26 A
 ·exact m27 (i:=i) (by have:=i25 (by decide);omega) A
 ·exact m28 (i:=i) i1 (by have:=i25 (by decide);omega) A
 ·exact m29 A
 ·exact m30 A
 ·exact m31 A
 ·exact m32 A
end
section
variable {b:Fb} {K:Fk} {pc mv d:Int} {x:Nat} {i:Int} {s:Dy} {w W W':World}
theorem Mo.mv' (h:Mo K x i s) (mv':Int):Mo K x i {s with mv:=mv'}:=by
 refine⟨h.a,h.hs,h.go,h.r,h.tk,h.r1,h.r2,h.mi,h.hi,h.cv,h.cq,?_⟩
 have hc:=h.c
 by_cases h19:x=19∨x=20∨x=21
 ·rw[if_pos h19]at hc ⊢
  exact⟨hc.ve,hc.sn,hc.tn,hc.ps⟩
 ·rw[if_neg h19]at hc ⊢
  exact⟨hc.ve,hc.sn,hc.tn,hc.ps⟩
theorem At.map {mv':Int} (h:At b K pc x i d mv W)
  (f0:FS0 b K pc mv W->FS0 b K pc mv' W')
  (f1:∀bs s,FS b K pc bs s W->s.mv=mv->FS b K pc bs {s with mv:=mv'} W')
  (f2:∀bs s,Sl b pc s bs W->s.mv=mv->Sl b pc {s with mv:=mv'} bs W')
  (f3:∀s,FL b K pc s W->s.mv=mv->FL b K pc {s with mv:=mv'} W')
  (f4:∀s,FE b K pc s W->s.mv=mv->FE b K pc {s with mv:=mv'} W')
  (f5:∀g,GA g W->GA g W'):At b K pc x i d mv' W':=by
 unfold At at h ⊢
 split at h
 ·rename_i e;rw[if_pos e];exact f0 h
 rename_i e0;rw[if_neg e0]
 split at h
 ·rename_i e;rw[if_pos e];obtain⟨bs,h1,h2⟩:=h;exact⟨bs,f1 bs _ h1 rfl,fun hd=>f2 bs _ (h2 hd) rfl⟩
 rename_i e1;rw[if_neg e1]
 split at h
 ·rename_i e;rw[if_pos e];obtain⟨bs,h1⟩:=h;exact⟨bs,f1 bs _ h1 rfl⟩
 rename_i e2;rw[if_neg e2]
 split at h
 ·rename_i e;rw[if_pos e];obtain⟨bs,h1⟩:=h;exact⟨bs,f1 bs _ h1 rfl⟩
 rename_i e3;rw[if_neg e3]
 split at h
 ·rename_i e;rw[if_pos e];obtain⟨bs,s,g,c,h1,h2,h3,h4,h5,h6⟩:=h;exact⟨bs,_,g,c,f1 bs _ h1 h4,h2.mv' _,h3,rfl,h5,f5 g h6⟩
 rename_i e4;rw[if_neg e4]
 split at h
 ·rename_i e;rw[if_pos e];obtain⟨s,h1,h2,h3,h4⟩:=h;exact⟨_,f3 _ h1 h4,h2.mv' _,h3,rfl⟩
 rename_i e5;rw[if_neg e5]
 split at h
 ·rename_i e;rw[if_pos e];obtain⟨s,h1,h2,h3,h4⟩:=h;exact⟨{s with mv:=mv'},f4 _ h1 h4,h2.mv' _,h3,rfl⟩
 rename_i e6;rw[if_neg e6]
 obtain⟨bs,s,h1,h2,h3,h4⟩:=h
 exact⟨bs,_,f1 bs _ h1 h4,h2.mv' _,h3,rfl⟩
theorem At.l (h:At b K pc x i d mv W) (hb:Below W.heap.size W W'):At b K pc x i d mv W':=
 h.map (fun h=>h.l hb) (fun _ s h e=>by rw[←e];exact h.l hb) (fun _ s h e=>by rw[←e];exact h.l hb) (fun s h e=>by rw[←e];exact h.l hb) (fun s h e=>by rw[←e];exact h.l hb) (fun _ h=>h.fr (FrT.below (ts:=[]) hb) (by decide))
structure Mn (b:Fb) (K:Fk) (pc d mv:Int) (W:World):Prop where
 s:Fs b K W
 m:∃m:Mc,MAt W b.bm {m with pace:=.int .i64 pc,due:=.int .i64 d,moves:=.int .i64 mv}
theorem At.mn (h:At b K pc x i d mv W):Mn b K pc (if x=0 then 0 else d) mv W:=by
 unfold At at h
 split at h
 ·rename_i e;rw[if_pos e];exact⟨h.s,m0F b pc mv,h.m⟩
 rename_i e0;rw[if_neg e0]
 have hF:∀{bs:Nat} {s:Dy},FS b K pc bs s W->s.d=d->s.mv=mv->Mn b K pc d mv W:=fun {bs s} F h1 h2=>by
  obtain⟨gs,lc,fo,fcc,m1,_⟩:=F.m
  rw[←h1,←h2]
  exact⟨F.s,mF b pc s (.slice (some ⟨gs,0,none⟩) 1 lc) (.slice fo 0 fcc),m1⟩
 split at h
 ·obtain⟨bs,h1,_⟩:=h;exact hF h1 rfl rfl
 split at h
 ·obtain⟨bs,h1⟩:=h;exact hF h1 rfl rfl
 split at h
 ·obtain⟨bs,h1⟩:=h;exact hF h1 rfl rfl
 split at h
 ·obtain⟨bs,s,g,c,h1,h2,h3,h4,h5,h6⟩:=h;exact hF h1 h3 h4
 split at h
 ·obtain⟨s,h1,h2,rfl,rfl⟩:=h;obtain⟨sv,fv,m⟩:=h1.m;exact⟨h1.s,mF b pc s (slv sv) fv,m⟩
 split at h
 ·obtain⟨s,h1,h2,rfl,rfl⟩:=h;obtain⟨sv,fv,m⟩:=h1.m;exact⟨h1.s,mF b pc {s with hs:=true} (slv sv) fv,m⟩
 obtain⟨bs,s,h1,h2,h3,h4⟩:=h
 exact hF h1 h3 h4
theorem At.set20 (h:At b K pc x i d mv W) (mv':Int):At b K pc x i d mv' (W.setCell ⟨b.bm,20,none⟩ (.int .i64 mv')):=by
 obtain⟨m,hm⟩:=h.mn.m
 have hf:FrT [88] W (W.setCell ⟨b.bm,20,none⟩ (.int .i64 mv')):=FrT.chg (A3j W b.bm _) (by simp only[List.mem_singleton];rintro _ rfl;exact⟨_,_,_,hm,by simp⟩)
 exact h.map (fun h=>h.set20 mv') (fun _ s h e=>h.set20 mv') (fun _ s h e=>h.set20 mv') (fun s h e=>h.set20 mv') (fun s h e=>h.set20 mv') (fun _ h=>h.fr hf (by decide))
theorem gbAt (hp0:0<=pc) (A:At b K pc x i (if x=1 then 1 else dd pc) mv w):Calls prog 27 #[pl b.bm] w fun e w'=>e=.returned (.tuple #[])/\At b K pc x i (dd pc) mv w':=by
 obtain⟨m,hm⟩:=A.mn.m
 by_cases h1:x=1
 ·subst h1
  rw[if_neg (by decide),if_pos rfl]at hm
  rw[if_pos rfl]at A
  by_cases hp:pc=1
  ·subst hp
   obtain⟨bs,S,hS⟩:=A
   refine(isDue b.bm {m with moves:=.int .i64 mv} 1 1 (fun w'=>At b K 1 1 i (dd 1) mv w') w (by decide) (by decide) hm (fun W hW=>?_)).mono fun _ _ h=>h
   exact(gbF (S.l hW) ((hS rfl).l hW)).mono fun _ _ ⟨he,h⟩=>⟨he,bs,h,fun h=>by simp[dd]at h⟩
  ·have e:dd pc=1:=by unfold dd;rw[if_neg hp]
   rw[e]
   refine(A67 b.bm {m with moves:=.int .i64 mv} pc 1 w hp0 (by omega) hm).mono fun _ _ ⟨he,hb⟩=>⟨he,A.l hb⟩
 ·rw[if_neg h1]at A hm
  refine(A67 b.bm {m with moves:=.int .i64 mv} pc (if x=0 then 0 else dd pc) w hp0 ?_ hm).mono fun _ _ ⟨he,hb⟩=>⟨he,A.l hb⟩
  unfold dd
  split
  ·omega
  ·split<;>omega
abbrev Fb.box (b:Fb) (x:Option Nat):Fb:={b with bx:=x}
theorem Fs.boxed {y:Option Nat} (h:Fs b K W) (hy:∀z,y=some z->Blk W z #[.pointer (some ⟨b.bl,0,none⟩)] 69):Fs (b.box y) K W:=⟨h.l,h.q,h.i,h.p,h.pi,h.k,h.ts,h.f,h.low,h.ge,hy⟩
theorem FS0.box {y:Option Nat} (h:FS0 b K pc mv W) (hy:∀z,y=some z->Blk W z #[.pointer (some ⟨b.bl,0,none⟩)] 69):FS0 (b.box y) K pc mv W:=⟨h.s.boxed hy,h.c,h.x,h.t,h.m,h.k⟩
structure Fin (b:Fb) (K:Fk) (pc mv:Int) (W:World):Prop where
 s:Fs b K W
 t:TAt W b.bt (tF b 0)
 m:∃(s:Dy) (sv:Option Addr×Nat×Nat) (fv:Value),MAt W b.bm {mF b pc s (slv sv) fv with over:=.bool true,rc:=.int .i64 0}/\Mo K 31 (K.n+1) s/\s.mv=mv/\Uv b s.rr W
theorem w64 {j:Nat} (h:j<=5000):wrap64 ((j:Int)+1)=((j+1:Nat):Int):=by unfold wrap64;omega
theorem runF {T N:Nat} (hK:Kk K) (hp0:0<=pc) (hT:T<=5000) (h33:(sq K T).1=33) (hq:∀l,l<=T->Rgi K (sq K l).1 (sq K l).2/\(l<T->(sq K l).1<33)) (hN:T+1<=N) (hN1:N<=9223372036854775807) (A:FS0 b K pc 0 w) :
  Calls prog 19 #[pl b.bl,.int .i64 N] w fun e w'=>e=.returned (.tuple #[])/\Fin (b.box none) K pc (T+1:Nat) w':=by
 obtain⟨b',hb'⟩:∃b',b'=b.box (some w.heap.size):=⟨_,rfl⟩
 have hbl:b'.bl=b.bl:=by rw[hb']
 have hbm:b'.bm=b.bm:=by rw[hb']
 have bxc:∀{W:World},Fs b' K W->W.cell? ⟨w.heap.size,0,none⟩=some (pl b.bl):=fun h=>by
  have h1:=h.box w.heap.size (by rw[hb'])
  rw[hbl]at h1
  exact h1.cell 0
 have lc:∀{W:World},Fs b' K W->W.cell? ⟨b.bl,0,none⟩=some (pl b.bm):=fun h=>by
  obtain⟨la,l1,l2,_⟩:=h.l
  rw[hbl]at l1
  rw[hbm]at l2
  exact(l1.cell 0).trans l2.m
 have h0:At b' K pc (sq K 0).1 (sq K 0).2 (if (sq K 0).1=1 then 1 else dd pc) (0:Nat) (w.alloc (.cells #[pl b.bl] 69)):=by
  have h1:=(A.l ((Below.refl _ _).alloc (Nat.le_refl _) (.cells #[pl b.bl] 69))).box (y:=some w.heap.size) (fun z hz=>by obtain rfl:=Option.some.inj hz;exact Blk.new w _ _)
  rw[←hb']at h1
  exact h1
 refine(A8q b.bl b.bm N (fun j W=>j<=T/\At b' K pc (sq K j).1 (sq K j).2 (if (sq K j).1=1 then 1 else dd pc) j W) (fun j W=>j<=T/\At b' K pc (sq K j).1 (sq K j).2 (if (sq K j).1=1 then 1 else dd pc) (j+1:Nat) W) (fun j W=>j<=T/\At b' K pc (sq K j).1 (sq K j).2 (dd pc) (j+1:Nat) W)
  (fun m' W=>Fs b' K W/\TAt W b'.bt (tF b' 0)/\∃(s:Dy) (sv:Option Addr×Nat×Nat) (fv:Value),m'=mF b' pc {s with hs:=false} (slv sv) fv/\MAt W b'.bm m'/\Mo K 31 (K.n+1) s/\s.mv=(T+1:Nat)/\Uv b' s.rr W) w hN1 ?hZ ?hS ?hZ0 ?hZ1 ?hE ?HG ?HM ⟨Nat.zero_le _,h0⟩).mono ?_
 case hZ=>
  rintro j W ⟨_,h⟩
  obtain⟨m,hm⟩:=h.mn.m
  rw[hbm]at hm
  exact⟨bxc h.mn.s,lc h.mn.s,j,hm.cell 20,hm.frozen 20⟩
 case hS=>
  rintro j W mv hj ⟨hjT,h⟩ hc
  obtain⟨m,hm⟩:=h.mn.m
  rw[hbm]at hm
  have e:some (Value.int .i64 mv)=some (.int .i64 j):=hc.symm.trans (hm.cell 20)
  obtain rfl:mv=j:=by injection e with e;injection e
  rw[w64 (by omega)]
  exact⟨hjT,hbm▸h.set20 _⟩
 case hZ0=>exact fun j W ⟨_,h⟩=>⟨bxc h.mn.s,lc h.mn.s⟩
 case hZ1=>exact fun j W ⟨_,h⟩=>bxc h.mn.s
 case hE=>
  rintro m' W ⟨h,_,s,sv,fv,rfl,hm,_⟩
  rw[hbm]at hm
  exact⟨bxc h,lc h,hm⟩
 case HG=>
  rintro j W hj ⟨hjT,h⟩
  have h2:=gbAt (b:=b') hp0 h
  rw[hbm]at h2
  exact h2.mono fun e w' ⟨he,h1⟩=>⟨he,hjT,h1⟩
 case HM=>
  rintro j W hj ⟨hjT,h⟩
  obtain⟨hR,hlt⟩:=hq j hjT
  by_cases hjj:j<T
  ·have h2:=mvAt hK hR (hlt hjj) h
   unfold G0 at h2
   rw[hbl]at h2
   exact h2.mono fun e w' ⟨he,h1⟩=>.inl ⟨he,by omega,h1⟩
  ·obtain rfl:j=T:=by omega
   have hi:(sq K j).2=K.n+1:=hR.i25 (by omega)
   rw[h33,hi]at h
   obtain⟨s,S,H,hd,hm⟩:=h
   have h2:=endF (s:={s with hs:=true}) H.go S
   rw[hbl]at h2
   exact h2.mono fun e w' ⟨he,h1,h3,h4,sv,fv,h5⟩=>.inr ⟨he,_,h1,h3,s,sv,fv,rfl,h5,H,hm,h4⟩
 rintro e w' ⟨rfl,⟨hl,_⟩|⟨m',W,⟨hs,ht,s,sv,fv,rfl,hm,H,hmv,hr⟩,hc,hM⟩⟩
 ·omega
 ·have hf:FrT [88] W w':=FrT.chg hc (by simp only[List.mem_singleton];rintro _ rfl;exact⟨_,_,_,hbm▸hm,by simp⟩)
  have hlo:b'.lo<=W.heap.size:=Nat.le_trans hs.ge.2.2.1 (Nat.le_of_lt ht.lt)
  have hs':=hs.fr (hf.wide (by simp)) (hc.low hlo (by simp only[List.mem_singleton];rintro _ rfl;exact hbm▸hs.ge.2.2.2.1))
  subst hb'
  refine⟨rfl,hs'.boxed (y:=none) (fun z hz=>by cases hz),ht.fr hf (by decide),{s with hs:=false},sv,fv,hM,?_,hmv,hr.fr hf (by decide)⟩
  have:=H.hs
  cases s
  simp only at this
  subst this
  exact H
end
end Go.Proofs.YtbefeflgjipfhaaGreatDoor
namespace Go.Proofs.YtbefeflgjipfhaaGreatDoor
open Go.Deep Go.Proofs.Tryz Go.RowKit
attribute [local go_sem] A7 vi
abbrev rcL:List Value:=[.int .i64 6,.int .i64 0,.int .i64 0,.int .i64 0,.string s7]
theorem Ec.ofOwn {w:World} {lo g cap:Nat} {e size n:Nat} {xs:List Value} (h:w.ownsRow lo e size (.slice (some ⟨g,0,none⟩) n cap) n xs):Ec w g 0 xs:=by
 rcases Bz h with ⟨e,_,_⟩|⟨g',c,e,_,_,_,hC⟩
 ·cases e
 ·injection e with e _ _
  injection e with e
  injection e with e _ _
  subst e
  exact hC
theorem Sk (b cap:Nat) (w:World) (h:Ec w b 0 rcL) :
  Calls prog 188 #[.slice (some ⟨b,0,none⟩) 1 cap] w fun e w'=>∃g c,e=.returned (.slice (some ⟨g,0,none⟩) 1 c)/\w'.ownsRow w.heap.size 92 5 (.slice (some ⟨g,0,none⟩) 1 c) 1 rcL/\Below w.heap.size w w':=by
 obtain⟨i0,hi,hz0,hz1,hz2⟩:=info_parts A5d.hi
 have HC:Hid (∀j u,rcL[j]?=some u->w.cell? ((⟨b,0,none⟩:Addr).add j)=some u):=Ec.news h
 have HL:Hid (rcL.length=1*5):=rfl
 have HO:Hid (∀u∈rcL,u.oneCell'=true):=by show ∀u∈rcL,u.oneCell'=true;simp[Value.oneCell']
 generalize rcL=L at *
 clear h
 go_enter func188,ntmps188
 go_wp2_with (at_builtin;refine wpList_append_own_at _ rfl _ _ 38 rfl w.heap.size 92 i0 _ 5 48 A5d.ht hi hz0 hz1 hz2 rfl (by decide) _ 0 [] rfl (World.ownsRow_nil _ _ _ _) ⟨b,0,none⟩ 1 cap L rfl HL.out HC.out HO.out ?qc4 ?qc5 (Nat.le_refl _) ?_)
 case qc4=>unfold maxLen;omega
 case qc5=>omega
 intro v' w1 hown hgrow _ _
 replace hown:w1.ownsRow w.heap.size 92 5 v' 1 L:=by simpa using hown
 have B1:Below w.heap.size w w1:=(Below.refl _ w).grown hgrow (Nat.le_refl _) (by intro k hk;simp[Value.ownBlock]at hk)
 obtain⟨g,c,rfl⟩:∃g c,v'=.slice (some ⟨g,0,none⟩) 1 c:=by
  rcases Aj hown with ⟨_,h⟩|⟨h,cap,e1,_⟩
  ·cases h
  ·exact⟨h,cap,e1⟩
 go_wp2_with fail
 go_ret
 exact⟨_,_,rfl,hown,B1⟩
abbrev rpA (r:Value) (tk sn:Int):Array Value:=#[.int .i64 0,r,.slice none 0 0,.string ByteArray.empty,.string ByteArray.empty,.int .i64 tk,.int .i64 sn]
abbrev rpZ:Array Value:=#[.int .i64 0,.slice none 0 0,.slice none 0 0,.string ⟨#[]⟩,.string ⟨#[]⟩,.int .i64 0,.int .i64 0]
theorem Qo (b cap:Nat) (tk sn:Int) (w:World) (h:Ec w b 0 rcL) (hb:b<w.heap.size) :
  Calls prog 107 #[.agg (rpA (.slice (some ⟨b,0,none⟩) 1 cap) tk sn)] w fun e w'=>∃g c,e=.returned (.agg (rpA (.slice (some ⟨g,0,none⟩) 1 c) tk sn))/\w'.ownsRow w.heap.size 92 5 (.slice (some ⟨g,0,none⟩) 1 c) 1 rcL/\Below w.heap.size w w':=by
 have B0:Below w.heap.size w ((w.alloc (.cells (rpA (.slice (some ⟨b,0,none⟩) 1 cap) tk sn) 40)).alloc (.cells rpZ 40)):=bl2 ((Below.refl _ _).alloc (Nat.le_refl _) _) ((Below.refl _ _).alloc (Nat.le_refl _) _)
 have X0:Blk ((w.alloc (.cells (rpA (.slice (some ⟨b,0,none⟩) 1 cap) tk sn) 40)).alloc (.cells rpZ 40)) w.heap.size (rpA (.slice (some ⟨b,0,none⟩) 1 cap) tk sn) 40:=(Blk.new w _ _).alloc _
 have Y0:Blk ((w.alloc (.cells (rpA (.slice (some ⟨b,0,none⟩) 1 cap) tk sn) 40)).alloc (.cells rpZ 40)) (w.heap.size+1) rpZ 40:=Blk.nh _ _ (by simp)
 have HC:Hid (Ec w b 0 rcL):=h
 clear h
 go_enter func107,ntmps107
 go_wp2_with fail
 revert B0 X0 Y0
 generalize (w.alloc (.cells (rpA (.slice (some ⟨b,0,none⟩) 1 cap) tk sn) 40)).alloc (.cells rpZ 40)=V
 intro B0 X0 Y0
 have DV:Below V.heap.size V V.drew:=(Below.refl _ _).drew
 have x2:V.drew.cell? ⟨w.heap.size,2,none⟩=some (.slice none 0 0):=X0.cell 2
 refine rgM (fun W=>W.cell? ⟨w.heap.size,2,none⟩=some (.slice none 0 0)) x2 (fun hS=>?_)
 refine He [0,3,4,1,2,5,6,7,8,9] (by kernel_rfl) ?_
 iterate 3 (refine tkM rfl (by kernel_rfl) (by rfl) hS ⟨?_,fun W hW=>?_,?_⟩;rotate_left;(focus (go_simp;with_reducible rfl));simp only[Act.put,List.getElem_toArray,List.getElem_cons_zero,List.getElem_cons_succ,List.setIfInBounds_toArray,List.set_cons_succ,List.set_cons_zero])
 have xd:=(X0.l DV).cell
 refine doM rfl (by kernel_rfl) (by rfl) (fun K2 hK2=>?_)
 go_wp2_with fail
 refine hK2.out _ _ x2 (fun hS=>?_)
 clear hK2 K2 xd
 try simp only[Act.put,List.getElem_toArray,List.getElem_cons_zero,List.getElem_cons_succ,List.setIfInBounds_toArray,List.set_cons_succ,List.set_cons_zero]
 refine doM rfl (by kernel_rfl) (by rfl) (fun K2 hK2=>?_)
 go_wp2_with fail
 refine(Sk b cap _ (fun j u hj=>(World.cell?_of_block ((bl2 B0 DV).block b hb)).trans (HC.out j u hj))).mono ?_
 rintro e w1 ⟨g,c,rfl,O1,B1⟩
 have X1:=(X0.l DV).l B1
 have Y1:=(Y0.l DV).l B1
 have BW:Below w.heap.size w w1:=bl2 (bl2 B0 DV) B1
 have HO1:Hid (w1.ownsRow V.drew.heap.size 92 5 (.slice (some ⟨g,0,none⟩) 1 c) 1 rcL):=O1
 have hgV:V.heap.size<=g:=(O1.lt g (by simp[Value.ownBlock])).1
 have hs0:=X0.lt
 have hs1:=Y0.lt
 refine hK2.out _ _ (X1.cell 2) (fun hS=>?_)
 clear hK2 K2 O1
 try simp only[Act.put,List.getElem_toArray,List.getElem_cons_zero,List.getElem_cons_succ,List.setIfInBounds_toArray,List.set_cons_succ,List.set_cons_zero]
 refine He [6,5,7,8,9] (by kernel_rfl) ?_
 (refine tkM rfl (by kernel_rfl) (by rfl) hS ⟨?_,fun W hW=>?_,?_⟩;rotate_left;(focus (go_simp;with_reducible rfl));simp only[Act.put,List.getElem_toArray,List.getElem_cons_zero,List.getElem_cons_succ,List.setIfInBounds_toArray,List.set_cons_succ,List.set_cons_zero])
 refine doM rfl (by kernel_rfl) (by rfl) (fun K2 hK2=>?_)
 go_wp2_with fail
 refine(Sm _).mono ?_
 rintro e w2 ⟨rfl,rfl⟩
 refine hK2.out _ _ (X1.cell 2) (fun hS=>?_)
 clear hK2 K2
 try simp only[Act.put,List.getElem_toArray,List.getElem_cons_zero,List.getElem_cons_succ,List.setIfInBounds_toArray,List.set_cons_succ,List.set_cons_zero]
 have x1:=X1.cell
 have f1:=X1.frozen
 refine doM rfl (by kernel_rfl) (by rfl) (fun K2 hK2=>?_)
 go_wp2_with fail
 have X2:=X1.set 1 (.slice (some ⟨g,0,none⟩) 1 c)
 refine hK2.out _ _ (X2.cell 2) (fun hS=>?_)
 clear hK2 K2
 try simp only[Act.put,List.getElem_toArray,List.getElem_cons_zero,List.getElem_cons_succ,List.setIfInBounds_toArray,List.set_cons_succ,List.set_cons_zero]
 (refine tkM rfl (by kernel_rfl) (by rfl) hS ⟨?_,fun W hW=>?_,?_⟩;rotate_left;(focus (go_simp;with_reducible rfl));simp only[Act.put,List.getElem_toArray,List.getElem_cons_zero,List.getElem_cons_succ,List.setIfInBounds_toArray,List.set_cons_succ,List.set_cons_zero])
 have x2':=X2.cell
 have f2:=X2.frozen
 refine doM rfl (by kernel_rfl) (by rfl) (fun K2 hK2=>?_)
 go_wp2_with fail
 have X3:=X2.set 2 (.slice none 0 0)
 have C3:Chg [w.heap.size] w2 ((w2.setCell ⟨w.heap.size,1,none⟩ (.slice (some ⟨g,0,none⟩) 1 c)).setCell ⟨w.heap.size,2,none⟩ (.slice none 0 0)):=((Chg.refl _ _).set (by simp) _ _).set (by simp) _ _
 have Y3:=Y1.chg C3 (by simp)
 have B3:=BW.trans (C3.low (lo:=w.heap.size) BW.size (by simp))
 have HO3:Hid (World.ownsRow _ w.heap.size 92 5 (.slice (some ⟨g,0,none⟩) 1 c) 1 rcL):=Ae (Fg HO1.out (Nat.le_of_lt hs0)) (fun k hk=>C3.block k (by simp[Value.ownBlock]at hk;subst hk;simp;omega) (HO1.out.lt k hk).2)
 refine hK2.out _ _ (X3.cell 2) (fun _=>enM (by kernel_rfl) ?_)
 clear hK2 K2 x1 f1 x2' f2 X1 Y1 X2 C3
 revert X3 Y3 B3 HO3
 generalize (w2.setCell ⟨w.heap.size,1,none⟩ (.slice (some ⟨g,0,none⟩) 1 c)).setCell ⟨w.heap.size,2,none⟩ (.slice none 0 0)=U
 intro X3 Y3 B3 HO3
 have X4:Blk U w.heap.size (rpA (.slice (some ⟨g,0,none⟩) 1 c) tk sn) 40:=X3
 have x4:=X4.cell
 have y4:=Y3.cell
 have yf:=Y3.frozen
 simp only[NoPanic]
 go_wp2_with fail
 have C9:=(((((((Chg.refl [w.heap.size+1] U).set (List.mem_singleton.2 rfl) 0 (.int .i64 0)).set (List.mem_singleton.2 rfl) 1 (.slice (some ⟨g,0,none⟩) 1 c)).set (List.mem_singleton.2 rfl) 2 (.slice none 0 0)).set (List.mem_singleton.2 rfl) 3 (.string ByteArray.empty)).set (List.mem_singleton.2 rfl) 4 (.string ByteArray.empty)).set (List.mem_singleton.2 rfl) 5 (.int .i64 tk)).set (List.mem_singleton.2 rfl) 6 (.int .i64 sn)
 have r:=(((((((Y3.set 0 (.int .i64 0)).set 1 (.slice (some ⟨g,0,none⟩) 1 c)).set 2 (.slice none 0 0)).set 3 (.string ByteArray.empty)).set 4 (.string ByteArray.empty)).set 5 (.int .i64 tk)).set 6 (.int .i64 sn)).cell
 exact bodyPost_ret (v:=.agg (rpA (.slice (some ⟨g,0,none⟩) 1 c) tk sn)) (by simp[results,results107,go_sem,r]) rfl ⟨g,c,rfl,Ae HO3.out (fun k hk=>C9.block k (by simp[Value.ownBlock]at hk;subst hk;simp;omega) (HO3.out.lt k hk).2),B3.trans (C9.low (lo:=w.heap.size) B3.size (by simp))⟩
abbrev mzA:Array Value:=#[.int .i64 0,.int .i64 0,.int .i64 0,.int .i64 0,.int .i64 0,.slice none 0 0,.slice none 0 0,.int .i64 0,.int .i64 0,.slice none 0 0,.int .i64 0,.bool false,.slice none 0 0,.int .i64 0,.slice none 0 0,.string ⟨#[]⟩,.bool false,.int .i64 0,.int .i64 0,.int .i64 0,.int .i64 0,.slice none 0 0,.slice none 0 0,.string ⟨#[]⟩,.string ⟨#[]⟩,.int .i64 0,.int .i64 0]
def foA (pc hi mi mv tk sn:Int) (g c:Nat):Array Value:=#[.int .i64 pc,.int .i64 0,.int .i64 0,.int .i64 0,.int .i64 0,.slice none 0 0,.slice none 0 0,.int .i64 hi,.int .i64 mi,.slice none 0 0,.int .i64 0,.bool false,.slice none 0 0,.int .i64 0,.slice none 0 0,.string ByteArray.empty,.bool true,.int .i64 0,.int .i64 0,.int .i64 mv,.int .i64 0,.slice (some ⟨g,0,none⟩) 1 c,.slice none 0 0,.string ByteArray.empty,.string ByteArray.empty,.int .i64 tk,.int .i64 sn]
theorem Ye (bm b cap:Nat) (m:Mc) (pc hi mi mv tk sn:Int) (so:Option Addr) (sl sc:Nat) (w:World) (h:Ec w b 0 rcL) (hb:b<w.heap.size)
  (M:MAt w bm {m with pace:=.int .i64 pc,hits:=.int .i64 hi,misses:=.int .i64 mi,over:=.bool true,moves:=.int .i64 mv,rc:=.int .i64 0,rr:=.slice (some ⟨b,0,none⟩) 1 cap,rv:=.slice none 0 0,re:=.string ByteArray.empty,rt:=.string ByteArray.empty,rk:=.int .i64 tk,rm:=.int .i64 sn}) :
  Calls prog 29 #[pl bm,.slice so sl sc] w fun e w'=>∃g c,e=.returned (.agg (foA pc hi mi mv tk sn g c))/\w'.ownsRow w.heap.size 92 5 (.slice (some ⟨g,0,none⟩) 1 c) 1 rcL/\Below w.heap.size w w':=by
 have B0:Below w.heap.size w (w.alloc (.cells mzA 42)):=(Below.refl _ _).alloc (Nat.le_refl _) _
 have Z0:=Blk.new w mzA 42
 have HC:Hid (Ec w b 0 rcL):=h
 have M0:=M.l B0
 have m0:=M0.cell
 clear h
 go_enter func29,ntmps29
 go_wp2_with fail
 clear m0
 revert B0 Z0 M0
 generalize w.alloc (.cells mzA 42)=V
 intro B0 Z0 M0
 have DV:Below V.heap.size V V.drew:=(Below.refl _ _).drew
 refine rgM (fun W=>∀o,W.cell? ⟨bm,o,none⟩=(Mc.arr {m with pace:=.int .i64 pc,hits:=.int .i64 hi,misses:=.int .i64 mi,over:=.bool true,moves:=.int .i64 mv,rc:=.int .i64 0,rr:=.slice (some ⟨b,0,none⟩) 1 cap,rv:=.slice none 0 0,re:=.string ByteArray.empty,rt:=.string ByteArray.empty,rk:=.int .i64 tk,rm:=.int .i64 sn})[o]?) (M0.l DV).cell (fun hS=>?_)
 iterate 20 (refine tkM rfl (by kernel_rfl) (by rfl) hS ⟨?_,fun W hW=>?_,?_⟩;rotate_left;(focus (go_simp;with_reducible rfl));simp only[Act.put,List.getElem_toArray,List.getElem_cons_zero,List.getElem_cons_succ,List.setIfInBounds_toArray,List.set_cons_succ,List.set_cons_zero])
 refine doM rfl (by kernel_rfl) (by rfl) (fun K2 hK2=>?_)
 go_wp2_with fail
 refine(Qo b cap tk sn _ (fun j u hj=>(World.cell?_of_block ((bl2 B0 DV).block b hb)).trans (HC.out j u hj)) (Nat.lt_of_lt_of_le hb (bl2 B0 DV).size)).mono ?_
 rintro e w1 ⟨g,c,rfl,O1,B1⟩
 have M1:=(M0.l DV).l B1
 have Z1:=(Z0.l DV).l B1
 have BW:Below w.heap.size w w1:=bl2 (bl2 B0 DV) B1
 have HO1:Hid (w1.ownsRow V.drew.heap.size 92 5 (.slice (some ⟨g,0,none⟩) 1 c) 1 rcL):=O1
 have hgV:V.heap.size<=g:=(O1.lt g (by simp[Value.ownBlock])).1
 have hs0:=Z0.lt
 refine hK2.out _ _ M1.cell (fun hS=>?_)
 clear hK2 K2 O1
 try simp only[Act.put,List.getElem_toArray,List.getElem_cons_zero,List.getElem_cons_succ,List.setIfInBounds_toArray,List.set_cons_succ,List.set_cons_zero]
 (refine tkM rfl (by kernel_rfl) (by rfl) hS ⟨?_,fun W hW=>?_,?_⟩;rotate_left;(focus (go_simp;with_reducible rfl));simp only[Act.put,List.getElem_toArray,List.getElem_cons_zero,List.getElem_cons_succ,List.setIfInBounds_toArray,List.set_cons_succ,List.set_cons_zero])
 refine doM rfl (by kernel_rfl) (by rfl) (fun K2 hK2=>?_)
 refine wp_store_mid 42 (.tmp 4) (.tmp 36) rfl w.heap.size 0 (foA pc hi mi mv tk sn g c) (by simp[Act.eval]) (by simp[Act.eval,foA];try rfl) Z1.there (by kernel_rfl) (by simp[Value.oneCell',foA]) ?_
 have C2:Chg [w.heap.size] w1 (w1.setCells w.heap.size 0 (foA pc hi mi mv tk sn g c).toList):=Chg.sets' (L:=[w.heap.size]) (List.mem_singleton.2 rfl) _ 0 (Chg.refl _ _)
 have HR:=World.rangeAt_setCells_same w1 w.heap.size 0 (foA pc hi mi mv tk sn g c).toList Z1.there
 have M2:=M1.chg C2 (by simpa using Nat.ne_of_lt M.lt)
 have HB2:Hid (Below w.heap.size w (w1.setCells w.heap.size 0 (foA pc hi mi mv tk sn g c).toList)):=BW.trans (C2.low (lo:=w.heap.size) BW.size (by simp))
 have HO2:Hid (World.ownsRow (w1.setCells w.heap.size 0 (foA pc hi mi mv tk sn g c).toList) w.heap.size 92 5 (.slice (some ⟨g,0,none⟩) 1 c) 1 rcL):=Ae (Fg HO1.out (Nat.le_of_lt hs0)) (fun k hk=>C2.block k (by simp[Value.ownBlock]at hk;subst hk;simp;omega) (HO1.out.lt k hk).2)
 refine hK2.out _ _ M2.cell (fun _=>enM (by kernel_rfl) ?_)
 clear hK2 K2
 simp only[NoPanic]
 go_wp2_with fail
 exact bodyPost_ret (Ns (b:=w.heap.size) (cs:=(foA pc hi mi mv tk sn g c).toList) results29 rfl HR underlying42 rfl (by kernel_rfl)) rfl ⟨g,c,rfl,HO2.out,HB2.out⟩
theorem A3r (bm b cap:Nat) (m:Mc) (pc hi mi mv tk sn:Int) (so:Option Addr) (sl sc:Nat) (w:World) (h:Ec w b 0 rcL) (hb:b<w.heap.size)
  (M:MAt w bm {m with pace:=.int .i64 pc,slots:=.slice so sl sc,hits:=.int .i64 hi,misses:=.int .i64 mi,over:=.bool true,moves:=.int .i64 mv,rc:=.int .i64 0,rr:=.slice (some ⟨b,0,none⟩) 1 cap,rv:=.slice none 0 0,re:=.string ByteArray.empty,rt:=.string ByteArray.empty,rk:=.int .i64 tk,rm:=.int .i64 sn}) :
  Calls prog 21 #[pl bm] w fun e w'=>∃g c,e=.returned (.agg (foA pc hi mi mv tk sn g c))/\w'.ownsRow w.heap.size 92 5 (.slice (some ⟨g,0,none⟩) 1 c) 1 rcL/\Below w.heap.size w w':=by
 have B0:Below w.heap.size w (w.alloc (.cells mzA 42)):=(Below.refl _ _).alloc (Nat.le_refl _) _
 have Z0:=Blk.new w mzA 42
 have M0:=M.l B0
 have m5:_=some (Value.slice so sl sc):=M0.cell 5
 have HF:Hid (Calls prog 29 #[pl bm,.slice so sl sc] (w.alloc (.cells mzA 42)) _):=Ye bm b cap {m with slots:=.slice so sl sc} pc hi mi mv tk sn so sl sc (w.alloc (.cells mzA 42)) (fun j u hj=>(World.cell?_of_block (B0.block b hb)).trans (h j u hj)) (Nat.lt_of_lt_of_le hb B0.size) M0
 clear h M0 M
 go_enter func21,ntmps21
 refine wp_seq_k ?_
 intro K hK
 have HK:Hid _:=hK
 clear hK
 go_wp2_with fail
 refine HK.out _ _ ?_
 clear HK K
 revert B0 Z0 HF m5
 generalize w.alloc (.cells mzA 42)=V
 intro B0 Z0 m5 HF
 refine wp_seq_k ?_
 intro K hK
 have HK:Hid _:=hK
 clear hK
 refine rgL ?_
 repeat (refine plF rfl ⟨?_,?_,?_⟩;rotate_left;(focus go_simp;with_reducible rfl);try simp only[Act.put,List.setIfInBounds_toArray,List.set_cons_zero,List.set_cons_succ])
 refine wpList_plain rfl fun K hK=>?_
 have HK4:Hid _:=hK
 clear hK
 go_wp2_with fail
 refine HF.out.mono ?_
 rintro e w1 ⟨g,c,rfl,O1,B1⟩
 have Z1:=Z0.l B1
 have BW:Below w.heap.size w w1:=bl2 B0 B1
 have hgV:V.heap.size<=g:=(O1.lt g (by simp[Value.ownBlock])).1
 have hs0:=Z0.lt
 go_wp2_with fail
 refine HK4.out _ _ ?_
 refine plS rfl ⟨_,Ld (b:=w.heap.size) (o:=0) (cells:=foA pc hi mi mv tk sn g c) (x:=.tmp 2) (y:=.tmp 8) Z1.there (by kernel_rfl) (by simp[Value.oneCell',foA]) rfl (by simp[Act.eval]) (by simp[Act.eval];try rfl),?_⟩
 refine wpList_nil ?_
 refine HK.out _ _ ?_
 have C2:Chg [w.heap.size] w1 (w1.setCells w.heap.size 0 (foA pc hi mi mv tk sn g c).toList):=Chg.sets' (L:=[w.heap.size]) (List.mem_singleton.2 rfl) _ 0 (Chg.refl _ _)
 have HR:=World.rangeAt_setCells_same w1 w.heap.size 0 (foA pc hi mi mv tk sn g c).toList Z1.there
 have HB2:Hid (Below w.heap.size w (w1.setCells w.heap.size 0 (foA pc hi mi mv tk sn g c).toList)):=BW.trans (C2.low (lo:=w.heap.size) BW.size (by simp))
 have HO2:Hid (World.ownsRow (w1.setCells w.heap.size 0 (foA pc hi mi mv tk sn g c).toList) w.heap.size 92 5 (.slice (some ⟨g,0,none⟩) 1 c) 1 rcL):=Ae (Fg O1 (Nat.le_of_lt hs0)) (fun k hk=>C2.block k (by simp[Value.ownBlock]at hk;subst hk;simp;omega) (O1.lt k hk).2)
 go_wp2_with fail
 exact bodyPost_ret (Ns (b:=w.heap.size) (cs:=(foA pc hi mi mv tk sn g c).toList) results21 rfl HR underlying42 rfl (by kernel_rfl)) rfl ⟨g,c,rfl,HO2.out,HB2.out⟩
end Go.Proofs.YtbefeflgjipfhaaGreatDoor
