import Derived.Test.YtjbbppblgjhapaaGreatDoorJ26
set_option maxRecDepth 100000
set_option maxHeartbeats 2000000
namespace Go.Proofs.YtjbbppblgjhapaaGreatDoor
open Go.Deep Go.Proofs.Tryz Go.RowKit
attribute [local go_sem] Zd
theorem Zi (neg:Bool) (r:Nat) (h:r<=FloatKind.f64.format.infRung):FloatKind.f64.format.order (FloatKind.f64.format.word neg r) (FloatKind.f64.format.word neg r)=some .eq:=by
 have e1:FloatKind.f64.format.signWeight=9223372036854775808:=by decide +kernel
 have e2:FloatKind.f64.format.infRung=9218868437227405312:=by decide +kernel
 rw[e2]at h;have hr:FloatKind.f64.format.word neg r%9223372036854775808=r:=by unfold Ieee.Format.word;rw[e1];split<;>omega
 unfold Ieee.Format.order;generalize FloatKind.f64.format.word neg r=x at *;have hn:∀s t,FloatKind.f64.format.read x≠.nan s t:=by
  intro s t;unfold Ieee.Format.read;simp only[e1,e2,hr];split
  ·simp
  ·split
   ·simp
   ·split
    ·simp
    ·omega
 generalize FloatKind.f64.format.read x=d at *;cases d with
 | number s m i=>simp[Ieee.Datum.order]
 | infinity s=>simp[Ieee.Datum.order]
 | nan s t=>exact absurd rfl (hn s t)
theorem Acy (n:Int):FloatKind.f64.format.order (floatOfInt .f64 n) (floatOfInt .f64 n)=some .eq:=by
 show FloatKind.f64.format.order (FloatKind.f64.format.nearest _ _ _) (FloatKind.f64.format.nearest _ _ _)=_;unfold Ieee.Format.nearest;dsimp only;split
 ·exact Zi _ _ (yE _)
 ·exact Zi _ _ (Nat.min_le_right _ _)
theorem Aao (n:Int):(FloatKind.f64.format.order (floatOfInt .f64 n) (floatOfInt .f64 n) !=some .eq)=false:=by rw[Acy];rfl
def mtg:Nat->Nat->ByteArray->ByteArray
 | 0,_,s=>s
 | f+1,k,s=>if 0<k then mtg f (k / 10) (strOfNums [48+(k:Int)%10]++s) else s
def mt (k:Nat):ByteArray:=if k=0 then ByteArray.mk #[109,48] else ByteArray.mk #[109]++mtg k k ByteArray.empty
theorem Abe {f k:Nat} {s:ByteArray} (h:0<k) (hf:k<=f):∃g,k / 10<=g/\mtg f k s=mtg g (k / 10) (strOfNums [48+(k:Int)%10]++s):=by
 cases f with
 | zero=>omega
 | succ f=>exact⟨f,by omega,by rw[mtg,if_pos h]⟩
theorem Abf (f:Nat) (s:ByteArray):mtg f 0 s=s:=by cases f<;>rfl
theorem Te (k0:Nat) (w:World) (hk:k0<=1152921504606846976) :
  Kw 117 #[k0] w (.string (mt k0)):=by
 unfold Kw;go_in;by_cases h0:k0=0
 ·subst h0;go_wp2;go_ret;exact⟨rfl,yA _ _⟩
 ·have HM:Hid (mt k0=ByteArray.mk #[109]++mtg k0 k0 ByteArray.empty):=if_neg h0;go_wp2;go_loopw [0,3] (fun x y wr=>∃(k:Nat) (s:ByteArray),(k+s.size<=1152921504606846976)/\x=k/\y=s/\Hid (∃f,k<=f/\mtg f k s=mtg k0 k0 ByteArray.empty)/\Below w w wr) (fun x _ _=>(intOf x).toNat);case atStart=>exact⟨k0,_,(by show k0+0<=_;omega),rfl,rfl,⟨k0,yB _,rfl⟩,yA _ _⟩
  case round=>
   obtain⟨k,s,hk1,rfl,rfl,HE,hb⟩:=hrel;by_cases hlt:0<k
   ·have hs1:∀x:Int,(strOfNums [x]).size=1:=Nk;go_wp2;go_roundw;case rel=>exact⟨k / 10,_,by rw[ByteArray.size_append,hs1];omega,by go_num,rfl,by obtain⟨f,hf,h⟩:=HE.out;obtain⟨g,hg,h2⟩:=Abe (s:=s) hlt hf;exact⟨g,hg,h2.symm.trans h⟩,hb.alloc hb.size _⟩
    case measure=>simp[intOf];omega
   ·obtain rfl:k=0:=by omega
    go_wp2;go_ret;obtain⟨f,_,h⟩:=HE.out;rw[Abf]at h;exact⟨by rw[HM.out,←h];rfl,hb⟩
theorem Em (x:Int) (w:World) (h0:0<=x) (h1:x<=1152921504606846976) :
  Kw 117 #[x] w (.string (mt x.toNat)):=by
 obtain⟨k,rfl⟩:∃k:Nat,x=k:=⟨x.toNat,by omega⟩;exact Te k w (by omega)
end Go.Proofs.YtjbbppblgjhapaaGreatDoor
namespace Go.Proofs.YtjbbppblgjhapaaGreatDoor
open Go.Deep Go.Proofs.Tryz Go.RowKit
variable{vs:List Value}{bf bt fc lo lo' rc:Nat}{ao ro:Option Addr}{w':World}
abbrev Ae (w:World) (b o:Nat) (vs:List Value):Prop:=w.rangeAt b o vs
theorem Ae.keep{w:World} {b o:Nat} (h:Ae w b o vs) (hk:A7 lo w w') (hl:lo<=b) (hb:b<(w:Nat)):Ae w' b o vs:=fun i v hv=>(hk.cell hl hb).trans (h i v hv)
structure Rg where
 ty:Int
 v:Vd
 box:Int
 list:List Vd
structure Fr where
 kind:Int
 th:Int
 st:Int
 rd:Bool
 pr:Int
 se:Int
 pc:Int
 ln:Int
 sv:Int
 lv:Bool
 one:Bool
 wk:Int
 wt:ByteArray
 lim:Int
 regs:List Rg
structure Tk where
 st:Int
 fn:Vd
 wa:Int
 gi:Bool
 fr:Fr
abbrev Rg.cs (r:Rg) (io:Option Addr) (ic:Nat):List Value:=[r.ty,r.v.kind,r.v.num,.float .f64 r.v.flt,r.v.str,r.v.ref,r.box,.slice io r.list.length ic]
abbrev Fr.cs (f:Fr) (ro:Option Addr) (rc:Nat):List Value:=[f.kind,f.th,f.st,.bool f.rd,nS,f.pr,f.se,f.pc,f.ln,f.sv,.slice ro f.regs.length rc,nS,.bool f.lv,.bool f.one,f.wk,nS,f.wt,f.lim]
abbrev Tk.cs (t:Tk) (fo:Option Addr) (fc:Nat):List Value:=[t.st,t.fn.kind,t.fn.num,.float .f64 t.fn.flt,t.fn.str,t.fn.ref,.slice fo 1 fc,t.wa,.bool t.gi,nS]
def Rg.val (r:Rg) (io:Option Addr) (ic:Nat):Value:=.agg #[r.ty,r.v.kind,r.v.num,.float .f64 r.v.flt,r.v.str,r.v.ref,r.box,.slice io r.list.length ic]
def Fr.val (f:Fr) (ro:Option Addr) (rc:Nat):Value:=.agg #[f.kind,f.th,f.st,.bool f.rd,nS,f.pr,f.se,f.pc,f.ln,f.sv,.slice ro f.regs.length rc,nS,.bool f.lv,.bool f.one,f.wk,nS,f.wt,f.lim]
def Tk.val (t:Tk) (fo:Option Addr) (fc:Nat):Value:=.agg #[t.st,t.fn.kind,t.fn.num,.float .f64 t.fn.flt,t.fn.str,t.fn.ref,.slice fo 1 fc,t.wa,.bool t.gi,nS]
def mcs (pace:Int) (co:Option Addr) (cn cc:Nat) (to_:Option Addr) (tn tc:Nat):Array Value:=#[pace,(),(),(),(),nS,.slice co cn cc,(),(),.slice to_ tn tc,(),false,nS,(),nS,ByteArray.empty,false,(),(),(),(),nS,nS,ByteArray.empty,ByteArray.empty,(),()]
def RegAt (lo:Nat) (w:World) (b o:Nat) (r:Rg):Prop:=∃io ic,Ae w b o (r.cs io ic)/\Ba lo w io r.list
def Bp (lo:Nat) (w:World) (ao:Option Addr) (rs:List Rg):Prop:=Ah lo w ao 8 (RegAt lo w) rs
theorem Bp.l{w:World} {xs:List Rg} (h:Bp lo w ao xs) (hk:A7 lo w w'):Bp lo w' ao xs:=
 Ah.l h hk (fun _ _ _ hl hs _ ⟨i,c,h1,h2⟩=>⟨i,c,h1.keep hk hl hs,h2.l hk⟩)
theorem Bp.w {w:World} {xs:List Rg} (h:Bp lo w ao xs) (hl:lo'<=lo):Bp lo' w ao xs:=by intro i x hx;obtain⟨b,off,e,h1,hs,io,ic,h2,h3⟩:=h i x hx;exact⟨b,off,e,yI hl h1,hs,io,ic,h2,Ah.w h3 hl⟩
structure Zm (lo:Nat) (w:World) (bt fc bf:Nat) (ro:Option Addr) (rc:Nat) (t:Tk):Prop where
 lt:lo<=bt/\bt<(w:Nat)
 lf:lo<=bf/\bf<(w:Nat)
 tc:Ae w bt 0 (t.cs bf fc)
 fc:Ae w bf 0 (t.fr.cs ro rc)
 rs:Bp lo w ro t.fr.regs
theorem Zm.l{w:World} {t:Tk} (h:Zm lo w bt fc bf ro rc t) (hk:A7 lo w w'):Zm lo w' bt fc bf ro rc t:=
 ⟨⟨h.lt.1,yF h.lt.2 hk.size⟩,⟨h.lf.1,yF h.lf.2 hk.size⟩,h.tc.keep hk h.lt.1 h.lt.2,h.fc.keep hk h.lf.1 h.lf.2,h.rs.l hk⟩
theorem Zm.w {w:World} {t:Tk} (h:Zm lo w bt fc bf ro rc t) (hl:lo'<=lo):Zm lo' w bt fc bf ro rc t:=
 ⟨⟨yI hl h.lt.1,h.lt.2⟩,⟨yI hl h.lf.1,h.lf.2⟩,h.tc,h.fc,h.rs.w hl⟩
def CaAt (w:World) (b o:Nat) (c:Int×Int):Prop:=w.cell? (b,o)=some (.int .i64 c.1)/\w.cell? (b,o+1)=some (.int .i64 c.2)
def Hz (lo:Nat) (w:World) (ao:Option Addr) (xs:List (Int×Int)):Prop:=Ah lo w ao 2 (CaAt w) xs
theorem Hz.l{w:World} {xs:List (Int×Int)} (h:Hz lo w ao xs) (hk:A7 lo w w'):Hz lo w' ao xs:=
 Ah.l h hk (fun _ _ _ hl hs _ ha=>by unfold CaAt;rw[hk.cell hl hs,hk.cell hl hs];exact ha)
def Zk (r:Rg):Prop:=r.v.flt<18446744073709551616/\r.list.length<=1048576/\A4w r.list
def Tn (lo:Nat) (w:World) (ao:Option Addr):Option Tk->Prop
 | none=>True
 | some t=>∃bt fc bf ro rc,ao=some ⟨bt,0,none⟩/\Zm lo w bt fc bf ro rc t
theorem Tn.l{w:World} {t:Option Tk} (h:Tn lo w ao t) (hk:A7 lo w w'):Tn lo w' ao t:=by
 cases t with
 | none=>trivial
 | some t=>obtain⟨a,b,c,d,e,h1,h2⟩:=h;exact⟨a,b,c,d,e,h1,h2.l hk⟩
theorem Tn.w {w:World} {t:Option Tk} (h:Tn lo w ao t) (hl:lo'<=lo):Tn lo' w ao t:=by
 cases t with
 | none=>trivial
 | some t=>obtain⟨a,b,c,d,e,h1,h2⟩:=h;exact⟨a,b,c,d,e,h1,h2.w hl⟩
def tkN:Option Tk->Nat
 | none=>0
 | some _=>1
def Aa2:Option Tk->Prop
 | none=>True
 | some t=>t.fn.flt<18446744073709551616/\t.fr.regs.length<=1048576/\∀r∈t.fr.regs,Zk r
theorem A2j (ao bo:Option Addr) (c d:Nat) (w:World) :
  Calls prog 60 #[.slice ao 0 c,.slice bo 0 d] w fun e w'=>e=.returned (true)/\w'=w:=by
 go_in;go_wp2;go_loop [5] (fun i=>i=()) (fun _=>0);case atStart=>rfl
 case round=> obtain rfl:=hrel;go_wp2;go_ret;exact⟨rfl,rfl⟩
theorem Zv (ao bo:Option Addr) (c d:Nat) (w:World) :
  Calls prog 303 #[.slice ao 0 c,.slice bo 0 d] w fun e w'=>e=.returned (true)/\w'=w:=by
 go_in;go_wp2;go_loop [5] (fun i=>i=()) (fun _=>0);case atStart=>rfl
 case round=> obtain rfl:=hrel;go_wp2;go_ret;exact⟨rfl,rfl⟩
theorem A5b (ao bo:Option Addr) (c d:Nat) (w:World) :
  Calls prog 142 #[.slice ao 0 c,.slice bo 0 d] w fun e w'=>e=.returned (true)/\w'=w:=by
 go_in;go_wp2;go_loop [5] (fun i=>i=()) (fun _=>0);case atStart=>rfl
 case round=> obtain rfl:=hrel;go_wp2;go_ret;exact⟨rfl,rfl⟩
theorem Jh (ao bo:Option Addr) (c d:Nat) (w:World) :
  Calls prog 63 #[.slice ao 0 c,.slice bo 0 d] w fun e w'=>e=.returned (true)/\w'=w:=by
 go_in;go_wp2;go_loop [5] (fun i=>i=()) (fun _=>0);case atStart=>rfl
 case round=> obtain rfl:=hrel;go_wp2;go_ret;exact⟨rfl,rfl⟩
theorem Xj (ao bo:Option Addr) (c d:Nat) (w:World) :
  Calls prog 66 #[.slice ao 0 c,.slice bo 0 d] w fun e w'=>e=.returned (true)/\w'=w:=by
 go_in;go_wp2;go_loop [5] (fun i=>i=()) (fun _=>0);case atStart=>rfl
 case round=> obtain rfl:=hrel;go_wp2;go_ret;exact⟨rfl,rfl⟩
theorem A2e (x y:Int) (w:World):Kw 139 #[.agg #[x,y],.agg #[x,y]] w (true):=by unfold Kw;go_in;go_wp2;go_ret;refine⟨rfl,?_⟩;repeat (first|exact yA _ _|refine Below.alloc ?_ (by simp;try omega) _)
theorem Zu (ao bo:Option Addr) (c1 c2:Nat) (us:List (Int×Int)) (w:World) (hm:us.length<=1048576) (h1:Hz 0 w ao us) (h2:Hz 0 w bo us) :
  Kw 61 #[.slice ao us.length c1,.slice bo us.length c2] w (true):=by
 unfold Kw;go_in;go_wp2;go_loopw [5] (fun i wr=>∃k:Nat,k<=us.length/\i=k/\Below w w wr) (fun i _=>us.length-(intOf i).toNat);case atStart=>exact⟨0,yE _,rfl,yA _ _⟩
 case round=>
  obtain⟨k,hk,rfl,hb⟩:=hrel;by_cases hlt:k<us.length
  ·obtain⟨u,huk⟩:=A8 hlt;obtain⟨b1,o1,rfl,_,hl1,p0,p1⟩:=h1.l (A7.o hb) k u huk;obtain⟨b2,o2,rfl,_,hl2,q0,q1⟩:=h2.l (A7.o hb) k u huk;obtain⟨x,y⟩:=u;dsimp only at p0 p1 q0 q1;clear h1 h2;go_wp2_with fail;go_region_held3 (fun w'=>w'.cell? (b1,o1+k*2)=some (x:Value)/\w'.cell? (b1,o1+k*2+1)=some (y:Value)/\w'.cell? (b2,o2+k*2)=some (x:Value)/\w'.cell? (b2,o2+k*2+1)=some (y:Value)) (go_keep)
    (first|(go_at_call 139;refine(A2e x y _).mono ?_;rintro e w1 ⟨rfl,hw1⟩;have d00:=(hw1.cell (p:=(b1,o1+k*2)) hl1).trans p0;have d01:=(hw1.cell (p:=(b1,o1+k*2+1)) hl1).trans p1;have d10:=(hw1.cell (p:=(b2,o2+k*2)) hl2).trans q0;have d11:=(hw1.cell (p:=(b2,o2+k*2+1)) hl2).trans q1))
   have B1:=hb.drew.trans (hw1.mono hb.size);go_wp2;go_roundw;case rel=>exact⟨k+1,by omega,by go_num,B1⟩
   case measure=>simp[intOf];omega
  ·go_wp2;go_ret;exact⟨rfl,hb⟩
theorem A8p (r:Rg) (io jo:Option Addr) (ic jc:Nat) (w:World) (hz:Zk r) (h1:Ba 0 w io r.list) (h2:Ba 0 w jo r.list) :
  Kw 326 #[r.val io ic,r.val jo jc] w (true):=by
 obtain⟨ty,⟨vk,vn,vf,vs,vr⟩,bx,ls⟩:=r;obtain⟨hz1,hz2,hz3⟩:=hz;dsimp only[Rg.val]at *;have HV:Hid (∀W,Kw 141 #[.agg #[vk,vn,.float .f64 vf,vs,vr],.agg #[vk,vn,.float .f64 vf,vs,vr]] W (true)):=fun W=>Mv ⟨vk,vn,vf,vs,vr⟩ hz1 W;clear hz1;have hb2:∀o1 o2,Below w w ((w.alloc o1).alloc o2):=fun o1 o2=>((yA _ _).alloc (yB _) o1).alloc (by simp) o2;have X0:=(Blk.new w #[ty,vk,vn,.float .f64 vf,vs,vr,bx,.slice io ls.length ic] 327).alloc (.cells #[ty,vk,vn,.float .f64 vf,vs,vr,bx,.slice jo ls.length jc] 327);have Y0:=Blk.new (w.alloc (.cells #[ty,vk,vn,.float .f64 vf,vs,vr,bx,.slice io ls.length ic] 327)) #[ty,vk,vn,.float .f64 vf,vs,vr,bx,.slice jo ls.length jc] 327;rw[nblk_alloc]at Y0;unfold Kw;go_in;go_wp2_with fail;refine(HV.out _).mono ?_;rintro e w1 ⟨rfl,hw1⟩;have B1:=(hb2 _ _).trans (hw1.mono (by simp;omega));have X1:=X0.l hw1;have Y1:=Y0.l hw1;clear X0 Y0 hw1;have x1:=X1.cell;have y1:=Y1.cell;go_wp2_with fail;refine(Qi io jo ic jc ls _ hz2 hz3 (h1.l (A7.o B1)) (h2.l (A7.o B1))).mono ?_;rintro e w2 ⟨rfl,hw2⟩;have B2:=B1.trans (hw2.mono B1.size);clear x1 y1;go_wp2;go_ret;exact⟨rfl,B2⟩
theorem A5c (ao bo:Option Addr) (cc1 cc2:Nat) (us:List Rg) (w:World) (hm:us.length<=1048576) (hz:∀r∈us,Zk r) (h1:Bp 0 w ao us) (h2:Bp 0 w bo us) :
  Kw 302 #[.slice ao us.length cc1,.slice bo us.length cc2] w (true):=by
 unfold Kw;go_in;go_wp2;go_loopw [5] (fun i wr=>∃k:Nat,k<=us.length/\i=k/\Below w w wr) (fun i _=>us.length-(intOf i).toNat);case atStart=>exact⟨0,yE _,rfl,yA _ _⟩
 case round=>
  obtain⟨k,hk,rfl,hb⟩:=hrel;by_cases hlt:k<us.length
  ·obtain⟨u,huk⟩:=A8 hlt;obtain⟨b1,o1,rfl,_,hl1,i1,c1,n1,z1⟩:=h1.l (A7.o hb) k u huk;obtain⟨b2,o2,rfl,_,hl2,i2,c2,n2,z2⟩:=h2.l (A7.o hb) k u huk;have HZ:Hid (Zk u):=hz u (yH huk);have p0:wr.cell? (b1,o1+k*8)=some (u.ty:Value):=n1 0 _ rfl;have p1:=n1 1 _ rfl;have p2:=n1 2 _ rfl;have p3:=n1 3 _ rfl;have p4:=n1 4 _ rfl;have p5:=n1 5 _ rfl;have p6:=n1 6 _ rfl;have p7:=n1 7 _ rfl;have q0:wr.cell? (b2,o2+k*8)=some (u.ty:Value):=n2 0 _ rfl;have q1:=n2 1 _ rfl;have q2:=n2 2 _ rfl;have q3:=n2 3 _ rfl;have q4:=n2 4 _ rfl;have q5:=n2 5 _ rfl;have q6:=n2 6 _ rfl;have q7:=n2 7 _ rfl;have z1d:=z1.l (A7.o (yA _ _).drew);have z2d:=z2.l (A7.o (yA _ _).drew);clear h1 h2 hz n1 n2 z1 z2;go_wp2_with fail;go_region_held3 (fun w'=>w'.cell? (b1,o1+k*8)=some (u.ty:Value)/\w'.cell? (b1,o1+k*8+1)=some (u.v.kind:Value)/\w'.cell? (b1,o1+k*8+2)=some (u.v.num:Value)/\w'.cell? (b1,o1+k*8+3)=some (.float .f64 u.v.flt)/\w'.cell? (b1,o1+k*8+4)=some (.string u.v.str)/\w'.cell? (b1,o1+k*8+5)=some (u.v.ref:Value)/\w'.cell? (b1,o1+k*8+6)=some (u.box:Value)/\w'.cell? (b1,o1+k*8+7)=some (.slice i1 u.list.length c1)/\w'.cell? (b2,o2+k*8)=some (u.ty:Value)/\w'.cell? (b2,o2+k*8+1)=some (u.v.kind:Value)/\w'.cell? (b2,o2+k*8+2)=some (u.v.num:Value)/\w'.cell? (b2,o2+k*8+3)=some (.float .f64 u.v.flt)/\w'.cell? (b2,o2+k*8+4)=some (.string u.v.str)/\w'.cell? (b2,o2+k*8+5)=some (u.v.ref:Value)/\w'.cell? (b2,o2+k*8+6)=some (u.box:Value)/\w'.cell? (b2,o2+k*8+7)=some (.slice i2 u.list.length c2)) (go_keep)
    (first|(go_at_call 326;refine(A8p u i1 i2 c1 c2 wr.drew HZ.out z1d z2d).mono ?_;rintro e w1 ⟨rfl,hw1⟩;have d0:=(hw1.cell (p:=(b1,o1+k*8)) hl1).trans p0;have d1:=(hw1.cell (p:=(b1,o1+k*8+1)) hl1).trans p1;have d2:=(hw1.cell (p:=(b1,o1+k*8+2)) hl1).trans p2;have d3:=(hw1.cell (p:=(b1,o1+k*8+3)) hl1).trans p3;have d4:=(hw1.cell (p:=(b1,o1+k*8+4)) hl1).trans p4;have d5:=(hw1.cell (p:=(b1,o1+k*8+5)) hl1).trans p5;have d6:=(hw1.cell (p:=(b1,o1+k*8+6)) hl1).trans p6;have d7:=(hw1.cell (p:=(b1,o1+k*8+7)) hl1).trans p7;have e0:=(hw1.cell (p:=(b2,o2+k*8)) hl2).trans q0;have e1:=(hw1.cell (p:=(b2,o2+k*8+1)) hl2).trans q1;have e2:=(hw1.cell (p:=(b2,o2+k*8+2)) hl2).trans q2;have e3:=(hw1.cell (p:=(b2,o2+k*8+3)) hl2).trans q3;have e4:=(hw1.cell (p:=(b2,o2+k*8+4)) hl2).trans q4;have e5:=(hw1.cell (p:=(b2,o2+k*8+5)) hl2).trans q5;have e6:=(hw1.cell (p:=(b2,o2+k*8+6)) hl2).trans q6;have e7:=(hw1.cell (p:=(b2,o2+k*8+7)) hl2).trans q7))
   have B1:=hb.drew.trans (hw1.mono hb.size);go_wp2;go_roundw;case rel=>exact⟨k+1,by omega,by go_num,B1⟩
   case measure=>simp[intOf];omega
  ·go_wp2;go_ret;exact⟨rfl,hb⟩
end Go.Proofs.YtjbbppblgjhapaaGreatDoor
namespace Go.Proofs.YtjbbppblgjhapaaGreatDoor
open Go.Proofs.Tryz

end Go.Proofs.YtjbbppblgjhapaaGreatDoor
namespace Go.Proofs.YtjbbppblgjhapaaGreatDoor
open Go.Deep Go.Proofs.Tryz Go.RowKit
theorem A77 (k:Int) (s:ByteArray) (w:World):Kw 64 #[.agg #[k,nS,s],.agg #[k,nS,s]] w (true):=by have hb2:∀o1 o2,Below w w ((w.alloc o1).alloc o2):=fun o1 o2=>((yA _ _).alloc (yB _) o1).alloc (by simp) o2;unfold Kw;go_in;go_wp2_with fail;refine(Jh none none 0 0 _).mono ?_;rintro e w1 ⟨rfl,rfl⟩;go_wp2;go_ret;exact⟨rfl,hb2 _ _⟩
theorem A2f (f:Fr) (ro qo:Option Addr) (rc qc:Nat) (w:World) (hm:f.regs.length<=1048576) (hz:∀r∈f.regs,Zk r) (h1:Bp 0 w ro f.regs) (h2:Bp 0 w qo f.regs) :
  Kw 272 #[f.val ro rc,f.val qo qc] w (true):=by
 obtain⟨k0,k1,k2,k3,k5,k6,k7,k8,k9,k12,k13,k14,k16,k17,rs⟩:=f;dsimp only[Fr.val]at *;have hb2:∀o1 o2,Below w w ((w.alloc o1).alloc o2):=fun o1 o2=>((yA _ _).alloc (yB _) o1).alloc (by simp) o2;have X0:=(Blk.new w #[k0,k1,k2,.bool k3,nS,k5,k6,k7,k8,k9,.slice ro rs.length rc,nS,.bool k12,.bool k13,k14,nS,k16,k17] 231).alloc (.cells #[k0,k1,k2,.bool k3,nS,k5,k6,k7,k8,k9,.slice qo rs.length qc,nS,.bool k12,.bool k13,k14,nS,k16,k17] 231);have Y0:=Blk.new (w.alloc (.cells #[k0,k1,k2,.bool k3,nS,k5,k6,k7,k8,k9,.slice ro rs.length rc,nS,.bool k12,.bool k13,k14,nS,k16,k17] 231)) #[k0,k1,k2,.bool k3,nS,k5,k6,k7,k8,k9,.slice qo rs.length qc,nS,.bool k12,.bool k13,k14,nS,k16,k17] 231;rw[nblk_alloc]at Y0;have B0:=hb2 (.cells #[k0,k1,k2,.bool k3,nS,k5,k6,k7,k8,k9,.slice ro rs.length rc,nS,.bool k12,.bool k13,k14,nS,k16,k17] 231) (.cells #[k0,k1,k2,.bool k3,nS,k5,k6,k7,k8,k9,.slice qo rs.length qc,nS,.bool k12,.bool k13,k14,nS,k16,k17] 231);have HR:Hid _:=fun W hb=>A5c ro qo rc qc rs W hm hz (h1.l (A7.o hb)) (h2.l (A7.o hb));clear hz h1 h2 hm hb2;unfold Kw;go_in;have x1:=X0.cell;have y1:=Y0.cell;go_wp2_with fail;refine(Jh none none 0 0 _).mono ?_;rintro e w1 ⟨rfl,rfl⟩;go_wp2_with fail;refine(HR.out _ B0).mono ?_;rintro e w1 ⟨rfl,hw1⟩;have X1:=X0.l hw1;have Y1:=Y0.l hw1;have B1:=B0.trans (hw1.mono B0.size);clear X0 Y0 hw1 x1 y1;have x1:=X1.cell;have y1:=Y1.cell;go_wp2_with fail;refine(Zv none none 0 0 _).mono ?_;rintro e w2 ⟨rfl,rfl⟩;go_wp2_with fail;refine(A77 k14 k16 _).mono ?_;rintro e w2 ⟨rfl,hw2⟩;have X2:=X1.l hw2;have Y2:=Y1.l hw2;have B2:=B1.trans (hw2.mono B1.size);clear X1 Y1 hw2 x1 y1;have x1:=X2.cell;have y1:=Y2.cell;go_wp2;go_ret;exact⟨rfl,B2⟩
theorem Zw (b1 b2 cc1 cc2:Nat) (f:Fr) (ro1 ro2:Option Addr) (rc1 rc2:Nat) (w:World) (hm:f.regs.length<=1048576) (hz:∀r∈f.regs,Zk r) (hl1:b1<(w:Nat)) (hl2:b2<(w:Nat)) (n1:Ae w b1 0 (f.cs ro1 rc1)) (n2:Ae w b2 0 (f.cs ro2 rc2)) (h1:Bp 0 w ro1 f.regs) (h2:Bp 0 w ro2 f.regs) :
  Kw 218 #[.slice b1 1 cc1,.slice b2 1 cc2] w (true):=by
 have ld1:∀W:World,W.rangeAt b1 0 (f.cs ro1 rc1)->(Instr.loadAt 231 (.pointer b1)).run prog W=.ok (f.val ro1 rc1) W:=fun W h=>run_loadAt_mid W b1 0 231 _ _ h underlying231 rfl (by kernel_rfl);have ld2:∀W:World,W.rangeAt b2 0 (f.cs ro2 rc2)->(Instr.loadAt 231 (.pointer b2)).run prog W=.ok (f.val ro2 rc2) W:=fun W h=>run_loadAt_mid W b2 0 231 _ _ h underlying231 rfl (by kernel_rfl);have HC:Hid _:=fun W hb=>A2f f ro1 ro2 rc1 rc2 W hm hz (h1.l (A7.o hb)) (h2.l (A7.o hb));clear h1 h2 hm hz;generalize f.cs ro1 rc1=L1 at *;generalize f.cs ro2 rc2=L2 at *;generalize f.val ro1 rc1=V1 at *;generalize f.val ro2 rc2=V2 at *;unfold Kw;go_in;go_wp2;go_loopw [5] (fun i wr=>(i=()/\wr=w)∨(i=(1:Int)/\Below w w wr)) (fun i _=>1-(intOf i).toNat);case atStart=>exact .inl ⟨rfl,rfl⟩
 case round=>
  rcases hrel with ⟨rfl,rfl⟩|⟨rfl,hb⟩
  ·go_wp2_with fail;refine rgN (fun W=>W.rangeAt b1 0 L1/\W.rangeAt b2 0 L2) ⟨Ae.keep n1 (A7.o (yA _ _).drew) (yE _) hl1,Ae.keep n2 (A7.o (yA _ _).drew) (yE _) hl2⟩ (fun hS=>?_);repeat (refine tkF (by kernel_rfl) (by rfl) hS ⟨?_,fun W hW=>?_,?_⟩;rotate_left;(focus first|(refine Cv (p:=.pointer b1) ?_ rfl ?_;exact ld1 W hW.1;simp[Act.eval];done)|(refine Cv (p:=.pointer b2) ?_ rfl ?_;exact ld2 W hW.2;simp[Act.eval];done)|(go_simp;with_reducible rfl));try simp only[Act.put,yC,yJ,yK])
   refine doN (by kernel_rfl) (by rfl) (fun K hK=>?_);go_wp2_with fail;refine(HC.out _ (yA _ _).drew).mono ?_;rintro e w1 ⟨rfl,hw1⟩;refine hK.out _ _ ⟨Ae.keep n1 (A7.o ((yA _ _).drew.trans hw1)) (yE _) hl1,Ae.keep n2 (A7.o ((yA _ _).drew.trans hw1)) (yE _) hl2⟩ (fun hS=>?_);repeat (refine tkF (by kernel_rfl) (by rfl) hS ⟨?_,fun W hW=>?_,?_⟩;rotate_left;(focus first|(refine Cv (p:=.pointer b1) ?_ rfl ?_;exact ld1 W hW.1;simp[Act.eval];done)|(refine Cv (p:=.pointer b2) ?_ rfl ?_;exact ld2 W hW.2;simp[Act.eval];done)|(go_simp;with_reducible rfl));try simp only[Act.put,yC,yJ,yK])
   refine enD (by kernel_rfl) (NoPanic.normal ?_);go_wp2_with fail;have B1:=(yA (wr:Nat) wr).drew.trans (hw1.mono (yB _));go_wp2;go_roundw;case rel=>exact .inr ⟨by go_num,B1⟩
   case measure=>simp[intOf]
  ·go_wp2;go_ret;exact⟨rfl,hb⟩
theorem A5e (t:Tk) (b1 b2 fc gc:Nat) (ro1 ro2:Option Addr) (rc1 rc2:Nat) (w:World) (hf:t.fn.flt<18446744073709551616) (hm:t.fr.regs.length<=1048576) (hz:∀r∈t.fr.regs,Zk r) (hl1:b1<(w:Nat)) (hl2:b2<(w:Nat)) (n1:Ae w b1 0 (t.fr.cs ro1 rc1)) (n2:Ae w b2 0 (t.fr.cs ro2 rc2)) (h1:Bp 0 w ro1 t.fr.regs) (h2:Bp 0 w ro2 t.fr.regs) :
  Kw 140 #[t.val b1 fc,t.val b2 gc] w (true):=by
 obtain⟨k0,⟨a0,a1,a2,a3,a4⟩,k7,k8,f⟩:=t;dsimp only[Tk.val]at *;have HF:Hid (∀W,Below w w W->Kw 218 #[.slice b1 1 fc,.slice b2 1 gc] W (true)):=fun W hb=>Zw b1 b2 fc gc f ro1 ro2 rc1 rc2 W hm hz (yF hl1 hb.size) (yF hl2 hb.size) (n1.keep (A7.o (lo:=0) hb) (yE _) hl1) (n2.keep (A7.o (lo:=0) hb) (yE _) hl2) (h1.l (A7.o hb)) (h2.l (A7.o hb));have HV:Hid (∀W,Kw 141 #[.agg #[a0,a1,.float .f64 a2,a3,a4],.agg #[a0,a1,.float .f64 a2,a3,a4]] W (true)):=fun W=>Mv ⟨a0,a1,a2,a3,a4⟩ hf W;clear n1 n2 h1 h2 hm hz hf;generalize hfo:(some ⟨b1,0,none⟩:Option Addr)=fo at *;generalize hgo:(some ⟨b2,0,none⟩:Option Addr)=go_ at *;clear hfo hgo hl1 hl2;have hb2:∀o1 o2,Below w w ((w.alloc o1).alloc o2):=fun o1 o2=>((yA _ _).alloc (yB _) o1).alloc (by simp) o2;have X0:=(Blk.new w #[k0,a0,a1,.float .f64 a2,a3,a4,.slice fo 1 fc,k7,.bool k8,nS] 223).alloc (.cells #[k0,a0,a1,.float .f64 a2,a3,a4,.slice go_ 1 gc,k7,.bool k8,nS] 223);have Y0:=Blk.new (w.alloc (.cells #[k0,a0,a1,.float .f64 a2,a3,a4,.slice fo 1 fc,k7,.bool k8,nS] 223)) #[k0,a0,a1,.float .f64 a2,a3,a4,.slice go_ 1 gc,k7,.bool k8,nS] 223;rw[nblk_alloc]at Y0;have B0:=hb2 (.cells #[k0,a0,a1,.float .f64 a2,a3,a4,.slice fo 1 fc,k7,.bool k8,nS] 223) (.cells #[k0,a0,a1,.float .f64 a2,a3,a4,.slice go_ 1 gc,k7,.bool k8,nS] 223);clear hb2;unfold Kw;go_in;have x1:=X0.cell;have y1:=Y0.cell;go_wp2_with fail;refine(HV.out _).mono ?_;rintro e w1 ⟨rfl,hw1⟩;have X1:=X0.l hw1;have Y1:=Y0.l hw1;have B1:=B0.trans (hw1.mono B0.size);clear X0 Y0 hw1 x1 y1;have x1:=X1.cell;have y1:=Y1.cell;go_wp2_with fail;refine(HF.out _ B1).mono ?_;rintro e w2 ⟨rfl,hw2⟩;have X2:=X1.l hw2;have Y2:=Y1.l hw2;have B2:=B1.trans (hw2.mono B1.size);clear X1 Y1 hw2 x1 y1;have x1:=X2.cell;have y1:=Y2.cell;go_wp2_with fail;refine(Jh none none 0 0 _).mono ?_;rintro e w3 ⟨rfl,rfl⟩;go_wp2;go_ret;exact⟨rfl,B2⟩
theorem A2l (b1 b2 cc1 cc2:Nat) (t:Tk) (g1 g2 fc1 fc2:Nat) (ro1 ro2:Option Addr) (rc1 rc2:Nat) (w:World) (hf:t.fn.flt<18446744073709551616) (hm:t.fr.regs.length<=1048576) (hz:∀r∈t.fr.regs,Zk r) (k1:Zm 0 w b1 fc1 g1 ro1 rc1 t) (k2:Zm 0 w b2 fc2 g2 ro2 rc2 t) :
  Kw 62 #[.slice b1 1 cc1,.slice b2 1 cc2] w (true):=by
 have ld1:∀W:World,W.rangeAt b1 0 (t.cs g1 fc1)->(Instr.loadAt 223 (.pointer b1)).run prog W=.ok (t.val g1 fc1) W:=fun W h=>run_loadAt_mid W b1 0 223 _ _ h underlying223 rfl (by kernel_rfl);have ld2:∀W:World,W.rangeAt b2 0 (t.cs g2 fc2)->(Instr.loadAt 223 (.pointer b2)).run prog W=.ok (t.val g2 fc2) W:=fun W h=>run_loadAt_mid W b2 0 223 _ _ h underlying223 rfl (by kernel_rfl);have hl1:=k1.lt.2;have hl2:=k2.lt.2;have n1:=k1.tc;have n2:=k2.tc;have HC:Hid (∀W,Below w w W->Kw 140 #[t.val g1 fc1,t.val g2 fc2] W (true)):=fun W hb=>by
  have j1:=k1.l (A7.o hb);have j2:=k2.l (A7.o hb);exact A5e t g1 g2 fc1 fc2 ro1 ro2 rc1 rc2 W hf hm hz j1.lf.2 j2.lf.2 j1.fc j2.fc j1.rs j2.rs
 clear k1 k2 hm hz hf;generalize t.cs g1 fc1=L1 at *;generalize t.cs g2 fc2=L2 at *;generalize t.val g1 fc1=V1 at *;generalize t.val g2 fc2=V2 at *;unfold Kw;go_in;go_wp2;go_loopw [5] (fun i wr=>(i=()/\wr=w)∨(i=(1:Int)/\Below w w wr)) (fun i _=>1-(intOf i).toNat);case atStart=>exact .inl ⟨rfl,rfl⟩
 case round=>
  rcases hrel with ⟨rfl,rfl⟩|⟨rfl,hb⟩
  ·go_wp2_with fail;refine rgN (fun W=>W.rangeAt b1 0 L1/\W.rangeAt b2 0 L2) ⟨Ae.keep n1 (A7.o (yA _ _).drew) (yE _) hl1,Ae.keep n2 (A7.o (yA _ _).drew) (yE _) hl2⟩ (fun hS=>?_);repeat (refine tkF (by kernel_rfl) (by rfl) hS ⟨?_,fun W hW=>?_,?_⟩;rotate_left;(focus first|(refine Cv (p:=.pointer b1) ?_ rfl ?_;exact ld1 W hW.1;simp[Act.eval];done)|(refine Cv (p:=.pointer b2) ?_ rfl ?_;exact ld2 W hW.2;simp[Act.eval];done)|(go_simp;with_reducible rfl));try simp only[Act.put,yC,yJ,yK])
   refine doN (by kernel_rfl) (by rfl) (fun K hK=>?_);go_wp2_with fail;refine(HC.out _ (yA _ _).drew).mono ?_;rintro e w1 ⟨rfl,hw1⟩;refine hK.out _ _ ⟨Ae.keep n1 (A7.o ((yA _ _).drew.trans hw1)) (yE _) hl1,Ae.keep n2 (A7.o ((yA _ _).drew.trans hw1)) (yE _) hl2⟩ (fun hS=>?_);repeat (refine tkF (by kernel_rfl) (by rfl) hS ⟨?_,fun W hW=>?_,?_⟩;rotate_left;(focus first|(refine Cv (p:=.pointer b1) ?_ rfl ?_;exact ld1 W hW.1;simp[Act.eval];done)|(refine Cv (p:=.pointer b2) ?_ rfl ?_;exact ld2 W hW.2;simp[Act.eval];done)|(go_simp;with_reducible rfl));try simp only[Act.put,yC,yJ,yK])
   refine enD (by kernel_rfl) (NoPanic.normal ?_);go_wp2_with fail;have B1:=(yA (wr:Nat) wr).drew.trans (hw1.mono (yB _));go_wp2;go_roundw;case rel=>exact .inr ⟨by go_num,B1⟩
   case measure=>simp[intOf]
  ·go_wp2;go_ret;exact⟨rfl,hb⟩
end Go.Proofs.YtjbbppblgjhapaaGreatDoor
