import Derived.Test.YtjbbppblgjhapaaGreatDoorJ04
import Derived.Test.YtjbbppblgjhapaaGreatDoorJ06
set_option maxRecDepth 100000
set_option maxHeartbeats 2000000
namespace Go.Proofs.YtjbbppblgjhapaaGreatDoor
open Go.Deep Go.Proofs.Tryz Go.RowKit
variable{left:Int}{xs:List Int}{b j k n off:Nat}{α:Type}{u:Value}{w:World}
attribute [local go_sem] Ac
theorem Aah (u:Ud) (w:World):Kw 256 #[u.val,u.val] w (true):=by obtain⟨l,x⟩:=u;dsimp only[Ud.val];unfold Kw;go_in;go_wp2;go_ret;refine⟨rfl,?_⟩;repeat (first|exact yA _ _|refine Below.alloc ?_ (by simp;try omega) _)
theorem A8q (ao bo:Option Addr) (c1 c2:Nat) (us:List Ud) (w:World) (hm:us.length<=1048576) (h1:Je 0 w ao us) (h2:Je 0 w bo us) :
  Kw 196 #[.slice ao us.length c1,.slice bo us.length c2] w (true):=by
 unfold Kw;go_in;go_wp2;go_loopw [5] (fun i wr=>∃k:Nat,k<=us.length/\i=k/\Below w w wr) (fun i _=>us.length-(intOf i).toNat);case atStart=>exact⟨0,yE _,rfl,yA _ _⟩
 case round=>
  obtain⟨k,hk,rfl,hb⟩:=hrel;by_cases hlt:k<us.length
  ·obtain⟨u,huk⟩:=A8 hlt;obtain⟨b1,o1,rfl,_,hl1,p0,p1⟩:=h1.l (A7.o hb) k u huk;obtain⟨b2,o2,rfl,_,hl2,q0,q1⟩:=h2.l (A7.o hb) k u huk;clear h1 h2;go_wp2_with fail;go_region_held3 (fun w'=>w'.cell? (b1,o1+k*2)=some (.bool u.loc)/\w'.cell? (b1,o1+k*2+1)=some (u.idx:Value)/\w'.cell? (b2,o2+k*2)=some (.bool u.loc)/\w'.cell? (b2,o2+k*2+1)=some (u.idx:Value)) (go_keep)
    (first|(go_at_call 256;refine(Aah u _).mono ?_;rintro e w1 ⟨rfl,hw1⟩;have d0:=(hw1.cell (p:=(b1,o1+k*2)) hl1).trans p0;have d1:=(hw1.cell (p:=(b1,o1+k*2+1)) hl1).trans p1;have d2:=(hw1.cell (p:=(b2,o2+k*2)) hl2).trans q0;have d3:=(hw1.cell (p:=(b2,o2+k*2+1)) hl2).trans q1))
   have B1:=hb.drew.trans (hw1.mono hb.size);go_wp2;go_roundw;case rel=>exact⟨k+1,by omega,by go_num,B1⟩
   case measure=>simp[intOf];omega
  ·go_wp2;go_ret;exact⟨rfl,hb⟩
theorem Abq (x:Nat) (hx:x<18446744073709551616) (h:(FloatKind.f64.format.order x 0==some .eq)=true):∃r,floatBits .quo .f64 4607182418800017408 x=some r:=by
 rcases Sm x hx h with rfl|rfl
 ·exact⟨_,A2c⟩
 ·exact⟨_,Yo⟩
theorem Ye (x:Nat) (hx64:x<18446744073709551616) (w:World):Calls prog 219 #[.float .f64 x,.float .f64 x] w fun e w'=>e=.returned (true)/\w'=w:=by
 cases hx:(FloatKind.f64.format.order x x !=some .eq)
 ·have hx':(FloatKind.f64.format.order x x==some .eq)=true:=by simpa using hx
  cases h0:(FloatKind.f64.format.order x 0==some .eq)
  ·clear hx64;go_in;go_wp2;go_ret;exact⟨rfl,rfl⟩
  ·obtain⟨r,hr⟩:=Abq x hx64 h0;clear hx64;have hd:=fun (w:World) (t:TypeId)=>run_float_arith (P:=prog) w .quo t .f64 _ x r hr;clear hr;go_in;go_wp2;go_ret;exact⟨by simp,rfl⟩
 ·clear hx64;go_in;go_wp2;go_ret;exact⟨rfl,rfl⟩
theorem Mv (u:Vd) (hf:u.flt<18446744073709551616) (w:World):Kw 141 #[u.val,u.val] w (true):=by obtain⟨x0,x1,x2,x3,x4⟩:=u;dsimp only[Vd.val]at hf ⊢;have HF:Hid _:=hf;clear hf;unfold Kw;go_in;go_wp2_with fail;refine(Ye x2 HF.out _).mono ?_;rintro e w1 ⟨rfl,rfl⟩;go_wp2;go_ret;refine⟨rfl,?_⟩;repeat (first|exact yA _ _|refine Below.alloc ?_ (by simp;try omega) _)
theorem Qi (ao bo:Option Addr) (c1 c2:Nat) (us:List Vd) (w:World) (hm:us.length<=1048576) (hf:∀u∈us,u.flt<18446744073709551616) (h1:Ba 0 w ao us) (h2:Ba 0 w bo us) :
  Kw 63 #[.slice ao us.length c1,.slice bo us.length c2] w (true):=by
 unfold Kw;go_in;go_wp2;go_loopw [5] (fun i wr=>∃k:Nat,k<=us.length/\i=k/\Below w w wr) (fun i _=>us.length-(intOf i).toNat);case atStart=>exact⟨0,yE _,rfl,yA _ _⟩
 case round=>
  obtain⟨k,hk,rfl,hb⟩:=hrel;by_cases hlt:k<us.length
  ·obtain⟨u,huk⟩:=A8 hlt;obtain⟨b1,o1,rfl,_,hl1,p0,p1,p2,p3,p4⟩:=h1.l (A7.o hb) k u huk;obtain⟨b2,o2,rfl,_,hl2,q0,q1,q2,q3,q4⟩:=h2.l (A7.o hb) k u huk;have hfu:=hf u (yH huk);clear h1 h2 hf;go_wp2_with fail;go_region_held3 (fun w'=>w'.cell? (b1,o1+k*5)=some (u.kind:Value)/\w'.cell? (b1,o1+k*5+1)=some (u.num:Value)/\w'.cell? (b1,o1+k*5+2)=some (.float .f64 u.flt)/\w'.cell? (b1,o1+k*5+3)=some (.string u.str)/\w'.cell? (b1,o1+k*5+4)=some (u.ref:Value)/\w'.cell? (b2,o2+k*5)=some (u.kind:Value)/\w'.cell? (b2,o2+k*5+1)=some (u.num:Value)/\w'.cell? (b2,o2+k*5+2)=some (.float .f64 u.flt)/\w'.cell? (b2,o2+k*5+3)=some (.string u.str)/\w'.cell? (b2,o2+k*5+4)=some (u.ref:Value)) (go_keep)
    (first|(go_at_call 141;refine(Mv u hfu _).mono ?_;rintro e w1 ⟨rfl,hw1⟩;have d00:=(hw1.cell (p:=(b1,o1+k*5)) hl1).trans p0;have d01:=(hw1.cell (p:=(b1,o1+k*5+1)) hl1).trans p1;have d02:=(hw1.cell (p:=(b1,o1+k*5+2)) hl1).trans p2;have d03:=(hw1.cell (p:=(b1,o1+k*5+3)) hl1).trans p3;have d04:=(hw1.cell (p:=(b1,o1+k*5+4)) hl1).trans p4;have d10:=(hw1.cell (p:=(b2,o2+k*5)) hl2).trans q0;have d11:=(hw1.cell (p:=(b2,o2+k*5+1)) hl2).trans q1;have d12:=(hw1.cell (p:=(b2,o2+k*5+2)) hl2).trans q2;have d13:=(hw1.cell (p:=(b2,o2+k*5+3)) hl2).trans q3;have d14:=(hw1.cell (p:=(b2,o2+k*5+4)) hl2).trans q4))
   have B1:=hb.drew.trans (hw1.mono hb.size);go_wp2;go_roundw;case rel=>exact⟨k+1,by omega,by go_num,B1⟩
   case measure=>simp[intOf];omega
  ·go_wp2;go_ret;exact⟨rfl,hb⟩
theorem A8o (u:Nd) (w:World):Kw 257 #[u.val,u.val] w (true):=by obtain⟨x0,x1,x2,x3,x4⟩:=u;dsimp only[Nd.val];unfold Kw;go_in;go_wp2;go_ret;refine⟨rfl,?_⟩;repeat (first|exact yA _ _|refine Below.alloc ?_ (by simp;try omega) _)
theorem A5a (ao bo:Option Addr) (c1 c2:Nat) (us:List Nd) (w:World) (hm:us.length<=1048576) (h1:Ck 0 w ao us) (h2:Ck 0 w bo us) :
  Kw 197 #[.slice ao us.length c1,.slice bo us.length c2] w (true):=by
 unfold Kw;go_in;go_wp2;go_loopw [5] (fun i wr=>∃k:Nat,k<=us.length/\i=k/\Below w w wr) (fun i _=>us.length-(intOf i).toNat);case atStart=>exact⟨0,yE _,rfl,yA _ _⟩
 case round=>
  obtain⟨k,hk,rfl,hb⟩:=hrel;by_cases hlt:k<us.length
  ·obtain⟨u,huk⟩:=A8 hlt;obtain⟨b1,o1,rfl,_,hl1,p0,p1,p2,p3,p4⟩:=h1.l (A7.o hb) k u huk;obtain⟨b2,o2,rfl,_,hl2,q0,q1,q2,q3,q4⟩:=h2.l (A7.o hb) k u huk;clear h1 h2;go_wp2_with fail;go_region_held3 (fun w'=>w'.cell? (b1,o1+k*5)=some (u.op:Value)/\w'.cell? (b1,o1+k*5+1)=some (u.a:Value)/\w'.cell? (b1,o1+k*5+2)=some (u.b:Value)/\w'.cell? (b1,o1+k*5+3)=some (u.c:Value)/\w'.cell? (b1,o1+k*5+4)=some (u.d:Value)/\w'.cell? (b2,o2+k*5)=some (u.op:Value)/\w'.cell? (b2,o2+k*5+1)=some (u.a:Value)/\w'.cell? (b2,o2+k*5+2)=some (u.b:Value)/\w'.cell? (b2,o2+k*5+3)=some (u.c:Value)/\w'.cell? (b2,o2+k*5+4)=some (u.d:Value)) (go_keep)
    (first|(go_at_call 257;refine(A8o u _).mono ?_;rintro e w1 ⟨rfl,hw1⟩;have d00:=(hw1.cell (p:=(b1,o1+k*5)) hl1).trans p0;have d01:=(hw1.cell (p:=(b1,o1+k*5+1)) hl1).trans p1;have d02:=(hw1.cell (p:=(b1,o1+k*5+2)) hl1).trans p2;have d03:=(hw1.cell (p:=(b1,o1+k*5+3)) hl1).trans p3;have d04:=(hw1.cell (p:=(b1,o1+k*5+4)) hl1).trans p4;have d10:=(hw1.cell (p:=(b2,o2+k*5)) hl2).trans q0;have d11:=(hw1.cell (p:=(b2,o2+k*5+1)) hl2).trans q1;have d12:=(hw1.cell (p:=(b2,o2+k*5+2)) hl2).trans q2;have d13:=(hw1.cell (p:=(b2,o2+k*5+3)) hl2).trans q3;have d14:=(hw1.cell (p:=(b2,o2+k*5+4)) hl2).trans q4))
   have B1:=hb.drew.trans (hw1.mono hb.size);go_wp2;go_roundw;case rel=>exact⟨k+1,by omega,by go_num,B1⟩
   case measure=>simp[intOf];omega
  ·go_wp2;go_ret;exact⟨rfl,hb⟩
theorem A2h (u:Md) (w:World):Kw 258 #[u.val,u.val] w (true):=by obtain⟨x0,x1,x2,x3⟩:=u;dsimp only[Md.val];unfold Kw;go_in;go_wp2;go_ret;refine⟨rfl,?_⟩;repeat (first|exact yA _ _|refine Below.alloc ?_ (by simp;try omega) _)
theorem Zx (ao bo:Option Addr) (c1 c2:Nat) (us:List Md) (w:World) (hm:us.length<=1048576) (h1:J7 0 w ao us) (h2:J7 0 w bo us) :
  Kw 198 #[.slice ao us.length c1,.slice bo us.length c2] w (true):=by
 unfold Kw;go_in;go_wp2;go_loopw [5] (fun i wr=>∃k:Nat,k<=us.length/\i=k/\Below w w wr) (fun i _=>us.length-(intOf i).toNat);case atStart=>exact⟨0,yE _,rfl,yA _ _⟩
 case round=>
  obtain⟨k,hk,rfl,hb⟩:=hrel;by_cases hlt:k<us.length
  ·obtain⟨u,huk⟩:=A8 hlt;obtain⟨b1,o1,rfl,_,hl1,p0,p1,p2,p3⟩:=h1.l (A7.o hb) k u huk;obtain⟨b2,o2,rfl,_,hl2,q0,q1,q2,q3⟩:=h2.l (A7.o hb) k u huk;clear h1 h2;go_wp2_with fail;go_region_held3 (fun w'=>w'.cell? (b1,o1+k*4)=some (.string u.name)/\w'.cell? (b1,o1+k*4+1)=some (u.reg:Value)/\w'.cell? (b1,o1+k*4+2)=some (u.fr:Value)/\w'.cell? (b1,o1+k*4+3)=some (u.to:Value)/\w'.cell? (b2,o2+k*4)=some (.string u.name)/\w'.cell? (b2,o2+k*4+1)=some (u.reg:Value)/\w'.cell? (b2,o2+k*4+2)=some (u.fr:Value)/\w'.cell? (b2,o2+k*4+3)=some (u.to:Value)) (go_keep)
    (first|(go_at_call 258;refine(A2h u _).mono ?_;rintro e w1 ⟨rfl,hw1⟩;have d00:=(hw1.cell (p:=(b1,o1+k*4)) hl1).trans p0;have d01:=(hw1.cell (p:=(b1,o1+k*4+1)) hl1).trans p1;have d02:=(hw1.cell (p:=(b1,o1+k*4+2)) hl1).trans p2;have d03:=(hw1.cell (p:=(b1,o1+k*4+3)) hl1).trans p3;have d10:=(hw1.cell (p:=(b2,o2+k*4)) hl2).trans q0;have d11:=(hw1.cell (p:=(b2,o2+k*4+1)) hl2).trans q1;have d12:=(hw1.cell (p:=(b2,o2+k*4+2)) hl2).trans q2;have d13:=(hw1.cell (p:=(b2,o2+k*4+3)) hl2).trans q3))
   have B1:=hb.drew.trans (hw1.mono hb.size);go_wp2;go_roundw;case rel=>exact⟨k+1,by omega,by go_num,B1⟩
   case measure=>simp[intOf];omega
  ·go_wp2;go_ret;exact⟨rfl,hb⟩
def A4w (vs:List Vd):Prop:=∀u∈vs,u.flt<18446744073709551616
theorem A2i (p:Pd) (h g:Ph) (w:World) (hz:Ie p) (hf:A4w p.consts) (hp:PIn 0 w h p) (gp:PIn 0 w g p) :
  Kw 107 #[.agg (p.cells h),.agg (p.cells g)] w (true):=by
 obtain⟨z1,z2,z3,z4⟩:=hz;obtain⟨i1,i2,i3,i4⟩:=hp;obtain⟨j1,j2,j3,j4⟩:=gp;obtain⟨nm,ln,pa,re,rg,us,cs,is,ms⟩:=p;obtain⟨uo,uc,co,cc,io,ic,no,nc⟩:=h;obtain⟨uo',uc',co',cc',io',ic',no',nc'⟩:=g;dsimp only[Pd.cells]at *;have hb2:∀o1 o2,Below w w ((w.alloc o1).alloc o2):=fun o1 o2=>((yA _ _).alloc (yB _) o1).alloc (by simp) o2;unfold Kw;go_in;go_wp2_with fail;refine(A8q uo uo' uc uc' us _ z1 (i1.l (A7.o (hb2 _ _))) (j1.l (A7.o (hb2 _ _)))).mono ?_;rintro e w1 ⟨rfl,hw1⟩;have B1:=(hb2 _ _).trans (hw1.mono (by simp;omega));have X0:=(Blk.new w #[nm,ln,pa,.bool re,rg,.slice uo us.length uc,.slice co cs.length cc,.slice io is.length ic,.slice no ms.length nc] 77).alloc (.cells #[nm,ln,pa,.bool re,rg,.slice uo' us.length uc',.slice co' cs.length cc',.slice io' is.length ic',.slice no' ms.length nc'] 77);have Y0:=Blk.new (w.alloc (.cells #[nm,ln,pa,.bool re,rg,.slice uo us.length uc,.slice co cs.length cc,.slice io is.length ic,.slice no ms.length nc] 77)) #[nm,ln,pa,.bool re,rg,.slice uo' us.length uc',.slice co' cs.length cc',.slice io' is.length ic',.slice no' ms.length nc'] 77;rw[nblk_alloc]at Y0;have X1:=X0.l hw1;have Y1:=Y0.l hw1;clear X0 Y0 hw1;have x1:=X1.cell;have y1:=Y1.cell;go_wp2_with fail;refine(Qi co co' cc cc' cs _ z2 hf (i2.l (A7.o B1)) (j2.l (A7.o B1))).mono ?_;rintro e w2 ⟨rfl,hw2⟩;have B2:=B1.trans (hw2.mono B1.size);have X2:=X1.l hw2;have Y2:=Y1.l hw2;clear X1 Y1 hw2 x1 y1;have x1:=X2.cell;have y1:=Y2.cell;go_wp2_with fail;refine(A5a io io' ic ic' is _ z3 (i3.l (A7.o B2)) (j3.l (A7.o B2))).mono ?_;rintro e w3 ⟨rfl,hw3⟩;have B3:=B2.trans (hw3.mono B2.size);have X3:=X2.l hw3;have Y3:=Y2.l hw3;clear X2 Y2 hw3 x1 y1;have x1:=X3.cell;have y1:=Y3.cell;go_wp2_with fail;refine(Zx no no' nc nc' ms _ z4 (i4.l (A7.o B3)) (j4.l (A7.o B3))).mono ?_;rintro e w4 ⟨rfl,hw4⟩;have B4:=B3.trans (hw4.mono B3.size);clear x1 y1;go_wp2;go_ret;exact⟨rfl,B4⟩
theorem Zy (ao bo:Option Addr) (c1 c2:Nat) (us:List Pd) (w:World) (hm:us.length<=1048576) (hz:∀p∈us,Ie p) (hf:∀p∈us,A4w p.consts) (h1:Ad 0 w ao us) (h2:Ad 0 w bo us) :
  Kw 38 #[.slice ao us.length c1,.slice bo us.length c2] w (true):=by
 unfold Kw;go_in;go_wp2;go_loopw [5] (fun i wr=>∃k:Nat,k<=us.length/\i=k/\Below w w wr) (fun i _=>us.length-(intOf i).toNat);case atStart=>exact⟨0,yE _,rfl,yA _ _⟩
 case round=>
  obtain⟨k,hk,rfl,hb⟩:=hrel;by_cases hlt:k<us.length
  ·obtain⟨u,huk⟩:=A8 hlt;obtain⟨b1,o1,rfl,_,hl1,x,n1,i1⟩:=h1.l (A7.o hb) k u huk;obtain⟨b2,o2,rfl,_,hl2,y,n2,i2⟩:=h2.l (A7.o hb) k u huk;have hfu:=hf u (yH huk);have hzu:=hz u (yH huk);obtain⟨p0,p1,p2,p3,p4,p5,p6,p7,p8⟩:=id n1;obtain⟨q0,q1,q2,q3,q4,q5,q6,q7,q8⟩:=id n2;clear h1 h2 hf hz;have i1d:=i1.l (A7.o (yA _ _).drew);have i2d:=i2.l (A7.o (yA _ _).drew);have n1d:J8 wr.drew b1 (o1+k*9) x u:=n1;have n2d:J8 wr.drew b2 (o2+k*9) y u:=n2;go_wp2_with fail;go_region_held3 (fun w'=>w'.cell? (b1,o1+k*9)=some (.string u.name)/\w'.cell? (b1,o1+k*9+1)=some (u.line:Value)/\w'.cell? (b1,o1+k*9+2)=some (u.params:Value)/\w'.cell? (b1,o1+k*9+3)=some (.bool u.rest)/\w'.cell? (b1,o1+k*9+4)=some (u.regs:Value)/\w'.cell? (b1,o1+k*9+5)=some (.slice x.uo u.ups.length x.uc)/\w'.cell? (b1,o1+k*9+6)=some (.slice x.co u.consts.length x.cc)/\w'.cell? (b1,o1+k*9+7)=some (.slice x.io u.ins.length x.ic)/\w'.cell? (b1,o1+k*9+8)=some (.slice x.no u.named.length x.nc)/\w'.cell? (b2,o2+k*9)=some (.string u.name)/\w'.cell? (b2,o2+k*9+1)=some (u.line:Value)/\w'.cell? (b2,o2+k*9+2)=some (u.params:Value)/\w'.cell? (b2,o2+k*9+3)=some (.bool u.rest)/\w'.cell? (b2,o2+k*9+4)=some (u.regs:Value)/\w'.cell? (b2,o2+k*9+5)=some (.slice y.uo u.ups.length y.uc)/\w'.cell? (b2,o2+k*9+6)=some (.slice y.co u.consts.length y.cc)/\w'.cell? (b2,o2+k*9+7)=some (.slice y.io u.ins.length y.ic)/\w'.cell? (b2,o2+k*9+8)=some (.slice y.no u.named.length y.nc)) (go_keep)
    (first|(go_at_call 107;refine(A2i u x y wr.drew hzu hfu i1d i2d).mono ?_;rintro e w1 ⟨rfl,hw1⟩;obtain⟨d0,d1,d2,d3,d4,d5,d6,d7,d8⟩:=n1d.l hw1 hl1;obtain⟨e0,e1,e2,e3,e4,e5,e6,e7,e8⟩:=n2d.l hw1 hl2))
   have B1:=hb.drew.trans (hw1.mono hb.size);go_wp2;go_roundw;case rel=>exact⟨k+1,by omega,by go_num,B1⟩
   case measure=>simp[intOf];omega
  ·go_wp2;go_ret;exact⟨rfl,hb⟩
theorem A59 (ao bo:Option Addr) (c1 c2:Nat) (us:List Pd) (w:World) (hm:us.length<=1048576) (hz:∀p∈us,Ie p) (hf:∀p∈us,A4w p.consts) (h1:Ad 0 w ao us) (h2:Ad 0 w bo us) :
  Kw 13 #[.agg #[.slice ao us.length c1],.agg #[.slice bo us.length c2]] w (true):=by
 have hb2:∀o1 o2,Below w w ((w.alloc o1).alloc o2):=fun o1 o2=>((yA _ _).alloc (yB _) o1).alloc (by simp) o2;unfold Kw;go_in;go_wp2_with fail;refine(Zy ao bo c1 c2 us _ hm hz hf (h1.l (A7.o (hb2 _ _))) (h2.l (A7.o (hb2 _ _)))).mono ?_;rintro e w1 ⟨rfl,hw1⟩;have B1:=(hb2 _ _).trans (hw1.mono (by simp;omega));go_wp2;go_ret;exact⟨rfl,B1⟩
def szN (n:Nat) (left:Int):Int:=if (n:Int)<=left then left-n else -1
theorem Ee (h:(n:Int)<=left):szN n left=left-n:=if_pos h
theorem Cs (h:¬(n:Int)<=left):szN n left = -1:=if_neg h
theorem Wp (n:Nat) (left:Int) (h:0<=left) : -1<=szN n left/\szN n left<=left:=by unfold szN;split<;>omega
def E5 {α:Type} (f:α->Nat):List α->Nat
 | []=>0
 | x::r=>f x+E5 f r
theorem A4f {f:α->Nat} {l:List α} {x:α} (h:x∈l):f x<=E5 f l:=by
 induction l with
 | nil=>cases h
 | cons y r ih=>
  rw[List.mem_cons]at h;rcases h with rfl|h
  ·simp only[E5];omega
  ·have:=ih h;simp only[E5];omega
def Jp (vs:List Vd):Nat:=vs.length+E5 (fun v=>v.str.size) vs
def J9 (ms:List Md):Nat:=ms.length+E5 (fun m=>m.name.size) ms
def Fa (p:Pd):Nat:=p.name.size+p.ups.length+Jp p.consts+p.ins.length+J9 p.named
def Dj (ps:List Pd):Nat:=ps.length+E5 Fa ps
def Vds (vs:List Vd):Prop:=∀v∈vs,v.str.size<=9223372036854775807
def Mds (ms:List Md):Prop:=∀m∈ms,m.name.size<=9223372036854775807
theorem A9k (ao:Option Addr) (n cap:Nat) (left:Int) (w:World) (h0:0<=left) (h1:left<=1048576) (hm:n<=9223372036854775807) :
  Calls prog 158 #[.slice ao n cap,left] w fun e w'=>e=.returned (szN n left:Int)/\w'=w:=by
 go_in;go_wp2_with fail
 ·go_ret;exact⟨Ar (Cs (by omega)).symm,rfl⟩
 ·go_ret;exact⟨Ar (Ee (by omega)).symm,rfl⟩
theorem A6l (ao:Option Addr) (n cap:Nat) (left:Int) (w:World) (h0:0<=left) (h1:left<=1048576) (hm:n<=9223372036854775807) :
  Calls prog 160 #[.slice ao n cap,left] w fun e w'=>e=.returned (szN n left:Int)/\w'=w:=by
 go_in;go_wp2_with fail
 ·go_ret;exact⟨Ar (Cs (by omega)).symm,rfl⟩
 ·go_ret;exact⟨Ar (Ee (by omega)).symm,rfl⟩
theorem A4j (v:Vd) (left:Int) (w:World) (h0:0<=left) (h1:left<=1048576) (hm:v.str.size<=9223372036854775807) :
  Kw 239 #[v.val,left] w (szN v.str.size left:Int):=by
 obtain⟨k,n,f,s,r⟩:=v;dsimp only[Vd.val]at hm ⊢;unfold Kw;go_in;go_wp2_with fail
 ·go_ret;exact⟨Ar (Cs (by omega)).symm,(yA _ _).alloc (yB _) _⟩
 ·go_ret;exact⟨Ar (Ee (by omega)).symm,(yA _ _).alloc (yB _) _⟩
theorem A4h (v:Md) (left:Int) (w:World) (h0:0<=left) (h1:left<=1048576) (hm:v.name.size<=9223372036854775807) :
  Kw 240 #[v.val,left] w (szN v.name.size left:Int):=by
 obtain⟨s,k,n,r⟩:=v;dsimp only[Md.val]at hm ⊢;unfold Kw;go_in;go_wp2_with fail
 ·go_ret;exact⟨Ar (Cs (by omega)).symm,(yA _ _).alloc (yB _) _⟩
 ·go_ret;exact⟨Ar (Ee (by omega)).symm,(yA _ _).alloc (yB _) _⟩
theorem Wo {f:α->Nat} {l:List α} {x:α} (h:l[k]?=some x):E5 f (l.drop k)=f x+E5 f (l.drop (k+1)):=by rw[Ao h];rfl
theorem A1l (ao:Option Addr) (cap:Nat) (vs:List Vd) (left:Int) (w:World) (h0:0<=left) (h1:left<=1048576) (hm:vs.length<=9223372036854775807) (hs:Vds vs) (hv:Ba 0 w ao vs) :
  Kw 159 #[.slice ao vs.length cap,left] w (szN (Jp vs) left:Int):=by
 unfold Kw;go_in;go_wp2_with fail
 ·go_ret;exact⟨Ar (Cs (by unfold Jp;omega)).symm,yA _ _⟩
 ·have hge:0<=left-(vs.length:Int):=by assumption
  go_loopw [1,5] (fun l i wr=>∃(k:Nat) (q:Int),k<=vs.length/\i=k/\l=q/\0<=q/\q<=1048576/\Hid (szN (E5 (fun v=>v.str.size) (vs.drop k)) q=szN (Jp vs) left)/\Below w w wr) (fun _ i _=>vs.length-(intOf i).toNat);case atStart=>exact⟨0,_,yE _,rfl,rfl,by omega,by omega,by show _=_;rw[List.drop_zero];unfold szN Jp;split<;>split<;>omega,yA _ _⟩
  case round=>
   obtain⟨k,q,hk,rfl,rfl,hq0,hq1,HQ,hb⟩:=hrel;by_cases hlt:k<vs.length
   ·obtain⟨v,hvk⟩:=A8 hlt;obtain⟨b,off,rfl,_,hbl,hat⟩:=hv.l (A7.o hb) k v hvk;have hss:=hs v (yH hvk);have HD:Hid _:=Wo (f:=fun v:Vd=>v.str.size) hvk;obtain⟨p0,p1,p2,p3,p4⟩:=hat;clear hv;go_wp2_with fail;refine(A4j v q _ hq0 hq1 hss).mono ?_;rintro e w1 ⟨rfl,hw1⟩;have hb1:=hb.trans (hw1.mono hb.size);have hbd:=Wp v.str.size q hq0;by_cases hn:(v.str.size:Int)<=q
    ·rw[Ee hn];go_wp2;go_roundw;case rel=>exact⟨k+1,_,by omega,by go_num,rfl,by omega,by omega,by
      have h:=HQ.out;rw[HD.out]at h;show _=_;rw[←h];unfold szN;split<;>split<;>omega,hb1⟩
     case measure=>simp[intOf];omega
    ·rw[Cs hn];go_wp2;go_ret;exact⟨Ar (by have h:=HQ.out;rw[HD.out]at h;rw[←h,Cs (by omega)]),hb1⟩
   ·go_wp2;go_ret;have h:=HQ.out;rw[yQ (by omega)]at h;exact⟨Ar (by rw[←h,Ee (by simpa[E5]using hq0)];simp[E5]),hb⟩
theorem A1j (ao:Option Addr) (cap:Nat) (vs:List Md) (left:Int) (w:World) (h0:0<=left) (h1:left<=1048576) (hm:vs.length<=9223372036854775807) (hs:Mds vs) (hv:J7 0 w ao vs) :
  Kw 161 #[.slice ao vs.length cap,left] w (szN (J9 vs) left:Int):=by
 unfold Kw;go_in;go_wp2_with fail
 ·go_ret;exact⟨Ar (Cs (by unfold J9;omega)).symm,yA _ _⟩
 ·have hge:0<=left-(vs.length:Int):=by assumption
  go_loopw [1,5] (fun l i wr=>∃(k:Nat) (q:Int),k<=vs.length/\i=k/\l=q/\0<=q/\q<=1048576/\Hid (szN (E5 (fun v=>v.name.size) (vs.drop k)) q=szN (J9 vs) left)/\Below w w wr) (fun _ i _=>vs.length-(intOf i).toNat);case atStart=>exact⟨0,_,yE _,rfl,rfl,by omega,by omega,by show _=_;rw[List.drop_zero];unfold szN J9;split<;>split<;>omega,yA _ _⟩
  case round=>
   obtain⟨k,q,hk,rfl,rfl,hq0,hq1,HQ,hb⟩:=hrel;by_cases hlt:k<vs.length
   ·obtain⟨v,hvk⟩:=A8 hlt;obtain⟨b,off,rfl,_,hbl,hat⟩:=hv.l (A7.o hb) k v hvk;have hss:=hs v (yH hvk);have HD:Hid _:=Wo (f:=fun v:Md=>v.name.size) hvk;obtain⟨p0,p1,p2,p3⟩:=hat;clear hv;go_wp2_with fail;refine(A4h v q _ hq0 hq1 hss).mono ?_;rintro e w1 ⟨rfl,hw1⟩;have hb1:=hb.trans (hw1.mono hb.size);have hbd:=Wp v.name.size q hq0;by_cases hn:(v.name.size:Int)<=q
    ·rw[Ee hn];go_wp2;go_roundw;case rel=>exact⟨k+1,_,by omega,by go_num,rfl,by omega,by omega,by
      have h:=HQ.out;rw[HD.out]at h;show _=_;rw[←h];unfold szN;split<;>split<;>omega,hb1⟩
     case measure=>simp[intOf];omega
    ·rw[Cs hn];go_wp2;go_ret;exact⟨Ar (by have h:=HQ.out;rw[HD.out]at h;rw[←h,Cs (by omega)]),hb1⟩
   ·go_wp2;go_ret;have h:=HQ.out;rw[yQ (by omega)]at h;exact⟨Ar (by rw[←h,Ee (by simpa[E5]using hq0)];simp[E5]),hb⟩
theorem Nn {a r:Nat} (_h:(a:Int)<=left):szN (a+r) left=szN r (left-a):=by unfold szN;split<;>split<;>omega
structure PSz (p:Pd):Prop where
 name:p.name.size<=9223372036854775807
 ups:p.ups.length<=9223372036854775807
 consts:p.consts.length<=9223372036854775807
 ins:p.ins.length<=9223372036854775807
 named:p.named.length<=9223372036854775807
 strs:Vds p.consts
 names:Mds p.named
theorem A4i (p:Pd) (h:Ph) (left:Int) (w:World) (h0:0<=left) (h1:left<=1048576) (hz:PSz p) (hp:PIn 0 w h p) :
  Kw 81 #[.agg (p.cells h),left] w (szN (Fa p) left:Int):=by
 obtain⟨z0,z1,z2,z3,z4,z5,z6⟩:=hz;obtain⟨i1,i2,i3,i4⟩:=hp;have E0:Hid (Fa p=p.name.size+(p.ups.length+(Jp p.consts+(p.ins.length+J9 p.named)))):=by show Fa p=_;unfold Fa;omega
 obtain⟨nm,ln,pa,re,rg,us,cs,is,ms⟩:=p;obtain⟨uo,uc,co,cc,io,ic,no,nc⟩:=h;dsimp only[Pd.cells]at *;have hb1:∀o,Below w w (w.alloc o):=fun o=>(yA _ _).alloc (yB _) o;by_cases g0:(nm.size:Int)<=left;rotate_left
 ·unfold Kw;go_in;go_wp2;go_ret;exact⟨Ar (by rw[E0.out,Cs (by omega)]),hb1 _⟩
 unfold Kw;go_in;go_wp2_with fail;refine(A9k uo us.length uc (left-nm.size) _ (by omega) (by omega) z1).mono ?_;rintro e w1 ⟨rfl,rfl⟩;by_cases g1:(us.length:Int)<=left-nm.size;rotate_left
 ·rw[Cs (by omega)];go_wp2;go_ret;exact⟨Ar (by rw[E0.out,Nn g0,Cs (by omega)]),hb1 _⟩
 rw[Ee (by omega)];have E1:Hid (szN (Fa ⟨nm,ln,pa,re,rg,us,cs,is,ms⟩) left=szN (Jp cs+(is.length+J9 ms)) (left-nm.size-us.length)):=by show _=_;rw[E0.out,Nn g0,Nn g1]
 clear E0;generalize hq1:left-(nm.size:Int)-us.length=q1 at *;have hq10:0<=q1/\q1<=1048576:=by omega
 clear hq1 g0 g1 h0 h1;obtain⟨h0,h1⟩:=hq10;go_wp2_with fail;refine(A1l co cc cs q1 _ h0 h1 z2 z5 (i2.l (A7.o (hb1 _)))).mono ?_;rintro e w2 ⟨rfl,hw2⟩;have B2:=(hb1 _).trans (hw2.mono (by simp));obtain⟨k1,k2⟩:=Oe hw2;by_cases g2:(Jp cs:Int)<=q1;rotate_left
 ·rw[Cs (by omega)];go_wp2;go_ret;exact⟨Ar (by rw[E1.out,Cs (by omega)]),B2⟩
 rw[Ee (by omega)];have E2:Hid (szN (Fa ⟨nm,ln,pa,re,rg,us,cs,is,ms⟩) left=szN (is.length+J9 ms) (q1-Jp cs)):=by show _=_;rw[E1.out,Nn g2]
 clear E1 hw2;generalize hq2:q1-(Jp cs:Int)=q2 at *;have hq20:0<=q2/\q2<=1048576:=by omega
 clear hq2 g2 h0 h1;obtain⟨h0,h1⟩:=hq20;go_wp2_with fail;refine(A6l io is.length ic q2 _ h0 h1 z3).mono ?_;rintro e w3 ⟨rfl,rfl⟩;by_cases g3:(is.length:Int)<=q2;rotate_left
 ·rw[Cs (by omega)];go_wp2;go_ret;exact⟨Ar (by rw[E2.out,Cs (by omega)]),B2⟩
 rw[Ee (by omega)];have E3:Hid (szN (Fa ⟨nm,ln,pa,re,rg,us,cs,is,ms⟩) left=szN (J9 ms) (q2-is.length)):=by show _=_;rw[E2.out,Nn g3]
 clear E2;generalize hq3:q2-(is.length:Int)=q3 at *;have hq30:0<=q3/\q3<=1048576:=by omega
 clear hq3 g3 h0 h1;obtain⟨h0,h1⟩:=hq30;go_wp2_with fail;refine(A1j no nc ms q3 _ h0 h1 z4 z6 (i4.l (A7.o B2))).mono ?_;rintro e w4 ⟨rfl,hw4⟩;have B4:=B2.trans (hw4.mono B2.size);have hbd:=Wp (J9 ms) q3 h0;by_cases g4:(J9 ms:Int)<=q3
 ·rw[Ee g4];go_wp2;go_ret;exact⟨Ar (by rw[E3.out,Ee (by omega)]),B4⟩
 ·rw[Cs g4];go_wp2;go_ret;exact⟨Ar (by rw[E3.out,Cs (by omega)]),B4⟩
theorem A9j {l:List Pd} {x:Pd} (h:l[k]?=some x):E5 Fa (l.drop k)=Fa x+E5 Fa (l.drop (k+1)):=Wo h
theorem A1k (ao:Option Addr) (cap:Nat) (vs:List Pd) (left:Int) (w:World) (h0:0<=left) (h1:left<=1048576) (hm:vs.length<=9223372036854775807) (hs:∀p∈vs,PSz p) (hv:Ad 0 w ao vs) :
  Kw 32 #[.slice ao vs.length cap,left] w (szN (Dj vs) left:Int):=by
 unfold Kw;go_in;go_wp2_with fail
 ·go_ret;exact⟨Ar (Cs (by unfold Dj;omega)).symm,yA _ _⟩
 ·have hge:0<=left-(vs.length:Int):=by assumption
  go_loopw [1,5] (fun l i wr=>∃(k:Nat) (q:Int),k<=vs.length/\i=k/\l=q/\0<=q/\q<=1048576/\Hid (szN (E5 Fa (vs.drop k)) q=szN (Dj vs) left)/\Below w w wr) (fun _ i _=>vs.length-(intOf i).toNat);case atStart=>exact⟨0,_,yE _,rfl,rfl,by omega,by omega,by show _=_;rw[List.drop_zero];unfold szN Dj;split<;>split<;>omega,yA _ _⟩
  case round=>
   obtain⟨k,q,hk,rfl,rfl,hq0,hq1,HQ,hb⟩:=hrel;by_cases hlt:k<vs.length
   ·obtain⟨v,hvk⟩:=A8 hlt;obtain⟨b,off,rfl,_,hbl,h,hat,hin⟩:=hv.l (A7.o hb) k v hvk;have hss:=hs v (yH hvk);have HD:Hid _:=A9j hvk;obtain⟨p0,p1,p2,p3,p4,p5,p6,p7,p8⟩:=hat;clear hv hs;go_wp2_with fail;refine(A4i v h q _ hq0 hq1 hss hin).mono ?_;rintro e w1 ⟨rfl,hw1⟩;have hb1:=hb.trans (hw1.mono hb.size);have hbd:=Wp (Fa v) q hq0;by_cases hn:(Fa v:Int)<=q
    ·rw[Ee hn];go_wp2;go_roundw;case rel=>exact⟨k+1,_,by omega,by go_num,rfl,by omega,by omega,by
      have h:=HQ.out;rw[HD.out]at h;show _=_;rw[←h];unfold szN;split<;>split<;>omega,hb1⟩
     case measure=>simp[intOf];omega
    ·rw[Cs hn];go_wp2;go_ret;exact⟨Ar (by have h:=HQ.out;rw[HD.out]at h;rw[←h,Cs (by omega)]),hb1⟩
   ·go_wp2;go_ret;have h:=HQ.out;rw[yQ (by omega)]at h;exact⟨Ar (by rw[←h,Ee (by simpa[E5]using hq0)];simp[E5]),hb⟩
theorem A6k (ao:Option Addr) (cap:Nat) (vs:List Pd) (left:Int) (w:World) (h0:0<=left) (h1:left<=1048576) (hm:vs.length<=9223372036854775807) (hs:∀p∈vs,PSz p) (hv:Ad 0 w ao vs) :
  Kw 8 #[.agg #[.slice ao vs.length cap],left] w (szN (Dj vs) left:Int):=by
 have hb1:∀o,Below w w (w.alloc o):=fun o=>(yA _ _).alloc (yB _) o;unfold Kw;go_in;go_wp2_with fail;refine(A1k ao cap vs left _ h0 h1 hm hs (hv.l (A7.o (hb1 _)))).mono ?_;rintro e w1 ⟨rfl,hw1⟩;have B1:=(hb1 _).trans (hw1.mono (by simp));have hbd:=Wp (Dj vs) left h0;by_cases hn:(Dj vs:Int)<=left
 ·rw[Ee hn];go_wp2;go_ret;exact⟨Ar (Ee (by omega)).symm,B1⟩
 ·rw[Cs hn];go_wp2;go_ret;exact⟨Ar (Cs (by omega)).symm,B1⟩
theorem Ad0 (h:Bl 0 w (some ⟨b,off,none⟩) xs) (hj:(Az xs)[j]?=some u):w.cell? (b,off+j)=some u/\b<(w:Nat):=by simp only[Az,List.getElem?_map,Option.map_eq_some_iff]at hj;obtain⟨x,hx,rfl⟩:=hj;obtain⟨b',off',e,_,hl,hc⟩:=h j x hx;simp at e;obtain⟨rfl,rfl⟩:=e;unfold Ho at hc;rw[Nat.mul_one]at hc;exact⟨hc,hl⟩
theorem Aau {xs:List Gd} (h:Bn 0 w (some ⟨b,off,none⟩) xs) (hj:(gds xs)[j]?=some u):w.cell? (b,off+j)=some u/\b<(w:Nat):=by
 have hl:=(yD.1 hj).1;rw[Ij]at hl;obtain⟨x,hx⟩:=A8 (show j / 3<xs.length by omega);obtain⟨b',off',e,_,hb,c0,c1,c2⟩:=h (j / 3) x hx;simp at e;obtain⟨rfl,rfl⟩:=e;have hg:=Qo hx;rcases (by omega:j%3=0∨j%3=1∨j%3=2) with h3|h3|h3
 ·have:=hg 0 _ rfl;rw[show j / 3*3+0=j by omega,hj]at this;rw[yO this,show off+j=off+j / 3*3 by omega];exact⟨c0,hb⟩
 ·have:=hg 1 _ rfl;rw[show j / 3*3+1=j by omega,hj]at this;rw[yO this,show off+j=off+j / 3*3+1 by omega];exact⟨c1,hb⟩
 ·have:=hg 2 _ rfl;rw[show j / 3*3+2=j by omega,hj]at this;rw[yO this,show off+j=off+j / 3*3+2 by omega];exact⟨c2,hb⟩
theorem Lr (ao:Option Addr) (cap m:Nat) (xs:List Int) (w:World) (hm:xs.length=m) (hml:m<=1048576) (hnil:ao=none->m=0) (hx:Bl 0 w ao xs) (hoff:∀a,ao=some a->∃b o,a=⟨b,o,none⟩) :
  Calls prog 184 #[.slice ao m cap] w fun e w'=>∃v,e=.returned v/\w'.ownsRow (w:Nat) 3 1 v m (Az xs)/\Below w w w':=by
 have q22:∀(w:World) (a:Option Addr) (n c n' c':Nat),(binOp .eql 99 (.slice a n c) (.slice none n' c')).run prog w=.ok (.bool a.isNone) w:=fun w a n c n' c'=>Lib.run_eql_slice_nil w _ _ a n c n' c' underlying99;cases ao with
 | none=>
  obtain rfl:=hnil rfl;have:xs=[]:=yW.1 hm;subst this;go_in;go_wp2;go_ret;exact⟨_,rfl,yU _ _ _ _,yA _ _⟩
 | some ad=>
  obtain⟨b,off,rfl⟩:=hoff _ rfl;obtain⟨i0,hi,hz0,hz1,hz2⟩:=info_parts Tryz.info_int;have HC:Hid (∀j u,(Az xs)[j]?=some u->w.cell? ⟨b,off+j,none⟩=some u/\b<(w:Nat)):=by intro j u hj;exact Ad0 hx hj
  have HL:Hid ((Az xs).length=m*1):=by show _=_;simp[Az,hm]
  clear hx hm hoff hnil;go_in;go_wp2_with (at_builtin;refine wpList_append_own _ rfl _ _ 99 rfl (w:Nat) 3 i0 () 1 8 underlying99 hi hz0 hz1 hz2 rfl (by decide) _ _ _ rfl (World.ownsRow_made w #[] 0 (yB _) (yE _) (by simp)) ⟨b,off,none⟩ m cap (Az xs) rfl ?qc1 ?qc2 ?qc3 ?qc4 ?qc5 ?qc6 ?_);case qc1=>exact HL.out
  case qc2=> intro j u hj;rw[Addr.add_lit];obtain⟨h1,h2⟩:=HC.out j u hj;exact(((yA (w:Nat) w).alloc (yB _) _).cell (p:=(b,off+j)) h2).trans h1
  case qc3=> intro u hu;simp[Az]at hu;obtain⟨x,_,rfl⟩:=hu;rfl
  case qc4=>unfold maxLen;omega
  case qc5=>omega
  case qc6=>simp
  ·intro v' w1 hown hgrow _;have hown:w1.ownsRow (w:Nat) 3 1 v' m (Az xs):=by simpa using hown
   have B1:=((yA _ w).alloc (yB _) _).grown hgrow (by simp) (by intro k hk;simp[Value.ownBlock]at hk;omega);obtain⟨vo,vc,rfl⟩:=Aa hown;clear hgrow;go_wp2;go_ret;exact⟨_,rfl,hown,B1⟩
theorem A2b (ao:Option Addr) (cap m:Nat) (xs:List Gd) (w:World) (hm:xs.length=m) (hml:m<=1048576) (hnil:ao=none->m=0) (hx:Bn 0 w ao xs) (hoff:∀a,ao=some a->∃b o,a=⟨b,o,none⟩) :
  Calls prog 253 #[.slice ao m cap] w fun e w'=>∃v,e=.returned v/\w'.ownsRow (w:Nat) 280 3 v m (gds xs)/\Below w w w':=by
 have q22:∀(w:World) (a:Option Addr) (n c n' c':Nat),(binOp .eql 144 (.slice a n c) (.slice none n' c')).run prog w=.ok (.bool a.isNone) w:=fun w a n c n' c'=>Lib.run_eql_slice_nil w _ _ a n c n' c' underlying144;cases ao with
 | none=>
  obtain rfl:=hnil rfl;have:xs=[]:=yW.1 hm;subst this;go_in;go_wp2;go_ret;exact⟨_,rfl,yU _ _ _ _,yA _ _⟩
 | some ad=>
  obtain⟨b,off,rfl⟩:=hoff _ rfl;obtain⟨i0,hi,hz0,hz1,hz2⟩:=info_parts Tryz.info_Guard;have HC:Hid (∀j u,(gds xs)[j]?=some u->w.cell? ⟨b,off+j,none⟩=some u/\b<(w:Nat)):=by intro j u hj;exact Aau hx hj
  have HL:Hid ((gds xs).length=m*3):=by show _=_;rw[Ij,hm]
  clear hx hm hoff hnil;go_in;go_wp2_with (at_builtin;refine wpList_append_own _ rfl _ _ 144 rfl (w:Nat) 280 i0 (.agg #[false,(),()]) 3 24 underlying144 hi hz0 hz1 hz2 rfl (by decide) _ _ _ rfl (World.ownsRow_made w #[] 0 (yB _) (yE _) (by simp)) ⟨b,off,none⟩ m cap (gds xs) rfl ?qc1 ?qc2 ?qc3 ?qc4 ?qc5 ?qc6 ?_);case qc1=>exact HL.out
  case qc2=> intro j u hj;rw[Addr.add_lit];obtain⟨h1,h2⟩:=HC.out j u hj;exact(((yA (w:Nat) w).alloc (yB _) _).cell (p:=(b,off+j)) h2).trans h1
  case qc3=> intro u hu;simp[gds,Gd.vals]at hu;obtain⟨x,_,rfl|rfl|rfl⟩:=hu<;>rfl
  case qc4=>unfold maxLen;omega
  case qc5=>omega
  case qc6=>simp
  ·intro v' w1 hown hgrow _;have hown:w1.ownsRow (w:Nat) 280 3 v' m (gds xs):=by simpa using hown
   have B1:=((yA _ w).alloc (yB _) _).grown hgrow (by simp) (by intro k hk;simp[Value.ownBlock]at hk;omega);obtain⟨vo,vc,rfl⟩:=Aa hown;clear hgrow;go_wp2;go_ret;exact⟨_,rfl,hown,B1⟩
end Go.Proofs.YtjbbppblgjhapaaGreatDoor
