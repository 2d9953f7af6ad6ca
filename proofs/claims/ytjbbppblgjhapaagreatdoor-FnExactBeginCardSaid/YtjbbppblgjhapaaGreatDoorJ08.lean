import Derived.Test.YtjbbppblgjhapaaGreatDoorJ07
set_option maxRecDepth 100000
set_option maxHeartbeats 2000000
namespace Go.Proofs.YtjbbppblgjhapaaGreatDoor
open Go.Deep Go.Proofs.Tryz Go.RowKit
variable{a:Act}{v:Bool}{m:List Bool}{ps:List Pd}{l:List Ud}{i k pi:Nat}{n:Nd}{op:Oper}{o:Option Nat}{p:Pd}{ty:TypeId}{u:Ud}{W:World}
attribute [local go_sem] Ac
def upB (p:Pd) (u:Ud):Bool:=if u.loc then inR u.idx 0 (p.regs-1) else inR u.idx 0 (p.ups.length-1)
def Mm (p:Pd) (us:List Ud):Bool:=us.all (upB p)
theorem Ze (h:l[k]?=some u):Mm p (l.drop k)=(upB p u&&Mm p (l.drop (k+1))):=by rw[Ao h];rfl
theorem A6p (p:Pd) (h:Ph) (ao:Option Addr) (cap:Nat) (us:List Ud) (w:World) (hm:us.length<=1048576) (hz:Ie p) (hr:0<=p.regs/\p.regs<=250) (hu:Je 0 w ao us) :
  Kw 179 #[.agg (p.cells h),.slice ao us.length cap] w (.bool (Mm p us)):=by
 have hb1:∀o,Below w w (w.alloc o):=fun o=>(yA _ _).alloc (yB _) o;obtain⟨hr1,hr2⟩:=hr;have z1:=hz.ups;have X0:=Blk.new w (p.cells h) 77;unfold Pd.cells at *;unfold Kw;go_in;go_wp2;go_loopw [10] (fun y wr=>∃k:Nat,k<=us.length/\y=k/\Hid (Mm p (us.drop k)=Mm p us)/\Below w w wr/\Blk wr (w:Nat) #[p.name,p.line,p.params,.bool p.rest,p.regs,.slice h.uo p.ups.length h.uc,.slice h.co p.consts.length h.cc,.slice h.io p.ins.length h.ic,.slice h.no p.named.length h.nc] 77) (fun y _=>us.length-(intOf y).toNat);case atStart=>exact⟨0,yE _,rfl,rfl,hb1 _,X0⟩
 case round=>
  obtain⟨k,hk,rfl,HQ,hb,X1⟩:=hrel;clear X0;by_cases hkl:k<us.length
  ·obtain⟨u,huk⟩:=A8 hkl;obtain⟨b,off,rfl,_,hbl,q0,q1⟩:=hu.l (A7.o hb) k u huk;have HD:Hid _:=HQ.out.symm.trans (Ze huk);have HU:Hid (upB p u=if u.loc then inR u.idx 0 (p.regs-1) else inR u.idx 0 (p.ups.length-1)):=rfl;have hba:=fun o=>hb.alloc hb.size o;have XA:Hid _:=fun o=>X1.alloc o;have x1:=fun o=>(X1.alloc o).cell;obtain⟨l,x⟩:=u;dsimp only at *;clear hu HQ huk;cases l
   ·go_wp2_with (go_at_call 133;refine(Cq _ _ _ _).mono ?_;rintro e w' ⟨rfl,rfl⟩)
    ·go_ret;exact⟨Ab (by rw[HD.out,HU.out];simp_all),hba _⟩
    ·go_roundw;case rel=>exact⟨k+1,by omega,by go_num,by show _=_;rw[HD.out,HU.out];simp_all,hba _,XA.out _⟩
     case measure=>simp[intOf];omega
   ·go_wp2_with (go_at_call 133;refine(Cq _ _ _ _).mono ?_;rintro e w' ⟨rfl,rfl⟩)
    ·go_ret;exact⟨Ab (by rw[HD.out,HU.out];simp_all),hba _⟩
    ·go_roundw;case rel=>exact⟨k+1,by omega,by go_num,by show _=_;rw[HD.out,HU.out];simp_all,hba _,XA.out _⟩
     case measure=>simp[intOf];omega
  ·go_wp2;go_ret;have h1:=HQ.out;rw[yQ (by omega)]at h1;exact⟨Ab h1,hb⟩
theorem A3a (ao:Option Addr) (cap:Nat) (ps:List Pd) (i j:Nat) (p q:Pd) (w:World) (hi:ps[i]?=some p) (hj:ps[j]?=some q) (hz:Ie p) (hzq:Ie q) (hr:0<=p.regs/\p.regs<=250) (hv:Ad 0 w ao ps) :
  Kw 83 #[.agg #[.slice ao ps.length cap],i,j] w (.bool (Mm p q.ups)):=by
 have hlt:=(yD.1 hi).1;have hltj:=(yD.1 hj).1;have hb1:∀o,Below w w (w.alloc o):=fun o=>(yA _ _).alloc (yB _) o;obtain⟨b,off,e0,_,hbl,h,⟨p0,p1,p2,p3,p4,p5,p6,p7,p8⟩,i1⟩:=hv i p hi;obtain⟨b2,off2,e2,_,_,h2,⟨q0,q1,q2,q3,q4,q5,q6,q7,q8⟩,i2⟩:=hv j q hj;obtain⟨rfl,rfl⟩:b=b2/\off=off2:=by rw[e0]at e2;simpa using e2
 subst e0;have hu:=i2.ups;clear hv i1 i2 e2 hi hj;obtain⟨hr1,hr2⟩:=hr;have z1:=hz.ups;have z2:=hzq.ups;have C0:=Blk.new w #[.slice (some ⟨b,off,none⟩) ps.length cap] 31;clear p0 p1 p2 p3 p6 p7 p8 q0 q1 q2 q3 q4 q6 q7 q8;unfold Kw;go_in;go_wp2;go_loopw [16] (fun y wr=>∃k:Nat,k<=q.ups.length/\y=k/\Hid (Mm p (q.ups.drop k)=Mm p q.ups)/\Below w w wr/\Blk wr (w:Nat) #[.slice (some ⟨b,off,none⟩) ps.length cap] 31) (fun y _=>q.ups.length-(intOf y).toNat);case atStart=>exact⟨0,yE _,rfl,rfl,hb1 _,C0⟩
 case round=>
  obtain⟨k,hk,rfl,HQ,hb,C1⟩:=hrel;clear C0;by_cases hkl:k<q.ups.length
  ·obtain⟨u,huk⟩:=A8 hkl;obtain⟨b',off',e',_,hbl',q0,q1⟩:=hu.l (A7.o hb) k u huk;have HD:Hid _:=HQ.out.symm.trans (Ze huk);have HU:Hid (upB p u=if u.loc then inR u.idx 0 (p.regs-1) else inR u.idx 0 (p.ups.length-1)):=rfl;have hba:=fun o=>hb.alloc hb.size o;have CA:Hid _:=fun o=>C1.alloc o;have c1:=fun o=>(C1.alloc o).cell;have r4:∀o,(wr.alloc o).cell? (b,off+i*9+4)=some (p.regs:Value):=fun o=>((hba o).cell (p:=(b,off+i*9+4)) hbl).trans p4;have r5:∀o,(wr.alloc o).cell? (b,off+i*9+5)=some (.slice h.uo p.ups.length h.uc):=fun o=>((hba o).cell (p:=(b,off+i*9+5)) hbl).trans p5;obtain⟨l,x⟩:=u;obtain⟨uo,uc,co,cc,io,ic,no,nc⟩:=h2;dsimp only at *;subst e';clear hu HQ huk p4 p5 q5;cases l
   ·cases hin:inR x 0 (p.ups.length-1)
    ·go_wp2_with fail;go_quiet ((go_at_call 166;exact Calls.quiet_of_same (Jw _ _ _ _)));go_wp2;go_ret;exact⟨Ab (by rw[HD.out,HU.out];simp[hin]),below_drewN (hba _) _⟩
    ·go_wp2_with fail;go_quiet ((go_at_call 166;exact Calls.quiet_of_same (Jw _ _ _ _)));go_wp2;go_roundw;case rel=>exact⟨k+1,by omega,by go_num,by show _=_;rw[HD.out,HU.out];simp[hin],below_drewN (hba _) _,CA.out _⟩
     case measure=>simp[intOf];omega
   ·cases hin:inR x 0 (p.regs-1)
    ·go_wp2_with fail;go_quiet ((go_at_call 166;exact Calls.quiet_of_same (Jw _ _ _ _)));go_wp2;go_ret;exact⟨Ab (by rw[HD.out,HU.out];simp[hin]),below_drewN (hba _) _⟩
    ·go_wp2_with fail;go_quiet ((go_at_call 166;exact Calls.quiet_of_same (Jw _ _ _ _)));go_wp2;go_roundw;case rel=>exact⟨k+1,by omega,by go_num,by show _=_;rw[HD.out,HU.out];simp[hin],below_drewN (hba _) _,CA.out _⟩
     case measure=>simp[intOf];omega
  ·go_wp2;go_ret;have h1:=HQ.out;rw[yQ (by omega)]at h1;exact⟨Ab h1,hb⟩
theorem Bv (c p a:Int) (w:World) :
  Kw 84 #[c,p,a] w (.agg #[c,p,a]):=by
 unfold Kw;go_in;go_wp2_with fail;refine bodyPost_ret ?_ rfl ⟨rfl,(yA _ _).alloc (yB _) _⟩;simp[results,results84,go_sem]
def Cc (m:List Bool):Array Value:=(m.map Value.bool).toArray
theorem E8 (m:List Bool) (i:Nat) (b:Bool):(Cc m).setIfInBounds i (.bool b)=Cc (m.set i b):=by unfold Cc;rw[yC,List.map_set]
theorem Bo (h:i<m.length):(Cc m)[i]?=some (.bool (m.getD i false)):=by unfold Cc;simp[h]
def Cn (v:Bool):List Bool->Nat->Int
 | [],_=>-1
 | b::r,k=>if b=v then k else Cn v r (k+1)
theorem Oi {l:List Bool} (h:k<l.length):Cn v (l.drop k) k=if l.getD k false=v then (k:Int) else Cn v (l.drop (k+1)) (k+1):=by rw[List.drop_eq_getElem_cons h,Cn];simp[h]
theorem Xp (g c:Nat) (m:List Bool) (v:Bool) (w:World) (hm:m.length<=1048576) (hB:Blk w g (Cc m) 4) :
  Kw 180 #[.slice g m.length c,.bool v] w (Cn v m 0:Int):=by
 unfold Kw;go_in;go_wp2;go_loop [8] (fun y=>∃k:Nat,k<=m.length/\y=k/\Hid (Cn v (m.drop k) k=Cn v m 0)) (fun y=>m.length-(intOf y).toNat);case atStart=>exact⟨0,yE _,rfl,rfl⟩
 case round=>
  obtain⟨k,hk,rfl,HQ⟩:=hrel;by_cases hkl:k<m.length
  ·have HD:Hid (Cn v m 0=if m.getD k false=v then (k:Int) else Cn v (m.drop (k+1)) (k+1)):=HQ.out.symm.trans (Oi hkl);have c1:=(hB.cell k).trans (Bo hkl);generalize m.getD k false=x at *;clear hB HQ;by_cases hx:x=v
   ·subst hx;go_wp2;go_ret;exact⟨Ar (by rw[HD.out];simp),yA _ _⟩
   ·have hx':(v==x)=false:=by cases x<;>cases v<;>simp_all
    have HX:Hid (¬x=v):=hx;clear hx;go_wp2;go_round;case rel=>exact⟨k+1,by omega,by go_num,by show _=_;rw[HD.out,if_neg HX.out]⟩
    case measure=>simp[intOf];omega
  ·go_wp2;go_ret;have h1:=HQ.out;rw[yQ (by omega)]at h1;exact⟨Ar h1,yA _ _⟩
def Kr (ps:List Pd) (pi:Nat) (p:Pd) (m:List Bool) (n:Nd):Bool:=
 decide (n.b<=pi)||(m.getD n.b.toNat false||!Mm p ((ps[n.b.toNat]?.map Pd.ups).getD []))
def Eg (ps:List Pd) (pi:Nat) (p:Pd):Nat->List Nd->List Bool->Option Nat×List Bool
 | _,[],m=>(none,m)
 | k,n::r,m=>if n.op==11 then (if Kr ps pi p m n then (some k,m) else Eg ps pi p (k+1) r (m.set n.b.toNat true)) else Eg ps pi p (k+1) r m
theorem Vs {l:List Nd} (h:l[k]?=some n) (m:List Bool) :
  Eg ps pi p k (l.drop k) m=if n.op==11 then (if Kr ps pi p m n then (some k,m) else Eg ps pi p (k+1) (l.drop (k+1)) (m.set n.b.toNat true)) else Eg ps pi p (k+1) (l.drop (k+1)) m:=by
 rw[Ao h];rfl
def J4 (ps:List Pd):Nat->List Pd->List Bool->Option (Nat×Nat)×List Bool
 | _,[],m=>(none,m)
 | pi,p::r,m=>match Eg ps pi p 0 p.ins m with
  | (some k,m')=>(some (pi,k),m')
  | (none,m')=>J4 ps (pi+1) r m'
theorem Vr{l:List Pd} (h:l[k]?=some p) (m:List Bool) :
  J4 ps k (l.drop k) m=match Eg ps k p 0 p.ins m with
  | (some j,m')=>(some (k,j),m')
  | (none,m')=>J4 ps (k+1) (l.drop (k+1)) m':=by
 rw[Ao h];rfl
def Aa6:Option Nat->Value
  | none=>.tuple #[(),true]
  | some i=>.tuple #[i,false]
theorem Yl (h:o=none):Ending.returned (.tuple #[(),true])=.returned (Aa6 o):=by rw[h];rfl
theorem Ym (h:o=some i):Ending.returned (.tuple #[i,false])=.returned (Aa6 o):=by rw[h];rfl
theorem Ur (ao:Option Addr) (cap:Nat) (ps:List Pd) (i:Nat) (p:Pd) (w:World) (hi:ps[i]?=some p) (hz:Ie p) (hr:0<=p.regs/\p.regs<=250) (hv:Ad 0 w ao ps) :
    Kw 98 #[.agg #[.slice ao ps.length cap],i] w (Aa6 (Ak (Io p) 0 p.named)):=by
  have hlt:=(yD.1 hi).1
  have hb2:∀o1 o2,Below w w ((w.alloc o1).alloc o2):=fun o1 o2=>((yA _ _).alloc (yB _) o1).alloc (by simp) o2
  obtain⟨b,off,rfl,_,hbl,h,n1,i1⟩:=hv i p hi
  have hn:=i1.named
  clear hv hi i1
  obtain⟨z1,z2,z3,z4⟩:=hz
  have E0:Hid (∀i m,Io p i m=(decide ((i:Int)<500)&&inR m.name.size 1 40&&inR m.reg 0 (p.regs-1)&&decide (0<=m.fr)&&decide (m.fr<=m.to)&&decide (m.to<=p.ins.length))):=fun _ _=>rfl
  have HF:Hid (∀k m,p.named[k]?=some m->Ak (Io p) k (p.named.drop k)=if Io p k m then Ak (Io p) (k+1) (p.named.drop (k+1)) else some k):=fun k m hm=>Fy hm
  generalize Io p=nb at *
  obtain⟨nm,ln,pa,re,rg,us,cs,is,ms⟩:=p
  obtain⟨uo,uc,co,cc,io,ic,no,nc⟩:=h
  obtain⟨p0,p1,p2,p3,p4,p5,p6,p7,p8⟩:=n1
  dsimp only at *
  obtain⟨hr1,hr2⟩:=hr
  have X0:=Blk.new (w.alloc (.cells #[.slice (some ⟨b,off,none⟩) ps.length cap] 31)) #[nm,ln,pa,.bool re,rg,.slice uo us.length uc,.slice co cs.length cc,.slice io is.length ic,.slice no ms.length nc] 77
  rw[nblk_alloc]at X0
  unfold Kw;go_in
  go_wp2
  go_loopw [18] (fun x wr=>∃k:Nat,k<=ms.length/\k<=500/\x=k/\Hid (Ak nb k (ms.drop k)=Ak nb 0 ms)/\Below w w wr/\Blk wr ((w:Nat)+1) #[nm,ln,pa,.bool re,rg,.slice uo us.length uc,.slice co cs.length cc,.slice io is.length ic,.slice no ms.length nc] 77) (fun x _=>ms.length-(intOf x).toNat)
  case atStart=>exact⟨0,yE _,by omega,rfl,rfl,hb2 _ _,X0⟩
  case round=>
    obtain⟨k,hk,hk5,rfl,HQ,hb,X1⟩:=hrel
    clear X0 p0 p1 p2 p3 p4 p5 p6 p7 p8
    by_cases hkl:k<ms.length
    · obtain⟨m,hmk⟩:=A8 hkl
      obtain⟨b',off',rfl,_,hbl',q0,q1,q2,q3⟩:=hn.l (A7.o hb) k m hmk
      have HD:Hid _:=HQ.out.symm.trans (HF.out k m hmk)
      have HN:Hid (nb k m=_):=E0.out k m
      have x1:=fun o=>(X1.alloc o).cell
      have hba:=fun o=>hb.alloc hb.size o
      have hXa:∀o,Blk (wr.alloc o) ((w:Nat)+1) _ _:=fun o=>X1.alloc o
      obtain⟨m0,m1,m2,m3⟩:=m
      dsimp only at *
      clear hn HF E0 HQ hb2 hmk
      go_wp2_with (go_at_call 133;refine(Cq _ _ _ _).mono ?_;rintro e w' ⟨rfl,rfl⟩)
      all_goals first
        | (go_ret2
           exact⟨Ym (by rw[HD.out,HN.out];clear x1 hba hXa HD HN q0 q1 q2 q3;first|(simp_all;done)|(simp_all;omega)),hba _⟩)
        | (have h5:¬(k:Int)=500:=by simpa using (by assumption:((k:Int)==500)=false)
           go_roundw
           case rel=>exact⟨k+1,by omega,by omega,by go_num,by
             show _=_
             rw[HD.out,HN.out,if_pos]
             clear x1 hba hXa HD HN q0 q1 q2 q3
             first|(simp_all;done)|(simp_all;omega),hba _,hXa _⟩
           case measure=>simp[intOf];omega)
    · go_wp2
      go_ret2
      have h:=HQ.out
      rw[yQ (by omega)]at h
      exact⟨Yl h.symm,hb⟩
theorem Yc (d:Nat) (w:World) (x y:Nat):(Op.equalIn (d+1) 208 (.float .f64 x) (.float .f64 y)).run prog w=.ok (FloatKind.f64.format.order x y==some .eq) w:=by simp[Op.equalIn,run_underlying underlying208,Op.floatEq]
theorem A1e (w:World) (x y:Nat):(Op.equalIn 9999 208 (.float .f64 x) (.float .f64 y)).run prog w=.ok (FloatKind.f64.format.order x y==some .eq) w:=Yc 9998 w x y
theorem A9r (v:Vd) (w:World) :
  Kw 247 #[v.val] w (.bool (De v)):=by
 obtain⟨x0,x1,x2,x3,x4⟩:=v;have hb2:∀o1 o2,Below w w ((w.alloc o1).alloc o2):=fun o1 o2=>((yA _ _).alloc (yB _) o1).alloc (by simp) o2;have he:=A1e;dsimp only[Vd.val];rcases A7d x0 with rfl|rfl|rfl|rfl|rfl|rfl|rfl|rfl|rfl|hk
 rotate_right
 ·obtain⟨h0,h1,h2,h3,h4,h5,h6,h7,h8⟩:=hk;have k0:(x0==0)=false:=by simpa using h0
  have k1:(x0==1)=false:=by simpa using h1
  have k2:(x0==2)=false:=by simpa using h2
  have k3:(x0==3)=false:=by simpa using h3
  have k4:(x0==4)=false:=by simpa using h4
  have k5:(x0==5)=false:=by simpa using h5
  have k6:(x0==6)=false:=by simpa using h6
  have k7:(x0==7)=false:=by simpa using h7
  have k8:(x0==8)=false:=by simpa using h8
  unfold Kw;go_in;go_wp2;go_ret;exact⟨Ab (by simp[De,h0,h1,h2,h3,h4,h5,h6,h7,h8]),hb2 _ _⟩
 ·unfold Kw;go_in;go_wp2_with fail;all_goals
   go_ret;refine⟨Ab ?_,hb2 _ _⟩;clear hb2 he
   simp_all [De,Fe,fz]
 ·have h1:(x1==0)=true/\(x1==1)=false∨(x1==0)=false/\(x1==1)=true∨(x1==0)=false/\(x1==1)=false:=by simp;omega
  rcases h1 with ⟨k1,k2⟩|⟨k1,k2⟩|⟨k1,k2⟩;all_goals
   unfold Kw;go_in;go_wp2_with fail;go_region;all_goals go_wp2_with fail
   all_goals
    go_ret;refine⟨Ab ?_,(hb2 _ _).drew⟩;clear hb2 he;first|(simp_all [De,Fe,fz];done)|(simp_all [De,Fe,fz];omega)
 ·unfold Kw;go_in;go_wp2_with fail;all_goals
   go_ret;refine⟨Ab ?_,hb2 _ _⟩;clear hb2 he
   simp_all [De,Fe,fz]
 ·unfold Kw;go_in;go_wp2_with fail;all_goals
   go_ret;refine⟨Ab ?_,hb2 _ _⟩;clear hb2 he
   simp_all [De,Fe,fz]
 ·unfold Kw;go_in;go_wp2_with fail;go_region;all_goals go_wp2_with fail
  all_goals
   go_ret;refine⟨Ab ?_,(hb2 _ _).drew⟩;clear hb2 he;first|(simp_all [De,Fe,fz];done)|(simp_all [De,Fe,fz];omega)
 ·unfold Kw;go_in;go_wp2_with fail;go_region;all_goals go_wp2_with fail
  all_goals
   go_ret;refine⟨Ab ?_,(hb2 _ _).drew⟩;clear hb2 he;first|(simp_all [De,Fe,fz];done)|(simp_all [De,Fe,fz];omega)
 ·unfold Kw;go_in;go_wp2_with fail;go_region;all_goals go_wp2_with fail
  all_goals
   go_ret;refine⟨Ab ?_,(hb2 _ _).drew⟩;clear hb2 he;first|(simp_all [De,Fe,fz];done)|(simp_all [De,Fe,fz];omega)
 ·unfold Kw;go_in;go_wp2_with fail;go_region;all_goals go_wp2_with fail
  all_goals
   go_ret;refine⟨Ab ?_,(hb2 _ _).drew⟩;clear hb2 he;first|(simp_all [De,Fe,fz];done)|(simp_all [De,Fe,fz];omega)
 ·have h1:decide (0<=x1)=false∨(0<=x1/\x1<15)∨(0<=x1/\decide (x1<15)=false):=by simp;omega
  rcases h1 with k1|⟨k1,k2⟩|⟨k1,k2⟩;all_goals
   unfold Kw;go_in;go_wp2_with fail;go_region;all_goals go_wp2_with fail
   all_goals
    go_ret;refine⟨Ab ?_,(hb2 _ _).drew⟩;clear hb2 he;first|(simp_all [De,Fe,fz];done)|(simp_all [De,Fe,fz];omega)
theorem A8v (x:Nat) (w:World) :
  Calls prog 248 #[.float .f64 x] w fun e w'=>e=.returned (.bool (FloatKind.f64.format.order x x !=some .eq))/\w'=w:=by
 go_in;go_wp2;go_ret;exact⟨rfl,rfl⟩
theorem Abv (x:Nat) (w:World):(callFunc 289 #[.float .f64 x]).run prog w=.ok (.value (.int .u64 x)) w:=by rw[run_callFunc_extern (e:=Extern.MathFloatBits.float64bits) func289 (by kernel_rfl) (by kernel_rfl) (by kernel_rfl) (by kernel_rfl)];rfl
theorem A49 (x:Nat) (w:World) :
  Calls prog 249 #[.float .f64 x] w fun e w'=>e=.returned (.bool (decide (wrap64 x<0)))/\w'=w:=by
 have hb:=Abv;go_in;go_wp2;go_ret;exact⟨rfl,rfl⟩
def Jq (v:Vd):Bool:=De v&&(!decide (v.kind=5∨v.kind=6∨v.kind=7)&&(if v.kind=3 then FloatKind.f64.format.order v.flt v.flt==some .eq else decide (v.flt=0)))
theorem A4s {v:Vd} (h:De v=true) (hk:v.kind≠3):fz v.flt=true:=by unfold De at h;rcases A7d v.kind with e|e|e|e|e|e|e|e|e|e<;>simp_all [Fe]
theorem Adj {x:Nat} (hx:x<18446744073709551616) (h:fz x=true):∃r,floatBits .quo .f64 4607182418800017408 x=some r/\(FloatKind.f64.format.order r 0==some .gt)=decide (x=0):=by
 rcases Sm x hx h with rfl|rfl
 ·exact⟨_,A2c,by rw[Adh];rfl⟩
 ·exact⟨_,Yo,by rw[Ad6];rfl⟩
theorem Aby {x:Nat} (hx:x<18446744073709551616) (h:fz x=true):decide (wrap64 x<0) = !decide (x=0):=by rcases Sm x hx h with rfl|rfl<;>decide +kernel
theorem Xu (v:Vd) (hf:v.flt<18446744073709551616) (w:World) :
  Kw 163 #[v.val] w (.bool (Jq v)):=by
 have hv:=A1z v;have hz:=@A4s v;have hq:=@Adj v.flt hf;clear hf;have HC:Hid (Jq v=(De v&&(!decide (v.kind=5∨v.kind=6∨v.kind=7)&&(if v.kind=3 then FloatKind.f64.format.order v.flt v.flt==some .eq else decide (v.flt=0))))):=rfl;obtain⟨x0,x1,x2,x3,x4⟩:=v;dsimp only[Vd.val]at *;generalize Jq ⟨x0,x1,x2,x3,x4⟩=cb at *;generalize De ⟨x0,x1,x2,x3,x4⟩=vb at *;have hb1:∀o,Below w w (w.alloc o):=fun o=>(yA _ _).alloc (yB _) o;have X0:=Blk.new w #[x0,x1,.float .f64 x2,x3,x4] 210;have HV:Hid _:=hv;clear hv;cases vb
 ·clear hz hq;unfold Kw;go_in;go_wp2_with (go_at_call 241;refine(HV.out _).mono ?_;rintro e w1 ⟨rfl,hw1⟩;have y1:=(X0.l hw1).cell);go_ret;exact⟨Ab (by rw[HC.out];simp),(hb1 _).trans (hw1.mono (by simp))⟩
 ·by_cases h3:x0=3
  ·subst h3;clear hz hq;unfold Kw;go_in;go_wp2_with (go_at_call 241;refine(HV.out _).mono ?_;rintro e w1 ⟨rfl,hw1⟩;have y1:=(X0.l hw1).cell);go_ret;exact⟨Ab (by rw[HC.out];simp),(hb1 _).trans (hw1.mono (by simp))⟩
  ·have z0:=hz rfl h3;obtain⟨r,hr1,hr2⟩:=hq z0;have hd:=fun (w:World) (t:TypeId)=>run_float_arith (P:=prog) w .quo t .f64 _ x2 r hr1;have z1:(FloatKind.f64.format.order x2 0==some .eq)=true:=z0;have HR:Hid ((FloatKind.f64.format.order r 0==some .gt)=decide (x2=0)):=hr2;have k3:(x0==3)=false:=by simpa using h3
   clear hz hq hr1 hr2 z0;by_cases h5:x0=5∨x0=6∨x0=7
   ·rcases h5 with rfl|rfl|rfl;all_goals
     unfold Kw;go_in;go_wp2_with (go_at_call 241;refine(HV.out _).mono ?_;rintro e w1 ⟨rfl,hw1⟩;have y1:=(X0.l hw1).cell);go_ret;exact⟨Ab (by rw[HC.out];simp),(hb1 _).trans (hw1.mono (by simp))⟩
   ·have e5:(x0==5)=false:=by simp;omega
    have e6:(x0==6)=false:=by simp;omega
    have e7:(x0==7)=false:=by simp;omega
    have H5:Hid (¬(x0=5∨x0=6∨x0=7)):=h5;have H3:Hid (¬x0=3):=h3;clear h5 h3;unfold Kw;go_in;go_wp2_with (go_at_call 241;refine(HV.out _).mono ?_;rintro e w1 ⟨rfl,hw1⟩;have y1:=(X0.l hw1).cell);all_goals
     go_ret;exact⟨Ab (by rw[HC.out,decide_eq_false H5.out,if_neg H3.out,←HR.out];simp),(hb1 _).trans (hw1.mono (by simp))⟩
theorem Xf (v:Vd) (hf:v.flt<18446744073709551616) (w:World) :
  Kw 176 #[v.val] w (.bool (Jq v)):=by
 have hv:=A9r v;have hz:=@A4s v;have hq:=@Aby v.flt hf;clear hf;have HC:Hid (Jq v=(De v&&(!decide (v.kind=5∨v.kind=6∨v.kind=7)&&(if v.kind=3 then FloatKind.f64.format.order v.flt v.flt==some .eq else decide (v.flt=0))))):=rfl;obtain⟨x0,x1,x2,x3,x4⟩:=v;dsimp only[Vd.val]at *;generalize Jq ⟨x0,x1,x2,x3,x4⟩=cb at *;generalize De ⟨x0,x1,x2,x3,x4⟩=vb at *;have hb1:∀o,Below w w (w.alloc o):=fun o=>(yA _ _).alloc (yB _) o;have X0:=Blk.new w #[x0,x1,.float .f64 x2,x3,x4] 210;have HV:Hid _:=hv;clear hv;by_cases h5:x0=5∨x0=6∨x0=7
 ·rcases h5 with rfl|rfl|rfl;all_goals
   clear hz hq HV;unfold Kw;go_in;go_wp2;go_ret;exact⟨Ab (by rw[HC.out];simp),hb1 _⟩
 ·have e5:(x0==5)=false:=by simp;omega
  have e6:(x0==6)=false:=by simp;omega
  have e7:(x0==7)=false:=by simp;omega
  have H5:Hid (¬(x0=5∨x0=6∨x0=7)):=h5;clear h5;by_cases h3:x0=3
  ·subst h3;clear hz hq;cases vb
   ·unfold Kw;go_in;go_wp2_with (go_at_call 247;refine(HV.out _).mono ?_;rintro e w1 ⟨rfl,hw1⟩;have y1:=(X0.l hw1).cell);go_ret;exact⟨Ab (by rw[HC.out];simp),(hb1 _).trans (hw1.mono (by simp))⟩
   ·unfold Kw;go_in;go_wp2_with (first|(go_at_call 247;refine(HV.out _).mono ?_;rintro e w1 ⟨rfl,hw1⟩;have y1:=(X0.l hw1).cell)|(go_at_call 248;refine(A8v x2 _).mono ?_;rintro e w2 ⟨rfl,rfl⟩));go_ret;exact⟨Ab (by rw[HC.out];simp;first|done|rfl),(hb1 _).trans (hw1.mono (by simp))⟩
  ·have k3:(x0==3)=false:=by simpa using h3
   have H3:Hid (¬x0=3):=h3;cases vb
   ·clear hz hq h3;unfold Kw;go_in;go_wp2_with (go_at_call 247;refine(HV.out _).mono ?_;rintro e w1 ⟨rfl,hw1⟩;have y1:=(X0.l hw1).cell);go_ret;exact⟨Ab (by rw[HC.out];simp),(hb1 _).trans (hw1.mono (by simp))⟩
   ·have HR:Hid (decide (wrap64 x2<0) = !decide (x2=0)):=hq (hz rfl h3);clear hz hq h3;unfold Kw;go_in;go_wp2_with (first|(go_at_call 247;refine(HV.out _).mono ?_;rintro e w1 ⟨rfl,hw1⟩;have y1:=(X0.l hw1).cell)|(go_at_call 249;refine(A49 x2 _).mono ?_;rintro e w2 ⟨rfl,rfl⟩));all_goals
     go_ret;exact⟨Ab (by rw[HC.out,decide_eq_false H5.out,if_neg H3.out];have h:=HR.out;simp at h ⊢;first|exact h|(by_cases hh:x2=0<;>simp_all<;>omega)),(hb1 _).trans (hw1.mono (by simp))⟩
def lst (n k:Nat):Array Bool:=(List.replicate k true++List.replicate (n-k) false).toArray
theorem Ng{n:Nat} (h:k<n):(lst n k).setIfInBounds k true=lst n (k+1):=by unfold lst;rw[yC,List.set_append_right _ _ (by simp)];congr 1;rw[show n-k=(n-(k+1))+1 by omega,List.replicate_succ];simp[List.replicate_succ']
def Rgn (ops:Array Oper) (rest:List Oper) (Q:Exit->Act->World->Prop) (S:World->Prop) (a:Act) (w:World):Prop:=
 ops.toList.drop (ops.size-rest.length)=rest->rest.length<=ops.size->wpAnyH prog .any ops (NoPanic Q) S rest.length (lst ops.size (ops.size-rest.length)) a w
section
variable {id:Nat} {ops:Array Oper} {rest l:List Oper} {Q:Exit→Act→World→Prop} {S:World→Prop} {a:Act} {w:World} {oi:Oper}
theorem rgN (S:World->Prop) (hS:S w.drew) (h:S w.drew->Rgn l.toArray l Q S a w.drew):(Code.region id l.toArray true).wp prog Q a w:=by refine wp_region_noPanic (wp_region_held_drew (by kernel_rfl) hS fun hS=>?_);have:=h hS (by simp) (by simp);simpa[lst]using this
theorem Qh (hd:ops.toList.drop (ops.size-(oi::rest).length)=oi::rest) (hl:(oi::rest).length<=ops.size) :
  ops[ops.size-(oi::rest).length]?=some oi/\ops.toList.drop (ops.size-rest.length)=rest/\ops.size-rest.length=(ops.size-(oi::rest).length)+1:=by
 have e:ops.size-rest.length=(ops.size-(oi::rest).length)+1:=by simp at hl ⊢;omega
 refine⟨?_,?_,e⟩
 ·have:=congrArg (·[0]?) hd;simpa using this
 ·rw[e,←List.tail_drop,hd];rfl
theorem tkF (hc:(Region.noSelect ops&&Region.free .any ops (lst ops.size (ops.size-(oi::rest).length)) (ops.size-(oi::rest).length)&&(Region.ready .any ops (lst ops.size (ops.size-(oi::rest).length))).contains (ops.size-(oi::rest).length))=true)
  (hw:Region.wanted oi (yielded ops a.tmps)=true) (hS:S w)
  (h:∃v,(∀w,S w->(execOp a.eval oi).run prog w=.ok (.value v) w)/\Rgn ops rest Q S (a.put oi.dst v) w):Rgn ops (oi::rest) Q S a w:=fun hd hl=>by
 obtain⟨v,hy,h⟩:=h;obtain⟨h1,h2,h3⟩:=Qh hd hl;simp only[yY]at hc;refine wpAnyH_take h1 hc.1.1 hc.1.2 hc.2 (fun _ _ _ h=>h) (.inl ⟨hw,hy⟩) hS ?_;have h4:=h h2 (by simp at hl;omega);rw[Ng (by simp at hl ⊢;omega),←h3];exact h4
theorem tkG (hc:(Region.noSelect ops&&Region.free .any ops (lst ops.size (ops.size-(oi::rest).length)) (ops.size-(oi::rest).length)&&(Region.ready .any ops (lst ops.size (ops.size-(oi::rest).length))).contains (ops.size-(oi::rest).length))=true)
  (hw:Region.wanted oi (yielded ops a.tmps)=false) (hS:S w) (h:Rgn ops rest Q S (a.put oi.dst undef) w):Rgn ops (oi::rest) Q S a w:=fun hd hl=>by
 obtain⟨h1,h2,h3⟩:=Qh hd hl;simp only[yY]at hc;refine wpAnyH_take h1 hc.1.1 hc.1.2 hc.2 (fun _ _ _ h=>h) (.inr ⟨hw,rfl⟩) hS ?_;have h4:=h h2 (by simp at hl;omega);rw[Ng (by simp at hl ⊢;omega),←h3];exact h4
theorem doN (hr:Region.ready .any ops (lst ops.size (ops.size-(oi::rest).length))=[ops.size-(oi::rest).length]) (hw:Region.wanted oi (yielded ops a.tmps)=true)
  (h:∀K:Act->World->Prop,Shut (∀a w,S w->(S w->Rgn ops rest Q S a w)->K a w)->Oper.wp prog oi a w K (NoPanic Q)):Rgn ops (oi::rest) Q S a w:=fun hd hl=>by
 obtain⟨h1,h2,h3⟩:=Qh hd hl;refine wpAnyH_ready hr (by simp) (AllReadyH.cons h1 (fun K hK=>?_) AllReadyH.nil);rw[if_pos hw];refine h K fun a w hS hR=>hK.out a w hS fun hS=>?_;have h4:=hR hS h2 (by simp at hl;omega);rw[Ng (by simp at hl ⊢;omega),←h3];exact h4
theorem enD (hr:Region.ready .any ops (lst ops.size (ops.size-0))=[]) (h:NoPanic Q .normal a w):Rgn ops [] Q S a w:=fun _ _=>wpAnyH_done hr h _
end
theorem Cv {x:Operand} {p V:Value} (h:(Instr.loadAt ty p).run prog W=.ok V W) (ho:op.op=.load ty x) (hx:a.eval x=p):(execOp a.eval op).run prog W=.ok (.value V) W:=by subst hx;unfold execOp;simp only[ho,Sem.run_bind,Sem.run_pure,Result.andThen_ok,h]
end Go.Proofs.YtjbbppblgjhapaaGreatDoor
