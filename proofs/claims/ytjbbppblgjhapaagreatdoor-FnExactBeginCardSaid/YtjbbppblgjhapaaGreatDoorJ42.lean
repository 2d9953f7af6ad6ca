import Derived.Test.YtjbbppblgjhapaaGreatDoorJ10
set_option maxHeartbeats 400000
namespace Go.Proofs.YtjbbppblgjhapaaGreatDoor
open Go.Deep Go.Proofs.Tryz Go.RowKit
variable{ss:List ByteArray}{b k:Nat}{ao:Option Addr}{t:TypeId}{w:World}
def Ch (w:World) (ao:Option Addr) (ss:List ByteArray):Prop:=
 ∀i,i<ss.length->∃b off,ao=some ⟨b,off,none⟩/\b<(w:Nat)/\w.cell? ⟨b,off+i,none⟩=some (.string (ss.getD i ByteArray.empty))
theorem Ch.l{w':World} (h:Ch w ao ss) (hb:Below w w w'):Ch w' ao ss:=by intro i hi;obtain⟨b,off,e,hl,hc⟩:=h i hi;exact⟨b,off,e,yF hl hb.size,(hb.cell (p:=(b,off+i)) hl).trans hc⟩
theorem Ch.ow (h:w.rowIs b t ss.length (fun i=>.string (ss.getD i ByteArray.empty))):Ch w b ss:=
 fun i hi=>⟨b,0,rfl,h.lt,by rw[yM];exact h.cell hi⟩
def szs:List ByteArray->Int->Int
 | [],left=>left
 | s::r,left=>if left-s.size<0 then -1 else szs r (left-s.size)
def szS (ss:List ByteArray) (left:Int):Int:=if left-ss.length<0 then -1 else szs ss (left-ss.length)
theorem Ac7 (hk:k<ss.length) (l:Int) :
  szs (ss.drop k) l=if l-(ss.getD k ByteArray.empty).size<0 then -1 else szs (ss.drop (k+1)) (l-(ss.getD k ByteArray.empty).size):=by
 rw[List.drop_eq_getElem_cons hk,szs];simp[List.getD,hk]
theorem Ov (ao:Option Addr) (cap:Nat) (ss:List ByteArray) (left:Int) (w:World) (h0:0<=left) (h1:left<=1048576)
  (hm:ss.length<=maxLen) (hs:∀s∈ss,s.size<=maxLen) (hc:Ch w ao ss) :
  Calls prog 53 #[.slice ao ss.length cap,left] w fun e w'=>e=.returned (szS ss left:Int)/\w'=w:=by
 unfold maxLen at hm;go_in;go_wp2
 ·go_ret;exact⟨Ar (by simp[szS, *]),rfl⟩
 ·have hge:0<=left-(ss.length:Int):=by assumption
  have E0:Hid (szS ss left=szs ss (left-ss.length)):=by show szS ss left=_;simp[szS];omega
  go_loop [1,5] (fun l i=>∃(k:Nat) (q:Int),k<=ss.length/\i=k/\l=q/\0<=q/\q<=1048576/\Hid (szs (ss.drop k) q=szs ss (left-ss.length))) (fun _ i=>ss.length-(intOf i).toNat);case atStart=>exact⟨0,_,yE _,rfl,rfl,by omega,by omega,rfl⟩
  case round=>
   obtain⟨k,q,hk,rfl,rfl,hq0,hq1,HQ⟩:=hrel;by_cases hlt:k<ss.length
   ·have hsk:(ss.getD k ByteArray.empty).size<=maxLen:=by simp[List.getD,hlt];exact hs _ (List.getElem_mem hlt)
    obtain⟨b,off,rfl,hbl,hcell⟩:=hc k hlt;have HD:Hid _:=Ac7 hlt q;generalize ss.getD k ByteArray.empty=s at *;unfold maxLen at hsk;clear hc hs;go_wp2
    ·go_ret;exact⟨Ar (by rw[E0.out,←HQ.out,HD.out,if_pos (by assumption)]),rfl⟩
    ·go_round;case rel=>exact⟨k+1,_,by omega,by go_num,rfl,by omega,by omega,by rw[←HQ.out,HD.out,if_neg (by omega)];rfl⟩
     case measure=>simp[intOf];omega
   ·go_wp2;go_ret;have:=HQ.out;rw[yQ (by omega)]at this;exact⟨Ar (by rw[E0.out,←this];rfl),rfl⟩
theorem Tryz.info9:(prog.info? 9).map (fun i=>(i.zero,i.size,i.bytes))=some (some (.string ByteArray.empty),1,16):=by kernel_rfl
def part (ss:List ByteArray) (k:Nat):Nat->Value:=fun i=>if i<k then .string (ss.getD i ByteArray.empty) else ByteArray.empty
theorem A9a{n:Nat} (h:w.rowIs b 9 n (part ss k)) :
  (w.setCell (b,k) (.string (ss.getD k ByteArray.empty))).rowIs b 9 n (part ss (k+1)):=by
 refine(h.set k _).congr (fun j _=>?_);unfold part;by_cases e:j=k
 ·subst e;simp
 ·rw[if_neg e];by_cases hl:j<k
  ·rw[if_pos hl,if_pos (by omega)]
  ·rw[if_neg hl,if_neg (by omega)]
theorem Ow (ao:Option Addr) (cap:Nat) (ss:List ByteArray) (w:World)
  (hm:ss.length<=1048576) (hc:Ch w ao ss) :
  Calls prog 57 #[.slice ao ss.length cap] w fun e w'=>e=.returned (.slice (w:Nat) ss.length ss.length)/\
   w'.rowIs (w:Nat) 9 ss.length (fun i=>.string (ss.getD i ByteArray.empty))/\Below w w w'/\(w':Nat)=(w:Nat)+1:=by
 have hmk:=run_make_row' 44 9 ByteArray.empty 16 underlying44 Tryz.info9 rfl .i64 .i64 ss.length (by omega) (by omega);go_in;go_wp2;clear hmk;go_loopw [4] (fun i wr=>∃k:Nat,k<=ss.length/\i=k/\wr.rowIs (w:Nat) 9 ss.length (part ss k)/\Below w w wr/\Hid (wr.heap.size=(w:Nat)+1)) (fun i _=>ss.length-(intOf i).toNat);case atStart=>exact⟨0,yE _,rfl,(World.rowIs_made w _ _ _).congr (fun i _=>by simp[part]),(yA _ _).alloc (yB _) _,by show (w.alloc _).heap.size=_;simp⟩
 case round=>
  obtain⟨k,hk,rfl,hrow,hb,HS⟩:=hrel;by_cases hlt:k<ss.length
  ·obtain⟨b,off,rfl,hbl,hcell⟩:=hc k hlt;have hcell':wr.cell? (b,off+k)=some (.string (ss.getD k ByteArray.empty)):=(hb.cell (p:=(b,off+k)) hbl).trans hcell;have hst:=hrow.cell hlt;have hfr:=hrow.frozen k;have R:=A9a hrow;have R2:=hb.setCell (p:=((w:Nat),k)) (yB _) (.string (ss.getD k ByteArray.empty));have R3:Hid ((wr.setCell ((w:Nat),k) (.string (ss.getD k ByteArray.empty))).heap.size=(w:Nat)+1):=by have:=HS.out;show _=_;simpa using this
   generalize ss.getD k ByteArray.empty=s at *;clear hcell hrow hb hc;go_wp2;go_roundw;case rel=>exact⟨k+1,by omega,by go_num,R,R2,R3⟩
   case measure=>simp[intOf];omega
  ·go_wp2;go_ret;refine⟨rfl,hrow.congr (fun i hi=>by simp[part,show i<k by omega]),hb,HS.out⟩
def Kb (ss:List ByteArray):Bool:=ss.all (fun s=>decide (s.size<=4000))
def Kq (ss:List ByteArray):Bool:=decide (ss.length<=200)&&Kb ss
theorem Pw (hk:k<ss.length) :
  Kb (ss.drop k)=(decide ((ss.getD k ByteArray.empty).size<=4000)&&Kb (ss.drop (k+1))):=by
 rw[List.drop_eq_getElem_cons hk];unfold Kb;rw[List.all_cons];simp[List.getD,hk]
theorem Rk (ao:Option Addr) (cap:Nat) (ss:List ByteArray) (w:World) (hm:ss.length<=1048576) (hc:Ch w ao ss) :
  Calls prog 207 #[.slice ao ss.length cap] w fun e w'=>e=.returned (.bool (Kq ss))/\w'=w:=by
 go_in;go_wp2
 ·go_ret;exact⟨Ab (by simp[Kq];omega),rfl⟩
 ·have hle:(ss.length:Int)<=200:=by assumption
  have E0:Hid (Kq ss=Kb ss):=by show Kq ss=_;simp[Kq];omega
  go_loop [10] (fun i=>∃k:Nat,k<=ss.length/\i=k/\Hid (Kb (ss.drop k)=Kb ss)) (fun i=>ss.length-(intOf i).toNat);case atStart=>exact⟨0,yE _,rfl,rfl⟩
  case round=>
   obtain⟨k,hk,rfl,HQ⟩:=hrel;by_cases hlt:k<ss.length
   ·obtain⟨b,off,rfl,hbl,hcell⟩:=hc k hlt;have HD:Hid _:=Pw hlt;generalize ss.getD k ByteArray.empty=s at *;clear hc;go_wp2
    ·go_ret;exact⟨Ab (by rw[E0.out,←HQ.out,HD.out];simp;omega),rfl⟩
    ·go_round;case rel=>exact⟨k+1,by omega,by go_num,by have h:=HD.out;rw[HQ.out]at h;show _=_;rw[h];simp;omega⟩
     case measure=>simp[intOf];omega
   ·go_wp2;go_ret;have h:=HQ.out;rw[yQ (by omega)]at h;exact⟨Ab (by rw[E0.out,←h];rfl),rfl⟩
theorem Og (ao bo:Option Addr) (c1 c2:Nat) (ss:List ByteArray) (w:World) (hm:ss.length<=1048576)
  (h1:Ch w ao ss) (h2:Ch w bo ss) :
  Calls prog 66 #[.slice ao ss.length c1,.slice bo ss.length c2] w fun e w'=>e=.returned (true)/\∃n,w'=w.drewN n:=by
 go_in;go_wp2;go_loopw [5] (fun i wr=>∃(k n:Nat),k<=ss.length/\i=k/\wr=w.drewN n) (fun i _=>ss.length-(intOf i).toNat);case atStart=>exact⟨0,0,yE _,rfl,rfl⟩
 case round=>
  obtain⟨k,n,hk,rfl,rfl⟩:=hrel;by_cases hlt:k<ss.length
  ·obtain⟨b1,o1,rfl,_,hcell1⟩:=h1 k hlt;obtain⟨b2,o2,rfl,_,hcell2⟩:=h2 k hlt;generalize ss.getD k ByteArray.empty=s at *;clear h1 h2;go_wp2;go_quiet (fail);go_wp2;go_roundw;case rel=>exact⟨k+1,n+nq,by omega,by go_num,rfl⟩
   case measure=>simp[intOf];omega
  ·go_wp2;go_ret;exact⟨rfl,n,rfl⟩
def szI (s1 s2:List ByteArray) (left:Int):Int:=if szS s1 left<0 then -1 else if szS s2 (szS s1 left)<0 then -1 else szS s2 (szS s1 left)
theorem Aew (ss:List ByteArray) (l:Int):szs ss l<=l∨szs ss l = -1:=by
 induction ss generalizing l with
 | nil=>left;simp[szs]
 | cons s r ih=>
  simp only[szs];split
  ·right;rfl
  ·rcases ih (l-s.size) with h|h
   ·left;omega
   ·right;exact h
theorem Ac6 (ss:List ByteArray) (l:Int) (h:0<=l):szS ss l<=l:=by
 unfold szS;split
 ·omega
 ·rcases Aew ss (l-ss.length) with h|h<;>omega
theorem A4g (a1 a2:Option Addr) (c1 c2:Nat) (s1 s2:List ByteArray) (t d c left:Int) (w:World) (h0:0<=left) (h1:left<=1048576)
  (hm1:s1.length<=maxLen) (hs1:∀s∈s1,s.size<=maxLen) (hc1:Ch w a1 s1)
  (hm2:s2.length<=maxLen) (hs2:∀s∈s2,s.size<=maxLen) (hc2:Ch w a2 s2) :
  Kw 22 #[.agg #[.slice a1 s1.length c1,.slice a2 s2.length c2,t,d,c],left] w (szI s1 s2 left:Int):=by
 have hb1:∀o,Below w w (w.alloc o):=fun o=>(yA _ _).alloc (yB _) o;have hl:=Ac6 s1 left h0;unfold Kw;go_in;go_wp2_with fail;refine(Ov a1 c1 s1 left _ h0 h1 hm1 hs1 (hc1.l (hb1 _))).mono ?_;rintro e w' ⟨rfl,rfl⟩;by_cases hn:szS s1 left<0
 ·have E0:Hid (szI s1 s2 left = -1):=by show szI s1 s2 left = -1;simp[szI,hn]
  go_wp2;go_ret;exact⟨Ar E0.out.symm,hb1 _⟩
 ·have hge:0<=szS s1 left:=by omega
  have E1:Hid (szI s1 s2 left=if szS s2 (szS s1 left)<0 then -1 else szS s2 (szS s1 left)):=by show szI s1 s2 left=_;simp[szI,hn]
  generalize szS s1 left=q at *;go_wp2_with fail;refine(Ov a2 c2 s2 q _ hge (by omega) hm2 hs2 (hc2.l (hb1 _))).mono ?_;rintro e w' ⟨rfl,rfl⟩;generalize szS s2 q=r at *;by_cases hr:r<0
  ·go_wp2;go_ret;exact⟨Ar (by rw[E1.out,if_pos hr]),hb1 _⟩
  ·go_wp2;go_ret;exact⟨Ar (by rw[E1.out,if_neg (by omega)]),hb1 _⟩
def okI (s1 s2:List ByteArray) (t d c:Int):Bool:=Kq s1&&Kq s2&&inR t 0 5000&&inR d 1 60&&inR c 0 20000
theorem Ae1 (t d c:Int):(true&&true&&(inR t 0 5000&&inR d 1 60&&inR c 0 20000))=decide (0<=t/\t<=5000/\1<=d/\d<=60/\0<=c/\c<=20000):=by rw[Bool.eq_iff_iff];simp[inR];omega
theorem A2g (a1 a2 b1 b2:Option Addr) (c1 c2 c3 c4:Nat) (s1 s2:List ByteArray) (t d c:Int) (w:World)
  (hm1:s1.length<=1048576) (hc1:Ch w a1 s1) (hm2:s2.length<=1048576) (hc2:Ch w a2 s2) (hd1:Ch w b1 s1) (hd2:Ch w b2 s2) :
  Kw 27 #[.agg #[.slice a1 s1.length c1,.slice a2 s2.length c2,t,d,c],.agg #[.slice b1 s1.length c3,.slice b2 s2.length c4,t,d,c]] w (true):=by
 have hb2:∀o1 o2,Below w w ((w.alloc o1).alloc o2):=fun o1 o2=>((yA _ _).alloc (yB _) o1).alloc (by simp) o2;unfold Kw;go_in;go_wp2_with fail;refine(Og a1 b1 c1 c3 s1 _ hm1 (hc1.l (hb2 _ _)) (hd1.l (hb2 _ _))).mono ?_;rintro e w1 ⟨rfl,n,rfl⟩;go_wp2_with fail;refine(Og a2 b2 c2 c4 s2 _ hm2 (hc2.l (below_drewN (hb2 _ _) _)) (hd2.l (below_drewN (hb2 _ _) _))).mono ?_;rintro e w1 ⟨rfl,m,rfl⟩;go_wp2;go_ret;exact⟨rfl,below_drewN (hb2 _ _) _⟩
theorem Ug (a1 a2:Option Addr) (c1 c2:Nat) (s1 s2:List ByteArray) (t d c:Int) (w:World)
  (hm1:s1.length<=1048576) (hc1:Ch w a1 s1) (hm2:s2.length<=1048576) (hc2:Ch w a2 s2) :
  Kw 125 #[.agg #[.slice a1 s1.length c1,.slice a2 s2.length c2,t,d,c]] w (.bool (okI s1 s2 t d c)):=by
 have hb1:∀o,Below w w (w.alloc o):=fun o=>(yA _ _).alloc (yB _) o;by_cases g1:s1.length<=200
 ·by_cases g2:s2.length<=200
  ·have E0:Hid (okI s1 s2 t d c=(Kb s1&&Kb s2&&(inR t 0 5000&&inR d 1 60&&inR c 0 20000))):=by show okI s1 s2 t d c=_;simp[okI,Kq,g1,g2,Bool.and_assoc]
   have k1:decide ((200:Int)<s1.length)=false:=by simp;omega
   have k2:decide ((200:Int)<s2.length)=false:=by simp;omega
   have L1:=hc1.l (hb1 (.cells #[.slice a1 s1.length c1,.slice a2 s2.length c2,t,d,c] 60));have L2:=hc2.l (hb1 (.cells #[.slice a1 s1.length c1,.slice a2 s2.length c2,t,d,c] 60));have HB:Hid _:=hb1;clear hb1 hc1 hc2;unfold Kw;go_in;go_wp2;go_loop [20] (fun i=>∃k:Nat,k<=s1.length/\i=k/\Hid (Kb (s1.drop k)=Kb s1)) (fun i=>s1.length-(intOf i).toNat);case atStart=>exact⟨0,yE _,rfl,rfl⟩
   case round=>
    obtain⟨k,hk,rfl,HQ⟩:=hrel;by_cases hlt:k<s1.length
    ·obtain⟨b,off,rfl,hbl,hcell⟩:=L1 k hlt;have HD:Hid _:=Pw hlt;generalize s1.getD k ByteArray.empty=s at *;clear L1 L2;go_wp2
     ·go_ret;exact⟨Ab (by rw[E0.out,←HQ.out,HD.out];simp;omega),HB.out _⟩
     ·go_round;case rel=>exact⟨k+1,by omega,by go_num,by have h:=HD.out;rw[HQ.out]at h;show _=_;rw[h];simp;omega⟩
      case measure=>simp[intOf];omega
    ·have hS:Hid (Kb s1=true):=by have h:=HQ.out;rw[yQ (by omega)]at h;exact h.symm
     clear HQ L1;go_wp2;go_loop [31] (fun i=>∃k:Nat,k<=s2.length/\i=k/\Hid (Kb (s2.drop k)=Kb s2)) (fun i=>s2.length-(intOf i).toNat);case atStart=>exact⟨0,yE _,rfl,rfl⟩
     case round=>
      obtain⟨m,hm,rfl,HQ⟩:=hrel;by_cases hlt2:m<s2.length
      ·obtain⟨b,off,rfl,hbl,hcell⟩:=L2 m hlt2;have HD:Hid _:=Pw hlt2;generalize s2.getD m ByteArray.empty=s at *;clear L2;go_wp2
       ·go_ret;exact⟨Ab (by rw[E0.out,←HQ.out,HD.out];simp;omega),HB.out _⟩
       ·go_round;case rel=>exact⟨m+1,by omega,by go_num,by have h:=HD.out;rw[HQ.out]at h;show _=_;rw[h];simp;omega⟩
        case measure=>simp[intOf];omega
      ·have hT:Hid (Kb s2=true):=by have h:=HQ.out;rw[yQ (by omega)]at h;exact h.symm
       clear HQ L2;go_wp2;all_goals
        go_ret;exact⟨Ab (by rw[E0.out,hS.out,hT.out,Ae1];first|(apply decide_eq_decide.2;omega)|(symm;apply decide_eq_false;omega)),HB.out _⟩
  ·have E0:Hid (okI s1 s2 t d c=false):=by show okI s1 s2 t d c=_;simp[okI,Kq,g2]
   unfold Kw;go_in;go_wp2;go_ret;exact⟨Ab E0.out.symm,hb1 _⟩
 ·have E0:Hid (okI s1 s2 t d c=false):=by show okI s1 s2 t d c=_;simp[okI,Kq,g1]
  unfold Kw;go_in;go_wp2;go_ret;exact⟨Ab E0.out.symm,hb1 _⟩
theorem U6 (a1 a2:Option Addr) (c1 c2:Nat) (s1 s2:List ByteArray) (t d c:Int) (w:World)
  (hm1:s1.length<=1048576) (hc1:Ch w a1 s1) (hm2:s2.length<=1048576) (hc2:Ch w a2 s2) :
  Kw 134 #[.agg #[.slice a1 s1.length c1,.slice a2 s2.length c2,t,d,c]] w (.bool (okI s1 s2 t d c)):=by
 have hb1:∀o,Below w w (w.alloc o):=fun o=>(yA _ _).alloc (yB _) o;have HB:Hid _:=hb1;have E0:Hid (okI s1 s2 t d c=(Kq s1&&Kq s2&&inR t 0 5000&&inR d 1 60&&inR c 0 20000)):=rfl;unfold Kw;go_in;go_wp2_with fail;refine(Rk a1 c1 s1 _ hm1 (hc1.l (hb1 _))).mono ?_;rintro e w' ⟨rfl,rfl⟩;generalize Kq s1=f1 at *;cases f1
 ·clear hb1;go_wp2;go_ret;exact⟨Ab (by rw[E0.out];simp),HB.out _⟩
 go_wp2_with fail;refine(Rk a2 c2 s2 _ hm2 (hc2.l (hb1 _))).mono ?_;rintro e w' ⟨rfl,rfl⟩;generalize Kq s2=f2 at *;cases f2
 ·clear hb1;go_wp2;go_ret;exact⟨Ab (by rw[E0.out];simp),HB.out _⟩
 clear hb1;go_wp2_with fail;refine(Cq t 0 5000 _).mono ?_;rintro e w' ⟨rfl,rfl⟩;generalize inR t 0 5000=f3 at *;cases f3
 ·go_wp2;go_ret;exact⟨Ab (by rw[E0.out];simp),HB.out _⟩
 go_wp2_with fail;refine(Cq d 1 60 _).mono ?_;rintro e w' ⟨rfl,rfl⟩;generalize inR d 1 60=f4 at *;cases f4
 ·go_wp2;go_ret;exact⟨Ab (by rw[E0.out];simp),HB.out _⟩
 go_wp2_with fail;refine(Cq c 0 20000 _).mono ?_;rintro e w' ⟨rfl,rfl⟩;generalize inR c 0 20000=f5 at *;go_wp2;go_ret;exact⟨Ab (by rw[E0.out];simp),HB.out _⟩
theorem A7v {l:Int} (h:0<=szS ss l):(ss.length:Int)<=l:=by unfold szS at h;split at h<;>omega
end Go.Proofs.YtjbbppblgjhapaaGreatDoor
