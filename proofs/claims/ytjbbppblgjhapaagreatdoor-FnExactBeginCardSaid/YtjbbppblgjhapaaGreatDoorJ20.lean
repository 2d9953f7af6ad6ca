import Derived.Deep.Slices
import Derived.ProofKit
import Derived.Test.YtjbbppblgjhapaaGreatDoorJ19
set_option maxRecDepth 1000000
set_option maxHeartbeats 16000000
namespace Go.Proofs.YtjbbppblgjhapaaGreatDoor
open Go.Deep Go.Proofs.Tryz Go.RowKit
variable{nb:Array Value}{c:Cf}{x:Int}{e:List Int}{ps:List Pd}{N gb i k np:Nat}{n:Nd}{o:Obj}{p:Pd}{s:St}{v:Value}{W wr:World}
def Kj (p:Pd) (c:Cf) (j:Nat):List Nat:=match p.ins[j]?,c.st j with|some n,some _=>A1f n j|_,_=>[]
theorem Tryz.info_ints:(prog.info? 99).map (fun i=>(i.zero,i.size,i.bytes))=some (some (.slice none 0 0),1,24):=by kernel_rfl
structure A1y (gb N k:Nat) (wr W:World) (nb:Array Value) (v:Value) (e:List Int):Prop where
 blk:∀b,b≠gb->b<(wr:Nat)->W.heap[b]?=wr.heap[b]?
 oth:∀j,j≠k->W.cell? ⟨gb,j,none⟩=wr.cell? ⟨gb,j,none⟩
 cur:W.cell? (gb,k)=some v
 own:Own W gb 99 N
 row:W.ownsRow ((wr:Nat)+1) 3 1 v e.length (Az e)
 ins:Blk W wr nb 81
 size:(wr:Nat)<(W:Nat)
 kN:k<N
theorem A1y.l{W':World} (h:A1y gb N k wr W nb v e) (hb:Below W W W'):A1y gb N k wr W' nb v e:=
 ⟨fun b h1 h2=>(hb.block b (Nat.lt_trans h2 h.size)).trans (h.blk b h1 h2),fun j hj=>(hb.cell (p:=⟨gb,j,none⟩) h.own.lt).trans (h.oth j hj),(hb.cell (p:=(gb,k)) h.own.lt).trans h.cur,h.own.l hb,Ai h.row hb,h.ins.l hb,yF h.size hb.size,h.kN⟩
theorem A1y.app{w2:World}{v':Value} (h:A1y gb N k wr W nb v e) (h1:w2.ownsRow ((wr:Nat)+1) 3 1 v' (e.length+1) (Az (e++[x]))) (h2:(W.alloc o).grownBy w2 v.ownBlock) (hg:gb<(wr:Nat)) :
  A1y gb N k wr (w2.setCell (gb,k) v') nb v' (e++[x])/\w2.cell? (gb,k)=some v/\w2.frozen? (gb,k)=false/\Below gb W (w2.setCell (gb,k) v'):=by
 have hv:∀b,b<(wr:Nat)+1->some b≠v.ownBlock:=fun b hb e=>by have:=(h.row.lt b e.symm).1;omega
 have hbk:∀b,b<(wr:Nat)+1->w2.heap[b]?=W.heap[b]?:=fun b hb=>(h2.block b (by simp;have:=h.size;omega) (hv b hb)).trans (blk_alloc_lt _ _ _ (by have:=h.size;omega));have hgb2:=hbk gb (by omega);have ho2:=h.own.of_block hgb2;have hc2:∀j,w2.cell? ⟨gb,j,none⟩=W.cell? ⟨gb,j,none⟩:=fun j=>yX (w:=W) (a:=⟨gb,j,none⟩) hgb2;have hs2:(W:Nat)<=(w2:Nat):=yI (by simp) h2.size;refine⟨⟨?_,?_,Fq ho2 h.kN,ho2.set k v',?_,?_,?_,h.kN⟩,(hc2 k).trans h.cur,ho2.frozen k,?_⟩
 ·intro b hb hl;exact(yL _ _ _ _ hb).trans ((hbk b (by omega)).trans (h.blk b hb hl))
 ·intro j hj;rw[Ap (fun e=>hj e.symm)];exact(hc2 j).trans (h.oth j hj)
 ·rw[List.length_append];exact Aj h1 (fun b hb=>yL _ _ _ _ (by have:=(h1.lt b hb).1;dsimp only;omega))
 ·exact(yL _ _ _ _ (by dsimp only;omega)).trans ((hbk _ (by omega)).trans h.ins)
 ·rw[Cr];exact yF h.size hs2
 ·exact(((yA gb W).alloc (by have:=h.size;omega) o).grown h2 (by simp;have:=h.size;omega) (fun b hb=>by have:=(h.row.lt b hb).1;omega)).setCell (by dsimp only;exact yB _) _
def Jb (p:Pd) (c:Cf) (k j:Nat):List Int:=if j<k then zs (Kj p c j) else []
theorem Ky (h:Tm (gb+1) wr gb N (Jb p c k)) (hk:k<N) (s:A1y gb N k wr W nb v e) (he:zs (Kj p c k)=e):Tm (gb+1) W gb N (Jb p c (k+1)):=by
 refine⟨s.own,fun j hj=>?_⟩;have _:=hk;by_cases hjk:j=k
 ·subst hjk;have e1:Jb p c (j+1) j=e:=by unfold Jb;rw[if_pos (by omega)];exact he
  rw[e1];obtain⟨ao,cap,hv⟩:=Aa s.row;have hr:=s.row;have hc:=s.cur;rw[hv]at hr hc;exact⟨ao,cap,hc,Ah.w (Dp hr).1 (by have:=h.own.lt;omega)⟩
 ·have e1:Jb p c (k+1) j=Jb p c k j:=by
   unfold Jb;by_cases h1:j<k
   ·rw[if_pos h1,if_pos (by omega)]
   ·rw[if_neg h1,if_neg (by omega)]
  rw[e1];obtain⟨ao,cap,hc,hr⟩:=h.at_ j hj;refine⟨ao,cap,(s.oth j hjk).trans hc,fun i x hx=>?_⟩;obtain⟨b,off,e2,h1,h2,h3⟩:=hr i x hx;exact⟨b,off,e2,h1,Nat.lt_trans h2 s.size,(yX (w:=wr) (a:=(b,off+i*1)) (s.blk b (by omega) h2)).trans h3⟩
theorem Uf (w0:World) (B L vb sb db:Nat) (cao:Option Addr) (ccap:Nat) (ps:List Pd) (p:Pd) (h:Ph) (c:Cf) (l:Nat) (w:World) (X:Zn w0 B L vb sb db ps p h) (H0:Es L vb sb db cao ccap ps p h w c l) (hb0:Below w0 w0 w) :
  Calls prog 106 #[.pointer vb] w fun e w'=>(∃gb,e=.returned (.slice (some ⟨gb,0,none⟩) p.ins.length p.ins.length)/\Tm (gb+1) w' gb p.ins.length fun j=>zs (Kj p c j))/\Below w w w':=by
 have hz:=X.hz;have hmk:=Bj 174 99 _ 1 24 underlying174 Tryz.info_ints .i64 .i64 p.ins.length (by omega) (by omega);simp only[Nat.mul_one]at hmk;have A0:=Af (yA (w:Nat) w) (.cells (madeCells #[nS] p.ins.length) 99);have S0:Tm ((w:Nat)+1) (w.alloc (.cells (madeCells #[nS] p.ins.length) 99)) (w:Nat) p.ins.length (Jb p c 0):=by refine⟨Own.made w #[nS] p.ins.length 99,fun j hj=>⟨none,0,?_,fun i x hx=>by simp[Jb]at hx⟩⟩;have hb:=blk_alloc_new w (.cells (madeCells #[nS] p.ins.length) 99);have:=Ns (z:=#[nS]) (n:=p.ins.length) (j:=j) (i:=0) (by simp) (by simp;omega);simp only[World.cell?,hb];simpa[Jb]using this
 obtain⟨nz,hnz⟩:=A8 X.fit.some;obtain⟨ib,iof,hio,_⟩:=X.ins 0 nz hnz;have v0:=H0.blk.cell 8;have v1:=(H0.below A0).blk.cell 8;simp only[List.getElem?_toArray,List.getElem?_cons_succ,List.getElem?_cons_zero]at v0 v1;rw[hio]at v0 v1;have Z0:∀j,0<=j->j<p.ins.length->(w.alloc (.cells (madeCells #[nS] p.ins.length) 99)).cell? ⟨(w:Nat),j,none⟩=some (.slice none 0 0):=by intro j _ hj;have hb:=blk_alloc_new w (.cells (madeCells #[nS] p.ins.length) 99);have:=Ns (z:=#[nS]) (n:=p.ins.length) (j:=j) (i:=0) (by simp) (by simp;omega);simp only[World.cell?,hb];simpa using this
 have HIO:Hid _:=hio;clear hio hnz;go_in;go_wp2_with fail;clear hmk v0 v1;generalize w.alloc (.cells (madeCells #[nS] p.ins.length) 99)=w1 at *;go_loopg [20] (p.ins.length+1) (fun g y wr=>∃k:Nat,k<=p.ins.length/\y=k/\Hid (Tm ((w:Nat)+1) wr (w:Nat) p.ins.length (Jb p c k))/\Hid (∀j,k<=j->j<p.ins.length->wr.cell? ⟨(w:Nat),j,none⟩=some (.slice none 0 0))/\Hid (Below w w wr)/\Hid (p.ins.length+1-k<=g));case atStart=>exact⟨0,yE _,rfl,S0,Z0,A0,yB _⟩
 case round=>
  obtain⟨k,hk,rfl,HS,HZ,HB,HG⟩:=hrel;clear S0 A0 Z0;by_cases hkl:k<p.ins.length
  ·obtain⟨n,hn⟩:=A8 hkl;have HNF:Hid _:=X.fit.fit k n hn;obtain⟨ib',iof',hio',_,hibl,q0,q1,q2,q3,q4⟩:=(X.ins.l (A7.o (hb0.trans (HB.out.mono hb0.size)))) k n hn;rw[HIO.out]at hio';obtain⟨rfl,rfl⟩:ib=ib'/\iof=iof':=by simpa using hio'
   have HSR:Hid (Kj p c k=match c.st k with|some _=>A1f n k|none=>[]):=by show _=_;unfold Kj;rw[hn];cases c.st k<;>rfl
   obtain⟨op,na,nb,nc,nd⟩:=n;dsimp only at q0 q1 q2 q3 q4;have HG2:Hid (p.ins.length+1-(k+1)<=gk-1/\gk-1<gk):=by have:=HG.out;show _/\_;omega
   have hgr:=HS.out.own.lt;have AW:=Af (yA (wr:Nat) wr) (.cells #[op,na,nb,nc,nd] 81);have HB1:Hid _:=HB.out.trans (AW.mono HB.out.size);have S1:A1y (w:Nat) p.ins.length k wr (wr.alloc (.cells #[op,na,nb,nc,nd] 81)) #[op,na,nb,nc,nd] nS ([]:List Int):=
    ⟨fun b _ hl=>AW.block b hl,fun j _=>AW.cell (p:=⟨(w:Nat),j,none⟩) hgr,(AW.cell (p:=((w:Nat),k)) hgr).trans (HZ.out k (yB _) hkl),HS.out.own.l AW,Ni _ _ _,Blk.new wr #[op,na,nb,nc,nd] 81,by simp,hkl⟩
   have HH1:=H0.below HB1.out;have u10:=HH1.blk.cell 10;obtain⟨o,ho⟩:=A8 (show k<c.sts.length by rw[H0.lenS];exact hkl);have HO:Hid (c.st k=o):=by show _=_;unfold Cf.st;rw[yR,ho];rfl
   obtain⟨_,_,_,_,z0,_,_,_,_⟩:=HH1.sts.at_ k o ho;have kk:(k:Int)<p.ins.length:=by omega
   have k6:(k:Int)<6000:=by omega
   have HS1:Hid _:=S1;clear hn hio' ho HH1 HG AW S1;cases o with
   | none=>
    have HRD:Hid (zs (Kj p c k)=([]:List Int)):=by show _=_;rw[HSR.out,HO.out];rfl
    go_wp2;go_roundg (gk-1);case measure=>exact HG2.out.2
    case rel=>exact⟨k+1,by omega,by go_num,Ky HS.out hkl HS1.out HRD.out,fun j h1 h2=>((HS1.out).oth j (by omega)).trans (HZ.out j (by omega) h2),HB1.out,HG2.out.1⟩
   | some st=>
    have HSR2:Hid (Kj p c k=A1f ⟨op,na,nb,nc,nd⟩ k):=by show _=_;rw[HSR.out,HO.out]
    have HTI:Hid (∀W,Kw 194 #[.agg #[op,na,nb,nc,nd]] W (.bool (Sl ⟨op,na,nb,nc,nd⟩))):=fun W=>A9l ⟨op,na,nb,nc,nd⟩ W;have HHN:Hid (∀W,Kw 178 #[.agg #[op,na,nb,nc,nd]] W (.bool (Ex ⟨op,na,nb,nc,nd⟩))):=fun W=>Na ⟨op,na,nb,nc,nd⟩ W;clear HSR HO;dsimp only[Option.isSome]at z0;go_wp2_with fail;refine(HTI.out _).mono ?_;rintro e w2 ⟨rfl,hw2⟩;have S2:=HS1.out.l hw2;have HB2:Hid _:=HB1.out.trans (hw2.mono HB1.out.size);clear HTI u10 z0 q0 q1 q2 q3 q4 hibl HS1 HB1 hw2;cases hti:Sl ⟨op,na,nb,nc,nd⟩
    ·have n2:=S2.ins.cell;have HS2:Hid _:=S2;go_wp2_with fail;refine(HHN.out _).mono ?_;rintro e w3 ⟨rfl,hw3⟩;have S3:=HS2.out.l hw3;have HB3:Hid _:=HB2.out.trans (hw3.mono HB2.out.size);clear n2 HHN hw3 S2 HS2 HB2;by_cases hnx:Ex ⟨op,na,nb,nc,nd⟩=true/\op≠41
     ·have HRW:Hid (zs (Kj p c k)=([]++[((k:Int)+1:Int)])++zs ((Np ⟨op,na,nb,nc,nd⟩).toList)):=by show _=_;rw[HSR2.out];unfold A1f;rw[hti];simp[hnx.1,hnx.2,zs]
      have e41:(op !=41)=true:=by simpa using hnx.2
      rw[hnx.1];have n3:=S3.ins.cell;clear hnx hti;have HSa:Hid _:=S3;have cu:=HSa.out.cur;have cf:=HSa.out.own.frozen k;have hsw:=HSa.out.size;have hgw:=HSa.out.own.lt;go_wp2_with (at_builtin;refine Df rfl _ _ rfl ((wr:Nat)+1) _ ([]:List Int).length ([]:List Int) (((k:Int)+1)) _ rfl (HSa.out.row.alloc _) rfl ?c1 (by simp) ?c3 ?_);case c1=>exact(Blk.new w3 #[(((k:Int)+1):Int)] 3).cell 0
      case c3=>exact yI HSa.out.size (by simp)
      intro v' w' H1 H2 _;have H1b:w'.ownsRow ((wr:Nat)+1) 3 1 v' 1 (Az (([]:List Int)++[(((k:Int)+1):Int)])):=H1;obtain⟨vo',vc',rfl⟩:=Aa H1b;obtain⟨HSb,cu',cf',hbb⟩:=HSa.out.app H1 H2 hgr;have HSb2:Hid _:=HSb;have HBb:Hid _:=HB3.out.trans hbb;clear HSb hbb H1 H1b H2 cu cf HSa;have HGA:Hid (∀_:Unit,_):=fun _=>Ht ps.length p ⟨op,na,nb,nc,nd⟩ (w'.setCell ((w:Nat),k) (.slice vo' 1 vc')) HNF.out (X.forms.l (hb0.trans ((HBb.out).mono hb0.size)));unfold Nd.val at HGA;have n8:=(HSb2.out).ins.cell;go_wp2_with fail;refine(HGA.out ()).mono ?_;rintro e w8 ⟨rfl,hw8⟩;have S8:=(HSb2.out).l hw8;have HB8:Hid _:=(HBb.out).trans (hw8.mono (HBb.out).size);clear n8 HGA hw8;cases htg:Np ⟨op,na,nb,nc,nd⟩ with
      | none=>
       have HTV:Hid (tgV ⟨op,na,nb,nc,nd⟩ = -1):=by show _=_;unfold tgV;rw[htg]
       rw[HTV.out];have HS8:Hid _:=S8;have HRD:Hid (zs (Kj p c k)=([]++[((k:Int)+1:Int)])):=by have:=HRW.out;rw[htg]at this;show _=_;rw[this];simp[zs]
       clear htg HTV S8;go_wp2;go_roundg (gk-1);case measure=>exact HG2.out.2
       case rel=>exact⟨k+1,by omega,by go_num,Ky HS.out hkl HS8.out HRD.out,fun j h1 h2=>((HS8.out).oth j (by omega)).trans (HZ.out j (by omega) h2),HB8.out,HG2.out.1⟩
      | some t=>
       have HTV:Hid (tgV ⟨op,na,nb,nc,nd⟩=(t:Int)):=by show _=_;unfold tgV;rw[htg]
       rw[HTV.out];have HRD:Hid (zs (Kj p c k)=([]++[((k:Int)+1:Int)])++[(t:Int)]):=by have:=HRW.out;rw[htg]at this;show _=_;rw[this];simp[zs]
       have kt:(0:Int)<=t:=by omega
       clear htg HTV;have HSa:Hid _:=S8;have cu:=HSa.out.cur;have cf:=HSa.out.own.frozen k;have hsw:=HSa.out.size;have hgw:=HSa.out.own.lt;go_wp2_with (at_builtin;refine Df rfl _ _ rfl ((wr:Nat)+1) _ ([]++[((k:Int)+1:Int)]).length ([]++[((k:Int)+1:Int)]) ((t:Int)) _ rfl (HSa.out.row.alloc _) rfl ?c1 (by simp) ?c3 ?_);case c1=>exact(Blk.new w8 #[((t:Int):Int)] 3).cell 0
       case c3=>exact yI HSa.out.size (by simp)
       intro v' w' H1 H2 _;have H1b:w'.ownsRow ((wr:Nat)+1) 3 1 v' 2 (Az (([]++[((k:Int)+1:Int)])++[((t:Int):Int)])):=H1;obtain⟨vo',vc',rfl⟩:=Aa H1b;obtain⟨HSb,cu',cf',hbb⟩:=HSa.out.app H1 H2 hgr;have HSb2:Hid _:=HSb;have HBb:Hid _:=HB8.out.trans hbb;clear HSb hbb H1 H1b H2 cu cf HSa;go_wp2;go_roundg (gk-1);case measure=>exact HG2.out.2
       case rel=>exact⟨k+1,by omega,by go_num,Ky HS.out hkl HSb2.out HRD.out,fun j h1 h2=>((HSb2.out).oth j (by omega)).trans (HZ.out j (by omega) h2),HBb.out,HG2.out.1⟩
     ·have hnf:(Ex ⟨op,na,nb,nc,nd⟩&&op !=41)=false:=by
       rw[Bool.and_eq_false_iff];by_cases h1:Ex ⟨op,na,nb,nc,nd⟩=true
       ·right;have:¬op≠41:=fun h2=>hnx ⟨h1,h2⟩;simpa using this
       ·left;simpa using h1
      have HRW:Hid (zs (Kj p c k)=([]:List Int)++zs ((Np ⟨op,na,nb,nc,nd⟩).toList)):=by show _=_;rw[HSR2.out];unfold A1f;rw[hti];dsimp only;rw[hnf];rfl
      have n3:=S3.ins.cell;cases hb:Ex ⟨op,na,nb,nc,nd⟩
      ·clear hnx hti hnf hb;have HGA:Hid (∀_:Unit,_):=fun _=>Ht ps.length p ⟨op,na,nb,nc,nd⟩ w3 HNF.out (X.forms.l (hb0.trans ((HB3.out).mono hb0.size)));unfold Nd.val at HGA;have n8:=(S3).ins.cell;go_wp2_with fail;refine(HGA.out ()).mono ?_;rintro e w8 ⟨rfl,hw8⟩;have S8:=(S3).l hw8;have HB8:Hid _:=(HB3.out).trans (hw8.mono (HB3.out).size);clear n8 HGA hw8;cases htg:Np ⟨op,na,nb,nc,nd⟩ with
       | none=>
        have HTV:Hid (tgV ⟨op,na,nb,nc,nd⟩ = -1):=by show _=_;unfold tgV;rw[htg]
        rw[HTV.out];have HS8:Hid _:=S8;have HRD:Hid (zs (Kj p c k)=([]:List Int)):=by have:=HRW.out;rw[htg]at this;show _=_;rw[this];simp[zs]
        clear htg HTV S8;go_wp2;go_roundg (gk-1);case measure=>exact HG2.out.2
        case rel=>exact⟨k+1,by omega,by go_num,Ky HS.out hkl HS8.out HRD.out,fun j h1 h2=>((HS8.out).oth j (by omega)).trans (HZ.out j (by omega) h2),HB8.out,HG2.out.1⟩
       | some t=>
        have HTV:Hid (tgV ⟨op,na,nb,nc,nd⟩=(t:Int)):=by show _=_;unfold tgV;rw[htg]
        rw[HTV.out];have HRD:Hid (zs (Kj p c k)=([]:List Int)++[(t:Int)]):=by have:=HRW.out;rw[htg]at this;show _=_;rw[this];simp[zs]
        have kt:(0:Int)<=t:=by omega
        clear htg HTV;have HSa:Hid _:=S8;have cu:=HSa.out.cur;have cf:=HSa.out.own.frozen k;have hsw:=HSa.out.size;have hgw:=HSa.out.own.lt;go_wp2_with (at_builtin;refine Df rfl _ _ rfl ((wr:Nat)+1) _ ([]:List Int).length ([]:List Int) ((t:Int)) _ rfl (HSa.out.row.alloc _) rfl ?c1 (by simp) ?c3 ?_);case c1=>exact(Blk.new w8 #[((t:Int):Int)] 3).cell 0
        case c3=>exact yI HSa.out.size (by simp)
        intro v' w' H1 H2 _;have H1b:w'.ownsRow ((wr:Nat)+1) 3 1 v' 1 (Az (([]:List Int)++[((t:Int):Int)])):=H1;obtain⟨vo',vc',rfl⟩:=Aa H1b;obtain⟨HSb,cu',cf',hbb⟩:=HSa.out.app H1 H2 hgr;have HSb2:Hid _:=HSb;have HBb:Hid _:=HB8.out.trans hbb;clear HSb hbb H1 H1b H2 cu cf HSa;go_wp2;go_roundg (gk-1);case measure=>exact HG2.out.2
        case rel=>exact⟨k+1,by omega,by go_num,Ky HS.out hkl HSb2.out HRD.out,fun j h1 h2=>((HSb2.out).oth j (by omega)).trans (HZ.out j (by omega) h2),HBb.out,HG2.out.1⟩
      ·have e41:(op !=41)=false:=by rw[hb]at hnf;simpa using hnf
       clear hnx hti hnf hb;have HGA:Hid (∀_:Unit,_):=fun _=>Ht ps.length p ⟨op,na,nb,nc,nd⟩ w3 HNF.out (X.forms.l (hb0.trans ((HB3.out).mono hb0.size)));unfold Nd.val at HGA;have n8:=(S3).ins.cell;go_wp2_with fail;refine(HGA.out ()).mono ?_;rintro e w8 ⟨rfl,hw8⟩;have S8:=(S3).l hw8;have HB8:Hid _:=(HB3.out).trans (hw8.mono (HB3.out).size);clear n8 HGA hw8;cases htg:Np ⟨op,na,nb,nc,nd⟩ with
       | none=>
        have HTV:Hid (tgV ⟨op,na,nb,nc,nd⟩ = -1):=by show _=_;unfold tgV;rw[htg]
        rw[HTV.out];have HS8:Hid _:=S8;have HRD:Hid (zs (Kj p c k)=([]:List Int)):=by have:=HRW.out;rw[htg]at this;show _=_;rw[this];simp[zs]
        clear htg HTV S8;go_wp2;go_roundg (gk-1);case measure=>exact HG2.out.2
        case rel=>exact⟨k+1,by omega,by go_num,Ky HS.out hkl HS8.out HRD.out,fun j h1 h2=>((HS8.out).oth j (by omega)).trans (HZ.out j (by omega) h2),HB8.out,HG2.out.1⟩
       | some t=>
        have HTV:Hid (tgV ⟨op,na,nb,nc,nd⟩=(t:Int)):=by show _=_;unfold tgV;rw[htg]
        rw[HTV.out];have HRD:Hid (zs (Kj p c k)=([]:List Int)++[(t:Int)]):=by have:=HRW.out;rw[htg]at this;show _=_;rw[this];simp[zs]
        have kt:(0:Int)<=t:=by omega
        clear htg HTV;have HSa:Hid _:=S8;have cu:=HSa.out.cur;have cf:=HSa.out.own.frozen k;have hsw:=HSa.out.size;have hgw:=HSa.out.own.lt;go_wp2_with (at_builtin;refine Df rfl _ _ rfl ((wr:Nat)+1) _ ([]:List Int).length ([]:List Int) ((t:Int)) _ rfl (HSa.out.row.alloc _) rfl ?c1 (by simp) ?c3 ?_);case c1=>exact(Blk.new w8 #[((t:Int):Int)] 3).cell 0
        case c3=>exact yI HSa.out.size (by simp)
        intro v' w' H1 H2 _;have H1b:w'.ownsRow ((wr:Nat)+1) 3 1 v' 1 (Az (([]:List Int)++[((t:Int):Int)])):=H1;obtain⟨vo',vc',rfl⟩:=Aa H1b;obtain⟨HSb,cu',cf',hbb⟩:=HSa.out.app H1 H2 hgr;have HSb2:Hid _:=HSb;have HBb:Hid _:=HB8.out.trans hbb;clear HSb hbb H1 H1b H2 cu cf HSa;go_wp2;go_roundg (gk-1);case measure=>exact HG2.out.2
        case rel=>exact⟨k+1,by omega,by go_num,Ky HS.out hkl HSb2.out HRD.out,fun j h1 h2=>((HSb2.out).oth j (by omega)).trans (HZ.out j (by omega) h2),HBb.out,HG2.out.1⟩
    ·have HRD:Hid (zs (Kj p c k)=([]:List Int)):=by show _=_;rw[HSR2.out];unfold A1f;rw[hti];rfl
     have HS2:Hid _:=S2;clear hti S2;go_wp2;go_roundg (gk-1);case measure=>exact HG2.out.2
     case rel=>exact⟨k+1,by omega,by go_num,Ky HS.out hkl HS2.out HRD.out,fun j h1 h2=>((HS2.out).oth j (by omega)).trans (HZ.out j (by omega) h2),HB2.out,HG2.out.1⟩
  ·obtain rfl:k=p.ins.length:=by omega
   have kk:¬(p.ins.length:Int)<p.ins.length:=by omega
   clear HG;go_wp2;go_ret;refine⟨⟨(w:Nat),rfl,HS.out.own,fun j hj=>?_⟩,HB.out⟩;have:=HS.out.at_ j hj;unfold Jb at this;rw[if_pos hj]at this;exact this
def A9z (L vb sb db:Nat) (cao:Option Addr) (ccap:Nat) (ps:List Pd) (p:Pd) (h:Ph) (c:Cf) (y:Value) (w:World):Prop:=
 ∃l:Nat,l<=p.ins.length/\((Dh c.due=none/\y=(-1:Int)/\Es L vb sb db cao ccap ps p h w c l)∨(Dh c.due=some l/\y=l/\Es L vb sb db cao ccap ps p h w ⟨c.sts,c.due.set l false⟩ l))
theorem A6h (hn:Ep np p n) (hi:p.ins[i]?=some n) (hs:c.st i=some s):Gy ps n i s ⟨c.sts,c.due.set i false⟩=He ps p c i:=by unfold Gy He;rw[hi,hs,Adm hn];dsimp only;cases Li ps n i s<;>rfl
theorem A6g{x:Nat} (h:Gy ps n i s c=.error (k,x)):k≠0/\k<=13:=by
 have hf:∀(l:List (Nat×St)) (c:Cf),Al c l=.error (k,x)->k=13:=by
  intro l
  induction l with
  | nil=>intro c h;cases h
  | cons a r ih=>
   intro c h;obtain⟨y,t⟩:=a;rw[Kt]at h;cases hr:Cu c y t with
   | none=>rw[hr]at h;simp at h;omega
   | some c2=>rw[hr]at h;exact ih c2 h
 unfold Gy at h;cases hs:Ou ps n i s with
 | bad k2=>
  rw[hs]at h;simp at h;unfold Ou at hs;split at hs
  ·cases hs;omega
  ·split at hs
   ·split at hs
    ·split at hs
     ·cases hs
     ·cases hs;omega
    ·cases hs;omega
   ·cases hs;omega
 | go l=>rw[hs]at h;have:=hf l c h;omega
noncomputable def pcVl:Code:=Gt [1,1,1,1,0,1,0] (Tryz.f37.body.getD .skip)
theorem Adz (w0:World) (B L vb sb db:Nat) (cao:Option Addr) (ccap:Nat) (ps:List Pd) (p:Pd) (h:Ph) (pi:Nat) (w W:World) (c0 c2 c3 c4 c6 c8 c9 c10 c11 c12 c13 c14 c15 c16 c17 c18 c19 c20 c21 c22 c23 c24 c25 c26 c27 c28 c29 c30 c31 c32 c33 c34 c35 c36 c37 c38 c39 c40 c41 c42 c43 c44 c45 c46 c47 c48 c49 c50 c51 c52 c53 c54 c55 c56 c57 c58 c59 c60:Value) (Q:Exit->Act->World->Prop) (hq:∀a' w',bodyPost prog Tryz.f37 (Jo w ps p pi) .ret a' w'->Q .ret a' w')
  (hx:∀(u4 u8 u9 u35 u36 u37 u38 u39 u40 u41 u42 u43 u44 u45 u46 u47:Value) (c:Cf) (l:Nat) (w':World),Gu ps p (2*p.ins.length+2) (Dc p)=.ok c->Es L vb sb db cao ccap ps p h w' c l->Below w0 w0 w'->Q (.exit 0) ⟨List.toArray (c0::pi::c2::c3::u4::.pointer (some ⟨(w:Nat)+1,0,none⟩)::c6::.pointer vb::u8::u9::c10::c11::c12::c13::c14::c15::c16::c17::c18::c19::c20::c21::c22::c23::c24::c25::c26::c27::c28::c29::c30::c31::c32::c33::c34::u35::u36::u37::u38::u39::u40::u41::u42::u43::u44::u45::u46::u47::c48::c49::c50::c51::c52::c53::c54::c55::c56::c57::c58::c59::c60::[]),[]⟩ w')
  (X:Zn w0 B L vb sb db ps p h) (_hL0:L=(w0:Nat)+3) (hLW:L<=(W:Nat)) (N0:A9z L vb sb db cao ccap ps p h (Dc p) c8 W) (hb0:Below w0 w0 W) (hw0:Below w w w0) (FL:Blk w0 ((w:Nat)+1) #[(),(),()] 27) (hv:Ad 0 w0 cao ps) (hu:∀n∈p.ins,∀u∈Cy ps n,u.loc=true->0<=u.idx/\u.idx<p.regs) (hul:∀n,(Cy ps n).length<=1048576) :
  Code.wp prog pcVl Q ⟨List.toArray (c0::pi::c2::c3::c4::.pointer (some ⟨(w:Nat)+1,0,none⟩)::c6::.pointer vb::c8::c9::c10::c11::c12::c13::c14::c15::c16::c17::c18::c19::c20::c21::c22::c23::c24::c25::c26::c27::c28::c29::c30::c31::c32::c33::c34::c35::c36::c37::c38::c39::c40::c41::c42::c43::c44::c45::c46::c47::c48::c49::c50::c51::c52::c53::c54::c55::c56::c57::c58::c59::c60::[]),[]⟩ W:=by
 conv=>arg 2;whnf
 have HQ:Hid _:=hq;have HX:Hid _:=hx;have HST:=A4c X.fit;have HV:Hid (Ad 0 w0 cao ps):=hv;have HU:Hid _:=hu;have HUL:Hid _:=hul;clear hq hx hv hu hul;go_loopg [8] (2*p.ins.length+2) (fun gk y wr=>∃c:Cf,Hid (L6 p c)/\Hid (Hl p c none)/\Hid (Gu ps p gk c=Gu ps p (2*p.ins.length+2) (Dc p))/\Hid (c.meas<gk)/\Hid (A9z L vb sb db cao ccap ps p h c y wr)/\Hid (Below w0 w0 wr)/\Hid (L<=wr.heap.size));case atStart=>exact⟨Dc p,HST.1,HST.2.1,rfl,HST.2.2,N0,hb0,hLW⟩
 case round=>
  obtain⟨c,HOK,HCL,HWK,HME,HN,HB,HLr⟩:=hrel;clear HST N0;have HFR:Hid (Blk wr ((w:Nat)+1) #[(),(),()] 27):=FL.l HB.out;obtain⟨l,hl,hN⟩:=HN.out;rcases hN with ⟨hd,rfl,H1⟩|⟨hd,rfl,H1⟩
  ·have HWO:Hid _:=HWK.out.symm.trans (A4u (Nat.lt_of_le_of_lt (yE _) HME.out) hd);have HH1:Hid _:=H1;clear hd H1 HN HWK HME HCL HOK;go_wp2_with fail;exact HX.out _ _ _ _ _ _ _ _ _ _ _ _ _ _ _ _ c l wr HWO.out HH1.out HB.out
  ·obtain⟨hd1,hd2,_⟩:=Om hd;obtain⟨s,hs⟩:=Option.isSome_iff_exists.1 (HOK.out.due l hd2);have hll:l<p.ins.length:=by rw[←HOK.out.lenD];exact hd1
   obtain⟨n,hn⟩:=A8 hll;have hNF:=X.fit.fit l n hn;have HSP:Hid (∀_:Unit,_):=fun _=>Ac3 w0 B L vb sb db cao ccap ps p h ⟨c.sts,c.due.set l false⟩ l wr l n s X H1 hl HLr.out HB.out (Pf HOK.out HCL.out).1 hn hs HV.out (HU.out n (yH hn)) (HUL.out n);have HRS:Hid (Gy ps n l s ⟨c.sts,c.due.set l false⟩=He ps p c l):=A6h hNF hn hs;have HLD:Hid _:=hd;have HRC:Hid (∀k x,Gy ps n l s ⟨c.sts,c.due.set l false⟩=.error (k,x)->k≠0/\k<=13):=fun k x hh=>A6g hh;have k0:(0:Int)<=l:=by omega
   clear hd hd1 hd2 hs hn hNF H1 HN;go_wp2_with fail;refine(HSP.out ()).mono ?_;unfold Ox;cases hst:Gy ps n l s ⟨c.sts,c.due.set l false⟩ with
   | error kx=>
    obtain⟨k,x⟩:=kx;rintro e w2 ⟨rfl,hO2⟩;have HVF:Hid (Hw ps p pi=((k:Int),(pi:Int),(x:Int))):=Wt (HWK.out.symm.trans (A4t (Nat.lt_of_le_of_lt (yE _) HME.out) HLD.out (HRS.out.symm.trans hst)));have hkk:=HRC.out k x hst;have hBe:=X.hB;have hb2:Below w0 wr w2:=by have:=hO2.below;rw[hBe]at this;exact this
    have HB2:Hid _:=HB.out.trans hb2;have FL2:=FL.l HB2.out;have ek:((k:Int) !=0)=true:=by simp;omega
    have hfw:=FL2.lt;have hne:¬(w2:Nat)=(w:Nat)+1:=by omega
    have P3:=Blk.new w2 #[k,pi,x] 27;have A3:=Af (yA (w2:Nat) w2) (.cells #[k,pi,x] 27);have F3:=FL2.l A3;have HBW:Hid _:=(hw0.trans (HB2.out.mono hw0.size)).trans (A3.mono (yI hw0.size HB2.out.size));clear hst HSP HRS HOK HCL HWK HME HRC HLD hO2 hBe HB HLr HFR hb2 HB2 hkk FL2 A3;go_wp2_with fail;have p30:=P3.cell 0;have p31:=P3.cell 1;have p32:=P3.cell 2;have f3:=F3.cell;have z3:=F3.frozen;generalize w2.alloc (.cells #[k,pi,x] 27)=w3 at *;have hne2:¬(w:Nat)+1=(w2:Nat):=fun e=>hne e.symm;go_region_held3 (fun w'=>w'.cell? ⟨w2.heap.size,0,none⟩=some (.int .i64 k)/\w'.cell? ⟨w2.heap.size,1,none⟩=some (.int .i64 pi)/\w'.cell? ⟨w2.heap.size,2,none⟩=some (.int .i64 x)) (first|exact⟨p30,p31,p32⟩|(exact⟨((yG _ _ _ _ hne2).trans ((yG _ _ _ _ hne2).trans (yG _ _ _ _ hne2))).trans p30,((yG _ _ _ _ hne2).trans ((yG _ _ _ _ hne2).trans (yG _ _ _ _ hne2))).trans p31,((yG _ _ _ _ hne2).trans ((yG _ _ _ _ hne2).trans (yG _ _ _ _ hne2))).trans p32⟩)|(go_keep;done)) (fail);all_goals
     go_wp2_with fail;have c9:=(F3.three (x':=k) (y':=pi) (z':=x)).cell;refine HQ.out _ _ (bodyPost_ret (v:=.tuple #[nS,.agg #[k,pi,x]]) ?_ rfl ⟨⟨nS,?_⟩,?_⟩)
     ·simp[results,results37,go_sem,c9]
     ·rw[HVF.out];rfl
     ·first
      | exact(((HBW.out.setCell (by dsimp only;omega) _).setCell (by dsimp only;omega) _).setCell (by dsimp only;omega) _).drew
      | exact((HBW.out.drew.setCell (by dsimp only;omega) _).setCell (by dsimp only;omega) _).setCell (by dsimp only;omega) _
   | ok c2=>
    rintro e w2 ⟨⟨rfl,l2,hl2,H2⟩,hO2⟩;have HRN:Hid _:=HRS.out.symm.trans hst;have HRO:Hid _:=A48 X.fit HOK.out HCL.out HLD.out HRN.out;have HWN:Hid _:=(A7y (Nat.lt_of_le_of_lt (yE _) HME.out) HLD.out HRN.out).symm.trans HWK.out;have HMN:Hid (c2.meas<gk-1/\gk-1<gk):=by have h1:=HRO.out.2.2;have h2:=HME.out;show _/\_;omega
    have A2:=Af (yA (w2:Nat) w2) (.cells #[(),(),()] 27);have HNX:Hid (∀_:Unit,_):=fun _=>A3u B L vb sb db cao ccap ps p h c2 l2 (w2.alloc (.cells #[(),(),()] 27)) X.V X.hz (H2.below A2) hl2;have hBe:=X.hB;have HB2:Hid (Below w0 w0 (w2.alloc (.cells #[(),(),()] 27))):=HB.out.trans ((by have:=hO2.below;rw[hBe]at this;exact this:Below w0 wr w2).trans (A2.mono (yI HB.out.size hO2.size)));have HL2:Hid _:=yI HLr.out (yI hO2.size A2.size);clear hst HSP HRS HOK HCL HWK HME HRC HRN HLD H2 hO2 A2 hBe HB HLr HFR;go_wp2_with fail;refine(HNX.out ()).mono ?_;rintro e w4 ⟨⟨l4,hl4,hN4⟩,hO4⟩;have HB4:Hid (Below w0 w0 w4):=HB2.out.trans (by have:=hO4.below;rw[X.hB]at this;exact this);have HL4:Hid _:=yI HL2.out hO4.size;clear HNX HB2 HL2 hO4;rcases hN4 with ⟨h1,rfl,h3⟩|⟨h1,rfl,h3⟩
    ·have HNS:Hid (A9z L vb sb db cao ccap ps p h c2 (-1:Int) w4):=⟨l4,hl4,.inl ⟨h1,rfl,h3⟩⟩;clear h1 h3;go_wp2;go_roundg (gk-1);case measure=>exact HMN.out.2
     case rel=>exact⟨c2,HRO.out.1,HRO.out.2.1,HWN.out,HMN.out.1,HNS.out,HB4.out,HL4.out⟩
    ·have HNS:Hid (A9z L vb sb db cao ccap ps p h c2 l4 w4):=⟨l4,hl4,.inr ⟨h1,rfl,h3⟩⟩;clear h1 h3;go_wp2;go_roundg (gk-1);case measure=>exact HMN.out.2
     case rel=>exact⟨c2,HRO.out.1,HRO.out.2.1,HWN.out,HMN.out.1,HNS.out,HB4.out,HL4.out⟩
end Go.Proofs.YtjbbppblgjhapaaGreatDoor
namespace Go.Proofs.YtjbbppblgjhapaaGreatDoor
open Go.ChangeAt Go.ChangeShapes Go.Deep Go.Proofs.Tryz Go.RowKit Go.WideShapes
variable{held:Bool}{k:FloatKind}{x:Int}{cs:List Value}{base fuel:Nat}{P:Program}{α:Type}{t:TypeId}{v:Value}
theorem Cx:prog.cellsOf 3=1:=by kernel_rfl
theorem Zt:prog.cellsOf 2=1:=by kernel_rfl
theorem Sw:prog.cellsOf 4=1:=by kernel_rfl
theorem Uo:prog.cellsOf 208=1:=by kernel_rfl
theorem L8:prog.cellsOf 9=1:=by kernel_rfl
theorem Wu (h:(Lit.int .i64 x).wf=true):I64 x:=by simp only[Lit.wf,yY,decide_eq_true_eq]at h;rw[show IntKind.i64.min = -9223372036854775808 by decide,show IntKind.i64.max=9223372036854775807 by decide]at h;exact h
theorem Af1 {x:Nat} (h:(Lit.float .f64 x).wf=true):x<18446744073709551616:=by simpa[Lit.wf]using h
section
variable {H:Type} {enc:TypeId×Value→H} {W:World}
theorem Acc {spare:Nat->Bool} {x:DataW H×List MemPlace} (ht:P.underlying t=some (.float k)) (h:DataW.trod enc P W base spare held fuel t cs=some x):∃n,cs=[.float k n]/\(Lit.float k n).wf=true:=by
 cases fuel with
 | zero=>simp[DataW.trod]at h
 | succ n=>
  unfold DataW.trod at h;rw[ht]at h;split at h<;>simp_all
theorem Rf [Inhabited α]{e:TypeId}{k:Nat} {y:DataW H×List MemPlace} (ht:prog.underlying t=some (.slice e)) (hk:prog.cellsOf e=k) (hk0:0<k) (R:Nat->Nat->α->Prop) (G:α->Prop)
  (one:∀(n b o:Nat) (cs':List Value) (y:DataW H×List MemPlace),cs'.length=k->(∀i,i<k->W.cell? ⟨b,o+i,none⟩=cs'[i]?)->DataW.trod enc prog W 0 (fun _=>true) true n e cs'=some y->∃x,R b o x/\G x)
  (h:DataW.trod enc prog W 0 (fun _=>true) true fuel t [v]=some y) :
  ∃(ao:Option Addr) (cap:Nat) (xs:List α),v=.slice ao xs.length cap/\xs.length<=9223372036854775807/\(∀x∈xs,G x)/\Ah 0 W ao k R xs:=by
 rcases open_slice ht h with ⟨hcs,_⟩|⟨a,len,cap,m,n,D,Pl,hcs,_,hl,hm,hmm,_,hel⟩
 ·simp at hcs;exact⟨none,0,[],hcs,by simp,by simp,fun i x hx=>by simp at hx⟩
 ·simp only[List.cons.injEq,and_true]at hcs;simp only[if_true]at hmm;have hm2:cap<=9223372036854775807:=hm;obtain⟨b,off,spot⟩:=a;by_cases h0:len=0
  ·subst h0;exact⟨some ⟨b,off,spot⟩,cap,[],hcs,by simp,by simp,fun i x hx=>by simp at hx⟩
  ·have hsp:spot=none:=by obtain⟨cs',hc,_⟩:=hel 0 (by omega);rw[hk]at hc;obtain⟨_,hlen,hget⟩:=World.cells?_some hc;have h2:=hget 0 hk0;rw[yV (by omega)]at h2;simpa[Addr.add]using World.cell?_spot h2
   subst hsp;have each:∀i,i<len->∃x:α,(R b (off+i*k) x/\G x)/\b<(W:Nat):=by intro i hi;obtain⟨cs',hc,ht⟩:=hel i (by omega);rw[hk]at hc;have hbl:=World.cells?_block hc hk0;obtain⟨_,hlen,hget⟩:=World.cells?_some hc;obtain⟨x,hx⟩:=one n b (off+i*k) cs' _ hlen (fun j hj=>by have h3:=hget j hj;rw[add_plain,add_plain]at h3;exact h3) ht;rw[add_plain]at hbl;exact⟨x,hx,hbl⟩
   obtain⟨f,hf⟩:=choose_lt each;refine⟨some ⟨b,off,none⟩,cap,(List.range len).map f,by simpa using hcs,by simp;omega,?_,?_⟩
   ·intro x hx;simp only[List.mem_map,List.mem_range]at hx;obtain⟨i,hi,rfl⟩:=hx;exact(hf i hi).1.2
   ·intro i x hx;rw[List.getElem?_map]at hx;obtain⟨j,hj,rfl⟩:=Option.map_eq_some_iff.1 hx;obtain⟨hi,rfl⟩:=yD.1 hj;simp only[List.length_range]at hi;simp only[List.getElem_range];exact⟨b,off,rfl,yE _,(hf i hi).2,(hf i hi).1.1⟩
instance:Inhabited Ud:=⟨⟨false,0⟩⟩
theorem Aae:prog.cellsOf 380=2:=by kernel_rfl
theorem Aej (n b o:Nat) (cs':List Value) (y:DataW H×List MemPlace) (hl:cs'.length=2) (hc:∀i,i<2->W.cell? ⟨b,o+i,none⟩=cs'[i]?) (h:DataW.trod enc prog W 0 (fun _=>true) true n 380 cs'=some y):∃x:Ud,UpAt W b o x/\(True):=by
 obtain⟨xs,n,_,hx,_,hlen,hfld⟩:=DataW.trod_struct underlying380 h
 match cs',hl with
 | [x0,x1],_=>
  simp only[List.size_toArray,List.length_cons,List.length_nil]at hlen;have f0:=hfld 0 _ rfl;have f1:=hfld 1 _ rfl;simp[Sw]at f0;simp[Cx]at f1;rw[yV (by omega)]at f0 f1;obtain⟨y0,e0,_⟩:=DataW.trod_bool underlying4 f0;obtain⟨y1,e1,_,g1⟩:=DataW.trod_int underlying3 f1;simp only[List.cons.injEq,and_true]at e0 e1;subst e0 e1;refine⟨⟨y0,y1⟩,⟨hc 0 (by omega),hc 1 (by omega)⟩,?_⟩;trivial
instance:Inhabited Vd:=⟨⟨0,0,0,.empty,0⟩⟩
theorem A8h:prog.cellsOf 375=5:=by kernel_rfl
theorem Adb (n b o:Nat) (cs':List Value) (y:DataW H×List MemPlace) (hl:cs'.length=5) (hc:∀i,i<5->W.cell? ⟨b,o+i,none⟩=cs'[i]?) (h:DataW.trod enc prog W 0 (fun _=>true) true n 375 cs'=some y):∃x:Vd,A6w W b o x/\(x.flt<18446744073709551616/\x.str.size<=9223372036854775807):=by
 obtain⟨xs,n,_,hx,_,hlen,hfld⟩:=DataW.trod_struct underlying375 h
 match cs',hl with
 | [x0,x1,x2,x3,x4],_=>
  simp only[List.size_toArray,List.length_cons,List.length_nil]at hlen;have f0:=hfld 0 _ rfl;have f1:=hfld 1 _ rfl;have f2:=hfld 2 _ rfl;have f3:=hfld 3 _ rfl;have f4:=hfld 4 _ rfl;simp[Cx]at f0;simp[Zt]at f1;simp[Uo]at f2;simp[L8]at f3;simp[Cx]at f4;rw[yV (by omega)]at f0 f1 f2 f3 f4;obtain⟨y0,e0,_,g0⟩:=DataW.trod_int underlying3 f0;obtain⟨y1,e1,_,g1⟩:=DataW.trod_int underlying2 f1;obtain⟨y2,e2,g2⟩:=Acc underlying208 f2;obtain⟨y3,e3,_,g3⟩:=DataW.trod_string underlying9 f3;obtain⟨y4,e4,_,g4⟩:=DataW.trod_int underlying3 f4;simp only[List.cons.injEq,and_true]at e0 e1 e2 e3 e4;subst e0 e1 e2 e3 e4;refine⟨⟨y0,y1,y2,y3,y4⟩,⟨hc 0 (by omega),hc 1 (by omega),hc 2 (by omega),hc 3 (by omega),hc 4 (by omega)⟩,?_⟩;exact⟨Af1 g2,g3⟩
instance:Inhabited Nd:=⟨⟨0,0,0,0,0⟩⟩
theorem A8f:prog.cellsOf 383=5:=by kernel_rfl
theorem Ad9 (n b o:Nat) (cs':List Value) (y:DataW H×List MemPlace) (hl:cs'.length=5) (hc:∀i,i<5->W.cell? ⟨b,o+i,none⟩=cs'[i]?) (h:DataW.trod enc prog W 0 (fun _=>true) true n 383 cs'=some y):∃x:Nd,A6u W b o x/\(NdW x):=by
 obtain⟨xs,n,_,hx,_,hlen,hfld⟩:=DataW.trod_struct underlying383 h
 match cs',hl with
 | [x0,x1,x2,x3,x4],_=>
  simp only[List.size_toArray,List.length_cons,List.length_nil]at hlen;have f0:=hfld 0 _ rfl;have f1:=hfld 1 _ rfl;have f2:=hfld 2 _ rfl;have f3:=hfld 3 _ rfl;have f4:=hfld 4 _ rfl;simp[Cx]at f0;simp[Cx]at f1;simp[Cx]at f2;simp[Cx]at f3;simp[Cx]at f4;rw[yV (by omega)]at f0 f1 f2 f3 f4;obtain⟨y0,e0,_,g0⟩:=DataW.trod_int underlying3 f0;obtain⟨y1,e1,_,g1⟩:=DataW.trod_int underlying3 f1;obtain⟨y2,e2,_,g2⟩:=DataW.trod_int underlying3 f2;obtain⟨y3,e3,_,g3⟩:=DataW.trod_int underlying3 f3;obtain⟨y4,e4,_,g4⟩:=DataW.trod_int underlying3 f4;simp only[List.cons.injEq,and_true]at e0 e1 e2 e3 e4;subst e0 e1 e2 e3 e4;refine⟨⟨y0,y1,y2,y3,y4⟩,⟨hc 0 (by omega),hc 1 (by omega),hc 2 (by omega),hc 3 (by omega),hc 4 (by omega)⟩,?_⟩;exact⟨Wu g0,Wu g1,Wu g2,Wu g3,Wu g4⟩
instance:Inhabited Md:=⟨⟨.empty,0,0,0⟩⟩
theorem A8g:prog.cellsOf 377=4:=by kernel_rfl
theorem Ada (n b o:Nat) (cs':List Value) (y:DataW H×List MemPlace) (hl:cs'.length=4) (hc:∀i,i<4->W.cell? ⟨b,o+i,none⟩=cs'[i]?) (h:DataW.trod enc prog W 0 (fun _=>true) true n 377 cs'=some y):∃x:Md,A6v W b o x/\(x.name.size<=9223372036854775807):=by
 obtain⟨xs,n,_,hx,_,hlen,hfld⟩:=DataW.trod_struct underlying377 h
 match cs',hl with
 | [x0,x1,x2,x3],_=>
  simp only[List.size_toArray,List.length_cons,List.length_nil]at hlen;have f0:=hfld 0 _ rfl;have f1:=hfld 1 _ rfl;have f2:=hfld 2 _ rfl;have f3:=hfld 3 _ rfl;simp[L8]at f0;simp[Cx]at f1;simp[Cx]at f2;simp[Cx]at f3;rw[yV (by omega)]at f0 f1 f2 f3;obtain⟨y0,e0,_,g0⟩:=DataW.trod_string underlying9 f0;obtain⟨y1,e1,_,g1⟩:=DataW.trod_int underlying3 f1;obtain⟨y2,e2,_,g2⟩:=DataW.trod_int underlying3 f2;obtain⟨y3,e3,_,g3⟩:=DataW.trod_int underlying3 f3;simp only[List.cons.injEq,and_true]at e0 e1 e2 e3;subst e0 e1 e2 e3;refine⟨⟨y0,y1,y2,y3⟩,⟨hc 0 (by omega),hc 1 (by omega),hc 2 (by omega),hc 3 (by omega)⟩,?_⟩;exact g0
instance:Inhabited Pd:=⟨⟨.empty,0,0,false,0,[],[],[],[]⟩⟩
theorem A52:prog.cellsOf 135=1:=by kernel_rfl
theorem A27:prog.cellsOf 136=1:=by kernel_rfl
theorem A25:prog.cellsOf 137=1:=by kernel_rfl
theorem A26:prog.cellsOf 138=1:=by kernel_rfl
theorem A29:prog.cellsOf 140=9:=by kernel_rfl
structure Aa0 (p:Pd):Prop where
 sz:PSz p
 flts:A4w p.consts
 nds:∀n∈p.ins,NdW n
theorem A96 (n b o:Nat) (cs':List Value) (y:DataW H×List MemPlace) (hl:cs'.length=9) (hc:∀i,i<9->W.cell? ⟨b,o+i,none⟩=cs'[i]?) (h:DataW.trod enc prog W 0 (fun _=>true) true n 140 cs'=some y):∃x:Pd,Zj 0 W b o x/\Aa0 x:=by
 obtain⟨xs,n,_,hx,_,hlen,hfld⟩:=DataW.trod_struct underlying140 h
 match cs',hl with
 | [x0,x1,x2,x3,x4,x5,x6,x7,x8],_=>
  simp only[List.size_toArray,List.length_cons,List.length_nil]at hlen;have f0:=hfld 0 _ rfl;have f1:=hfld 1 _ rfl;have f2:=hfld 2 _ rfl;have f3:=hfld 3 _ rfl;have f4:=hfld 4 _ rfl;have f5:=hfld 5 _ rfl;have f6:=hfld 6 _ rfl;have f7:=hfld 7 _ rfl;have f8:=hfld 8 _ rfl;simp[L8]at f0;simp[Cx]at f1;simp[Cx]at f2;simp[Sw]at f3;simp[Cx]at f4;simp[A52]at f5;simp[A27]at f6;simp[A25]at f7;simp[A26]at f8;rw[yV (by omega)]at f0 f1 f2 f3 f4 f5 f6 f7 f8;obtain⟨y0,e0,_,g0⟩:=DataW.trod_string underlying9 f0;obtain⟨y1,e1,_,g1⟩:=DataW.trod_int underlying3 f1;obtain⟨y2,e2,_,g2⟩:=DataW.trod_int underlying3 f2;obtain⟨y3,e3,_⟩:=DataW.trod_bool underlying4 f3;obtain⟨y4,e4,_,g4⟩:=DataW.trod_int underlying3 f4;obtain⟨uo,uc,us,e5,z5,_,a5⟩:=Rf underlying135 Aae (by omega) (UpAt W) (fun _=>True) (fun n b o c y h1 h2 h3=>Aej n b o c y h1 h2 h3) f5;obtain⟨vo,vc,vs,e6,z6,g6,a6⟩:=Rf underlying136 A8h (by omega) (A6w W) (fun x=>x.flt<18446744073709551616/\x.str.size<=9223372036854775807) (fun n b o c y h1 h2 h3=>Adb n b o c y h1 h2 h3) f6;obtain⟨io,ic,is,e7,z7,g7,a7⟩:=Rf underlying137 A8f (by omega) (A6u W) NdW (fun n b o c y h1 h2 h3=>Ad9 n b o c y h1 h2 h3) f7;obtain⟨no,nc,ns,e8,z8,g8,a8⟩:=Rf underlying138 A8g (by omega) (A6v W) (fun x=>x.name.size<=9223372036854775807) (fun n b o c y h1 h2 h3=>Ada n b o c y h1 h2 h3) f8;simp only[List.cons.injEq,and_true]at e0 e1 e2 e3 e4;subst e0 e1 e2 e3 e4 e5 e6 e7 e8;refine⟨⟨y0,y1,y2,y3,y4,us,vs,is,ns⟩,⟨⟨uo,uc,vo,vc,io,ic,no,nc⟩,⟨hc 0 (by omega),hc 1 (by omega),hc 2 (by omega),hc 3 (by omega),hc 4 (by omega),hc 5 (by omega),hc 6 (by omega),hc 7 (by omega),hc 8 (by omega)⟩,⟨a5,a6,a7,a8⟩⟩,⟨⟨g0,z5,z6,z7,z8,fun v hv=>(g6 v hv).2,g8⟩,fun v hv=>(g6 v hv).1,g7⟩⟩
theorem Acx {y:DataW H×List MemPlace} (h:DataW.trod enc prog W 0 (fun _=>true) true fuel 22 [v]=some y) :
  ∃(ao:Option Addr) (cap:Nat) (ps:List Pd),v=.slice ao ps.length cap/\ps.length<=9223372036854775807/\(∀p∈ps,Aa0 p)/\Ad 0 W ao ps:=
 Rf underlying22 A29 (by omega) (Zj 0 W) Aa0 (fun n b o c y h1 h2 h3=>A96 n b o c y h1 h2 h3) h
end
end Go.Proofs.YtjbbppblgjhapaaGreatDoor
