import Derived.Test.YtbefeflgjipfhaaGreatDoorF37
set_option maxRecDepth 1000000
set_option maxHeartbeats 16000000
namespace Go.Proofs.YtbefeflgjipfhaaGreatDoor
open Go.Deep Go.Proofs.Tryz Go.RowKit
variable{want x:Int}{xs:List Int}{rs:List Nat}{a cnt r:Nat}{o:Obj}{E:Prop}{T:Tj}{vp:Value}{w w2:World}
def Tj.come (T:Tj) (a:Nat):Tj:=⟨T.count+1,T.order.set a (T.count+1),T.path++[a],T.least⟩
theorem A7t {s cb gb ob qb N:Nat}{w3:World}{vp':Value} (I:A34 s cb ob qb) (h:Kv s cb gb ob qb N w T vp)
  (hw2:w2=(((w.setCell ⟨cb,1,none⟩ (.int .i64 ((T.count:Int)+1))).setCell ⟨ob,a,none⟩ (.int .i64 ((T.count:Int)+1))).setCell ⟨qb,a,none⟩ (.bool true)).drew) :
  Blk w2 cb #[.slice (some ⟨gb,0,none⟩) N N,.int .i64 ((T.count+1:Nat):Int),.slice (some ⟨ob,0,none⟩) N N,vp,.slice (some ⟨qb,0,none⟩) N N,.int .i64 T.least] 417/\Blk w2 ob (G7 (T.order.set a (T.count+1))) 3/\Blk w2 qb (Ci (Iz N fun v=>decide (v∈T.path++[a]))) 4/\w2.ownsRow (s+3) 3 1 vp T.path.length (Bj (zs T.path))/\Below s w w2:=by
 subst hw2;have _:=w3;have _:=vp';have b1:Blk (w.setCell ⟨cb,1,none⟩ (.int .i64 ((T.count:Int)+1))) cb #[.slice (some ⟨gb,0,none⟩) N N,.int .i64 ((T.count+1:Nat):Int),.slice (some ⟨ob,0,none⟩) N N,vp,.slice (some ⟨qb,0,none⟩) N N,.int .i64 T.least] 417:=h.blk.set 1 (.int .i64 ((T.count:Int)+1));have o1:=h.order.setOther (p:=⟨cb,1,none⟩) I.co.symm (.int .i64 ((T.count:Int)+1));have q1:=h.opn.setOther (p:=⟨cb,1,none⟩) I.cq.symm (.int .i64 ((T.count:Int)+1));have o2:=o1.set a (.int .i64 ((T.count+1:Nat):Int));rw[A1b]at o2;have q3:=(q1.setOther (p:=⟨ob,a,none⟩) I.oq.symm (.int .i64 ((T.count+1:Nat):Int))).set a (.bool true);rw[Ew,Zm,J2 (Q:=fun v=>decide (v∈T.path++[a])) (fun v _=>by by_cases hv:v=a<;>simp[hv])]at q3;refine⟨(b1.setOther (p:=⟨ob,a,none⟩) I.co _).setOther (p:=⟨qb,a,none⟩) I.cq _,o2.setOther (p:=⟨qb,a,none⟩) I.oq _,q3,Ae h.path (fun k hk=>?_),?_⟩
 ·have h3:=(h.path.lt k hk).1;have n1:k≠cb:=by have:=I.c2;omega
  have n2:k≠ob:=by have:=I.o2;omega
  have n3:k≠qb:=by have:=I.q2;omega
  exact(yL _ _ _ _ n3).trans ((yL _ _ _ _ n2).trans (yL _ _ _ _ n1))
 ·exact((((yA s w).setCell (by dsimp only;exact I.c1) _).setCell (by dsimp only;exact I.o1) _).setCell (by dsimp only;exact I.q1) _).drew
theorem A7u {s cb gb ob qb N:Nat}{least:Nat} {ord path:List Nat}{vp':Value} (I:A34 s cb ob qb) (hs:s+3<=w.heap.size) (B:Blk w cb #[.slice (some ⟨gb,0,none⟩) N N,.int .i64 cnt,.slice (some ⟨ob,0,none⟩) N N,vp,.slice (some ⟨qb,0,none⟩) N N,.int .i64 least] 417) (O:Blk w ob (G7 ord) 3) (Q:Blk w qb (Ci (Iz N fun v=>decide (v∈path++[a]))) 4) (P:w.ownsRow (s+3) 3 1 vp path.length (Bj (zs path)))
  (h1:w2.ownsRow (s+3) 3 1 vp' (path.length+1) (Bj (zs path++[(a:Int)]))) (h2:(w.alloc o).grownBy w2 vp.ownBlock):Kv s cb gb ob qb N (w2.setCell ⟨cb,3,none⟩ vp') ⟨cnt,ord,path++[a],least⟩ vp'/\Below s w (w2.setCell ⟨cb,3,none⟩ vp')/\Blk w2 cb #[.slice (some ⟨gb,0,none⟩) N N,.int .i64 cnt,.slice (some ⟨ob,0,none⟩) N N,vp,.slice (some ⟨qb,0,none⟩) N N,.int .i64 least] 417:=by
 have hnb:∀b,b<s+3->some b≠vp.ownBlock:=fun b hb e=>by have:=(P.lt b e.symm).1;omega
 have b2:=Dx (B.alloc o) h2 (hnb cb I.c2);have o2:=Dx (O.alloc o) h2 (hnb ob I.o2);have q2:=Dx (Q.alloc o) h2 (hnb qb I.q2);refine⟨⟨b2.set 3 vp',o2.setOther (p:=⟨cb,3,none⟩) I.co.symm _,q2.setOther (p:=⟨cb,3,none⟩) I.cq.symm _,?_⟩,?_,b2⟩
 ·have e:zs (path++[a])=zs path++[(a:Int)]:=by simp[zs]
  dsimp only;rw[e];simp only[List.length_append,List.length_cons,List.length_nil,yM];refine Ae h1 (fun k hk=>yL _ _ _ _ (by have:=(h1.lt k hk).1;have:=I.c2;dsimp only;omega))
 ·exact(((yA s w).alloc (by omega) o).grown h2 (by simp;omega) (fun k hk=>by have:=(P.lt k hk).1;omega)).setCell (by dsimp only;exact I.c1) _
theorem A4y (s cb gb ob qb N lo:Nat) (F:Nat->List Nat) (wq:World) (I:A34 s cb ob qb) (hN:N<=6000) (hwq:wq.heap.size=s) (S:Pn lo wq gb N fun j=>zs (F j)) (hF:∀j,j<N->(F j).length<=2/\∀z∈F j,z<N) :
  ∀(n:Nat) (T:Tj) (gray:Nat->Prop) (a:Nat) (vp:Value) (w:World),unv T.order<=n->T.count+unv T.order<=N->Kv s cb gb ob qb N w T vp->Below s wq w->s+3<=w.heap.size->Jt (fun x y=>y∈F x) N T gray->(∀x∈T.path,Pth (fun x y=>y∈F x) x a)->a<N->T.ord a=0->
  Calls prog 327 #[.pointer (some ⟨cb,0,none⟩),.int .i64 a] w fun e w'=>∃(T':Tj) (vp':Value) (low:Nat),e=.returned (.int .i64 low)/\Kv s cb gb ob qb N w' T' vp'/\Vt (fun x y=>y∈F x) N T T' gray a low/\T'.count+unv T'.order<=N/\Below s w w':=by
 intro n
 induction n with
 | zero=>
  intro T gray a vp w hu _ _ _ _ hj _ ha h0;exfalso;have:=A31 (l:=T.order) (i:=a) (k:=1) (by rw[hj.lenO];exact ha) h0 (by decide);omega
 | succ n ih=>
  intro T gray a vp w hu hcu C hbq hs3 hj hre ha h0;obtain⟨fo,fc,sq,IFq⟩:=S.at_ a ha;rw[Xi]at sq;have HSQ:Hid (∀W,Below s w W->W.cell? ⟨gb,a,none⟩=some (.slice fo (F a).length fc)/\Cv lo W fo (zs (F a))):=fun W hW=>by
   have hb:Below wq.heap.size wq W:=by rw[hwq];exact hbq.trans hW
   exact⟨(hb.cell (p:=⟨gb,a,none⟩) S.own.lt).trans sq,IFq.l (Ad.o hb)⟩
  clear sq IFq;have HIH:Hid _:=ih;obtain⟨po,pcap,hvp⟩:=Af C.path;subst hvp;have hul:=A31 (l:=T.order) (i:=a) (k:=T.count+1) (by rw[hj.lenO];exact ha) h0 (by omega);have hcN:T.count+1<=N:=by omega
  have hpl:=Rj hj;have HLT:=A5y hj ha h0 hre;have HJ:Hid _:=hj;have HL0:Hid _:=HLT;have b0:=C.blk.cell;have f0:=C.blk.frozen;have hlO:T.order.length=N:=hj.lenO;have o0:=(C.order.cell a).trans (Iw (by rw[hlO];exact ha));have of0:=C.order.frozen a;have q0:=(C.opn.cell a).trans (Cs (by rw[Ri];exact ha));have qf0:=C.opn.frozen a;have hco:¬cb=ob:=I.co;have hcq:¬cb=qb:=I.cq;have hoc:¬ob=cb:=fun e=>I.co e.symm;have hqc:¬qb=cb:=fun e=>I.cq e.symm;have hoq:¬ob=qb:=I.oq;have hqo:¬qb=ob:=fun e=>I.oq e.symm;have k1:(a:Int)<N:=by omega
  have k2:(T.count:Int)<6000:=by omega
  have HC:Hid _:=C;have HCC:=A7t (w3:=w) (vp':=.slice po T.path.length pcap) (a:=a) I C rfl;have HC2:Hid _:=HCC;clear ih HLT hj HCC C hre;go_in;go_wp2_with fail;have B1:Blk (w.setCell ⟨cb,1,none⟩ (.int .i64 ((T.count:Int)+1))) cb #[.slice (some ⟨gb,0,none⟩) N N,.int .i64 ((T.count:Int)+1),.slice (some ⟨ob,0,none⟩) N N,.slice po T.path.length pcap,.slice (some ⟨qb,0,none⟩) N N,.int .i64 T.least] 417:=HC.out.blk.set 1 (.int .i64 ((T.count:Int)+1));have d1:=B1.cell 1;have d2:=B1.cell 2;have d4:=B1.cell 4;clear b0 f0 B1;have o1:=(yG _ _ _ _ hco:(w.setCell ⟨cb,1,none⟩ (.int .i64 ((T.count:Int)+1))).cell? ⟨ob,a,none⟩=_).trans o0;have q1:=(yG _ _ _ _ hcq:(w.setCell ⟨cb,1,none⟩ (.int .i64 ((T.count:Int)+1))).cell? ⟨qb,a,none⟩=_).trans q0;go_region_held3 (fun w'=>w'.cell? ⟨cb,1,none⟩=some (.int .i64 ((T.count:Int)+1))/\w'.cell? ⟨cb,2,none⟩=some (.slice (some ⟨ob,0,none⟩) N N)/\w'.cell? ⟨cb,4,none⟩=some (.slice (some ⟨qb,0,none⟩) N N)) (first|exact⟨d1,d2,d4⟩|exact⟨(yG _ _ _ _ hoc).trans d1,(yG _ _ _ _ hoc).trans d2,(yG _ _ _ _ hoc).trans d4⟩|exact⟨((yG _ _ _ _ hqc).trans (yG _ _ _ _ hoc)).trans d1,((yG _ _ _ _ hqc).trans (yG _ _ _ _ hoc)).trans d2,((yG _ _ _ _ hqc).trans (yG _ _ _ _ hoc)).trans d4⟩|(go_keep;done)) (fail);obtain⟨B2,O2,Q2,P2,bw2⟩:=HC2.out;clear d1 d2 d4 o0 of0 q0 qf0 o1 q1 HC HC2;generalize (((w.setCell ⟨cb,1,none⟩ (.int .i64 ((T.count:Int)+1))).setCell ⟨ob,a,none⟩ (.int .i64 ((T.count:Int)+1))).setCell ⟨qb,a,none⟩ (.bool true)).drew=w2 at *;have b2:=B2.cell;have hs2:s+3<=w2.heap.size:=yI hs3 bw2.size;go_wp2_with fail;go_quiet (fail);have hd:=below_drewN (yA w2.heap.size w2) nq;have B3:=B2.l hd;have O3:=O2.l hd;have Q3:=Q2.l hd;have P3:=Ab P2 hd;have bw3:=bw2.trans (hd.mono (by omega));have hs3':s+3<=(w2.drewN nq).heap.size:=yI hs2 hd.size;clear b2 B2 O2 Q2 P2 bw2 hd;generalize w2.drewN nq=w3 at *;have b3:=B3.cell;have hc3:=B3.lt;have HP3:Hid (w3.ownsRow (s+3) 3 1 (.slice po T.path.length pcap) T.path.length (Bj (zs T.path))):=P3;have k3:T.path.length<=6000:=by omega
  clear P3;go_wp2_with (at_builtin;refine Il rfl _ _ rfl (s+3) _ T.path.length (zs T.path) (a:Int) _ rfl (HP3.out.alloc _) rfl ?c1 (by omega) ?c3 ?_);case c1=>exact(Blk.new w3 #[.int .i64 a] 3).cell 0
  case c3=>exact yI hs3' (by simp)
  ·intro v4 w4 H1 H2 _;obtain⟨C5,b5,B4⟩:=A7u (gb:=gb) I hs3' B3 O3 Q3 HP3.out H1 H2;obtain⟨vo,vc,rfl⟩:=Af H1;have x4:=B4.cell;have xf4:=B4.frozen;have HC5:Hid (Kv s cb gb ob qb N (w4.setCell ⟨cb,3,none⟩ (.slice vo (T.path.length+1) vc)) (T.come a) (.slice vo (T.path.length+1) vc)):=C5;have HB5:Hid (Below s w (w4.setCell ⟨cb,3,none⟩ (.slice vo (T.path.length+1) vc))):=bw3.trans b5;have s5:=(HSQ.out _ HB5.out).1;have c5:=HC5.out.blk.cell;clear C5 b5 B4 H1 H2 b3 B3 O3 Q3 HP3 bw3;go_wp2_with fail;have HUN:Hid (unv (T.come a).order<=n/\(T.come a).count+unv (T.come a).order<=N):=by show _/\_;unfold Tj.come;dsimp only;omega
   have HFa:Hid ((F a).length<=2/\∀z∈F a,z<N):=hF a ha;have hfl:(F a).length<=2:=(hF a ha).1;have HF0:Hid _:=hF;clear c5 s5 x4 xf4 hF hul hu hcu;generalize hwz:w4.setCell ⟨cb,3,none⟩ (.slice vo (T.path.length+1) vc)=w5 at *;clear hwz;go_loopg [6,59] ((F a).length+1) (fun g y6 y59 wr=>∃(k:Nat) (Tk:Tj) (vk:Value) (low:Nat),k<=(F a).length/\y6=.int .i64 low/\y59=.int .i64 k/\Hid (Lt (fun x y=>y∈F x) N T Tk gray a low ((F a).take k))/\Hid (Kv s cb gb ob qb N wr Tk vk)/\Hid (unv Tk.order<=n/\Tk.count+unv Tk.order<=N)/\Hid (Below s w wr)/\Hid ((F a).length+1-k<=g));case atStart=>exact⟨0,T.come a,_,T.count+1,yE _,rfl,rfl,HL0.out,HC5.out,HUN.out,HB5.out,yB _⟩
   case round=>
    obtain⟨k,Tk,vk,low,hk,rfl,rfl,HL,HCk,HU,HBk,HG⟩:=hrel;clear HC5 HB5 HUN;have hlowN:(low:Int)<=6001:=by have:=HL.out.lowLe;omega
    have hck:=HCk.out.blk.cell;by_cases hkl:k<(F a).length
    ·obtain⟨b,hb⟩:=Ah hkl;have hbm:=yH hb;have hbN:=HFa.out.2 b hbm;have htk:(F a).take (k+1)=(F a).take k++[b]:=by rw[List.take_add_one,hb];rfl
     have HTK:Hid _:=htk;obtain⟨fb,foff,hfo,_,_,fcell⟩:=(HSQ.out wr HBk.out).2 k b (A7k hb);subst hfo;unfold Jb at fcell;rw[Nat.mul_one]at fcell;have HG2:Hid ((F a).length+1-(k+1)<=gk-1/\gk-1<gk):=by have:=HG.out;show _/\_;omega
     have hlk:=HL.out.j.lenO;have ock:=(HCk.out.order.cell b).trans (Iw (by rw[hlk];exact hbN));have kk:(k:Int)<(F a).length:=by omega
     have kb:(b:Int)<N:=by omega
     have hE:(fun x y=>y∈F x) a b:=hbm;have HE:Hid ((fun x y=>y∈F x) a b):=hE;clear hb htk HG hlk hE hbm;by_cases hob:Tk.order.getD b 0=0
     ·rw[hob]at ock;have HOB:Hid (Tk.ord b=0):=hob;have HRC:Hid (∀_:Unit,_):=fun _=>HIH.out Tk (fun x=>gray x∨x=a) b vk wr HU.out.1 HU.out.2 HCk.out (hbq.trans HBk.out) (yI hs3 HBk.out.size) HL.out.j (A5x HL.out HJ.out.gry HE.out) hbN HOB.out;clear hob;go_wp2_with fail;refine(HRC.out ()).mono ?_;rintro e w6 ⟨T6,v6,l6,rfl,C6,V6,hcu6,hb6⟩;have HL6:Hid (Lt (fun x y=>y∈F x) N T T6 gray a (min low l6) ((F a).take (k+1))):=by show Lt _ _ _ _ _ _ _ _;rw[HTK.out];exact A5z HL.out HOB.out HE.out V6
      have HU6:Hid (unv T6.order<=n/\T6.count+unv T6.order<=N):=⟨yI (A0a (HL.out.j.lenO.trans V6.j.lenO.symm) (fun v hv=>by have:=V6.same v hv;unfold Tj.ord at this;rw[this];exact hv)) HU.out.1,hcu6⟩;have HC6:Hid (Kv s cb gb ob qb N w6 T6 v6):=C6;have HB6:Hid (Below s w w6):=HBk.out.trans hb6;have hmn:min (low:Int) (l6:Int)=((min low l6:Nat):Int):=by omega
      clear C6 V6 hcu6 hb6 HRC HL HCk HU HBk hck ock fcell;go_wp2;go_roundg (gk-1);case measure=>exact HG2.out.2
      case rel=>exact⟨k+1,T6,v6,min low l6,by omega,by first|rfl|(rw[hmn]),by go_num,HL6.out,HC6.out,HU6.out,HB6.out,HG2.out.1⟩
     ·have HOB:Hid (Tk.ord b≠0):=hob;have hsn:=A89 HL.out HOB.out HE.out;have HSN:Hid _:=hsn;obtain⟨ob2,hob2⟩:∃x,x=Tk.order.getD b 0:=⟨_,rfl⟩;have HO2:Hid (Tk.ord b=ob2):=hob2.symm;have e0:((ob2:Int)==0)=false:=by rw[hob2];simpa using hob
      have hle:ob2<=6001:=by have:=HL.out.j.le b;rw[HO2.out]at this;have:=HU.out.2;omega
      rw[←hob2]at ock;have qck:=(HCk.out.opn.cell b).trans (Cs (by rw[Ri];exact hbN));rw[A6b hbN]at qck;by_cases hbp:b∈Tk.path
      ·rw[decide_eq_true hbp]at qck;have HL6:Hid (Lt (fun x y=>y∈F x) N T Tk gray a (min low ob2) ((F a).take (k+1))):=by show Lt _ _ _ _ _ _ _ _;rw[HTK.out,←HO2.out];exact HSN.out.1 hbp
       have hmn:min (low:Int) (ob2:Int)=((min low ob2:Nat):Int):=by omega
       clear hob hob2 hsn hbp HSN HL;go_wp2;go_roundg (gk-1);case measure=>exact HG2.out.2
       case rel=>exact⟨k+1,Tk,vk,min low ob2,by omega,by first|rfl|(rw[hmn]),by go_num,HL6.out,HCk.out,HU.out,HBk.out,HG2.out.1⟩
      ·rw[decide_eq_false hbp]at qck;have HL6:Hid (Lt (fun x y=>y∈F x) N T Tk gray a low ((F a).take (k+1))):=by show Lt _ _ _ _ _ _ _ _;rw[HTK.out];exact HSN.out.2 hbp
       clear hob hob2 hsn hbp HSN HL;go_wp2;go_roundg (gk-1);case measure=>exact HG2.out.2
       case rel=>exact⟨k+1,Tk,vk,low,by omega,rfl,by go_num,HL6.out,HCk.out,HU.out,HBk.out,HG2.out.1⟩
    ·obtain rfl:k=(F a).length:=by omega
     have kk:¬((F a).length:Int)<(F a).length:=by omega
     have HLz:Hid (Lt (fun x y=>y∈F x) N T Tk gray a low (F a)):=by have:=HL.out;rw[List.take_length]at this;exact this
     have ock:=(HCk.out.order.cell a).trans (Iw (by rw[HL.out.j.lenO];exact ha));have hoa:Tk.order.getD a 0=T.count+1:=HLz.out.o;rw[hoa]at ock;clear HL HG hoa;by_cases hlow:low=T.count+1
     ·subst hlow;obtain⟨ext,he1,_⟩:=HLz.out.path;have hjk:=HLz.out.j;have hin:∀y∈a::ext,y<N:=fun y hy=>Aa8 hjk (hjk.vis y (by rw[he1];exact yZ.2 (.inr hy)));have hnd:∀y∈a::ext,y∉T.path:=by intro y hy hyp;have hso:=hjk.sorted;rw[he1,List.pairwise_append]at hso;exact Nat.lt_irrefl _ (hso.2.2 y hyp y hy)
      have hpl2:(T.path++a::ext).length<=6000:=by have:=Rj hjk;rw[he1]at this;have:=HU.out.2;omega
      obtain⟨cnt,ord,pth,lst⟩:=Tk;dsimp only at he1;subst he1;have HCL:Hid (∀_:Unit,_):=fun _=>A3k s cb gb ob qb N (fun j=>zs (F j)) lo cnt lst a ord T.path ext vk wq wr I hN HCk.out hwq S (hbq.trans HBk.out) hin hnd hpl2 (fun j hj=>by rw[Xi];have:=(HF0.out j hj).1;omega);have HIN:Hid _:=hin;clear hin hnd hpl2 hjk;go_wp2_with fail;refine(HCL.out ()).mono ?_;rintro e w7 ⟨rfl,⟨ls,hls,v7,C7⟩,hb7⟩;have HV:Hid (Vt (fun x y=>y∈F x) N T ⟨cnt,ord,T.path,ls⟩ gray a (T.count+1)):=by
       refine A7f HJ.out HLz.out rfl (fun b hb=>hb) HIN.out ?_;unfold Gg at hls;have hmem:((a:Int)∈zs (F a)) ↔ a∈F a:=by
        unfold zs;rw[List.mem_map];constructor
        ·rintro⟨x,hx,e⟩;obtain rfl:x=a:=by omega
         exact hx
        ·intro h;exact⟨a,h,rfl⟩
       by_cases hc:ext≠[]∨a∈F a
       ·left;rw[if_pos (by rw[hmem];exact hc)]at hls;refine⟨hc,?_⟩;obtain⟨m1,m2,m3,m4⟩:=Wl ext (a:Int) (by omega);rcases m2 with m2|⟨y,hy,m2⟩
        ·refine⟨a,by simp,?_,by dsimp only;omega⟩;intro y hy;rcases List.mem_cons.1 hy with rfl|hy
         ·exact yB _
         ·have:=m4 y hy;omega
        ·refine⟨y,by simp[hy],?_,by dsimp only;omega⟩;intro z hz;rcases List.mem_cons.1 hz with rfl|hz
         ·omega
         ·have:=m4 z hz;omega
       ·right;rw[if_neg (by rw[hmem];exact hc)]at hls;exact⟨hc,by dsimp only;omega⟩
      have HC7:Hid (Kv s cb gb ob qb N w7 ⟨cnt,ord,T.path,ls⟩ v7):=C7;have HB7:Hid (Below s w w7):=HBk.out.trans hb7;clear C7 hb7 hls HCL hck ock;go_wp2;go_ret;exact⟨_,_,T.count+1,rfl,HC7.out,HV.out,HU.out.2,HB7.out⟩
     ·have e0:((low:Int)==((T.count+1:Nat):Int))=false:=by simp;omega
      have HV:Hid (Vt (fun x y=>y∈F x) N T Tk gray a low):=A97 HJ.out HLz.out (fun b hb=>hb) hlow;clear hlow;go_wp2;go_ret;exact⟨_,_,low,rfl,HCk.out,HV.out,HU.out.2,HBk.out⟩
theorem A8x {ops:Array Oper} {o:Oper} {a:Act} {K:Act->World->Prop} {Q:Exit->Act->World->Prop} (hgd:o.guard=none) (s x:Operand) (ho:o.op=.call {callee:=.builtin .append,args:=#[s,x],argTypes:=#[64,64]})
  (base:Nat) (v:Value) (n:Nat) (xs:List Int) (u:Int) (B:Nat) (hs:a.eval s=v) (hown:w.ownsRow base 3 1 v n (Bj xs)) (hx:a.eval x=.slice (some ⟨B,0,none⟩) 1 1) (hB:w.cell? ⟨B,0,none⟩=some (.int .i64 u))
  (hn:n<=1048576) (hbase:base<=w.heap.size)
  (h:∀v' w',w'.ownsRow base 3 1 v' (n+1) (Bj (xs++[u]))->w.grownBy w' v.ownBlock->(v'.ownBlock=v.ownBlock∨v'.ownBlock=some w.heap.size)->K (a.put o.dst v') w') :
  if Region.wanted o (yielded ops a.tmps)=true then Oper.wp prog o a w K Q else E:=by
 have hw:Region.wanted o (yielded ops a.tmps)=true:=by simp[Region.wanted,hgd]
 rw[if_pos hw];obtain⟨i0,hi,hz0,hz1,hz2⟩:=info_parts Tryz.info_int;obtain⟨v',w',hr,h2,h3,h4,h5⟩:=run_append_own_at (P:=prog) w base 64 o.type 3 i0 (.int .i64 0) 1 8 underlying64 hi hz0 hz1 hz2 rfl (by decide) v n (Bj xs) hown ⟨B,0,none⟩ 1 1 [.int .i64 u] rfl (by
  intro j q hj
  match j,hj with
  | 0,hj=>simp at hj;subst hj;simpa[Addr.add]using hB) (by simp[Value.oneCell']) (by unfold maxLen;omega) (by omega) hbase
 unfold Oper.wp execOp;simp only[ho,resolve,invoke,builtin,Sem.run_bind,Sem.run_pure,Result.andThen_ok,List.map_toArray,List.map_cons,List.map_nil,hs,hx,hr];refine h v' w' ?_ h3 h5;simpa[Bj]using h2
theorem A6f (h:(r=14/\cnt=1/\want=1)∨(r=15/\cnt=1/\want=2)∨(r=16/\cnt=1/\want=3)∨(r=17/\cnt=2/\want=1)∨(r=18/\cnt=3/\want=1)) (q:Nat) (rd:Rd):Cy want cnt q rd=rdI r (q:Int) rd:=by
 rcases h with ⟨rfl,rfl,rfl⟩|⟨rfl,rfl,rfl⟩|⟨rfl,rfl,rfl⟩|⟨rfl,rfl,rfl⟩|⟨rfl,rfl,rfl⟩
 ·simp[Cy,rdI,Dq]
 ·simp[Cy,rdI,Dq]
 ·simp[Cy,rdI,Dq]
 ·simp only[Cy,rdI];by_cases h1:D7 rd.types (q:Int)=1
  ·by_cases h2:D7 rd.types ((q:Int)+1)=1
   ·simp[h1,h2]
   ·simp[h1,h2]
  ·simp[h1]
 ·simp only[Cy,rdI];by_cases h1:D7 rd.types (q:Int)=1
  ·by_cases h2:D7 rd.types ((q:Int)+1)=1
   ·by_cases h3:D7 rd.types ((q:Int)+2)=1
    ·have e:((q:Int)+1+1)=(q:Int)+2:=by omega
     simp[h1,h2,h3,e]
    ·have e:((q:Int)+1+1)=(q:Int)+2:=by omega
     simp[h1,h2,h3,e]
   ·simp[h1,h2]
  ·simp[h1]
theorem A1f (rb:Nat) (v:Value) (w:World):Calls prog 363 #[.pointer (some ⟨rb,0,none⟩),.iface 487 v] w fun e w'=>e=.returned (.bool true)/\w'=w:=by go_in;go_wp2;go_ret;exact⟨rfl,rfl⟩
theorem Dj (rb:Nat) (v:Value) (w:World):Calls prog 363 #[.pointer (some ⟨rb,0,none⟩),.iface 493 v] w fun e w'=>e=.returned (.bool true)/\w'=w:=by go_in;go_wp2;go_ret;exact⟨rfl,rfl⟩
theorem A1e (rb:Nat) (v:Value) (w:World):Calls prog 363 #[.pointer (some ⟨rb,0,none⟩),.iface 491 v] w fun e w'=>e=.returned (.bool true)/\w'=w:=by go_in;go_wp2;go_ret;exact⟨rfl,rfl⟩
theorem Iy (rb:Nat) (v:Value) (w:World):Calls prog 363 #[.pointer (some ⟨rb,0,none⟩),.iface 463 v] w fun e w'=>e=.returned (.bool true)/\w'=w:=by go_in;go_wp2;go_ret;exact⟨rfl,rfl⟩
theorem Pg (B rb m:Nat) (x want:Int) (rd:Rd) (to:Option Addr) (tc:Nat) (vr vk:Value) (w:World) (h:Cu B rb m w rd (.slice to m tc) vr vk) (hB:B<=w.heap.size) (hm:rd.types.length=m) (hm2:m<=250) (hs:rd.stay.length<=90) (hk:rd.taken.length<=90) (hx1 : -(m:Int)<=x) (hx2:x<m) :
  Calls prog 363 #[.pointer (some ⟨rb,0,none⟩),.iface 286 (.agg #[.int .i64 x,.int .i64 want])] w (D8 B rb m (.slice to m tc) w (Fj want x rd)):=by
 have A:=(yA w.heap.size w).alloc (yB _) (.cells #[.int .i64 x,.int .i64 want] 286);have HC:Hid (∀_:Unit,_):=fun _=>Zl B rb m x want rd to tc vr vk _ (h.l A) (yI hB A.size) hm hx1 hx2 hm2 (by omega) (by omega);have HB:Hid (Below B w (w.alloc (.cells #[.int .i64 x,.int .i64 want] 286))):=A.mono hB;clear A h;go_in;go_wp2_with fail;refine(HC.out ()).mono ?_;unfold D8;generalize Fj want x rd=o at *;clear HC;cases o with
 | none=>
  rintro e w2 ⟨rfl,hb⟩;go_wp2;go_ret;exact⟨rfl,HB.out.trans hb⟩
 | some rd2=>
  rintro e w2 ⟨⟨rfl,hR⟩,hb⟩;have HR:Hid _:=hR;clear hR;go_wp2;go_ret;exact⟨⟨rfl,HR.out⟩,HB.out.trans hb⟩
theorem A1d (B rb m q cnt:Nat) (want:Int) (rd:Rd) (to:Option Addr) (tc:Nat) (vr vk:Value) (w:World) (h:Cu B rb m w rd (.slice to m tc) vr vk) (hB:B<=w.heap.size) (hm:rd.types.length=m) (hm2:m<=250) (hs:rd.stay.length<=90) (_hk:rd.taken.length<=90) (hq:q+cnt<=m) (hc:cnt<=3) :
  Calls prog 363 #[.pointer (some ⟨rb,0,none⟩),.iface 489 (.agg #[.int .i64 q,.int .i64 cnt,.int .i64 want])] w (D8 B rb m (.slice to m tc) w (Cy want cnt q rd)):=by
 have A:=(yA w.heap.size w).alloc (yB _) (.cells #[.int .i64 q,.int .i64 cnt,.int .i64 want] 489);have HC:Hid (∀_:Unit,_):=fun _=>A1i B rb m q cnt want rd to tc vr vk _ (h.l A) (yI hB A.size) hm hq hm2 hc (by omega);have HB:Hid (Below B w (w.alloc (.cells #[.int .i64 q,.int .i64 cnt,.int .i64 want] 489))):=A.mono hB;clear A h;go_in;go_wp2_with fail;refine(HC.out ()).mono ?_;unfold A54;generalize hO:Cy want cnt q rd=o at *;have HO:Hid _:=hO;clear HC hO;cases o with
 | none=>
  rintro e w2 ⟨rfl,hb⟩;go_wp2;go_ret;unfold D8;first|rw[HO.out]|skip
  exact⟨rfl,HB.out.trans hb⟩
 | some rd2=>
  rintro e w2 ⟨⟨rfl,vr2,hR⟩,hb⟩;have HR:Hid (Cu B rb m w2 rd2 (.slice to m tc) vr2 vk):=hR;clear hR;go_wp2;go_ret;unfold D8;first|rw[HO.out]|skip
  exact⟨⟨rfl,_,_,HR.out⟩,HB.out.trans hb⟩
theorem Zj (B rb m q:Nat) (rd:Rd) (to:Option Addr) (tc:Nat) (vr vk:Value) (w:World) (h:Cu B rb m w rd (.slice to m tc) vr vk) (hB:B<=w.heap.size) (hm:rd.types.length=m) (hm2:m<=250) (_hs:rd.stay.length<=90) (hk:rd.taken.length<=90) (hq:q+2<=m) :
  Calls prog 363 #[.pointer (some ⟨rb,0,none⟩),.iface 465 (.agg #[.int .i64 q])] w (D8 B rb m (.slice to m tc) w (rdI 23 (q:Int) rd)):=by
 have A:=(yA w.heap.size w).alloc (yB _) (.cells #[.int .i64 q] 465);have R1:=h.l A;have P1:=Blk.new w #[.int .i64 q] 465;have HB:Hid (Below B w (w.alloc (.cells #[.int .i64 q] 465))):=A.mono hB;have hBw:B<=(w.alloc (.cells #[.int .i64 q] 465)).heap.size:=yI hB A.size;rcases Aj h.types with ⟨_,h0⟩|⟨g,cap',h1,h2,h3⟩
 ·omega
 simp only[Value.slice.injEq]at h1;obtain⟨rfl,_,rfl⟩:=h1;obtain⟨ro,rc,rfl⟩:=Af h.read;obtain⟨ko,kc,rfl⟩:=Af h.taken;have hwp:∀k,(Value.slice ko rd.taken.length kc).ownBlock=some k->k≠w.heap.size:=fun k hk=>by have:=(h.taken.lt k hk).2;omega
 have hrbw:rb<w.heap.size:=h.blk.lt;clear A h h2 h3;go_in;go_wp2_with fail;generalize w.alloc (.cells #[.int .i64 q] 465)=w1 at *;have r1:=R1.blk.cell;have p1:=P1.cell;have hr1:=R1.blk.lt;have hp1:=P1.lt;have hE1:Below w1.heap.size w1 w1.drew:=(yA _ _).drew;have HR1:Hid (Cu B rb m w1.drew rd (.slice (some ⟨g,0,none⟩) m tc) (.slice ro rd.stay.length rc) (.slice ko rd.taken.length kc)):=R1.l hE1;have HP1:Hid (Blk w1.drew w.heap.size #[.int .i64 q] 465):=P1.l hE1;clear R1 P1;go_wp2_with fail;go_region_law (refine A8x rfl _ _ rfl B _ rd.taken.length rd.taken (q:Int) _ rfl (HR1.out.taken.alloc _) rfl ((Blk.new _ _ _).cell 0) (by omega) (yI hBw (by simp)) ?_;intro v2 w3 H1 H2 H3;obtain⟨vo,vc,rfl⟩:=Af H1;have hb2:=Dx (HR1.out.blk.alloc _) H2 (fun e=>HR1.out.nk e.symm);have r3:=hb2.cell 2;have f3:=hb2.frozen 2);all_goals
  obtain⟨R4,B4⟩:=HR1.out.addTaken H1 H2 (by simp) H3 hBw;have P4:=(Dx (HP1.out.alloc _) H2 (fun e=>hwp _ e.symm rfl)).setOther (p:=⟨rb,2,none⟩) (by dsimp only;omega) (.slice vo (rd.taken.length+1) vc);have HB4:Hid (Below B w (w3.setCell ⟨rb,2,none⟩ (.slice vo (rd.taken.length+1) vc))):=HB.out.trans (((yA B w1).drew).trans B4);have HR4:Hid (Cu B rb m (w3.setCell ⟨rb,2,none⟩ (.slice vo (rd.taken.length+1) vc)) ⟨rd.types,rd.stay,rd.taken++[(q:Int)]⟩ (.slice (some ⟨g,0,none⟩) m tc) (.slice ro rd.stay.length rc) (.slice vo (rd.taken.length+1) vc)):=R4;have HP4:Hid (Blk (w3.setCell ⟨rb,2,none⟩ (.slice vo (rd.taken.length+1) vc)) w.heap.size #[.int .i64 q] 465):=P4;clear H1 H2 H3 hb2 r3 f3 R4 B4 P4 HR1 HP1 r1 p1 HB;generalize w3.setCell ⟨rb,2,none⟩ (.slice vo (rd.taken.length+1) vc)=w4 at *;have r4:=HR4.out.blk.cell;have p4:=HP4.out.cell;have c0:=(HR4.out.types.cellAt q (by omega)).trans (De (by rw[hm];omega));have c1:=(HR4.out.types.cellAt (q+1) (by omega)).trans (De (by rw[hm];omega));obtain⟨t0,ht0⟩:∃t,t=rd.types.getD q 0:=⟨_,rfl⟩;obtain⟨t1,ht1⟩:∃t,t=rd.types.getD (q+1) 0:=⟨_,rfl⟩;rw[←ht0]at c0;rw[←ht1]at c1;have HT0:Hid (D7 rd.types (q:Int)=t0):=ht0.symm;have HT1:Hid (D7 rd.types ((q:Int)+1)=t1):=by show _=_;rw[ht1];rfl
  have HDW:Hid (∀n,Below w4.heap.size w4 (w4.drewN n)):=fun n=>below_drewN (yA _ _) n;have HBW:Hid (B<=w4.heap.size):=yI HR4.out.low (Nat.le_of_lt HR4.out.blk.lt);have k1:(q:Int)<m:=by omega
  have k2:(q:Int)+1<m:=by omega
  clear ht0 ht1;by_cases h0:t0=1
  ·by_cases h1:t1=0
   ·have HN:Hid (rdI 23 (q:Int) rd=some ⟨rd.types,rd.stay,rd.taken++[(q:Int)]⟩):=by show _=_;simp only[rdI];rw[if_pos ⟨HT0.out.trans h0,HT1.out.trans h1⟩]
    subst h0 h1;go_wp2_with fail;go_quiet (fail);go_wp2;go_ret;unfold D8;rw[HN.out];exact⟨⟨rfl,_,_,HR4.out.l (HDW.out _)⟩,HB4.out.trans ((HDW.out _).mono HBW.out)⟩
   ·have HN:Hid (rdI 23 (q:Int) rd=none):=by show _=_;simp only[rdI];rw[if_neg (fun e=>h1 (HT1.out.symm.trans e.2))]
    have e1:(t1==0)=false:=by simpa using h1
    subst h0;clear h1;go_wp2_with fail;go_quiet (fail);go_wp2;go_ret;unfold D8;rw[HN.out];exact⟨rfl,HB4.out.trans ((HDW.out _).mono HBW.out)⟩
  ·have HN:Hid (rdI 23 (q:Int) rd=none):=by show _=_;simp only[rdI];rw[if_neg (fun e=>h0 (HT0.out.symm.trans e.1))]
   have e0:(t0==1)=false:=by simpa using h0
   clear h0;go_wp2_with fail;go_quiet (fail);go_wp2;go_ret;unfold D8;rw[HN.out];exact⟨rfl,HB4.out.trans ((HDW.out _).mono HBW.out)⟩
theorem A8f (np:Nat) (p:Pd) (B rb m r:Nat) (x:Int) (rd:Rd) (to:Option Addr) (tc:Nat) (vr vk:Value) (w:World) (h:Cu B rb m w rd (.slice to m tc) vr vk) (hB:B<=w.heap.size) (hm:rd.types.length=m) (hm2:m<=250) (hs:rd.stay.length<=90) (hk:rd.taken.length<=90) (hmr:(m:Int)=p.regs) (hr:r<=23) (hf:Bd np p (Bp r) x=true) :
  Calls prog 363 #[.pointer (some ⟨rb,0,none⟩),Al np p r x] w (D8 B rb m (.slice to m tc) w (rdI r x rd)):=by
 have hno:∀(T:TypeId) (v:Value),(∀w,Calls prog 363 #[.pointer (some ⟨rb,0,none⟩),.iface T v] w fun e w'=>e=.returned (.bool true)/\w'=w)->Calls prog 363 #[.pointer (some ⟨rb,0,none⟩),.iface T v] w (D8 B rb m (.slice to m tc) w (some rd)):=by intro T v hc;refine(hc w).mono ?_;rintro e w' ⟨rfl,rfl⟩;exact⟨⟨rfl,_,_,h⟩,yA _ _⟩
 have hop:∀t:Int,inR x (-p.regs) (p.regs-1)=true->-(m:Int)<=x/\x<m:=by intro _ hi;simp[inR]at hi;omega
 have hpl:∀(cnt:Nat) (want:Int),inR x 0 (p.regs-cnt)=true->cnt<=3->((r=14/\cnt=1/\want=1)∨(r=15/\cnt=1/\want=2)∨(r=16/\cnt=1/\want=3)∨(r=17/\cnt=2/\want=1)∨(r=18/\cnt=3/\want=1))->Calls prog 363 #[.pointer (some ⟨rb,0,none⟩),.iface 489 (.agg #[.int .i64 x,.int .i64 cnt,.int .i64 want])] w (D8 B rb m (.slice to m tc) w (rdI r x rd)):=by intro cnt want hi hc he;simp[inR]at hi;obtain⟨q,rfl⟩:=yN hi.1;rw[←A6f he];exact A1d B rb m q cnt want rd to tc vr vk w h hB hm hm2 hs hk (by omega) hc
 rcases U7 r hr with rfl|rfl|rfl|rfl|rfl|rfl|rfl|rfl|rfl|rfl|rfl|rfl|rfl|rfl|rfl|rfl|rfl|rfl|rfl|rfl|rfl|rfl|rfl|rfl
 ·exact hno _ _ (fun w=>A1f rb _ w)
 ·exact hno _ _ (fun w=>Dj rb _ w)
 ·exact hno _ _ (fun w=>Dj rb _ w)
 ·exact hno _ _ (fun w=>Dj rb _ w)
 ·exact hno _ _ (fun w=>Dj rb _ w)
 ·exact hno _ _ (fun w=>Dj rb _ w)
 ·exact hno _ _ (fun w=>Dj rb _ w)
 ·exact hno _ _ (fun w=>Dj rb _ w)
 ·exact hno _ _ (fun w=>Dj rb _ w)
 ·exact hno _ _ (fun w=>Dj rb _ w)
 ·exact hno _ _ (fun w=>Dj rb _ w)
 ·exact hno _ _ (fun w=>A1e rb _ w)
 ·exact Pg B rb m x 1 rd to tc vr vk w h hB hm hm2 hs hk (hop 0 hf).1 (hop 0 hf).2
 ·exact Pg B rb m x 3 rd to tc vr vk w h hB hm hm2 hs hk (hop 0 hf).1 (hop 0 hf).2
 ·exact hpl 1 1 hf (by omega) (by simp)
 ·exact hpl 1 2 hf (by omega) (by simp)
 ·exact hpl 1 3 hf (by omega) (by simp)
 ·exact hpl 2 1 hf (by omega) (by simp)
 ·exact hpl 3 1 hf (by omega) (by simp)
 ·exact hno _ _ (fun w=>Iy rb _ w)
 ·exact hno _ _ (fun w=>Iy rb _ w)
 ·exact hno _ _ (fun w=>Iy rb _ w)
 ·exact hno _ _ (fun w=>Iy rb _ w)
 ·have hi:inR x 0 (p.regs-2)=true:=hf;simp[inR]at hi;obtain⟨q,rfl⟩:=yN hi.1;exact Zj B rb m q rd to tc vr vk w h hB hm hm2 hs hk (by omega)
theorem A2q {r:Nat} {x:Int} {s s':Rd} (h:rdI r x s=some s'):s'.types.length=s.types.length/\s'.stay.length<=s.stay.length+3/\s'.taken.length<=s.taken.length+1:=by
 have hop:∀w,Fj w x s=some s'->s'.types.length=s.types.length/\s'.stay.length<=s.stay.length+3/\s'.taken.length<=s.taken.length+1:=by
  intro w h;unfold Fj at h;split at h
  ·split at h
   ·split at h
    ·cases h
    ·obtain rfl:=yO h;simp
   ·obtain rfl:=yO h;simp
  ·cases h
 have hpl:∀w,Dq w x s=some s'->s'.types.length=s.types.length/\s'.stay.length<=s.stay.length+3/\s'.taken.length<=s.taken.length+1:=by
  intro w h;unfold Dq at h;split at h
  ·obtain rfl:=yO h;simp
  ·cases h
 unfold rdI at h;split at h
 ·exact hop _ h
 ·exact hop _ h
 ·exact hpl _ h
 ·exact hpl _ h
 ·exact hpl _ h
 ·split at h
  ·obtain rfl:=yO h;simp
  ·cases h
 ·split at h
  ·obtain rfl:=yO h;simp
  ·cases h
 ·split at h
  ·obtain rfl:=yO h;simp
  ·cases h
 ·obtain rfl:=yO h;simp
theorem A6m{k:Nat} (h1:rs[k]?=some r) (h2:xs[k]?=some x) (s:Rd):Fp (rs.drop k) (xs.drop k) s=(rdI r x s).bind (Fp (rs.drop (k+1)) (xs.drop (k+1))):=by rw[Bg h1,Bg h2];rfl
theorem A7o (np:Nat) (p:Pd) (B rb m r0 r1 r2 r3:Nat) (x0 x1 x2 x3:Int) (ts:List Int) (to:Option Addr) (tc:Nat) (vr vk:Value) (w:World) (h:Cu B rb m w ⟨ts,[],[]⟩ (.slice to m tc) vr vk) (hB:B<=w.heap.size) (hm:ts.length=m) (hm2:m<=250) (hmr:(m:Int)=p.regs) (g0:r0<=23) (g1:r1<=23) (g2:r2<=23) (g3:r3<=23)
  (f0:Bd np p (Bp r0) x0=true) (f1:Bd np p (Bp r1) x1=true) (f2:Bd np p (Bp r2) x2=true) (f3:Bd np p (Bp r3) x3=true) :
  Calls prog 319 #[.pointer (some ⟨rb,0,none⟩),.agg #[Al np p r0 x0,Al np p r1 x1,Al np p r2 x2,Al np p r3 x3]] w (D8 B rb m (.slice to m tc) w (Fp [r0,r1,r2,r3] [x0,x1,x2,x3] ⟨ts,[],[]⟩)):=by
 obtain⟨t0,v0,e0⟩:=Bc np p r0 x0;obtain⟨t1,v1,e1⟩:=Bc np p r1 x1;obtain⟨t2,v2,e2⟩:=Bc np p r2 x2;obtain⟨t3,v3,e3⟩:=Bc np p r3 x3;have HR:Hid (∀k,k<4->_):=fun k hk=>row4 (P:=fun r x t v=>r<=23/\Bd np p (Bp r) x=true/\Al np p r x=.iface t v) ⟨g0,f0,e0⟩ ⟨g1,f1,e1⟩ ⟨g2,f2,e2⟩ ⟨g3,f3,e3⟩ (k:=k) hk;have HO:Hid (∀(r:Nat) (x:Int) (t:TypeId) (v:Value) (W:World) (rd:Rd) (vr vk:Value),r<=23->Bd np p (Bp r) x=true->Al np p r x=.iface t v->Cu B rb m W rd (.slice to m tc) vr vk->B<=W.heap.size->rd.types.length=m->rd.stay.length<=90->rd.taken.length<=90->Calls prog 363 #[.pointer (some ⟨rb,0,none⟩),.iface t v] W (D8 B rb m (.slice to m tc) W (rdI r x rd))):=fun r x t v W rd vr vk hg hf hv hR hB hm hs hk=>by
  have:=A8f np p B rb m r x rd to tc vr vk W hR hB hm hm2 hs hk hmr hg hf;rw[hv]at this;exact this
 rw[e0,e1,e2,e3];have A:=(yA w.heap.size w).alloc (yB _) (.cells #[.iface t0 v0,.iface t1 v1,.iface t2 v2,.iface t3 v3] 402);have R0:=h.l A;have B0:Below B w (w.alloc (.cells #[.iface t0 v0,.iface t1 v1,.iface t2 v2,.iface t3 v3] 402)):=A.mono hB;clear A h e0 e1 e2 e3 f0 f1 f2 f3 g0 g1 g2 g3 hmr;go_in;go_wp2;go_loopg [8] 5 (fun g y wr=>∃(k:Nat) (rd1:Rd) (vr1 vk1:Value),k<=4/\y=.int .i64 k/\Hid (Fp ([r0,r1,r2,r3].drop k) ([x0,x1,x2,x3].drop k) rd1=Fp [r0,r1,r2,r3] [x0,x1,x2,x3] ⟨ts,[],[]⟩)/\Hid (rd1.types.length=m/\rd1.stay.length<=3*k/\rd1.taken.length<=k)/\Hid (5-k<=g)/\Cu B rb m wr rd1 (.slice to m tc) vr1 vk1/\Below B w wr);case atStart=>exact⟨0,_,_,_,by omega,rfl,rfl,⟨hm,by simp,by simp⟩,by show _<=_;omega,R0,B0⟩
 case round=>
  obtain⟨k,rd1,vr1,vk1,hk,rfl,HQ,HL,HG,R1,B1⟩:=hrel;clear R0 B0;have HBw:Hid (B<=wr.heap.size):=yI R1.low (Nat.le_of_lt R1.blk.lt);have HB1:Hid _:=B1;have HR1:Hid (Cu B rb m wr rd1 (.slice to m tc) vr1 vk1):=R1;clear B1 R1;by_cases hk4:k<4
  ·obtain⟨r,x,t,v,hr,hx,iK,hg,hf,hv⟩:=HR.out k hk4;have HD:Hid (Fp [r0,r1,r2,r3] [x0,x1,x2,x3] ⟨ts,[],[]⟩=(rdI r x rd1).bind (Fp ([r0,r1,r2,r3].drop (k+1)) ([x0,x1,x2,x3].drop (k+1)))):=HQ.out.symm.trans (A6m hr hx rd1);have HG2:Hid (5-(k+1)<=gk-1/\gk-1<gk):=by have:=HG.out;show _/\_;omega
   have HC:Hid (∀_:Unit,_):=fun _=>HO.out r x t v wr rd1 vr1 vk1 hg hf hv HR1.out HBw.out HL.out.1 (by have:=HL.out.2.1;omega) (by have:=HL.out.2.2;omega);have hk5:(k:Int)<4:=by omega
   clear HQ HG hr hx hg hf hv;go_wp2_with fail;refine(HC.out ()).mono ?_;unfold D8;have hlen:=fun s'=>@A2q r x rd1 s';generalize rdI r x rd1=o at *;cases o with
   | none=>
    rintro e w2 ⟨rfl,hb⟩;have HN:Hid (Fp [r0,r1,r2,r3] [x0,x1,x2,x3] ⟨ts,[],[]⟩=none):=HD.out;clear HD hlen;go_wp2;go_ret;unfold D8;rw[HN.out];exact⟨rfl,HB1.out.trans hb⟩
   | some rd2=>
    rintro e w2 ⟨⟨rfl,vr2,vk2,hR⟩,hb⟩;have HN:Hid (Fp ([r0,r1,r2,r3].drop (k+1)) ([x0,x1,x2,x3].drop (k+1)) rd2=Fp [r0,r1,r2,r3] [x0,x1,x2,x3] ⟨ts,[],[]⟩):=HD.out.symm;have HL2:Hid (rd2.types.length=m/\rd2.stay.length<=3*(k+1)/\rd2.taken.length<=k+1):=by obtain⟨a1,a2,a3⟩:=hlen rd2 rfl;obtain⟨b1,b2,b3⟩:=HL.out;exact⟨a1.trans b1,by omega,by omega⟩
    have HR2:Hid (Cu B rb m w2 rd2 (.slice to m tc) vr2 vk2):=hR;clear HD hlen hR;go_wp2;go_roundg (gk-1);case measure=>exact HG2.out.2
    case rel=>exact⟨k+1,rd2,vr2,vk2,by omega,by go_num,HN.out,HL2.out,HG2.out.1,HR2.out,HB1.out.trans hb⟩
  ·have hk0:k=4:=by omega
   subst hk0;have HN:Hid (Fp [r0,r1,r2,r3] [x0,x1,x2,x3] ⟨ts,[],[]⟩=some rd1):=HQ.out.symm;clear HQ HG hk4;go_wp2;go_ret;unfold D8;rw[HN.out];exact⟨⟨rfl,_,_,HR1.out⟩,HB1.out⟩
end Go.Proofs.YtbefeflgjipfhaaGreatDoor
