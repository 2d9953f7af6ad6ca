import Derived.Test.YtgopdffmnikhdaaGreatDoorT25
import Derived.ArgAppend
import Derived.Deep.Cut
import Derived.Deep.LoopGhost
import Derived.Deep.MidRow
import Derived.Deep.RegionLaw
import Derived.Laws.StructEq
import Derived.Lib.SliceRun
import Derived.Lib.Walk
import Derived.Maps.AppendAt
import Derived.Test.YtgopdffmnikhdaaGreatDoorT28
import Derived.Test.YtgopdffmnikhdaaGreatDoorT03
import Derived.Test.YtgopdffmnikhdaaGreatDoorT23
namespace Go.Proofs.YtgopdffmnikhdaaGreatDoor
open Go.RowKit Go.Deep
def unv (l:List Nat):Nat:=(l.filter fun x=>x == 0).length
theorem unv_set {l:List Nat} {i k:Nat} (hi:i<l.length) (h0:l.getD i 0=0) (hk:k≠0):unv (l.set i k)+1=unv l:=by
 induction l generalizing i with
 | nil=>simp at hi
 | cons a r ih=>
  cases i with
  | zero=>
   simp at h0
   subst h0
   simp [unv,hk]
  | succ i=>
   simp at hi h0
   have:=ih (i:=i) hi (by simpa using h0)
   unfold unv at *
   by_cases ha:a=0
   ·simp [ha] at *;omega
   ·simp [ha] at *;omega
theorem unv_mono:∀{l m:List Nat},l.length=m.length→(∀v,l.getD v 0≠0→m.getD v 0≠0)→unv m≤unv l
 | [],[],_,_=>Nat.le_refl _
 | [],_::_,h,_=>by simp at h
 | _::_,[],h,_=>by simp at h
 | a::r,b::q,h,hv=>by
  have ih:=unv_mono (l:=r) (m:=q) (by simpa using h) (fun v hv2=>by have:=hv (v+1);simpa using this (by simpa using hv2))
  have h0:=hv 0
  simp at h0
  unfold unv at *
  by_cases ha:a=0
  ·by_cases hb:b=0
   ·simp [ha,hb];exact ih
   ·simp [ha,hb];omega
  ·have:=h0 ha
   simp [ha,this]
   exact ih
theorem path_short {E:Nat→Nat→Prop} {N:Nat} {T:Tj} {gray:Nat→Prop} (h:Jt E N T gray):T.path.length≤T.count:=by
 have hk:∀(l:List Nat) (m:Nat),l.Pairwise (fun x y=>T.ord x<T.ord y)→(∀v ∈ l,m<T.ord v)→l.length+m≤T.count∨l=[]:=by
  intro l
  induction l with
  | nil=>intro m _ _;exact .inr rfl
  | cons a r ih=>
   intro m hp hm
   rw [List.pairwise_cons] at hp
   have ha:=hm a (by simp)
   rcases ih (T.ord a) hp.2 hp.1 with h1 | h1
   ·left;simp;omega
   ·subst h1;left;have:=h.le a;simp;omega
 rcases hk T.path 0 h.sorted (fun v hv=>by have:=h.vis v hv;omega) with h1 | h1
 ·omega
 ·rw [h1];simp
def Tj.come (T:Tj) (a:Nat):Tj:=⟨T.count+1,T.order.set a (T.count+1),T.path ++ [a],T.least⟩
theorem cc_come {s cb gb ob qb N:Nat} {w w2 w3:World} {T:Tj} {vp vp':Value} {a:Nat} (I:CcIn s cb ob qb) (h:CcAt s cb gb ob qb N w T vp)
  (hw2:w2=(((w.setCell ⟨cb,1,none⟩ (.int .i64 ((T.count:Int)+1))).setCell ⟨ob,a,none⟩ (.int .i64 ((T.count:Int)+1))).setCell ⟨qb,a,none⟩ (.bool true)).drew) :
  Blk w2 cb #[.slice (some ⟨gb,0,none⟩) N N,.int .i64 ((T.count+1:Nat):Int),.slice (some ⟨ob,0,none⟩) N N,vp,.slice (some ⟨qb,0,none⟩) N N,.int .i64 T.least] 391∧Blk w2 ob (natArr (T.order.set a (T.count+1))) 3∧Blk w2 qb (boolArr (opnL N fun v=>decide (v ∈ T.path ++ [a]))) 4∧w2.ownsRow (s+3) 3 1 vp T.path.length (ints (zs T.path))∧Below s w w2:=by
 subst hw2
 have _:=w3
 have _:=vp'
 have b1:Blk (w.setCell ⟨cb,1,none⟩ (.int .i64 ((T.count:Int)+1))) cb #[.slice (some ⟨gb,0,none⟩) N N,.int .i64 ((T.count+1:Nat):Int),.slice (some ⟨ob,0,none⟩) N N,vp,.slice (some ⟨qb,0,none⟩) N N,.int .i64 T.least] 391:=h.blk.set 1 (.int .i64 ((T.count:Int)+1))
 have o1:=h.order.setOther (p:=⟨cb,1,none⟩) I.co.symm (.int .i64 ((T.count:Int)+1))
 have q1:=h.opn.setOther (p:=⟨cb,1,none⟩) I.cq.symm (.int .i64 ((T.count:Int)+1))
 have o2:=o1.set a (.int .i64 ((T.count+1:Nat):Int))
 rw [natArr_set] at o2
 have q3:=(q1.setOther (p:=⟨ob,a,none⟩) I.oq.symm (.int .i64 ((T.count+1:Nat):Int))).set a (.bool true)
 rw [boolArr_set,opnL_set,opnL_congr (Q:=fun v=>decide (v ∈ T.path ++ [a])) (fun v _=>by by_cases hv:v=a <;> simp [hv])] at q3
 refine⟨(b1.setOther (p:=⟨ob,a,none⟩) I.co _).setOther (p:=⟨qb,a,none⟩) I.cq _,o2.setOther (p:=⟨qb,a,none⟩) I.oq _,q3,owns_other h.path (fun k hk=>?_),?_⟩
 ·have h3:=(h.path.lt k hk).1
  have n1:k≠cb:=by have:=I.c2;omega
  have n2:k≠ob:=by have:=I.o2;omega
  have n3:k≠qb:=by have:=I.q2;omega
  exact (Below.heap_setCell _ _ _ _ n3).trans ((Below.heap_setCell _ _ _ _ n2).trans (Below.heap_setCell _ _ _ _ n1))
 ·exact ((((Below.refl s w).setCell (by dsimp only;exact I.c1) _).setCell (by dsimp only;exact I.o1) _).setCell (by dsimp only;exact I.q1) _).drew
theorem cc_path {s cb gb ob qb N:Nat} {w w2:World} {cnt least a:Nat} {ord path:List Nat} {vp vp':Value} {o:Obj} (I:CcIn s cb ob qb) (hs:s+3≤w.heap.size) (B:Blk w cb #[.slice (some ⟨gb,0,none⟩) N N,.int .i64 cnt,.slice (some ⟨ob,0,none⟩) N N,vp,.slice (some ⟨qb,0,none⟩) N N,.int .i64 least] 391) (O:Blk w ob (natArr ord) 3) (Q:Blk w qb (boolArr (opnL N fun v=>decide (v ∈ path ++ [a]))) 4) (P:w.ownsRow (s+3) 3 1 vp path.length (ints (zs path)))
  (h1:w2.ownsRow (s+3) 3 1 vp' (path.length+1) (ints (zs path ++ [(a:Int)]))) (h2:(w.alloc o).grownBy w2 vp.ownBlock):CcAt s cb gb ob qb N (w2.setCell ⟨cb,3,none⟩ vp') ⟨cnt,ord,path ++ [a],least⟩ vp'∧Below s w (w2.setCell ⟨cb,3,none⟩ vp')∧Blk w2 cb #[.slice (some ⟨gb,0,none⟩) N N,.int .i64 cnt,.slice (some ⟨ob,0,none⟩) N N,vp,.slice (some ⟨qb,0,none⟩) N N,.int .i64 least] 391:=by
 have hnb:∀b,b<s+3→some b≠vp.ownBlock:=fun b hb e=>by have:=(P.lt b e.symm).1;omega
 have b2:=blk_grown (B.alloc o) h2 (hnb cb I.c2)
 have o2:=blk_grown (O.alloc o) h2 (hnb ob I.o2)
 have q2:=blk_grown (Q.alloc o) h2 (hnb qb I.q2)
 refine⟨⟨b2.set 3 vp',o2.setOther (p:=⟨cb,3,none⟩) I.co.symm _,q2.setOther (p:=⟨cb,3,none⟩) I.cq.symm _,?_⟩,?_,b2⟩
 ·have e:zs (path ++ [a])=zs path ++ [(a:Int)]:=by simp [zs]
  dsimp only
  rw [e]
  simp only [List.length_append,List.length_cons,List.length_nil,Nat.zero_add]
  refine owns_other h1 (fun k hk=>Below.heap_setCell _ _ _ _ (by have:=(h1.lt k hk).1;have:=I.c2;dsimp only;omega))
 ·exact (((Below.refl s w).alloc (by omega) o).grown h2 (by simp;omega) (fun k hk=>by have:=(P.lt k hk).1;omega)).setCell (by dsimp only;exact I.c1) _
set_option maxRecDepth 1000000 in
set_option maxHeartbeats 16000000 in
theorem visit_any (s cb gb ob qb N lo:Nat) (F:Nat→List Nat) (wq:World) (I:CcIn s cb ob qb) (hN:N≤6000) (hwq:wq.heap.size=s) (S:SsAt lo wq gb N fun j=>zs (F j)) (hF:∀j,j<N→(F j).length≤2∧∀z ∈ F j,z<N) :
  ∀(n:Nat) (T:Tj) (gray:Nat→Prop) (a:Nat) (vp:Value) (w:World),unv T.order≤n→T.count+unv T.order≤N→CcAt s cb gb ob qb N w T vp→Below s wq w→s+3≤w.heap.size→Jt (fun x y=>y ∈ F x) N T gray→(∀x ∈ T.path,Pth (fun x y=>y ∈ F x) x a)→a<N→T.ord a=0→
  Calls Tryz.prog 313 #[.pointer (some ⟨cb,0,none⟩),.int .i64 a] w fun e w'=>∃(T':Tj) (vp':Value) (low:Nat),e=.returned (.int .i64 low)∧CcAt s cb gb ob qb N w' T' vp'∧Vt (fun x y=>y ∈ F x) N T T' gray a low∧T'.count+unv T'.order≤N∧Below s w w':=by
 intro n
 induction n with
 | zero=>
  intro T gray a vp w hu _ _ _ _ hj _ ha h0
  exfalso
  have:=unv_set (l:=T.order) (i:=a) (k:=1) (by rw [hj.lenO];exact ha) h0 (by decide)
  omega
 | succ n ih=>
  intro T gray a vp w hu hcu C hbq hs3 hj hre ha h0
  obtain⟨fo,fc,sq,IFq⟩:=S.at_ a ha
  rw [zs_len] at sq
  have HSQ:Hid (∀W,Below s w W→W.cell? ⟨gb,a,none⟩=some (.slice fo (F a).length fc)∧IntsAt lo W fo (zs (F a))):=fun W hW=>by
   have hb:Below wq.heap.size wq W:=by rw [hwq];exact hbq.trans hW
   exact⟨(hb.cell (p:=⟨gb,a,none⟩) S.own.lt).trans sq,IFq.later (Keeps.of_below hb)⟩
  clear sq IFq
  have HIH:Hid _:=ih
  obtain⟨po,pcap,hvp⟩:=owns_slice C.path
  subst hvp
  have hul:=unv_set (l:=T.order) (i:=a) (k:=T.count+1) (by rw [hj.lenO];exact ha) h0 (by omega)
  have hcN:T.count+1≤N:=by omega
  have hpl:=path_short hj
  have HLT:=lt_start hj ha h0 hre
  have HJ:Hid _:=hj
  have HL0:Hid _:=HLT
  have b0:=C.blk.cell
  have f0:=C.blk.frozen
  have hlO:T.order.length=N:=hj.lenO
  have o0:=(C.order.cell a).trans (natArr_get (by rw [hlO];exact ha))
  have of0:=C.order.frozen a
  have q0:=(C.opn.cell a).trans (boolArr_get (by rw [opnL_len];exact ha))
  have qf0:=C.opn.frozen a
  have hco:¬cb=ob:=I.co
  have hcq:¬cb=qb:=I.cq
  have hoc:¬ob=cb:=fun e=>I.co e.symm
  have hqc:¬qb=cb:=fun e=>I.cq e.symm
  have hoq:¬ob=qb:=I.oq
  have hqo:¬qb=ob:=fun e=>I.oq e.symm
  have k1:(a:Int)<N:=by omega
  have k2:(T.count:Int)<6000:=by omega
  have HC:Hid _:=C
  have HCC:=cc_come (w3:=w) (vp':=.slice po T.path.length pcap) (a:=a) I C rfl
  have HC2:Hid _:=HCC
  clear ih HLT hj HCC C hre
  go_enter Tryz.func313,Tryz.ntmps313
  go_wp2_with fail
  have B1:Blk (w.setCell ⟨cb,1,none⟩ (.int .i64 ((T.count:Int)+1))) cb #[.slice (some ⟨gb,0,none⟩) N N,.int .i64 ((T.count:Int)+1),.slice (some ⟨ob,0,none⟩) N N,.slice po T.path.length pcap,.slice (some ⟨qb,0,none⟩) N N,.int .i64 T.least] 391:=HC.out.blk.set 1 (.int .i64 ((T.count:Int)+1))
  have d1:=B1.cell 1
  have d2:=B1.cell 2
  have d4:=B1.cell 4
  clear b0 f0 B1
  have o1:=(World.cell?_setCell_far _ _ _ _ hco:(w.setCell ⟨cb,1,none⟩ (.int .i64 ((T.count:Int)+1))).cell? ⟨ob,a,none⟩=_).trans o0
  have q1:=(World.cell?_setCell_far _ _ _ _ hcq:(w.setCell ⟨cb,1,none⟩ (.int .i64 ((T.count:Int)+1))).cell? ⟨qb,a,none⟩=_).trans q0
  go_region_held3 (fun w'=>w'.cell? ⟨cb,1,none⟩=some (.int .i64 ((T.count:Int)+1))∧w'.cell? ⟨cb,2,none⟩=some (.slice (some ⟨ob,0,none⟩) N N)∧w'.cell? ⟨cb,4,none⟩=some (.slice (some ⟨qb,0,none⟩) N N)) (first | exact ⟨d1,d2,d4⟩ | exact ⟨(World.cell?_setCell_far _ _ _ _ hoc).trans d1,(World.cell?_setCell_far _ _ _ _ hoc).trans d2,(World.cell?_setCell_far _ _ _ _ hoc).trans d4⟩ | exact ⟨((World.cell?_setCell_far _ _ _ _ hqc).trans (World.cell?_setCell_far _ _ _ _ hoc)).trans d1,((World.cell?_setCell_far _ _ _ _ hqc).trans (World.cell?_setCell_far _ _ _ _ hoc)).trans d2,((World.cell?_setCell_far _ _ _ _ hqc).trans (World.cell?_setCell_far _ _ _ _ hoc)).trans d4⟩ | (go_keep;done)) (fail)
  obtain⟨B2,O2,Q2,P2,bw2⟩:=HC2.out
  clear d1 d2 d4 o0 of0 q0 qf0 o1 q1 HC HC2
  generalize (((w.setCell ⟨cb,1,none⟩ (.int .i64 ((T.count:Int)+1))).setCell ⟨ob,a,none⟩ (.int .i64 ((T.count:Int)+1))).setCell ⟨qb,a,none⟩ (.bool true)).drew=w2 at *
  have b2:=B2.cell
  have hs2:s+3≤w2.heap.size:=Nat.le_trans hs3 bw2.size
  go_wp2_with fail
  go_quiet (fail)
  have hd:=below_drewN (Below.refl w2.heap.size w2) nq
  have B3:=B2.later hd
  have O3:=O2.later hd
  have Q3:=Q2.later hd
  have P3:=owns_below P2 hd
  have bw3:=bw2.trans (hd.mono (by omega))
  have hs3':s+3≤(w2.drewN nq).heap.size:=Nat.le_trans hs2 hd.size
  clear b2 B2 O2 Q2 P2 bw2 hd
  generalize w2.drewN nq=w3 at *
  have b3:=B3.cell
  have hc3:=B3.lt
  have HP3:Hid (w3.ownsRow (s+3) 3 1 (.slice po T.path.length pcap) T.path.length (ints (zs T.path))):=P3
  have k3:T.path.length≤6000:=by omega
  clear P3
  go_wp2_with (at_builtin;refine app_int rfl _ _ rfl (s+3) _ T.path.length (zs T.path) (a:Int) _ rfl (HP3.out.alloc _) rfl ?c1 (by omega) ?c3 ?_)
  case c1=>exact (Blk.new w3 #[.int .i64 a] 3).cell 0
  case c3=>exact Nat.le_trans hs3' (by simp)
  ·intro v4 w4 H1 H2 _
   obtain⟨C5,b5,B4⟩:=cc_path (gb:=gb) I hs3' B3 O3 Q3 HP3.out H1 H2
   obtain⟨vo,vc,rfl⟩:=owns_slice H1
   have x4:=B4.cell
   have xf4:=B4.frozen
   have HC5:Hid (CcAt s cb gb ob qb N (w4.setCell ⟨cb,3,none⟩ (.slice vo (T.path.length+1) vc)) (T.come a) (.slice vo (T.path.length+1) vc)):=C5
   have HB5:Hid (Below s w (w4.setCell ⟨cb,3,none⟩ (.slice vo (T.path.length+1) vc))):=bw3.trans b5
   have s5:=(HSQ.out _ HB5.out).1
   have c5:=HC5.out.blk.cell
   clear C5 b5 B4 H1 H2 b3 B3 O3 Q3 HP3 bw3
   go_wp2_with fail
   have HUN:Hid (unv (T.come a).order≤n∧(T.come a).count+unv (T.come a).order≤N):=by show _∧_;unfold Tj.come;dsimp only;omega
   have HFa:Hid ((F a).length≤2∧∀z ∈ F a,z<N):=hF a ha
   have hfl:(F a).length≤2:=(hF a ha).1
   have HF0:Hid _:=hF
   clear c5 s5 x4 xf4 hF hul hu hcu
   generalize hwz:w4.setCell ⟨cb,3,none⟩ (.slice vo (T.path.length+1) vc)=w5 at *
   clear hwz
   go_loopg [6,59] ((F a).length+1) (fun g y6 y59 wr=>∃(k:Nat) (Tk:Tj) (vk:Value) (low:Nat),k≤(F a).length∧y6=.int .i64 low∧y59=.int .i64 k∧Hid (Lt (fun x y=>y ∈ F x) N T Tk gray a low ((F a).take k))∧Hid (CcAt s cb gb ob qb N wr Tk vk)∧Hid (unv Tk.order≤n∧Tk.count+unv Tk.order≤N)∧Hid (Below s w wr)∧Hid ((F a).length+1 - k≤g))
   case atStart=>exact ⟨0,T.come a,_,T.count+1,Nat.zero_le _,rfl,rfl,HL0.out,HC5.out,HUN.out,HB5.out,Nat.le_refl _⟩
   case round=>
    obtain⟨k,Tk,vk,low,hk,rfl,rfl,HL,HCk,HU,HBk,HG⟩:=hrel
    clear HC5 HB5 HUN
    have hlowN:(low:Int)≤6001:=by have:=HL.out.lowLe;omega
    have hck:=HCk.out.blk.cell
    by_cases hkl:k<(F a).length
    ·obtain⟨b,hb⟩:=some_of_lt hkl
     have hbm:=List.mem_of_getElem? hb
     have hbN:=HFa.out.2 b hbm
     have htk:(F a).take (k+1)=(F a).take k ++ [b]:=by rw [List.take_add_one,hb];rfl
     have HTK:Hid _:=htk
     obtain⟨fb,foff,hfo,_,_,fcell⟩:=(HSQ.out wr HBk.out).2 k b (zs_get hb)
     subst hfo
     unfold IntAt at fcell
     rw [Nat.mul_one] at fcell
     have HG2:Hid ((F a).length+1 - (k+1)≤gk - 1∧gk - 1<gk):=by have:=HG.out;show _∧_;omega
     have hlk:=HL.out.j.lenO
     have ock:=(HCk.out.order.cell b).trans (natArr_get (by rw [hlk];exact hbN))
     have kk:(k:Int)<(F a).length:=by omega
     have kb:(b:Int)<N:=by omega
     have hE:(fun x y=>y ∈ F x) a b:=hbm
     have HE:Hid ((fun x y=>y ∈ F x) a b):=hE
     clear hb htk HG hlk hE hbm
     by_cases hob:Tk.order.getD b 0=0
     ·rw [hob] at ock
      have HOB:Hid (Tk.ord b=0):=hob
      have HRC:Hid (∀_:Unit,_):=fun _=>HIH.out Tk (fun x=>gray x∨x=a) b vk wr HU.out.1 HU.out.2 HCk.out (hbq.trans HBk.out) (Nat.le_trans hs3 HBk.out.size) HL.out.j (lt_reach HL.out HJ.out.gry HE.out) hbN HOB.out
      clear hob
      go_wp2_with fail
      refine (HRC.out ()).mono ?_
      rintro e w6 ⟨T6,v6,l6,rfl,C6,V6,hcu6,hb6⟩
      have HL6:Hid (Lt (fun x y=>y ∈ F x) N T T6 gray a (min low l6) ((F a).take (k+1))):=by show Lt _ _ _ _ _ _ _ _;rw [HTK.out];exact lt_visit HL.out HOB.out HE.out V6
      have HU6:Hid (unv T6.order≤n∧T6.count+unv T6.order≤N):=⟨Nat.le_trans (unv_mono (HL.out.j.lenO.trans V6.j.lenO.symm) (fun v hv=>by have:=V6.same v hv;unfold Tj.ord at this;rw [this];exact hv)) HU.out.1,hcu6⟩
      have HC6:Hid (CcAt s cb gb ob qb N w6 T6 v6):=C6
      have HB6:Hid (Below s w w6):=HBk.out.trans hb6
      have hmn:min (low:Int) (l6:Int)=((min low l6:Nat):Int):=by omega
      clear C6 V6 hcu6 hb6 HRC HL HCk HU HBk hck ock fcell
      go_wp2_with fail
      go_roundg (gk - 1)
      case measure=>exact HG2.out.2
      case rel=>exact ⟨k+1,T6,v6,min low l6,by omega,by first | rfl | (rw [hmn]),by go_num,HL6.out,HC6.out,HU6.out,HB6.out,HG2.out.1⟩
     ·have HOB:Hid (Tk.ord b≠0):=hob
      have hsn:=lt_seen HL.out HOB.out HE.out
      have HSN:Hid _:=hsn
      obtain⟨ob2,hob2⟩:∃x,x=Tk.order.getD b 0:=⟨_,rfl⟩
      have HO2:Hid (Tk.ord b=ob2):=hob2.symm
      have e0:((ob2:Int) == 0)=false:=by rw [hob2];simpa using hob
      have hle:ob2≤6001:=by have:=HL.out.j.le b;rw [HO2.out] at this;have:=HU.out.2;omega
      rw [←hob2] at ock
      have qck:=(HCk.out.opn.cell b).trans (boolArr_get (by rw [opnL_len];exact hbN))
      rw [opnL_get hbN] at qck
      by_cases hbp:b ∈ Tk.path
      ·rw [decide_eq_true hbp] at qck
       have HL6:Hid (Lt (fun x y=>y ∈ F x) N T Tk gray a (min low ob2) ((F a).take (k+1))):=by show Lt _ _ _ _ _ _ _ _;rw [HTK.out,←HO2.out];exact HSN.out.1 hbp
       have hmn:min (low:Int) (ob2:Int)=((min low ob2:Nat):Int):=by omega
       clear hob hob2 hsn hbp HSN HL
       go_wp2_with fail
       go_roundg (gk - 1)
       case measure=>exact HG2.out.2
       case rel=>exact ⟨k+1,Tk,vk,min low ob2,by omega,by first | rfl | (rw [hmn]),by go_num,HL6.out,HCk.out,HU.out,HBk.out,HG2.out.1⟩
      ·rw [decide_eq_false hbp] at qck
       have HL6:Hid (Lt (fun x y=>y ∈ F x) N T Tk gray a low ((F a).take (k+1))):=by show Lt _ _ _ _ _ _ _ _;rw [HTK.out];exact HSN.out.2 hbp
       clear hob hob2 hsn hbp HSN HL
       go_wp2_with fail
       go_roundg (gk - 1)
       case measure=>exact HG2.out.2
       case rel=>exact ⟨k+1,Tk,vk,low,by omega,rfl,by go_num,HL6.out,HCk.out,HU.out,HBk.out,HG2.out.1⟩
    ·obtain rfl:k=(F a).length:=by omega
     have kk:¬((F a).length:Int)<(F a).length:=by omega
     have HLz:Hid (Lt (fun x y=>y ∈ F x) N T Tk gray a low (F a)):=by have:=HL.out;rw [List.take_length] at this;exact this
     have ock:=(HCk.out.order.cell a).trans (natArr_get (by rw [HL.out.j.lenO];exact ha))
     have hoa:Tk.order.getD a 0=T.count+1:=HLz.out.o
     rw [hoa] at ock
     clear HL HG hoa
     by_cases hlow:low=T.count+1
     ·subst hlow
      obtain⟨ext,he1,_⟩:=HLz.out.path
      have hjk:=HLz.out.j
      have hin:∀y ∈ a::ext,y<N:=fun y hy=>ord_lt hjk (hjk.vis y (by rw [he1];exact List.mem_append.2 (.inr hy)))
      have hnd:∀y ∈ a::ext,y ∉ T.path:=by
       intro y hy hyp
       have hso:=hjk.sorted
       rw [he1,List.pairwise_append] at hso
       exact Nat.lt_irrefl _ (hso.2.2 y hyp y hy)
      have hpl2:(T.path ++ a::ext).length≤6000:=by have:=path_short hjk;rw [he1] at this;have:=HU.out.2;omega
      obtain⟨cnt,ord,pth,lst⟩:=Tk
      dsimp only at he1
      subst he1
      have HCL:Hid (∀_:Unit,_):=fun _=>close_any s cb gb ob qb N (fun j=>zs (F j)) lo cnt lst a ord T.path ext vk wq wr I hN HCk.out hwq S (hbq.trans HBk.out) hin hnd hpl2 (fun j hj=>by rw [zs_len];have:=(HF0.out j hj).1;omega)
      have HIN:Hid _:=hin
      clear hin hnd hpl2 hjk
      go_wp2_with fail
      refine (HCL.out ()).mono ?_
      rintro e w7 ⟨rfl,⟨ls,hls,v7,C7⟩,hb7⟩
      have HV:Hid (Vt (fun x y=>y ∈ F x) N T ⟨cnt,ord,T.path,ls⟩ gray a (T.count+1)):=by
       refine vt_close HJ.out HLz.out rfl (fun b hb=>hb) HIN.out ?_
       unfold clsLeast at hls
       have hmem:((a:Int) ∈ zs (F a)) ↔ a ∈ F a:=by
        unfold zs
        rw [List.mem_map]
        constructor
        ·rintro⟨x,hx,e⟩
         obtain rfl:x=a:=by omega
         exact hx
        ·intro h;exact ⟨a,h,rfl⟩
       by_cases hc:ext≠[]∨a ∈ F a
       ·left
        rw [if_pos (by rw [hmem];exact hc)] at hls
        refine⟨hc,?_⟩
        obtain⟨m1,m2,m3,m4⟩:=minI_nn ext (a:Int) (by omega)
        rcases m2 with m2 | ⟨y,hy,m2⟩
        ·refine⟨a,by simp,?_,by dsimp only;omega⟩
         intro y hy
         rcases List.mem_cons.1 hy with rfl | hy
         ·exact Nat.le_refl _
         ·have:=m4 y hy;omega
        ·refine⟨y,by simp [hy],?_,by dsimp only;omega⟩
         intro z hz
         rcases List.mem_cons.1 hz with rfl | hz
         ·omega
         ·have:=m4 z hz;omega
       ·right
        rw [if_neg (by rw [hmem];exact hc)] at hls
        exact⟨hc,by dsimp only;omega⟩
      have HC7:Hid (CcAt s cb gb ob qb N w7 ⟨cnt,ord,T.path,ls⟩ v7):=C7
      have HB7:Hid (Below s w w7):=HBk.out.trans hb7
      clear C7 hb7 hls HCL hck ock
      go_wp2_with fail
      go_ret
      exact⟨_,_,T.count+1,rfl,HC7.out,HV.out,HU.out.2,HB7.out⟩
     ·have e0:((low:Int) == ((T.count+1:Nat):Int))=false:=by simp;omega
      have HV:Hid (Vt (fun x y=>y ∈ F x) N T Tk gray a low):=vt_open HJ.out HLz.out (fun b hb=>hb) hlow
      clear hlow
      go_wp2_with fail
      go_ret
      exact⟨_,_,low,rfl,HCk.out,HV.out,HU.out.2,HBk.out⟩
def nats (xs:List Nat):List Int:=xs.map fun (x:Nat)=>(x:Int)
theorem cell_third (w:World) (o1 o2:Obj) (x:Value) (t:TypeId):(((w.alloc o1).alloc o2).alloc (.cells #[x] t)).cell? ⟨w.heap.size+2,0,none⟩=some x:=by
 have h:=(Blk.new ((w.alloc o1).alloc o2) #[x] t).cell 0
 rw [nblk_alloc,nblk_alloc] at h
 exact h
def SilPost (l:List Nat) (w:World) (e:Ending) (w':World):Prop:=∃v,e=.returned v∧w'.ownsRow w.heap.size 3 1 v l.length (ints (nats l))∧Below w.heap.size w w'
def unB (l:List Bool):Nat:=(l.filter fun b=>!b).length
theorem unB_set {l:List Bool} {x:Nat} (hx:x<l.length) (h:l.getD x false=false):unB (l.set x true)+1=unB l:=by
 induction l generalizing x with
 | nil=>simp at hx
 | cons a r ih=>
  cases x with
  | zero=>simp at h;subst h;simp [unB]
  | succ x=>
   simp at hx
   have:=ih (x:=x) hx (by simpa using h)
   cases a <;> simp [unB] at * <;> omega
theorem unB_le (l:List Bool):unB l≤l.length:=List.length_filter_le _ _
structure Bf (ins:List Nd) (i:Nat) (L:List Nat) (k:Nat) (S:List Bool):Prop where
 len:S.length=ins.length
 lt:∀x ∈ L,x<ins.length
 src:∀x ∈ L,∃c,Sil ins i c∧Pth (Sil ins) c x
 first:∀y,Sil ins i y→y ∈ L
 past:∀j x,j<k→L[j]?=some x→x≠i
 past2:∀j x,j<k→L[j]?=some x→S.getD x false=true
 clo:∀x,S.getD x false=true→∀y,Sil ins x y→y ∈ L
theorem Bf.found {ins:List Nd} {i k:Nat} {L:List Nat} {S:List Bool} (h:Bf ins i L k S) (hx:L[k]?=some i):OnC (Sil ins) i:=by
 obtain⟨c,h1,h2⟩:=h.src i (List.mem_of_getElem? hx)
 exact⟨c,h1,h2⟩
theorem Bf.done {ins:List Nd} {i k:Nat} {L:List Nat} {S:List Bool} (h:Bf ins i L k S) (hk:L.length≤k):¬OnC (Sil ins) i:=by
 rintro⟨c,h1,h2⟩
 have hcl:∀{a b:Nat},Pth (Sil ins) a b→a ∈ L→b ∈ L:=by
  intro a b hp
  induction hp with
  | refl=>exact fun h=>h
  | step e _ ih=>
   intro ha
   obtain⟨j,hj⟩:=List.getElem?_of_mem ha
   have hjl:=(List.getElem?_eq_some_iff.1 hj).1
   exact ih (h.clo _ (h.past2 j _ (by omega) hj) _ e)
 have hi:=hcl h2 (h.first c h1)
 obtain⟨j,hj⟩:=List.getElem?_of_mem hi
 have hjl:=(List.getElem?_eq_some_iff.1 hj).1
 exact h.past j i (by omega) hj rfl
theorem Bf.seen {ins:List Nd} {i k x:Nat} {L:List Nat} {S:List Bool} (h:Bf ins i L k S) (hx:L[k]?=some x) (hn:x≠i) (hs:S.getD x false=true):Bf ins i L (k+1) S:=by
 refine⟨h.len,h.lt,h.src,h.first,?_,?_,h.clo⟩
 ·intro j y hj hy
  by_cases hjk:j=k
  ·subst hjk;rw [hx] at hy;obtain rfl:=Option.some.inj hy;exact hn
  ·exact h.past j y (by omega) hy
 ·intro j y hj hy
  by_cases hjk:j=k
  ·subst hjk;rw [hx] at hy;obtain rfl:=Option.some.inj hy;exact hs
  ·exact h.past2 j y (by omega) hy
theorem Bf.more {ins:List Nd} {i k x:Nat} {L:List Nat} {S:List Bool} {n:Nd} (h:Bf ins i L k S) (hx:L[k]?=some x) (hn:x≠i) (hi:ins[x]?=some n) (hlt:∀y ∈ silL n x,y<ins.length):Bf ins i (L ++ silL n x) (k+1) (S.set x true):=by
 have hxl:x<ins.length:=(List.getElem?_eq_some_iff.1 hi).1
 have hkl:k<L.length:=(List.getElem?_eq_some_iff.1 hx).1
 have hd:=fun j=>due_set S x j true
 refine⟨by simp [h.len],?_,?_,fun y hy=>by simp [h.first y hy],?_,?_,?_⟩
 ·intro y hy
  rcases List.mem_append.1 hy with hy | hy
  ·exact h.lt y hy
  ·exact hlt y hy
 ·intro y hy
  rcases List.mem_append.1 hy with hy | hy
  ·exact h.src y hy
  ·obtain⟨c,h1,h2⟩:=h.src x (List.mem_of_getElem? hx)
   exact⟨c,h1,h2.trans (.one ⟨n,hi,hy⟩)⟩
 ·intro j y hj hy
  rw [List.getElem?_append_left (by omega)] at hy
  by_cases hjk:j=k
  ·subst hjk;rw [hx] at hy;obtain rfl:=Option.some.inj hy;exact hn
  ·exact h.past j y (by omega) hy
 ·intro j y hj hy
  rw [List.getElem?_append_left (by omega)] at hy
  rw [hd]
  split
  ·rfl
  ·rename_i hc
   by_cases hjk:j=k
   ·subst hjk
    rw [hx] at hy
    obtain rfl:=Option.some.inj hy
    exact absurd ⟨rfl,by rw [h.len];exact hxl⟩ hc
   ·exact h.past2 j y (by omega) hy
 ·intro y hy z hz
  rw [hd] at hy
  split at hy
  ·rename_i hc
   obtain⟨rfl,_⟩:=hc
   obtain⟨m,h1,h2⟩:=hz
   rw [hi] at h1
   obtain rfl:=Option.some.inj h1
   simp [h2]
  ·simp [h.clo y hy z hz]
theorem sil_lt {np:Nat} {p:Pd} (hp:PFit np p) {x y:Nat} {n:Nd} (hn:p.ins[x]?=some n) (hy:y ∈ silL n x):y<p.ins.length:=by
 obtain⟨z,hz,rfl⟩:=sil_sub ⟨[],[]⟩ [] [] hy
 obtain⟨f1,_,f3,f4,f5,_⟩:=fit_tab (hp.fit x n hn)
 unfold folF at hz
 rcases List.mem_append.1 hz with hz | hz
 ·split at hz
  ·rename_i h
   simp at hz
   subst hz
   exact hp.next x n hn h
  ·simp at hz
 ·unfold goF at hz
  split at hz
  ·rename_i ho;simp at hz;subst hz;have:=f3 ho;dsimp only;omega
  split at hz
  ·rename_i ho;simp at hz;subst hz;have:=f4 (by omega);dsimp only;omega
  split at hz
  ·rename_i ho;simp at hz;subst hz;have:=f4 (by omega);dsimp only;omega
  split at hz
  ·rename_i ho;simp at hz;subst hz;have:=f1 ho;dsimp only;omega
  ·simp at hz
theorem silL_len (n:Nd) (x:Nat):(silL n x).length≤2:=by
 unfold silL
 repeat (first | split | simp)
theorem bf_start {np:Nat} {p:Pd} (hp:PFit np p) {i:Nat} {n:Nd} (hn:p.ins[i]?=some n):Bf p.ins i (silL n i) 0 (List.replicate p.ins.length false):=by
 refine⟨by simp,fun x hx=>sil_lt hp hn hx,fun x hx=>⟨x,⟨n,hn,hx⟩,.refl _⟩,?_,fun j x hj=>absurd hj (by omega),fun j x hj=>absurd hj (by omega),?_⟩
 ·rintro y ⟨m,h1,h2⟩
  rw [hn] at h1
  obtain rfl:=Option.some.inj h1
  exact h2
 ·intro x hx
  simp [List.getD_eq_getElem?_getD,List.getElem?_replicate] at hx
  split at hx <;> simp at hx
theorem nats_append (xs ys:List Nat):nats (xs ++ ys)=nats xs ++ nats ys:=by simp [nats]
theorem nats_get {xs:List Nat} {k x:Nat} (h:xs[k]?=some x):(nats xs)[k]?=some (x:Int):=by simp [nats,h]
end Go.Proofs.YtgopdffmnikhdaaGreatDoor
