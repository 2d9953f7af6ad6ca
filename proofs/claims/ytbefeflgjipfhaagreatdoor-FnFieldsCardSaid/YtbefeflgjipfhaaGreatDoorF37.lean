import Derived.Test.YtbefeflgjipfhaaGreatDoorF36
set_option maxRecDepth 1000000
set_option maxHeartbeats 8000000
namespace Go.Proofs.YtbefeflgjipfhaaGreatDoor
open Go.Deep Go.Proofs.Tryz Go.RowKit
variable{x:Int}{s xs:List Int}{l rs:List Nat}{N cap k np r:Nat}{ao:Option Addr}{p:Pd}{T:Tj}{t:TypeId}{v:Value}{w:World}
structure A21 (np:Nat) (p:Pd) (r:Nat) (x:Int) (t:TypeId) (v:Value) (rx rg ox:Int):Prop where
 val:Al np p r x=.iface t v
 res:∀w,(Instr.typeAssert (.iface t v) 401 463 true).run prog w=.ok (.tuple #[.agg #[.int .i64 rx,.int .i64 rg],.bool (decide (19<=r/\r<=22))]) w
 ope:∀w,(Instr.typeAssert (.iface t v) 401 465 true).run prog w=.ok (.tuple #[.agg #[.int .i64 ox],.bool (decide (r=23))]) w
 isR:19<=r/\r<=22->rx=x/\rg=(r:Int)-19
 isO:r=23->ox=x
theorem Yc (hv:Al np p r x=.iface t v) (h1:∀w,(Instr.typeAssert (.iface t v) 401 463 true).run prog w=.ok (.tuple #[.agg #[.int .i64 0,.int .i64 0],.bool false]) w) (h2:∀w,(Instr.typeAssert (.iface t v) 401 465 true).run prog w=.ok (.tuple #[.agg #[.int .i64 0],.bool false]) w) (n1:¬(19<=r/\r<=22)) (n2:¬r=23):∃t v rx rg ox,A21 np p r x t v rx rg ox:=
 ⟨t,v,0,0,0,hv,by rw[decide_eq_false n1];exact h1,by rw[decide_eq_false n2];exact h2,fun h=>absurd h n1,fun h=>absurd h n2⟩
theorem A5e (np:Nat) (p:Pd) (r:Nat) (x:Int) (hr:r<=23):∃t v rx rg ox,A21 np p r x t v rx rg ox:=by
 by_cases h:1<=r/\r<=10
 ·exact Yc (Mt np p r x h.1 h.2) (O9 _) (Me _) (by omega) (by omega)
 rcases (by omega:r=0∨r=11∨r=12∨r=13∨r=14∨r=15∨r=16∨r=17∨r=18∨r=19∨r=20∨r=21∨r=22∨r=23) with rfl|rfl|rfl|rfl|rfl|rfl|rfl|rfl|rfl|rfl|rfl|rfl|rfl|rfl;exact Yc rfl (Od _) (Mk _) (by omega) (by omega);exact Yc rfl (Oc _) (Mj _) (by omega) (by omega);iterate 2 exact Yc rfl (Mg _) (L9 _) (by omega) (by omega)
 iterate 5 exact Yc rfl (Oa _) (Mh _) (by omega) (by omega)
 iterate 4 exact⟨_,_,x,_,0,rfl,Ob _,Mi _,fun _=>⟨rfl,rfl⟩,fun h=>by omega⟩
 exact⟨_,_,0,0,x,rfl,Mf _,L8 _,fun h=>by omega,fun _=>rfl⟩
theorem A7j (h1:rs[k]?=some r) (h2:xs[k]?=some x) (s:List Int):Ez (rs.drop k) (xs.drop k) s=Ez (rs.drop (k+1)) (xs.drop (k+1)) (wrI r x s):=by rw[Bg h1,Bg h2];rfl
theorem A99 (h:19<=r/\r<=22):wrI r x s=s.set x.toNat ((r:Int)-19):=by rcases (by omega:r=19∨r=20∨r=21∨r=22) with rfl|rfl|rfl|rfl<;>rfl
theorem A4z (h:¬(19<=r/\r<=22)) (h2:¬r=23):wrI r x s=s:=by unfold wrI;split<;>first|rfl|(exfalso;omega)
theorem A33 (r:Nat) (x:Int) (s:List Int):(wrI r x s).length=s.length:=by unfold wrI;split<;>simp
theorem A5g (h:19<=r/\r<=22) (hf:Bd np p (Bp r) x=true):0<=x/\x<p.regs:=by rcases (by omega:r=19∨r=20∨r=21∨r=22) with rfl|rfl|rfl|rfl<;>(have hi:inR x 0 (p.regs-1)=true:=hf;simp[inR]at hi;omega)
theorem A5f (hf:Bd np p (Bp 23) x=true):0<=x/\x+1<p.regs:=by have hi:inR x 0 (p.regs-2)=true:=hf;simp[inR]at hi;omega
theorem Ou {base e size n:Nat} {xs:List Value} (h:w.ownsRow base e size (.slice ao n cap) n xs) (hn:0<n):∃g,ao=some ⟨g,0,none⟩/\base<=g/\g<w.heap.size:=by
 rcases Aj h with ⟨_,h0⟩|⟨g,c,h1,h2,h3⟩
 ·omega
 ·simp at h1;exact⟨g,h1.1,h2,h3⟩
theorem A8l (np:Nat) (p:Pd) (B rb m r0 r1 r2 r3:Nat) (x0 x1 x2 x3:Int) (t0 t1 t2 t3:TypeId) (v0 v1 v2 v3:Value) (rd:Rd) (to:Option Addr) (tc:Nat) (vr vk:Value) (w:World) (h:Cu B rb m w rd (.slice to m tc) vr vk) (hm:rd.types.length=m) (hm2:m<=250) (hmr:(m:Int)=p.regs) (g0:r0<=23) (g1:r1<=23) (g2:r2<=23) (g3:r3<=23)
  (f0:Bd np p (Bp r0) x0=true) (f1:Bd np p (Bp r1) x1=true) (f2:Bd np p (Bp r2) x2=true) (f3:Bd np p (Bp r3) x3=true) (e0:Al np p r0 x0=.iface t0 v0) (e1:Al np p r1 x1=.iface t1 v1) (e2:Al np p r2 x2=.iface t2 v2) (e3:Al np p r3 x3=.iface t3 v3) :
  Calls prog 322 #[.pointer (some ⟨rb,0,none⟩),.agg #[.iface t0 v0,.iface t1 v1,.iface t2 v2,.iface t3 v3]] w fun e w'=>e=.returned (.tuple #[])/\Cu B rb m w' ⟨Ez [r0,r1,r2,r3] [x0,x1,x2,x3] rd.types,rd.stay,rd.taken⟩ (.slice to m tc) vr vk/\Below B w w':=by
 have HR:Hid (∀k,k<4->_):=fun k hk=>row4 (P:=fun r x t v=>r<=23/\Bd np p (Bp r) x=true/\Al np p r x=.iface t v) ⟨g0,f0,e0⟩ ⟨g1,f1,e1⟩ ⟨g2,f2,e2⟩ ⟨g3,f3,e3⟩ (k:=k) hk;have A:=(yA w.heap.size w).alloc (yB _) (.cells #[.iface t0 v0,.iface t1 v1,.iface t2 v2,.iface t3 v3] 402);have R0:=h.l A;have B0:Below B w (w.alloc (.cells #[.iface t0 v0,.iface t1 v1,.iface t2 v2,.iface t3 v3] 402)):=A.mono (yI h.low (Nat.le_of_lt h.blk.lt));have HMR:Hid _:=hmr;clear A h f0 f1 f2 f3 g0 g1 g2 g3 hmr e0 e1 e2 e3;go_in;go_wp2;go_loopg [9] 5 (fun g y wr=>∃(k:Nat) (ts1:List Int),k<=4/\y=.int .i64 k/\Hid (Ez ([r0,r1,r2,r3].drop k) ([x0,x1,x2,x3].drop k) ts1=Ez [r0,r1,r2,r3] [x0,x1,x2,x3] rd.types)/\Hid (ts1.length=m)/\Hid (5-k<=g)/\Cu B rb m wr ⟨ts1,rd.stay,rd.taken⟩ (.slice to m tc) vr vk/\Below B w wr);case atStart=>exact⟨0,rd.types,by omega,rfl,rfl,hm,by show _<=_;omega,R0,B0⟩
 case round=>
  obtain⟨k,ts1,hk,rfl,HQ,HL,HG,R1,B1⟩:=hrel;clear R0 B0;by_cases hk4:k<4
  ·obtain⟨r,x,t,v,hr,hx,iK,hg,hf,hv⟩:=HR.out k hk4;obtain⟨t',v',rx,rg,ox,FA⟩:=A5e np p r x hg;obtain⟨rfl,rfl⟩:t'=t/\v'=v:=by simpa using FA.val.symm.trans hv
   have HD:Hid (Ez ([r0,r1,r2,r3].drop (k+1)) ([x0,x1,x2,x3].drop (k+1)) (wrI r x ts1)=Ez [r0,r1,r2,r3] [x0,x1,x2,x3] rd.types):=(A7j hr hx ts1).symm.trans HQ.out;have HG2:Hid (5-(k+1)<=gk-1/\gk-1<gk):=by have:=HG.out;show _/\_;omega
   have aR:=FA.res;have aO:=FA.ope;have HL2:Hid ((wrI r x ts1).length=m):=(A33 _ _ _).trans HL.out;have hk5:(k:Int)<4:=by omega
   clear HQ HG hr hx hg hv;by_cases hr:19<=r/\r<=22
   ·rw[decide_eq_true hr]at aR;obtain⟨ex,eg⟩:=FA.isR hr;have hfx:=A5g hr hf;obtain⟨q,hq⟩:=yN hfx.1;have hqm:q<m:=by have:=HMR.out;omega
    have HW:Hid (wrI r x ts1=ts1.set q rg):=by show _=_;rw[A99 hr,hq,Int.toNat_natCast,eg]
    rw[show rx=(q:Int) from ex.trans hq]at aR;obtain⟨g,hg,hg1,hg2⟩:=Ou R1.types (by omega);subst hg;have A2:=(yA wr.heap.size wr).alloc (yB _) (.cells #[.int .i64 q,.int .i64 rg] 463);have P3:=Blk.new wr #[.int .i64 q,.int .i64 rg] 463;have R3:=R1.l A2;have B3:=B1.trans (A2.mono (yI R1.low (Nat.le_of_lt R1.blk.lt)));have k1:(q:Int)<m:=by omega
    have hne:¬g=wr.heap.size:=by omega
    have hnb:¬g=rb:=fun e=>R1.nt (by rw[←e];rfl);have hrw:rb<wr.heap.size:=R1.blk.lt;clear ex eg hq hfx hf hr aO A2 R1 B1 FA;go_wp2_with fail;generalize wr.alloc (.cells #[.int .i64 q,.int .i64 rg] 463)=w3 at *;have p3:=P3.cell 0;have p4:=P3.cell 1;have s3:=R3.blk.cell 0;have c3:=(R3.types.cellAt q (by omega)).trans (De (by rw[HL.out];omega));have z3:=R3.types.frozenAt q;obtain⟨R4,B4⟩:=R3.setType q rg;have HR4:Hid (Cu B rb m (w3.setCell ⟨g,q,none⟩ (.int .i64 rg)).drew ⟨wrI r x ts1,rd.stay,rd.taken⟩ (.slice (some ⟨g,0,none⟩) m tc) vr vk):=by have:=R4.l ((yA _ _).drew);rw[HW.out];exact this
    have HB4:Hid (Below B w (w3.setCell ⟨g,q,none⟩ (.int .i64 rg)).drew):=(B3.trans B4).drew;clear R3 R4 B3 B4 HW P3;go_wp2_with fail;go_region_held3 (fun w'=>w'.cell? ⟨rb,0,none⟩=some (.slice (some ⟨g,0,none⟩) m tc)/\w'.cell? ⟨wr.heap.size,0,none⟩=some (.int .i64 q)/\w'.cell? ⟨wr.heap.size,1,none⟩=some (.int .i64 rg)) (first|exact⟨s3,p3,p4⟩|(exact⟨(yG _ _ _ _ hnb).trans s3,(yG _ _ _ _ hne).trans p3,(yG _ _ _ _ hne).trans p4⟩)|(go_keep;done)) (fail);generalize (w3.setCell ⟨g,q,none⟩ (.int .i64 rg)).drew=w5 at *;clear p3 p4 s3 c3 z3;go_wp2;go_roundg (gk-1);case measure=>exact HG2.out.2
    case rel=>exact⟨k+1,_,by omega,by go_num,HD.out,HL2.out,HG2.out.1,HR4.out,HB4.out⟩
   ·rw[decide_eq_false hr]at aR;by_cases ho:r=23
    ·rw[decide_eq_true ho]at aO;have ex:=FA.isO ho;have hfx:=A5f (np:=np) (p:=p) (x:=x) (by rw[ho]at hf;exact hf);obtain⟨q,hq⟩:=yN hfx.1;have hqm:q+1<m:=by have:=HMR.out;omega
     have HW:Hid (wrI r x ts1=(ts1.set q 1).set (q+1) 1):=by show _=_;rw[ho,hq];rfl
     rw[show ox=(q:Int) from ex.trans hq]at aO;obtain⟨g,hg,hg1,hg2⟩:=Ou R1.types (by omega);subst hg;have A2:=(yA wr.heap.size wr).alloc (yB _) (.cells #[.int .i64 q] 465);have P3:=Blk.new wr #[.int .i64 q] 465;have R3:=R1.l A2;have B3:=B1.trans (A2.mono (yI R1.low (Nat.le_of_lt R1.blk.lt)));have k1:(q:Int)<m:=by omega
     have k2:(q:Int)+1<m:=by omega
     have k3:(0:Int)<=(q:Int)+1:=by omega
     have k4:IntKind.i64.wrap ((q:Int)+1)=(q:Int)+1:=by unfold IntKind.wrap;simp[IntKind.signed,IntKind.bits];omega
     have hne:¬g=wr.heap.size:=by omega
     have hnb:¬g=rb:=fun e=>R1.nt (by rw[←e];rfl);clear ex hq hfx hf hr ho A2 R1 B1 FA;go_wp2_with fail;generalize wr.alloc (.cells #[.int .i64 q] 465)=w3 at *;have p3:=P3.cell 0;have s3:=R3.blk.cell 0;have c3:=(R3.types.cellAt q (by omega)).trans (De (by rw[HL.out];omega));have d3:=(R3.types.cellAt (q+1) (by omega)).trans (De (by rw[HL.out];omega));have z3:=R3.types.frozenAt;obtain⟨R4,B4⟩:=R3.setType q 1;obtain⟨R5,B5⟩:=R4.setType (q+1) 1;have HR5:Hid (Cu B rb m ((w3.setCell ⟨g,q,none⟩ (.int .i64 1)).setCell ⟨g,q+1,none⟩ (.int .i64 1)).drew ⟨wrI r x ts1,rd.stay,rd.taken⟩ (.slice (some ⟨g,0,none⟩) m tc) vr vk):=by have:=R5.l ((yA _ _).drew);rw[HW.out];exact this
     have HB5:Hid (Below B w ((w3.setCell ⟨g,q,none⟩ (.int .i64 1)).setCell ⟨g,q+1,none⟩ (.int .i64 1)).drew):=((B3.trans B4).trans B5).drew;clear R3 R4 R5 B3 B4 B5 HW P3;go_wp2_with fail;go_region_held3 (fun w'=>w'.cell? ⟨rb,0,none⟩=some (.slice (some ⟨g,0,none⟩) m tc)/\w'.cell? ⟨wr.heap.size,0,none⟩=some (.int .i64 q)) (first|exact⟨s3,p3⟩|(exact⟨(yG _ _ _ _ hnb).trans s3,(yG _ _ _ _ hne).trans p3⟩)|(exact⟨((yG _ _ _ _ hnb).trans (yG _ _ _ _ hnb)).trans s3,((yG _ _ _ _ hne).trans (yG _ _ _ _ hne)).trans p3⟩)|(go_keep;done)) (fail);generalize ((w3.setCell ⟨g,q,none⟩ (.int .i64 1)).setCell ⟨g,q+1,none⟩ (.int .i64 1)).drew=w5 at *;clear p3 s3 c3 d3 z3;go_wp2;go_roundg (gk-1);case measure=>exact HG2.out.2
     case rel=>exact⟨k+1,_,by omega,by go_num,HD.out,HL2.out,HG2.out.1,HR5.out,HB5.out⟩
    ·rw[decide_eq_false ho]at aO;have HW:Hid (wrI r x ts1=ts1):=A4z hr ho;have HR1:Hid (Cu B rb m wr ⟨wrI r x ts1,rd.stay,rd.taken⟩ (.slice to m tc) vr vk):=by rw[HW.out];exact R1
     clear hr ho R1 FA hf HW;go_wp2;go_roundg (gk-1);case measure=>exact HG2.out.2
     case rel=>exact⟨k+1,_,by omega,by go_num,HD.out,HL2.out,HG2.out.1,HR1.out,B1⟩
  ·have hk0:k=4:=by omega
   subst hk0;have HN:Hid (Cu B rb m wr ⟨Ez [r0,r1,r2,r3] [x0,x1,x2,x3] rd.types,rd.stay,rd.taken⟩ (.slice to m tc) vr vk):=by rw[←HQ.out];exact R1
   clear HQ HG R1 hk4;go_wp2_with fail;go_end0;exact⟨rfl,HN.out,B1⟩
theorem Wl:∀(xs:List Nat) (x:Int),0<=x->0<=Nl x (zs xs)/\(Nl x (zs xs)=x∨∃y∈xs,Nl x (zs xs)=(y:Int))/\Nl x (zs xs)<=x/\∀y∈xs,Nl x (zs xs)<=(y:Int)
 | [],x,h=>by simp[Nl,zs];exact h
 | y::r,x,h=>by
  have ih:=Wl r (min x (y:Int)) (by omega);have e:Nl x (zs (y::r))=Nl (min x (y:Int)) (zs r):=rfl;rw[e];obtain⟨h1,h2,h3,h4⟩:=ih;refine⟨h1,?_,by omega,?_⟩
  ·rcases h2 with h2|⟨z,hz,h2⟩
   ·by_cases hxy:x<=(y:Int)
    ·left;rw[h2];omega
    ·right;exact⟨y,by simp,by rw[h2];omega⟩
   ·right;exact⟨z,by simp[hz],h2⟩
  ·intro z hz;rcases List.mem_cons.1 hz with rfl|hz
   ·omega
   ·exact h4 z hz
theorem A3k (s cb gb ob qb N:Nat) (f:Nat->List Int) (lo cnt least a:Nat) (ord pre ext:List Nat) (vp:Value) (wq w:World) (I:A34 s cb ob qb) (hN:N<=6000) (C:Kv s cb gb ob qb N w ⟨cnt,ord,pre++a::ext,least⟩ vp) (hwq:wq.heap.size=s) (S:Pn lo wq gb N f) (hbq:Below s wq w) (hin:∀y∈a::ext,y<N) (hnd:∀y∈a::ext,y∉pre) (hpl:(pre++a::ext).length<=6000) (hfl:∀j,j<N->(f j).length<=1048576) :
  Calls prog 367 #[.pointer (some ⟨cb,0,none⟩),.int .i64 pre.length] w fun e w'=>e=.returned (.tuple #[])/\(∃least':Nat,(least':Int)=Gg f a ext least/\∃vp',Kv s cb gb ob qb N w' ⟨cnt,ord,pre,least'⟩ vp')/\Below s w w':=by
 have hlen:(pre++a::ext).length=pre.length+(ext.length+1):=by simp
 have hP:=C.path;dsimp only at hP;rw[hlen]at hP;obtain⟨po,pc,hpo⟩:=Af hP;subst hpo;obtain⟨g,hg,hg1,hg2⟩:=Ou hP (by omega);subst hg;have hcap:=Np hP _ _ rfl;have B0:=C.blk;have O0:=C.order;have Q0:=C.opn;dsimp only at B0 O0 Q0;have hcb:=C.blk.lt;have HP:Hid (w.ownsRow (s+3) 3 1 (.slice (some ⟨g,0,none⟩) (pre.length+(ext.length+1)) pc) (pre.length+(ext.length+1)) (Bj (zs (pre++a::ext)))):=hP;have HG:Hid (∀j y:Nat,(a::ext)[j]?=some y->w.cell? ⟨g,pre.length+j,none⟩=some (.int .i64 y)):=by
  intro j y hj;have hl:=(yD.1 hj).1;simp at hl;refine(HP.out.cellAt (pre.length+j) (by omega)).trans ?_;have:(pre++a::ext)[pre.length+j]?=some y:=by rw[List.getElem?_append_right (by omega)];simpa using hj
  unfold Bj;rw[List.getElem?_map,A7k this];rfl
 have HT:Hid (w.ownsRow (s+3) 3 1 (.slice (some ⟨g,0,none⟩) pre.length pc) pre.length (Bj (zs pre))):=by
  have:=A4b (k:=pre.length) HP.out (by omega) (by simp);have e:(Bj (zs (pre++a::ext))).take pre.length=Bj (zs pre):=by unfold Bj zs;simp[List.map_append]
  rw[e]at this;exact this
 have hgc:¬g=cb:=by have:=I.c2;omega
 have k1:(pre.length:Int)<=(pre.length:Int)+((ext.length:Int)+1):=by omega
 have k2:pre.length<=pc:=by omega
 have HIN:Hid _:=hin;have HND:Hid _:=hnd;obtain⟨mn,hmn⟩:∃mn:Nat,Nl (a:Int) (zs ext)=mn:=yN (Wl ext a (by omega)).1;have haN:=hin a (by simp);have B1:Blk (w.setCell ⟨cb,3,none⟩ (.slice (some ⟨g,0,none⟩) pre.length pc)) cb #[.slice (some ⟨gb,0,none⟩) N N,.int .i64 cnt,.slice (some ⟨ob,0,none⟩) N N,.slice (some ⟨g,0,none⟩) pre.length pc,.slice (some ⟨qb,0,none⟩) N N,.int .i64 least] 417:=B0.set 3 (.slice (some ⟨g,0,none⟩) pre.length pc);have hb1:Below s w (w.setCell ⟨cb,3,none⟩ (.slice (some ⟨g,0,none⟩) pre.length pc)):=(yA s w).setCell (by dsimp only;exact I.c1) _;have ho1:∀b,b≠cb->(w.setCell ⟨cb,3,none⟩ (.slice (some ⟨g,0,none⟩) pre.length pc)).heap[b]?=w.heap[b]?:=fun b hb=>yL _ _ _ _ hb;have hs1:(w.setCell ⟨cb,3,none⟩ (.slice (some ⟨g,0,none⟩) pre.length pc)).heap.size=w.heap.size:=Gm _ _ _;clear C hP hlen hin hnd;have b0:=B0.cell;have f0:=B0.frozen;go_in;refine wk fun K0 HK0=>?_;go_wp2;refine HK0.out _ _ ?_;clear HK0;refine wk fun K1 HK1=>?_;go_wp2;refine HK1.out _ _ ?_;clear HK1 b0 f0;generalize w.setCell ⟨cb,3,none⟩ (.slice (some ⟨g,0,none⟩) pre.length pc)=w1 at *;have hblk:∀X:World,(∀b,b≠cb->b<w1.heap.size->X.heap[b]?=w1.heap[b]?)->Blk X ob (G7 ord) 3/\Blk X qb (Ci (Iz N fun v=>decide (v∈pre++a::ext))) 4/\X.ownsRow (s+3) 3 1 (.slice (some ⟨g,0,none⟩) pre.length pc) pre.length (Bj (zs pre))/\∀j y:Nat,(a::ext)[j]?=some y->X.cell? ⟨g,pre.length+j,none⟩=some (.int .i64 y):=by
  intro X hX;have h1:∀b,b≠cb->b<w.heap.size->X.heap[b]?=w.heap[b]?:=fun b hb hl=>(hX b hb (by rw[hs1];exact hl)).trans (ho1 b hb);refine⟨(h1 ob I.co.symm O0.lt).trans O0,(h1 qb I.cq.symm Q0.lt).trans Q0,Ae HT.out (fun b hb=>?_),fun j y hj=>(yX (w:=w) (a:=⟨g,pre.length+j,none⟩) (h1 g hgc hg2)).trans (HG.out j y hj)⟩;have e:b=g:=by simpa[Value.ownBlock]using hb.symm
  subst e;exact h1 b hgc hg2
 have HMI:Hid (∀X:World,(∀b,b≠cb->b<w1.heap.size->X.heap[b]?=w1.heap[b]?)->w1.heap.size<=X.heap.size->Kw 394 #[.slice (some ⟨g,pre.length,none⟩) (ext.length+1) (pc-pre.length)] X (.int .i64 mn)):=by
  intro X hX hsz;have hc:=A17 (some ⟨g,pre.length,none⟩) (pc-pre.length) a (zs ext) X (by rw[Xi];simp at hpl;omega) (fun j x hj=>by
   have hj2:(zs (a::ext))[j]?=some x:=hj;unfold zs at hj2;rw[List.getElem?_map]at hj2;obtain⟨y,hy,rfl⟩:=Option.map_eq_some_iff.1 hj2;have:=(hblk X hX).2.2.2 j y hy;exact⟨g,pre.length,rfl,yE _,by omega,by unfold Jb;rw[Nat.mul_one];exact this⟩)
  rw[Xi,hmn]at hc;exact hc
 refine wk fun K2 HK2=>?_;have hSs:∀X:World,Below s w1 X->Pn lo X gb N f:=fun X hX=>S.l (by rw[hwq];exact(hbq.trans hb1).trans hX);have hself:∀n,∀b,b≠cb->b<w1.heap.size->(w1.drewN n).heap[b]?=w1.heap[b]?:=fun n b _ hl=>(below_drewN (yA _ _) n).block b hl;by_cases he:ext=[]
 ·subst he;obtain⟨ao,acp,sa,IA⟩:=(hSs w1 (yA _ _)).at_ a haN;have ga:=(hblk w1 (fun b _ _=>rfl)).2.2.2 0 a rfl;rw[Nat.add_zero]at ga;have hgs:g<w1.heap.size:=by rw[hs1];exact hg2
  have hgbs:gb<w1.heap.size:=(hSs w1 (yA _ _)).own.lt;have b1:=B1.cell 0;have hc1:=B1.lt;have hE:Below w1.heap.size w1 w1.drew:=(yA _ _).drew;have HCN:Hid (∀_:Unit,_):=fun _=>J9 ao acp (f a) a w1.drew (hfl a haN) (Ay.w (IA.l (Ad.o hE)) (yE _));have HB1:Hid (Blk w1 cb #[.slice (some ⟨gb,0,none⟩) N N,.int .i64 cnt,.slice (some ⟨ob,0,none⟩) N N,.slice (some ⟨g,0,none⟩) pre.length pc,.slice (some ⟨qb,0,none⟩) N N,.int .i64 least] 417):=B1;have k3:(a:Int)<N:=by omega
  clear IA B1;go_wp2_with fail;go_region_held3 (fun w'=>w'.cell? ⟨cb,0,none⟩=some (.slice (some ⟨gb,0,none⟩) N N)/\w'.cell? ⟨g,pre.length,none⟩=some (.int .i64 a)/\w'.cell? ⟨gb,a,none⟩=some (.slice ao (f a).length acp)) (first|exact⟨b1,ga,sa⟩|exact⟨d0,d1,d2⟩|(go_keep;done))
   (first|(go_at_call 393;refine(HCN.out ()).mono ?_;rintro e w2 ⟨rfl,hw2⟩;have d0:=(hw2.cell (p:=⟨cb,0,none⟩) hc1).trans b1;have d1:=(hw2.cell (p:=⟨g,pre.length,none⟩) hgs).trans ga;have d2:=(hw2.cell (p:=⟨gb,a,none⟩) hgbs).trans sa;have HW2:Hid (Below w1.heap.size w1 w2):=hE.trans hw2))
  clear d0 d1 d2 b1 ga sa HCN hw2 hE;have hs1b:s<=w1.heap.size:=by rw[←hwq];exact yI hbq.size hb1.size
  have BX2:=HB1.out.l HW2.out;have hX2:∀b,b≠cb->b<w1.heap.size->w2.heap[b]?=w1.heap[b]?:=fun b _ hl=>HW2.out.block b hl;have hbX2:Below s w1 w2:=HW2.out.mono hs1b;by_cases hm:(a:Int)∈f a
  ·have HCL:Hid (Gg f a [] least=((min least mn:Nat):Int)):=by show _=_;unfold Gg;rw[if_pos (.inr hm),hmn];omega
   rw[decide_eq_true hm];clear hm HB1 HW2;generalize w2=X0 at *;go_wp2_with fail;have HB0:Hid (Blk X0 cb #[.slice (some ⟨gb,0,none⟩) N N,.int .i64 cnt,.slice (some ⟨ob,0,none⟩) N N,.slice (some ⟨g,0,none⟩) pre.length pc,.slice (some ⟨qb,0,none⟩) N N,.int .i64 least] 417):=BX2;have HX0:Hid (∀b,b≠cb->b<w1.heap.size->X0.heap[b]?=w1.heap[b]?):=hX2;have HBX:Hid (Below s w1 X0):=hbX2;have x0:=HB0.out.cell;have xf0:=HB0.out.frozen;have hcx:=HB0.out.lt;have hmm:min (least:Int) (mn:Int)=((min least mn:Nat):Int):=by omega
   go_wp2_with fail;go_region_with (first|(go_at_call 394;refine(HMI.out X0.drew (fun b hb hl=>HX0.out b hb hl) HBX.out.size).mono ?_;rintro e w3 ⟨rfl,hw3⟩;have HB3:Hid (Blk w3 cb #[.slice (some ⟨gb,0,none⟩) N N,.int .i64 cnt,.slice (some ⟨ob,0,none⟩) N N,.slice (some ⟨g,0,none⟩) pre.length pc,.slice (some ⟨qb,0,none⟩) N N,.int .i64 least] 417):=Blk.l (w:=X0.drew) HB0.out hw3;have x3:=HB3.out.cell;have xf3:=HB3.out.frozen;have HW3:Hid (Below X0.drew.heap.size X0.drew w3):=hw3));all_goals
    have B3:Blk (w3.setCell ⟨cb,5,none⟩ (.int .i64 ((min least mn:Nat):Int))) cb #[.slice (some ⟨gb,0,none⟩) N N,.int .i64 cnt,.slice (some ⟨ob,0,none⟩) N N,.slice (some ⟨g,0,none⟩) pre.length pc,.slice (some ⟨qb,0,none⟩) N N,.int .i64 ((min least mn:Nat):Int)] 417:=HB3.out.set 5 (.int .i64 ((min least mn:Nat):Int));have hX3:∀b,b≠cb->b<w1.heap.size->(w3.setCell ⟨cb,5,none⟩ (.int .i64 ((min least mn:Nat):Int))).heap[b]?=w1.heap[b]?:=fun b hb hl=>(yL _ _ _ _ hb).trans ((HW3.out.block b (yF hl HBX.out.size)).trans (HX0.out b hb hl));have hb3:Below s w1 (w3.setCell ⟨cb,5,none⟩ (.int .i64 ((min least mn:Nat):Int))):=((HBX.out.trans (((yA s X0).drew).trans (HW3.out.mono (yI (by rw[←hwq];exact yI hbq.size hb1.size) HBX.out.size)))).setCell (by dsimp only;exact I.c1) _);go_wp2;refine HK2.out _ _ ?_;refine Lc s cb gb ob qb N cnt (min least mn) a g pc ord pre [] (w3.setCell ⟨cb,5,none⟩ (.int .i64 ((min least mn:Nat):Int))) _ _ _ _ _ _ _ _ _ _ _ _ _ _ _ _ _ _ _ _ _ _ _ _ _ _ _ _ _ _ _ _ _ _ _ _ _ _ _ _ _ _ _ _ _ _ _ _ _ _ _ _ _ _ _ _ _ _ _ _ _ _ ?_ I hN (by first|(simp;done)|(simp at hpl;omega)) HIN.out HND.out hg1 B3 ((hblk (w3.setCell ⟨cb,5,none⟩ (.int .i64 ((min least mn:Nat):Int))) hX3).1) ((hblk (w3.setCell ⟨cb,5,none⟩ (.int .i64 ((min least mn:Nat):Int))) hX3).2.1) ((hblk (w3.setCell ⟨cb,5,none⟩ (.int .i64 ((min least mn:Nat):Int))) hX3).2.2.1) ((hblk (w3.setCell ⟨cb,5,none⟩ (.int .i64 ((min least mn:Nat):Int))) hX3).2.2.2);intro u6 u50 u51 u52 u53 u54 u55 u56 u57 u58 u59 u60 u61 u62 w' hC hbw;go_wp2_with fail;refine bodyPost_end (v:=.tuple #[]) ?_ rfl ⟨rfl,⟨(min least mn),HCL.out.symm,_,hC⟩,(hb1.trans hb3).trans hbw⟩;simp[results,results367,go_sem]
  ·have HCL:Hid (Gg f a [] least=(least:Int)):=by show _=_;unfold Gg;rw[if_neg (by rintro(h|h);exact h rfl;exact hm h)]
   rw[decide_eq_false hm];clear hm HB1 HW2;go_wp2;refine HK2.out _ _ ?_;refine Lc s cb gb ob qb N cnt least a g pc ord pre [] w2 _ _ _ _ _ _ _ _ _ _ _ _ _ _ _ _ _ _ _ _ _ _ _ _ _ _ _ _ _ _ _ _ _ _ _ _ _ _ _ _ _ _ _ _ _ _ _ _ _ _ _ _ _ _ _ _ _ _ _ _ _ _ ?_ I hN (by first|(simp;done)|(simp at hpl;omega)) HIN.out HND.out hg1 BX2 ((hblk w2 hX2).1) ((hblk w2 hX2).2.1) ((hblk w2 hX2).2.2.1) ((hblk w2 hX2).2.2.2);intro u6 u50 u51 u52 u53 u54 u55 u56 u57 u58 u59 u60 u61 u62 w' hC hbw;go_wp2_with fail;refine bodyPost_end (v:=.tuple #[]) ?_ rfl ⟨rfl,⟨least,HCL.out.symm,_,hC⟩,(hb1.trans hbX2).trans hbw⟩;simp[results,results367,go_sem]
 ·have hel:0<ext.length:=List.length_pos_iff.2 he;have HCL:Hid (Gg f a ext least=((min least mn:Nat):Int)):=by show _=_;unfold Gg;rw[if_pos (.inl he),hmn];omega
  have k3:(1:Int)<(ext.length:Int)+1:=by omega
  clear he;have b1:=B1.cell;go_wp2_with fail;go_quiet (fail);have hX0:=hself nq;have hbX0:Below s w1 (w1.drewN nq):=below_drewN (yA _ _) nq;have BX0:=B1.l (below_drewN (yA _ _) nq);clear b1;generalize w1.drewN nq=X0 at *;have HB0:Hid (Blk X0 cb #[.slice (some ⟨gb,0,none⟩) N N,.int .i64 cnt,.slice (some ⟨ob,0,none⟩) N N,.slice (some ⟨g,0,none⟩) pre.length pc,.slice (some ⟨qb,0,none⟩) N N,.int .i64 least] 417):=BX0;have HX0:Hid (∀b,b≠cb->b<w1.heap.size->X0.heap[b]?=w1.heap[b]?):=hX0;have HBX:Hid (Below s w1 X0):=hbX0;have x0:=HB0.out.cell;have xf0:=HB0.out.frozen;have hcx:=HB0.out.lt;have hmm:min (least:Int) (mn:Int)=((min least mn:Nat):Int):=by omega
  go_wp2_with fail;go_region_with (first|(go_at_call 394;refine(HMI.out X0.drew (fun b hb hl=>HX0.out b hb hl) HBX.out.size).mono ?_;rintro e w3 ⟨rfl,hw3⟩;have HB3:Hid (Blk w3 cb #[.slice (some ⟨gb,0,none⟩) N N,.int .i64 cnt,.slice (some ⟨ob,0,none⟩) N N,.slice (some ⟨g,0,none⟩) pre.length pc,.slice (some ⟨qb,0,none⟩) N N,.int .i64 least] 417):=Blk.l (w:=X0.drew) HB0.out hw3;have x3:=HB3.out.cell;have xf3:=HB3.out.frozen;have HW3:Hid (Below X0.drew.heap.size X0.drew w3):=hw3));all_goals
   have B3:Blk (w3.setCell ⟨cb,5,none⟩ (.int .i64 ((min least mn:Nat):Int))) cb #[.slice (some ⟨gb,0,none⟩) N N,.int .i64 cnt,.slice (some ⟨ob,0,none⟩) N N,.slice (some ⟨g,0,none⟩) pre.length pc,.slice (some ⟨qb,0,none⟩) N N,.int .i64 ((min least mn:Nat):Int)] 417:=HB3.out.set 5 (.int .i64 ((min least mn:Nat):Int));have hX3:∀b,b≠cb->b<w1.heap.size->(w3.setCell ⟨cb,5,none⟩ (.int .i64 ((min least mn:Nat):Int))).heap[b]?=w1.heap[b]?:=fun b hb hl=>(yL _ _ _ _ hb).trans ((HW3.out.block b (yF hl HBX.out.size)).trans (HX0.out b hb hl));have hb3:Below s w1 (w3.setCell ⟨cb,5,none⟩ (.int .i64 ((min least mn:Nat):Int))):=((HBX.out.trans (((yA s X0).drew).trans (HW3.out.mono (yI (by rw[←hwq];exact yI hbq.size hb1.size) HBX.out.size)))).setCell (by dsimp only;exact I.c1) _);go_wp2;refine HK2.out _ _ ?_;refine Lc s cb gb ob qb N cnt (min least mn) a g pc ord pre ext (w3.setCell ⟨cb,5,none⟩ (.int .i64 ((min least mn:Nat):Int))) _ _ _ _ _ _ _ _ _ _ _ _ _ _ _ _ _ _ _ _ _ _ _ _ _ _ _ _ _ _ _ _ _ _ _ _ _ _ _ _ _ _ _ _ _ _ _ _ _ _ _ _ _ _ _ _ _ _ _ _ _ _ ?_ I hN (by first|(simp;done)|(simp at hpl;omega)) HIN.out HND.out hg1 B3 ((hblk (w3.setCell ⟨cb,5,none⟩ (.int .i64 ((min least mn:Nat):Int))) hX3).1) ((hblk (w3.setCell ⟨cb,5,none⟩ (.int .i64 ((min least mn:Nat):Int))) hX3).2.1) ((hblk (w3.setCell ⟨cb,5,none⟩ (.int .i64 ((min least mn:Nat):Int))) hX3).2.2.1) ((hblk (w3.setCell ⟨cb,5,none⟩ (.int .i64 ((min least mn:Nat):Int))) hX3).2.2.2);intro u6 u50 u51 u52 u53 u54 u55 u56 u57 u58 u59 u60 u61 u62 w' hC hbw;go_wp2_with fail;refine bodyPost_end (v:=.tuple #[]) ?_ rfl ⟨rfl,⟨(min least mn),HCL.out.symm,_,hC⟩,(hb1.trans hb3).trans hbw⟩;simp[results,results367,go_sem]
def unv (l:List Nat):Nat:=(l.filter fun x=>x==0).length
theorem A31{i:Nat} (hi:i<l.length) (h0:l.getD i 0=0) (hk:k≠0):unv (l.set i k)+1=unv l:=by
 induction l generalizing i with
 | nil=>simp at hi
 | cons a r ih=>
  cases i with
  | zero=>
   simp at h0;subst h0;simp[unv,hk]
  | succ i=>
   simp at hi h0;have:=ih (i:=i) hi (by simpa using h0);unfold unv at *;by_cases ha:a=0
   ·simp[ha]at *;omega
   ·simp[ha]at *;omega
theorem A0a:∀{l m:List Nat},l.length=m.length->(∀v,l.getD v 0≠0->m.getD v 0≠0)->unv m<=unv l
 | [],[],_,_=>yB _
 | [],_::_,h,_=>by simp at h
 | _::_,[],h,_=>by simp at h
 | a::r,b::q,h,hv=>by
  have ih:=A0a (l:=r) (m:=q) (by simpa using h) (fun v hv2=>by have:=hv (v+1);simpa using this (by simpa using hv2));have h0:=hv 0;simp at h0;unfold unv at *;by_cases ha:a=0
  ·by_cases hb:b=0
   ·simp[ha,hb];exact ih
   ·simp[ha,hb];omega
  ·have:=h0 ha;simp[ha,this];exact ih
theorem Rj {E:Nat->Nat->Prop} {gray:Nat->Prop} (h:Jt E N T gray):T.path.length<=T.count:=by
 have hk:∀(l:List Nat) (m:Nat),l.Pairwise (fun x y=>T.ord x<T.ord y)->(∀v∈l,m<T.ord v)->l.length+m<=T.count∨l=[]:=by
  intro l
  induction l with
  | nil=>intro m _ _;exact .inr rfl
  | cons a r ih=>
   intro m hp hm;rw[List.pairwise_cons]at hp;have ha:=hm a (by simp);rcases ih (T.ord a) hp.2 hp.1 with h1|h1
   ·left;simp;omega
   ·subst h1;left;have:=h.le a;simp;omega
 rcases hk T.path 0 h.sorted (fun v hv=>by have:=h.vis v hv;omega) with h1|h1
 ·omega
 ·rw[h1];simp
end Go.Proofs.YtbefeflgjipfhaaGreatDoor
