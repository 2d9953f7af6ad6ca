import Derived.Test.YtbefeflgjipfhaaGreatDoorF27
set_option maxRecDepth 100000
set_option maxHeartbeats 4000000
namespace Go.Proofs.YtbefeflgjipfhaaGreatDoor
open Go.Deep Go.Proofs.Tryz Go.RowKit
variable{v:Bool}{m:List Bool}{ps:List Pd}{l:List Ud}{i k pi:Nat}{n:Nd}{p:Pd}{u:Ud}
def Hd (tc nd td nc:Bool) (n x:Nd):Value:=
 if tc&&!nd then .tuple #[Qd.val ⟨44,x.a,x.b,x.d,n.b,1,n.a⟩,.bool true]
 else if td&&!nc then .tuple #[Qd.val ⟨44,x.a,x.b,x.c,n.b,0,n.a⟩,.bool true]
 else .tuple #[Qd.val ⟨0,0,0,0,0,0,0⟩,.bool false]
theorem Vw (io co:Option Addr) (ic m cc:Nat) (c:Int) (l:List Nd) (n x:Nd) (w:World) (hl:l.length<=1048576) (hin:E5 0 w io l) (h0:l[0]?=some n) (h1:l[1]?=some x) (hxc:I64 x.c) (hxd:I64 x.d) :
  Kw 198 #[.agg #[.slice io l.length ic,.slice co m cc,.int .i64 c]] w (Hd (decide (x.c<0)&&(Be x.c==n.a)) (Be x.d==n.a) (decide (x.d<0)&&(Be x.d==n.a)) (Be x.c==n.a) n x):=by
 obtain⟨b,off,rfl,_,hbl,q0,q1,q2,q3,q4⟩:=hin 0 n h0;obtain⟨b',off',e',_,hbl',r0,r1,r2,r3,r4⟩:=hin 1 x h1;simp only[Option.some.injEq,Addr.mk.injEq,and_true]at e';obtain⟨rfl,rfl⟩:=e';simp only[Nat.zero_mul,Nat.add_zero,Nat.one_mul]at q0 q1 q2 q3 q4 r0 r1 r2 r3 r4;have hlt:1<l.length:=(yD.1 h1).1;have k0:(0:Int)<l.length:=by omega
 have k1:(1:Int)<l.length:=by omega
 generalize l.length=z at *;obtain⟨n0,n1,n2,n3,n4⟩:=n;obtain⟨x0,x1,x2,x3,x4⟩:=x;dsimp only at *;replace q0:=Ao hbl q0;replace q1:=Ao hbl q1;replace q2:=Ao hbl q2;replace q3:=Ao hbl q3;replace q4:=Ao hbl q4;replace r0:=Ao hbl r0;replace r1:=Ao hbl r1;replace r2:=Ao hbl r2;replace r3:=Ao hbl r3;replace r4:=Ao hbl r4;have k2:0<z:=by omega
 clear hin h0 h1;obtain⟨TC,hTC⟩:∃B:Bool,(decide (x3<0)&&(Be x3==n1))=B:=⟨_,rfl⟩;have HTC:Hid (∀W,Kw 264 #[.int .i64 x3,.int .i64 n1] W (.bool TC)):=fun W=>by have:=Ih x3 n1 hxc.1 hxc.2 W;rw[hTC]at this;exact this
 obtain⟨ND,hND⟩:∃B:Bool,(Be x4==n1)=B:=⟨_,rfl⟩;have HND:Hid (∀W,Kw 265 #[.int .i64 x4,.int .i64 n1] W (.bool ND)):=fun W=>by have:=K7 x4 n1 hxd.1 hxd.2 W;rw[hND]at this;exact this
 obtain⟨TD,hTD⟩:∃B:Bool,(decide (x4<0)&&(Be x4==n1))=B:=⟨_,rfl⟩;have HTD:Hid (∀W,Kw 264 #[.int .i64 x4,.int .i64 n1] W (.bool TD)):=fun W=>by have:=Ih x4 n1 hxd.1 hxd.2 W;rw[hTD]at this;exact this
 obtain⟨NC,hNC⟩:∃B:Bool,(Be x3==n1)=B:=⟨_,rfl⟩;have HNC:Hid (∀W,Kw 265 #[.int .i64 x3,.int .i64 n1] W (.bool NC)):=fun W=>by have:=K7 x3 n1 hxc.1 hxc.2 W;rw[hNC]at this;exact this
 rw[hTC,hTD,hND,hNC];clear hTC hND hTD hNC;(try unfold Kw);go_in;go_wp2_with fail;go_cut [4,5] from 6 (fun v4 v5 wx=>∃b4 b5:Nat,v4=.pointer (some ⟨b4,0,none⟩)/\v5=.pointer (some ⟨b5,0,none⟩)/\Hid (Gf w wx b4 b5 #[.slice (some ⟨b,off,none⟩) z ic,.slice co m cc,.int .i64 c] #[.int .i64 n0,.int .i64 n1,.int .i64 n2,.int .i64 n3,.int .i64 n4] #[.int .i64 x0,.int .i64 x1,.int .i64 x2,.int .i64 x3,.int .i64 x4]));case first=>
  go_region_held3 (fun w'=>w'.cell? ⟨w.heap.size,0,none⟩=some (.slice (some ⟨b,off,none⟩) z ic)/\w'.cell? ⟨b,off,none⟩=some (.int .i64 n0)/\w'.cell? ⟨b,off+1,none⟩=some (.int .i64 n1)/\w'.cell? ⟨b,off+2,none⟩=some (.int .i64 n2)/\w'.cell? ⟨b,off+3,none⟩=some (.int .i64 n3)/\w'.cell? ⟨b,off+4,none⟩=some (.int .i64 n4)/\w'.cell? ⟨b,off+5,none⟩=some (.int .i64 x0)/\w'.cell? ⟨b,off+5+1,none⟩=some (.int .i64 x1)/\w'.cell? ⟨b,off+5+2,none⟩=some (.int .i64 x2)/\w'.cell? ⟨b,off+5+3,none⟩=some (.int .i64 x3)/\w'.cell? ⟨b,off+5+4,none⟩=some (.int .i64 x4)) (go_keep) (fail);all_goals (go_wp2_with fail)
  all_goals go_meet
  case rel=>exact⟨_,_,rfl,rfl,(Gf.one _ _ _ _).drew⟩
  case rel=>exact⟨_,_,rfl,rfl,(Gf.other _ _ _ _).drew⟩
 case rest=>
  obtain⟨b4,b5,rfl,rfl,HT⟩:=hcut;have T1:=HT.out;have n_:=T1.n.cell;have x_:=T1.x.cell;have na:=fun o=>(T1.n.alloc o).cell;have xa:=fun o=>(T1.x.alloc o).cell;clear q0 q1 q2 q3 q4 r0 r1 r2 r3 r4;have hrl:=T1.r.lt;go_wp2_with fail;cases TC
  ·refine(HTC.out _).mono ?_;rintro e w1 ⟨rfl,hw1⟩;have N1:=(T1.n.alloc _).l hw1;have X1:=(T1.x.alloc _).l hw1;have R1:=(T1.r.alloc _).l hw1;have Q1:=(Blk.new wc #[.int .i64 44,.int .i64 x1,.int .i64 x2,.int .i64 0,.int .i64 n2,.int .i64 0,.int .i64 n1] 161).l hw1;have B1:=(T1.below.alloc T1.below.size _).trans (hw1.mono (T1.below.alloc T1.below.size _).size);clear hw1;have nc1:=N1.cell;have xc1:=X1.cell;have rc1:=R1.cell;have qc1:=Q1.cell;have rf1:=R1.frozen;have qf1:=Q1.frozen;go_wp2_with fail;cases TD
   ·refine(HTD.out _).mono ?_;rintro e w2 ⟨rfl,hw2⟩;have N2:=N1.l hw2;have X2:=X1.l hw2;have R2:=R1.l hw2;have Q2:=Q1.l hw2;have B2:=B1.trans (hw2.mono B1.size);clear hw2;have nc2:=N2.cell;have xc2:=X2.cell;have rc2:=R2.cell;have qc2:=Q2.cell;have rf2:=R2.frozen;have qf2:=Q2.frozen;clear nc1 xc1 rc1 qc1 rf1 qf1;go_wp2_with fail;refine bodyPost_ret (v:=.tuple #[.agg #[.int .i64 0,.int .i64 0,.int .i64 0,.int .i64 0,.int .i64 0,.int .i64 0,.int .i64 0],.bool false]) ?_ rfl ⟨?_,?_⟩
    ·simp[results,results198,go_sem,rc2]
    ·simp[Hd,Qd.val]
    ·iterate 7 (refine yP ?_ (by first|(show w.heap.size<=w.heap.size+1;omega)|exact T1.below.size) _)
     exact B2
   ·cases NC
    ·refine(HTD.out _).mono ?_;rintro e w2 ⟨rfl,hw2⟩;have N2:=N1.l hw2;have X2:=X1.l hw2;have R2:=R1.l hw2;have Q2:=Q1.l hw2;have B2:=B1.trans (hw2.mono B1.size);clear hw2;have nc2:=N2.cell;have xc2:=X2.cell;have rc2:=R2.cell;have qc2:=Q2.cell;have rf2:=R2.frozen;have qf2:=Q2.frozen;clear nc1 xc1 rc1 qc1 rf1 qf1;go_wp2_with fail;refine(HNC.out _).mono ?_;rintro e w3 ⟨rfl,hw3⟩;have N3:=N2.l hw3;have X3:=X2.l hw3;have R3:=R2.l hw3;have Q3:=Q2.l hw3;have B3:=B2.trans (hw3.mono B2.size);clear hw3;have nc3:=N3.cell;have xc3:=X3.cell;have rc3:=R3.cell;have qc3:=Q3.cell;have rf3:=R3.frozen;have qf3:=Q3.frozen;clear nc2 xc2 rc2 qc2 rf2 qf2;go_wp2_with fail;refine bodyPost_ret (v:=.tuple #[.agg #[.int .i64 44,.int .i64 x1,.int .i64 x2,.int .i64 x3,.int .i64 n2,.int .i64 0,.int .i64 n1],.bool true]) ?_ rfl ⟨?_,?_⟩
     ·simp[results,results198,go_sem,rc3]
     ·simp[Hd,Qd.val]
     ·iterate 8 (refine yP ?_ (by first|(show w.heap.size<=w.heap.size+1;omega)|exact T1.below.size) _)
      exact B3
    ·refine(HTD.out _).mono ?_;rintro e w2 ⟨rfl,hw2⟩;have N2:=N1.l hw2;have X2:=X1.l hw2;have R2:=R1.l hw2;have Q2:=Q1.l hw2;have B2:=B1.trans (hw2.mono B1.size);clear hw2;have nc2:=N2.cell;have xc2:=X2.cell;have rc2:=R2.cell;have qc2:=Q2.cell;have rf2:=R2.frozen;have qf2:=Q2.frozen;clear nc1 xc1 rc1 qc1 rf1 qf1;go_wp2_with fail;refine(HNC.out _).mono ?_;rintro e w3 ⟨rfl,hw3⟩;have N3:=N2.l hw3;have X3:=X2.l hw3;have R3:=R2.l hw3;have Q3:=Q2.l hw3;have B3:=B2.trans (hw3.mono B2.size);clear hw3;have nc3:=N3.cell;have xc3:=X3.cell;have rc3:=R3.cell;have qc3:=Q3.cell;have rf3:=R3.frozen;have qf3:=Q3.frozen;clear nc2 xc2 rc2 qc2 rf2 qf2;go_wp2_with fail;refine bodyPost_ret (v:=.tuple #[.agg #[.int .i64 0,.int .i64 0,.int .i64 0,.int .i64 0,.int .i64 0,.int .i64 0,.int .i64 0],.bool false]) ?_ rfl ⟨?_,?_⟩
     ·simp[results,results198,go_sem,rc3]
     ·simp[Hd,Qd.val]
     ·iterate 7 (refine yP ?_ (by first|(show w.heap.size<=w.heap.size+1;omega)|exact T1.below.size) _)
      exact B3
  ·refine(HTC.out _).mono ?_;rintro e w1 ⟨rfl,hw1⟩;have N1:=(T1.n.alloc _).l hw1;have X1:=(T1.x.alloc _).l hw1;have R1:=(T1.r.alloc _).l hw1;have Q1:=(Blk.new wc #[.int .i64 44,.int .i64 x1,.int .i64 x2,.int .i64 0,.int .i64 n2,.int .i64 0,.int .i64 n1] 161).l hw1;have B1:=(T1.below.alloc T1.below.size _).trans (hw1.mono (T1.below.alloc T1.below.size _).size);clear hw1;have nc1:=N1.cell;have xc1:=X1.cell;have rc1:=R1.cell;have qc1:=Q1.cell;have rf1:=R1.frozen;have qf1:=Q1.frozen;go_wp2_with fail;cases ND
   ·refine(HND.out _).mono ?_;rintro e w2 ⟨rfl,hw2⟩;have N2:=N1.l hw2;have X2:=X1.l hw2;have R2:=R1.l hw2;have Q2:=Q1.l hw2;have B2:=B1.trans (hw2.mono B1.size);clear hw2;have nc2:=N2.cell;have xc2:=X2.cell;have rc2:=R2.cell;have qc2:=Q2.cell;have rf2:=R2.frozen;have qf2:=Q2.frozen;clear nc1 xc1 rc1 qc1 rf1 qf1;go_wp2_with fail;refine bodyPost_ret (v:=.tuple #[.agg #[.int .i64 44,.int .i64 x1,.int .i64 x2,.int .i64 x4,.int .i64 n2,.int .i64 1,.int .i64 n1],.bool true]) ?_ rfl ⟨?_,?_⟩
    ·simp[results,results198,go_sem,rc2]
    ·simp[Hd,Qd.val]
    ·iterate 9 (refine yP ?_ (by first|(show w.heap.size<=w.heap.size+1;omega)|exact T1.below.size) _)
     exact B2
   ·refine(HND.out _).mono ?_;rintro e w2 ⟨rfl,hw2⟩;have N2:=N1.l hw2;have X2:=X1.l hw2;have R2:=R1.l hw2;have Q2:=Q1.l hw2;have B2:=B1.trans (hw2.mono B1.size);clear hw2;have nc2:=N2.cell;have xc2:=X2.cell;have rc2:=R2.cell;have qc2:=Q2.cell;have rf2:=R2.frozen;have qf2:=Q2.frozen;clear nc1 xc1 rc1 qc1 rf1 qf1;go_wp2_with fail;cases TD
    ·refine(HTD.out _).mono ?_;rintro e w3 ⟨rfl,hw3⟩;have N3:=N2.l hw3;have X3:=X2.l hw3;have R3:=R2.l hw3;have Q3:=Q2.l hw3;have B3:=B2.trans (hw3.mono B2.size);clear hw3;have nc3:=N3.cell;have xc3:=X3.cell;have rc3:=R3.cell;have qc3:=Q3.cell;have rf3:=R3.frozen;have qf3:=Q3.frozen;clear nc2 xc2 rc2 qc2 rf2 qf2;go_wp2_with fail;refine bodyPost_ret (v:=.tuple #[.agg #[.int .i64 0,.int .i64 0,.int .i64 0,.int .i64 0,.int .i64 0,.int .i64 0,.int .i64 0],.bool false]) ?_ rfl ⟨?_,?_⟩
     ·simp[results,results198,go_sem,rc3]
     ·simp[Hd,Qd.val]
     ·iterate 7 (refine yP ?_ (by first|(show w.heap.size<=w.heap.size+1;omega)|exact T1.below.size) _)
      exact B3
    ·cases NC
     ·refine(HTD.out _).mono ?_;rintro e w3 ⟨rfl,hw3⟩;have N3:=N2.l hw3;have X3:=X2.l hw3;have R3:=R2.l hw3;have Q3:=Q2.l hw3;have B3:=B2.trans (hw3.mono B2.size);clear hw3;have nc3:=N3.cell;have xc3:=X3.cell;have rc3:=R3.cell;have qc3:=Q3.cell;have rf3:=R3.frozen;have qf3:=Q3.frozen;clear nc2 xc2 rc2 qc2 rf2 qf2;go_wp2_with fail;refine(HNC.out _).mono ?_;rintro e w4 ⟨rfl,hw4⟩;have N4:=N3.l hw4;have X4:=X3.l hw4;have R4:=R3.l hw4;have Q4:=Q3.l hw4;have B4:=B3.trans (hw4.mono B3.size);clear hw4;have nc4:=N4.cell;have xc4:=X4.cell;have rc4:=R4.cell;have qc4:=Q4.cell;have rf4:=R4.frozen;have qf4:=Q4.frozen;clear nc3 xc3 rc3 qc3 rf3 qf3;go_wp2_with fail;refine bodyPost_ret (v:=.tuple #[.agg #[.int .i64 44,.int .i64 x1,.int .i64 x2,.int .i64 x3,.int .i64 n2,.int .i64 0,.int .i64 n1],.bool true]) ?_ rfl ⟨?_,?_⟩
      ·simp[results,results198,go_sem,rc4]
      ·simp[Hd,Qd.val]
      ·iterate 8 (refine yP ?_ (by first|(show w.heap.size<=w.heap.size+1;omega)|exact T1.below.size) _)
       exact B4
     ·refine(HTD.out _).mono ?_;rintro e w3 ⟨rfl,hw3⟩;have N3:=N2.l hw3;have X3:=X2.l hw3;have R3:=R2.l hw3;have Q3:=Q2.l hw3;have B3:=B2.trans (hw3.mono B2.size);clear hw3;have nc3:=N3.cell;have xc3:=X3.cell;have rc3:=R3.cell;have qc3:=Q3.cell;have rf3:=R3.frozen;have qf3:=Q3.frozen;clear nc2 xc2 rc2 qc2 rf2 qf2;go_wp2_with fail;refine(HNC.out _).mono ?_;rintro e w4 ⟨rfl,hw4⟩;have N4:=N3.l hw4;have X4:=X3.l hw4;have R4:=R3.l hw4;have Q4:=Q3.l hw4;have B4:=B3.trans (hw4.mono B3.size);clear hw4;have nc4:=N4.cell;have xc4:=X4.cell;have rc4:=R4.cell;have qc4:=Q4.cell;have rf4:=R4.frozen;have qf4:=Q4.frozen;clear nc3 xc3 rc3 qc3 rf3 qf3;go_wp2_with fail;refine bodyPost_ret (v:=.tuple #[.agg #[.int .i64 0,.int .i64 0,.int .i64 0,.int .i64 0,.int .i64 0,.int .i64 0,.int .i64 0],.bool false]) ?_ rfl ⟨?_,?_⟩
      ·simp[results,results198,go_sem,rc4]
      ·simp[Hd,Qd.val]
      ·iterate 7 (refine yP ?_ (by first|(show w.heap.size<=w.heap.size+1;omega)|exact T1.below.size) _)
       exact B4
def upB (p:Pd) (u:Ud):Bool:=if u.loc then inR u.idx 0 (p.regs-1) else inR u.idx 0 (p.ups.length-1)
def Nw (p:Pd) (us:List Ud):Bool:=us.all (upB p)
theorem A4v (h:l[k]?=some u):Nw p (l.drop k)=(upB p u&&Nw p (l.drop (k+1))):=by rw[Bg h];rfl
theorem A1w (p:Pd) (h:Ph) (ao:Option Addr) (cap:Nat) (us:List Ud) (w:World) (hm:us.length<=1048576) (hz:Ny p) (hr:0<=p.regs/\p.regs<=250) (hu:Lx 0 w ao us) :
  Kw 313 #[.agg (p.cells h),.slice ao us.length cap] w (.bool (Nw p us)):=by
 have hb1:∀o,Below w.heap.size w (w.alloc o):=fun o=>(yA _ _).alloc (yB _) o;obtain⟨hr1,hr2⟩:=hr;have z1:=hz.ups;have X0:=Blk.new w (p.cells h) 63;unfold Pd.cells at *;(try unfold Kw);go_in;go_wp2;go_loopw [10] (fun y wr=>∃k:Nat,k<=us.length/\y=.int .i64 k/\Hid (Nw p (us.drop k)=Nw p us)/\Below w.heap.size w wr/\Blk wr w.heap.size #[.string p.name,.int .i64 p.line,.int .i64 p.params,.bool p.rest,.int .i64 p.regs,.slice h.uo p.ups.length h.uc,.slice h.co p.consts.length h.cc,.slice h.io p.ins.length h.ic,.slice h.no p.named.length h.nc] 63) (fun y _=>us.length-(intOf y).toNat);case atStart=>exact⟨0,yE _,rfl,rfl,hb1 _,X0⟩
 case round=>
  obtain⟨k,hk,rfl,HQ,hb,X1⟩:=hrel;clear X0;by_cases hkl:k<us.length
  ·obtain⟨u,huk⟩:=Ah hkl;obtain⟨b,off,rfl,_,hbl,q0,q1⟩:=hu.l (Ad.o hb) k u huk;have HD:Hid (Nw p us=(upB p u&&Nw p (us.drop (k+1)))):=HQ.out.symm.trans (A4v huk);have HU:Hid (upB p u=if u.loc then inR u.idx 0 (p.regs-1) else inR u.idx 0 (p.ups.length-1)):=rfl;have hba:∀o,Below w.heap.size w (wr.alloc o):=fun o=>hb.alloc hb.size o;have XA:Hid (∀o,Blk (wr.alloc o) w.heap.size #[.string p.name,.int .i64 p.line,.int .i64 p.params,.bool p.rest,.int .i64 p.regs,.slice h.uo p.ups.length h.uc,.slice h.co p.consts.length h.cc,.slice h.io p.ins.length h.ic,.slice h.no p.named.length h.nc] 63):=fun o=>X1.alloc o;have x1:=fun o=>(X1.alloc o).cell;obtain⟨l,x⟩:=u;dsimp only at *;clear hu HQ huk;cases l
   ·go_wp2_with (go_at_call 30;refine(Bn _ _ _ _).mono ?_;rintro e w' ⟨rfl,rfl⟩)
    ·go_ret;exact⟨Ac (by rw[HD.out,HU.out];simp_all),hba _⟩
    ·go_roundw;case rel=>exact⟨k+1,by omega,by go_num,by show _=_;rw[HD.out,HU.out];simp_all,hba _,XA.out _⟩
     case measure=>simp[intOf];omega
   ·go_wp2_with (go_at_call 30;refine(Bn _ _ _ _).mono ?_;rintro e w' ⟨rfl,rfl⟩)
    ·go_ret;exact⟨Ac (by rw[HD.out,HU.out];simp_all),hba _⟩
    ·go_roundw;case rel=>exact⟨k+1,by omega,by go_num,by show _=_;rw[HD.out,HU.out];simp_all,hba _,XA.out _⟩
     case measure=>simp[intOf];omega
  ·go_wp2;go_ret;have h1:=HQ.out;rw[yQ (by omega)]at h1;exact⟨Ac h1,hb⟩
def Ci (m:List Bool):Array Value:=(m.map Value.bool).toArray
theorem Ew (m:List Bool) (i:Nat) (b:Bool):(Ci m).setIfInBounds i (.bool b)=Ci (m.set i b):=by unfold Ci;rw[yC,List.map_set]
theorem Cs (h:i<m.length):(Ci m)[i]?=some (.bool (m.getD i false)):=by unfold Ci;simp[h]
def Db (v:Bool):List Bool->Nat->Int
 | [],_=>-1
 | b::r,k=>if b=v then k else Db v r (k+1)
theorem Su {l:List Bool} (h:k<l.length):Db v (l.drop k) k=if l.getD k false=v then (k:Int) else Db v (l.drop (k+1)) (k+1):=by rw[List.drop_eq_getElem_cons h,Db];simp[h]
theorem Sw (g c:Nat) (m:List Bool) (v:Bool) (w:World) (hm:m.length<=1048576) (hB:Blk w g (Ci m) 4) :
  Kw 314 #[.slice (some ⟨g,0,none⟩) m.length c,.bool v] w (.int .i64 (Db v m 0)):=by
 (try unfold Kw);go_in;go_wp2;go_loop [8] (fun y=>∃k:Nat,k<=m.length/\y=.int .i64 k/\Hid (Db v (m.drop k) k=Db v m 0)) (fun y=>m.length-(intOf y).toNat);case atStart=>exact⟨0,yE _,rfl,rfl⟩
 case round=>
  obtain⟨k,hk,rfl,HQ⟩:=hrel;by_cases hkl:k<m.length
  ·have HD:Hid (Db v m 0=if m.getD k false=v then (k:Int) else Db v (m.drop (k+1)) (k+1)):=HQ.out.symm.trans (Su hkl);have c1:=(hB.cell k).trans (Cs hkl);generalize m.getD k false=x at *;clear hB HQ;by_cases hx:x=v
   ·subst hx;go_wp2;go_ret;exact⟨Cr (by rw[HD.out];simp),yA _ _⟩
   ·have hx':(v==x)=false:=by cases x<;>cases v<;>simp_all
    have HX:Hid (¬x=v):=hx;clear hx;go_wp2;go_round;case rel=>exact⟨k+1,by omega,by go_num,by show _=_;rw[HD.out,if_neg HX.out]⟩
    case measure=>simp[intOf];omega
  ·go_wp2;go_ret;have h1:=HQ.out;rw[yQ (by omega)]at h1;exact⟨Cr h1,yA _ _⟩
def Mx (ps:List Pd) (pi:Nat) (p:Pd) (m:List Bool) (n:Nd):Bool:=
 decide (n.b<=pi)||(m.getD n.b.toNat false||!Nw p ((ps[n.b.toNat]?.map Pd.ups).getD []))
def Ex (ps:List Pd) (pi:Nat) (p:Pd):Nat->List Nd->List Bool->Option Nat×List Bool
 | _,[],m=>(none,m)
 | k,n::r,m=>if n.op==11 then (if Mx ps pi p m n then (some k,m) else Ex ps pi p (k+1) r (m.set n.b.toNat true)) else Ex ps pi p (k+1) r m
theorem A19 {l:List Nd} (h:l[k]?=some n) (m:List Bool) :
  Ex ps pi p k (l.drop k) m=if n.op==11 then (if Mx ps pi p m n then (some k,m) else Ex ps pi p (k+1) (l.drop (k+1)) (m.set n.b.toNat true)) else Ex ps pi p (k+1) (l.drop (k+1)) m:=by
 rw[Bg h];rfl
def Ie (ps:List Pd):Nat->List Pd->List Bool->Option (Nat×Nat)×List Bool
 | _,[],m=>(none,m)
 | pi,p::r,m=>match Ex ps pi p 0 p.ins m with
  | (some k,m')=>(some (pi,k),m')
  | (none,m')=>Ie ps (pi+1) r m'
theorem A18{l:List Pd} (h:l[k]?=some p) (m:List Bool) :
  Ie ps k (l.drop k) m=match Ex ps k p 0 p.ins m with
  | (some j,m')=>(some (k,j),m')
  | (none,m')=>Ie ps (k+1) (l.drop (k+1)) m':=by
 rw[Bg h];rfl
end Go.Proofs.YtbefeflgjipfhaaGreatDoor
