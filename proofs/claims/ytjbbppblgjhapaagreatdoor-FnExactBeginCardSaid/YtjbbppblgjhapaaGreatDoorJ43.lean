import Derived.Test.YtjbbppblgjhapaaGreatDoorJ41
import Derived.Test.YtjbbppblgjhapaaGreatDoorJ42
set_option maxRecDepth 100000
set_option maxHeartbeats 8000000
namespace Go.Proofs.YtjbbppblgjhapaaGreatDoor
open Go.Deep Go.Proofs.Tryz Go.RowKit
attribute [local go_sem] Ac
theorem Ve:(prog.info? 217).map (fun i=>(i.zero,i.size,i.bytes))=some (some (.agg #[(),()]),2,16):=by kernel_rfl
def Ab0 (po:Option Addr) (np pc:Nat) (qo:Option Addr) (qn qc cn:Nat) (a1:Option Addr) (n1 c1:Nat) (a2:Option Addr) (n2 c2:Nat) (ti de ce pace stop:Int) (bc:Nat):Array Value:=#[.slice po np pc,.slice qo qn qc,.int .i64 (cn:Int),.slice a1 n1 c1,.slice a2 n2 c2,.int .i64 ti,.int .i64 de,.int .i64 ce,.int .i64 pace,.int .i64 0,.int .i64 0,.int .i64 0,.int .i64 0,.slice none 0 0,.slice (some ⟨bc,0,none⟩) cn cn,.int .i64 0,.int .i64 0,.slice none 0 0,.int .i64 0,.slice none 0 0,.bool false,.int .i64 0,.slice none 0 0,.string ByteArray.empty,.bool false,.int .i64 0,.int .i64 0,.int .i64 0,.int .i64 0,.int .i64 0,.slice none 0 0,.slice none 0 0,.string ByteArray.empty,.string ByteArray.empty,.int .i64 0,.int .i64 0,.int .i64 stop,.bool false,.int .i64 0,.slice none 0 0]
theorem Ki {α:Type} {K:α->World->Prop} {a:α} {w:World} {S:World->Prop} (hs:S w) (h:∀W,S W->K a W):K a w:=h w hs
theorem A8d {L:List Nat} {w w' w'':World} (h:Below w w w') (hc:Chg L w' w'') (hl:∀b∈L,(w:Nat)<=b):Below w w w'':=
 {os:=hc.os.trans h.os,tape:=hc.tape.trans h.tape,output:=hc.output.trans h.output,size:=yI h.size hc.size,block:=fun b hb=>(hc.block b (fun e=>by have:=hl b e;omega) (yF hb h.size)).trans (h.block b hb)}
structure A9x (w W:World) (bm bc cn:Nat) (cs:Array Value) (inp:Array Value):Prop where
 below:Below w w W
 mach:Blk W bm cs 201
 cach:Blk W bc (madeCells #[(),()] (cn*2)) 217
 inp:Blk W ((w:Nat)+1) inp 60
 lo:(w:Nat)<=bc/\bc<bm
theorem A9x.l {w W W':World} {bm bc cn:Nat} {cs inp:Array Value} (h:A9x w W bm bc cn cs inp) (hb:Below W W W'):A9x w W' bm bc cn cs inp:=⟨h.below.trans (hb.mono h.below.size),h.mach.l hb,h.cach.l hb,h.inp.l hb,h.lo⟩
def A4v (w:World) (a1:Option Addr) (vs:List Vd):Prop:=∀j u,vs[j]?=some u->∃b off s,a1=some ⟨b,off,none⟩/\b<(w:Nat)/\w.cell? ⟨b,off+j,none⟩=some (.string s)/\u=⟨4,0,0,s,0⟩
theorem eltT:Elt 194 220 (.agg #[(),(),(),.float .f64 0,ByteArray.empty,(),nS,(),false,nS]) 10 120:=⟨underlying194,by kernel_rfl,rfl,by decide⟩
abbrev Rj (fv:Value):List Value:=[(2:Int),(),(),.float .f64 0,ByteArray.empty,(),fv,(-1:Int),false,nS]
theorem Z6 {w:World} {base cap:Nat} {ao:Option Addr} {vs:List Vd} (h:w.ownsRow base 210 5 (.slice ao vs.length cap) vs.length (vs.flatMap Vd.vals)):Ba base w ao vs/\vs.length<=cap:=by
 rcases Br h with ⟨e,h0,_⟩|⟨g,c,e,h1,h2,h3,h4⟩
 ·have:vs=[]:=List.eq_nil_of_length_eq_zero h0;subst this;exact⟨fun i x hx=>by simp at hx,yE _⟩
 ·injection e with e1 _ e3;subst e1 e3;exact⟨Nw h4 h1 (fun _=>h2.lt),by omega⟩
theorem Ba.chg {lo:Nat} {L:List Nat} {w w':World} {ao:Option Addr} {vs:List Vd} (h:Ba lo w ao vs) (hc:Chg L w w') (hl:∀b∈L,b<lo):Ba lo w' ao vs:=by
 intro i u hu;obtain⟨b,off,e,h1,h2,p0,p1,p2,p3,p4⟩:=h i u hu;have hb:b∉L:=fun hm=>by have:=hl b hm;omega
 exact⟨b,off,e,h1,yF h2 hc.size,hc.cell hb p0,hc.cell hb p1,hc.cell hb p2,hc.cell hb p3,hc.cell hb p4⟩
theorem Ac9 {i:Nat} {v f f':Value} (h:(Rj f')[i]?=some v) (hi:i≠6):(Rj f)[i]?=some v:=by
 match i,h with
 | 0,h|1,h|2,h|3,h|4,h|5,h|7,h|8,h|9,h=>exact h
 | 6,_=>exact absurd rfl hi
 | _+10,h=>simp at h
theorem A3e (pb pof np pc:Nat) (a1 a2:Option Addr) (c1 n2 c2:Nat) (ti de ce pace stop:Int) (cn qn n m:Nat) (re:Bool) (vs:List Vd) (nm:ByteArray) (ln:Int) (u0 k0 i0_ n0:Option Addr) (u1 u2 k1 k2 i1 i2 m1 m2:Nat) (w:World) (hcn:cn<=1048576) (has:vs.length<=1048576) (hnp:0<np) (hn:n<=250) (hmn:m<=n) (hre:re=true->m<n) (hpb:pb<(w:Nat))
  (HP0:Hid (w.rangeAt pb pof [nm,ln,(m:Int),.bool re,(n:Int),.slice u0 u1 u2,.slice k0 k1 k2,.slice i0_ i1 i2,.slice n0 m1 m2])) (HA:Hid (A4v w a1 vs))
  (HPR:Hid (∀W,Below w w W->Calls prog 39 #[.agg #[.slice (some ⟨pb,pof,none⟩) np pc]] W fun e w'=>∃qo qc,e=.returned (.agg #[.slice qo qn qc,(cn:Int)])/\Below W.heap.size W w')) :
  Calls prog 56 #[.agg #[.slice (some ⟨pb,pof,none⟩) np pc],.agg #[.slice a1 vs.length c1,.slice a2 n2 c2,ti,de,ce],pace,stop] w fun e w'=>∃bm bc bt tc bi ic ro rc qo qc,e=.returned (.pointer (some ⟨bm,0,none⟩))/\(w:Nat)<=bm/\bm<w'.heap.size/\(w:Nat)<=bt/\bt<w'.heap.size/\(w:Nat)<=bi/\bi<w'.heap.size/\(w:Nat)<=bc/\
   (∀i,i≠17->w'.cell? ⟨bm,i,none⟩=(Ab0 (some ⟨pb,pof,none⟩) np pc qo qn qc cn a1 vs.length c1 a2 n2 c2 ti de ce pace stop bc)[i]?)/\w'.cell? (bm,17)=some (.slice bt 1 tc)/\Blk w' bc (madeCells #[(),()] (cn*2)) 217/\
   Ae w' bt 0 (Rj (.slice bi 1 ic))/\Ae w' bi 0 (Gi ro n rc)/\Bp (w:Nat) w' ro ((List.range n).map (Fw m re vs))/\Below w w w':=by
 have hmk:=Bj (P:=prog) 49 217 _ 2 16 underlying49 Ve .i64 .i64 cn (by omega) (by omega);have X0:=(Blk.new w #[.slice (some ⟨pb,pof,none⟩) np pc] 31).alloc (.cells #[.slice a1 vs.length c1,.slice a2 n2 c2,ti,de,ce] 60);have Y0:=Blk.nh (W:=w.alloc (.cells #[.slice (some ⟨pb,pof,none⟩) np pc] 31)) (n:=(w:Nat)+1) #[.slice a1 vs.length c1,.slice a2 n2 c2,ti,de,ce] 60 (by simp);have B0:Below w w ((w.alloc (.cells #[.slice (some ⟨pb,pof,none⟩) np pc] 31)).alloc (.cells #[.slice a1 vs.length c1,.slice a2 n2 c2,ti,de,ce] 60)):=((yA _ _).alloc (yB _) _).alloc (by simp) _;go_in;have x0:=X0.cell;have y0:=Y0.cell;go_wp2_with fail;refine(HPR.out _ B0).mono ?_;rintro e w1 ⟨qo,qc,rfl,hw1⟩;have X1:=(X0.l hw1).alloc (.cells #[.slice qo qn qc,(cn:Int)] 38);have Y1:=(Y0.l hw1).alloc (.cells #[.slice qo qn qc,(cn:Int)] 38);have Q1:=Blk.new w1 #[.slice qo qn qc,(cn:Int)] 38;have B1:=(B0.trans (hw1.mono B0.size)).alloc (yI B0.size hw1.size) (.cells #[.slice qo qn qc,(cn:Int)] 38);clear X0 Y0 x0 y0 hw1 B0;have x1:=X1.cell;have y1:=Y1.cell;have q1:=Q1.cell;go_wp2_with fail;have HW:Hid (∀W,Below (w1.alloc (.cells #[.slice qo qn qc,(cn:Int)] 38)).heap.size (w1.alloc (.cells #[.slice qo qn qc,(cn:Int)] 38)) W->(∀o,W.cell? ⟨(w:Nat),o,none⟩=(#[.slice (some ⟨pb,pof,none⟩) np pc]:Array Value)[o]?)/\(∀o,W.cell? ⟨(w:Nat)+1,o,none⟩=(#[.slice a1 vs.length c1,.slice a2 n2 c2,ti,de,ce]:Array Value)[o]?)/\(∀o,W.cell? ⟨(w1:Nat),o,none⟩=(#[.slice qo qn qc,(cn:Int)]:Array Value)[o]?)):=fun W hb=>⟨(X1.l hb).cell,(Y1.l hb).cell,(Q1.l hb).cell⟩;have D1:Below (w1.alloc (.cells #[.slice qo qn qc,(cn:Int)] 38)).heap.size (w1.alloc (.cells #[.slice qo qn qc,(cn:Int)] 38)) (w1.alloc (.cells #[.slice qo qn qc,(cn:Int)] 38)).drew:=(yA _ _).drew;refine rgN (fun W=>(∀o,W.cell? ⟨(w:Nat),o,none⟩=(#[.slice (some ⟨pb,pof,none⟩) np pc]:Array Value)[o]?)/\(∀o,W.cell? ⟨(w:Nat)+1,o,none⟩=(#[.slice a1 vs.length c1,.slice a2 n2 c2,ti,de,ce]:Array Value)[o]?)/\(∀o,W.cell? ⟨(w1:Nat),o,none⟩=(#[.slice qo qn qc,(cn:Int)]:Array Value)[o]?)) (HW.out _ D1) (fun hS=>?_);repeat (refine tkF (by kernel_rfl) (by rfl) hS ⟨?_,fun W hW=>?_,?_⟩;rotate_left;(focus (obtain⟨s0,s1,s2⟩:=hW;go_simp;with_reducible rfl));try simp only[Act.put,yC,yJ,yK])
 refine doN (by kernel_rfl) (by rfl) (fun K hK=>?_);clear x1 y1 q1;go_wp2_with fail;have D2:=D1.alloc D1.size (.cells (madeCells #[(),()] (cn*2)) 217);refine hK.out _ _ (HW.out _ D2) (fun hS=>?_);clear hK K;repeat (refine tkF (by kernel_rfl) (by rfl) hS ⟨?_,fun W hW=>?_,?_⟩;rotate_left;(focus (obtain⟨s0,s1,s2⟩:=hW;go_simp;with_reducible rfl));try simp only[Act.put,yC,yJ,yK])
 refine doN (by kernel_rfl) (by rfl) (fun K hK=>?_);go_wp2_with fail;have D3:Below (w1.alloc (.cells #[.slice qo qn qc,.int .i64 (cn:Int)] 38)).heap.size (w1.alloc (.cells #[.slice qo qn qc,.int .i64 (cn:Int)] 38)) ((((w1.alloc (.cells #[.slice qo qn qc,.int .i64 (cn:Int)] 38)).alloc (.cells (madeCells #[.int .i64 0,.int .i64 0] (cn*2)) 217)).alloc (.cells #[.slice (some ⟨pb,pof,none⟩) np pc,.slice qo qn qc,.int .i64 (cn:Int),.slice a1 vs.length c1,.slice a2 n2 c2,.int .i64 ti,.int .i64 de,.int .i64 ce,.int .i64 pace,.int .i64 0,.int .i64 0,.int .i64 0,.int .i64 0,.slice none 0 0,.slice (some ⟨w1.heap.size+1,0,none⟩) cn cn,.int .i64 0,.int .i64 0,.slice none 0 0,.int .i64 0,.slice none 0 0,.bool false,.int .i64 0,.slice none 0 0,.string ByteArray.empty,.bool false,.int .i64 0,.int .i64 0,.int .i64 0,.int .i64 0,.int .i64 0,.slice none 0 0,.slice none 0 0,.string ByteArray.empty,.string ByteArray.empty,.int .i64 0,.int .i64 0,.int .i64 stop,.bool false,.int .i64 0,.slice none 0 0] 201)).drew):=(((yA _ _).alloc (yB _) _).alloc (by simp) _).drew;have HM:Hid (A9x w ((((w1.alloc (.cells #[.slice qo qn qc,.int .i64 (cn:Int)] 38)).alloc (.cells (madeCells #[.int .i64 0,.int .i64 0] (cn*2)) 217)).alloc (.cells #[.slice (some ⟨pb,pof,none⟩) np pc,.slice qo qn qc,.int .i64 (cn:Int),.slice a1 vs.length c1,.slice a2 n2 c2,.int .i64 ti,.int .i64 de,.int .i64 ce,.int .i64 pace,.int .i64 0,.int .i64 0,.int .i64 0,.int .i64 0,.slice none 0 0,.slice (some ⟨w1.heap.size+1,0,none⟩) cn cn,.int .i64 0,.int .i64 0,.slice none 0 0,.int .i64 0,.slice none 0 0,.bool false,.int .i64 0,.slice none 0 0,.string ByteArray.empty,.bool false,.int .i64 0,.int .i64 0,.int .i64 0,.int .i64 0,.int .i64 0,.slice none 0 0,.slice none 0 0,.string ByteArray.empty,.string ByteArray.empty,.int .i64 0,.int .i64 0,.int .i64 stop,.bool false,.int .i64 0,.slice none 0 0] 201)).drew) (w1.heap.size+1+1) (w1.heap.size+1) cn (Ab0 (some ⟨pb,pof,none⟩) np pc qo qn qc cn a1 vs.length c1 a2 n2 c2 ti de ce pace stop (w1.heap.size+1)) #[.slice a1 vs.length c1,.slice a2 n2 c2,.int .i64 ti,.int .i64 de,.int .i64 ce]):=⟨B1.trans (D3.mono B1.size),(Blk.nh (W:=(w1.alloc (.cells #[.slice qo qn qc,.int .i64 (cn:Int)] 38)).alloc (.cells (madeCells #[.int .i64 0,.int .i64 0] (cn*2)) 217)) (n:=w1.heap.size+1+1) (Ab0 (some ⟨pb,pof,none⟩) np pc qo qn qc cn a1 vs.length c1 a2 n2 c2 ti de ce pace stop (w1.heap.size+1)) 201 (by simp)).l (yA _ _).drew,((Blk.nh (W:=(w1.alloc (.cells #[.slice qo qn qc,.int .i64 (cn:Int)] 38))) (n:=w1.heap.size+1) _ 217 (by simp)).alloc _).l (yA _ _).drew,Y1.l D3,by have:=B1.size;simp at this;omega,by omega⟩;clear hS;refine hK.out _ _ (HW.out _ D3) (fun hS=>?_);clear hK K;repeat (refine tkF (by kernel_rfl) (by rfl) hS ⟨?_,fun W hW=>?_,?_⟩;rotate_left;(focus (obtain⟨s0,s1,s2⟩:=hW;go_simp;with_reducible rfl));try simp only[Act.put,yC,yJ,yK])
 refine enD (by kernel_rfl) (NoPanic.normal ?_);clear hS HW D1 D2 D3 HPR X1 Y1 Q1 B1 hmk;rename_i Kc hKc;refine Ki (K:=Kc) (S:=fun W=>Hid (A9x w W ((w1:Nat)+1+1) ((w1:Nat)+1) cn (Ab0 (some ⟨pb,pof,none⟩) np pc qo qn qc cn a1 vs.length c1 a2 n2 c2 ti de ce pace stop ((w1:Nat)+1)) #[.slice a1 vs.length c1,.slice a2 n2 c2,ti,de,ce])) HM (fun W HN=>hKc _ _ ?_);clear HM hKc Kc;have HM:=HN;clear HN;obtain⟨bm,ebm⟩:∃bm,Hid (bm=(w1:Nat)+1+1):=⟨_,rfl⟩;rw[←ebm.out]at HM ⊢;clear ebm;have y0:=HM.out.inp.cell;go_wp2_with fail;clear y0;go_loopw [11,29] (fun y x wr=>∃j:Nat,j<=vs.length/\x=j/\Hid (wr.ownsRow (W:Nat) 210 5 y j ((vs.take j).flatMap Vd.vals))/\Hid (Below W W wr)) (fun _ x _=>vs.length-(intOf x).toNat);case atStart=>exact⟨0,yE _,rfl,yU _ _ _ _,yA _ _⟩
 case round=>
  obtain⟨j,hj,rfl,HO,HB⟩:=hrel;by_cases hlt:j<vs.length
  ·obtain⟨u,huj⟩:=A8 hlt;have hb:=HB.out;obtain⟨b,off,s,rfl,hl,hc,rfl⟩:=HA.out j u huj;have HT:Hid _:=Nv huj;obtain⟨so,sc,rfl⟩:=Aa HO.out;have p0:wr.cell? (b,off+j)=some (.string s):=((HM.out.below.trans (hb.mono HM.out.below.size)).cell (p:=(b,off+j)) hl).trans hc;have hs:=hb.size;clear hc huj;go_wp2_with fail;refine(A8x s wr).mono ?_;rintro e w2 ⟨rfl,hw2⟩;have A1:Below wr wr (w2.alloc (.cells #[(4:Int),(),.float .f64 0,s,()] 210)):=hw2.alloc hw2.size _;have X1:=Blk.new w2 #[(4:Int),(),.float .f64 0,s,()] 210;have HB1:Hid (Below W W _):=hb.trans (A1.mono hb.size);have HO1:Hid _:=Ai HO.out A1;have HX:Hid (Ae _ (w2:Nat) 0 [(4:Int),(),.float .f64 0,s,()]):=fun i v hv=>by rw[yM,X1.cell];simpa using hv
   have hs1:=hw2.size;clear hb HO HB A1 X1 hw2;go_wp2_with (at_builtin;refine Ir A8n rfl _ _ rfl (W:Nat) _ j _ [(4:Int),(),.float .f64 0,s,()] (w2:Nat) rfl HO1.out rfl HX.out rfl ?qc1 ?qc2 (by decide) ?qc3 ?_);case qc1=>simp[Value.oneCell']
   case qc2=>omega
   case qc3=>simp;omega
   intro v' w3 ho3 hg3 _;have HB2:Hid (Below W W w3):=HB1.out.grown hg3 HB1.out.size (fun k hk=>(World.ownsRow.lt HO1.out k hk).1);have HO2:Hid (w3.ownsRow (W:Nat) 210 5 v' (j+1) ((vs.take (j+1)).flatMap Vd.vals)):=by show World.ownsRow _ _ _ _ _ _ _;rw[HT.out];exact ho3
   clear ho3 hg3 HT HB1 HO1 HX p0;go_wp2;go_roundw;case rel=>exact⟨j+1,by omega,by go_num,HO2.out,HB2.out⟩
   case measure=>simp[intOf];omega
  ·obtain rfl:j=vs.length:=by omega
   have HO1:Hid (wr.ownsRow (W:Nat) 210 5 u11 vs.length (vs.flatMap Vd.vals)):=by have:=HO.out;rwa [List.take_length]at this
   have hbW:=HM.out.mach.lt;have H1:Hid _:=HM.out.l HB.out;clear HO HB HM;have c17:wr.cell? (bm,17)=some (.slice none 0 0):=(H1.out.mach.cell 17).trans rfl;have A1:Below wr wr (wr.alloc (.cells (Rj nS).toArray 220)):=(yA _ _).alloc (yB _) _;have X1:=Blk.new wr (Rj nS).toArray 220;have HX:Hid (Ae _ (wr:Nat) 0 (Rj nS)):=fun i v hv=>by rw[yM,X1.cell];simpa using hv
   obtain⟨so,sc,rfl⟩:=Aa HO1.out;go_wp2_with (at_builtin;refine Ir eltT rfl _ _ rfl (wr:Nat) nS 0 [] (Rj nS) (wr:Nat) rfl (yU _ _ _ _) rfl HX.out rfl ?qc1 (by omega) (by decide) ?qc3 ?_);case qc1=>simp[Value.oneCell']
   case qc3=>simp
   intro v' w2 ho2 hg2 _;have B2:Below wr wr w2:=A1.grown hg2 A1.size (fun k hk=>by cases hk);obtain⟨g,k,rfl,hge,hog,_,hrow⟩:=(Br ho2).resolve_left (fun h=>absurd h.2.1 (by decide));have H2:Hid _:=H1.out.l B2;have hbm:=H1.out.mach.lt;have d17:w2.cell? (bm,17)=some (.slice none 0 0):=(H2.out.mach.cell 17).trans rfl;have fz:=H2.out.mach.frozen 17;have HV:Hid _:=Z6 (Ai HO1.out B2);have HROW:Hid _:=hrow;have HOG:Hid _:=hog;have hne:g≠bm:=by omega
   have B3:Below w w (w2.setCell (bm,17) (.slice g 1 k)):=H2.out.below.setCell (by have:=H2.out.lo;show (w:Nat)<=bm;omega) _;have HB3:Hid _:=B3;have G2:Chg [bm] w2 (w2.setCell (bm,17) (.slice g 1 k)):=(Chg.refl [bm] w2).set (yT.2 rfl) 17 _;have HG2:Hid _:=G2;have HOP:Hid (∀_:Unit,_):=fun _=>A69 bm pb pof g k (k*10) n m np pc re so sc vs nm ln u0 k0 i0_ n0 u1 u2 k1 k2 i1 i2 m1 m2 (w2.setCell ⟨bm,17,none⟩ (.slice (some ⟨g,0,none⟩) 1 k)) hnp hn hmn hre has HV.out.2 (by rw[A9 _ (by decide)];exact(H2.out.mach.cell 0).trans rfl) (fun i v hv=>(B3.cell (p:=⟨pb,pof+i,none⟩) hpb).trans (HP0.out i v hv)) (World.cell?_setCell_same _ _ _ d17) (by rw[A9 _ (by decide)];exact(H2.out.mach.cell 18).trans rfl) (G2.cell (by simp;exact hne) (by have h:=hrow 6 _ rfl;rwa [yM]at h)) (G2.own (by simp;exact hne) hog) ((HV.out.1.chg G2 (by simp;exact hbW)).w (yE _));clear hog hrow ho2 hg2 HX X1 A1 c17 HO1 B3 G2;go_wp2_with fail;refine(HOP.out ()).mono ?_;rintro e w4 ⟨bi,ic,ro,rc,rfl,hbi,hbi2,hcr,hregs,h6,hoth,hchg⟩;have HC:Hid _:=hcr;have HR:Hid _:=hregs;have H6:Hid _:=h6;have HT:Hid _:=hoth;have HG:Hid _:=hchg;clear hcr hregs h6 hoth hchg HOP d17 fz;go_wp2;go_ret;have hsz:(w2:Nat)<=(w4:Nat):=by have:=HG.out.size;simpa using this
   have hs2:=HB3.out.size;have hsw:(w:Nat)<=(w2:Nat):=by simpa using hs2
   have hlo:=H2.out.lo;have hg4:g<(w2:Nat):=Own.lt HOG.out;have hgw:(w:Nat)<=g:=yI H1.out.below.size hge;have hbm2:=H2.out.mach.lt;refine⟨bm,(w1:Nat)+1,g,k,bi,ic,ro,rc,qo,qc,rfl,by omega,by omega,hgw,by omega,yI hs2 hbi,hbi2,hlo.1,fun i hi=>?_,HG.out.cell (by simp;exact Ne.symm hne) (World.cell?_setCell_same _ _ _ ((H2.out.mach.cell 17).trans rfl)),?_,fun i v hv=>?_,HC.out,Bp.w HR.out hs2,A8d HB3.out HG.out (by simp;exact hgw)⟩
   ·rw[yX (w:=(w2.setCell (bm,17) (.slice g 1 k))) (a:=(bm,i)) (HG.out.block bm (by simp;exact Ne.symm hne) (by simpa using hbm2)),A9 _ (Ne.symm hi)];exact H2.out.mach.cell i
   ·exact(HG.out.block _ (by simp;omega) (by have:=H2.out.cach.lt;simpa using this)).trans ((HG2.out.block _ (by simp;omega) H2.out.cach.lt).trans H2.out.cach)
   ·rw[yM];by_cases h:i=6
    ·subst h;have e:v=.slice bi 1 ic:=by simpa using hv.symm
     rw[e];exact H6.out
    ·have h1:=HROW.out i v (Ac9 hv h);rw[yM]at h1;exact(HT.out i h).trans (HG2.out.cell (by simp;exact hne) h1)
theorem Ab1 (po:Option Addr) (np pc:Nat) (a1 a2:Option Addr) (n1 c1 n2 c2:Nat) (ti de ce pace f0 f1 f2:Int) (iok:Bool) (w:World)
  (HC:Hid (∀W,Below w w W->Kw 9 #[.agg #[.slice po np pc]] W (.agg #[f0,f1,f2])))
  (HI:Hid (∀W,Below w w W->Kw 125 #[.agg #[.slice a1 n1 c1,.slice a2 n2 c2,ti,de,ce]] W (.bool iok))) :
  Kw 54 #[.agg #[.slice po np pc],.agg #[.slice a1 n1 c1,.slice a2 n2 c2,ti,de,ce],pace] w (.bool (decide (f0=0)&&iok&&decide (0<=pace)&&decide (pace<=1000))):=by
 have X0:=(Blk.new w #[.slice po np pc] 31).alloc (.cells #[.slice a1 n1 c1,.slice a2 n2 c2,ti,de,ce] 60);have Y0:=Blk.nh (W:=w.alloc (.cells #[.slice po np pc] 31)) (n:=(w:Nat)+1) #[.slice a1 n1 c1,.slice a2 n2 c2,ti,de,ce] 60 (by simp);have B0:Below w w ((w.alloc (.cells #[.slice po np pc] 31)).alloc (.cells #[.slice a1 n1 c1,.slice a2 n2 c2,ti,de,ce] 60)):=((yA _ _).alloc (yB _) _).alloc (by simp) _;unfold Kw;go_in;have x0:=X0.cell;have y0:=Y0.cell;go_wp2_with fail;refine(HC.out _ B0).mono ?_;rintro e w1 ⟨rfl,hw1⟩;have Y1:=(Y0.l hw1).alloc (.cells #[f0,f1,f2] 27);have Q1:=Blk.new w1 #[f0,f1,f2] 27;have B1:=(B0.trans (hw1.mono B0.size)).alloc (yI B0.size hw1.size) (.cells #[f0,f1,f2] 27);clear X0 Y0 x0 y0 hw1 B0;have y1:=Y1.cell;have q1:=Q1.cell;by_cases h0:f0=0
 ·subst h0;go_wp2_with fail;refine(HI.out _ B1).mono ?_;rintro e w2 ⟨rfl,hw2⟩;have B2:Hid (Below w w w2):=B1.trans (hw2.mono B1.size);clear Y1 Q1 B1 y1 q1 hw2;cases iok
  ·go_wp2;go_ret;exact⟨by simp,B2.out⟩
  ·by_cases h1:0<=pace
   ·by_cases h2:pace<=1000
    ·go_wp2;go_ret;exact⟨by simp<;>omega,B2.out⟩
    ·go_wp2;go_ret;exact⟨by simp<;>omega,B2.out⟩
   ·go_wp2;go_ret;exact⟨by simp<;>omega,B2.out⟩
 ·go_wp2;go_ret;exact⟨by simp[h0],B1⟩
def mkd (n:Nat) (l:List Nat):Array Bool:=((List.range n).map fun i=>!l.contains i).toArray
theorem A7f (n:Nat) (l:List Nat) (i:Nat):(mkd n l)[i]?=if i<n then some (!l.contains i) else none:=by unfold mkd;by_cases h:i<n<;>simp[h]
theorem Qw {n i:Nat} {l:List Nat} (hl:l.contains i=false):(mkd n (i::l)).setIfInBounds i true=mkd n l:=by
 apply Array.ext_getElem?;intro j;rw[Array.getElem?_setIfInBounds,A7f,A7f];by_cases e:i=j
 ·subst e;by_cases hi:i<n
  ·simp only[hi,if_true,mkd,List.size_toArray,List.length_map,List.length_range,hl,Bool.not_false]
  ·simp[hi,mkd]
 ·rw[if_neg e];simp[Ne.symm e]
theorem Vv {n:Nat} {l m:List Nat} (h:∀i,l.contains i=m.contains i):mkd n l=mkd n m:=by unfold mkd;simp only[h]
def Rgm (ops:Array Oper) (l:List Nat) (Q:Exit->Act->World->Prop) (S:World->Prop) (a:Act) (w:World):Prop:=RgD ops (mkd ops.size l) l.length Q S a w
section
variable {id:Nat} {ops:Array Oper} {l:List Nat} {Q:Exit→Act→World→Prop} {S:World→Prop} {a:Act} {w:World} {oi oj:Oper} {i j:Nat}
theorem rgM {k:List Oper} (S:World->Prop) (hS:S w.drew) (h:S w.drew->Rgm k.toArray (List.range k.length) Q S a w.drew):(Code.region id k.toArray true).wp prog Q a w:=by
 refine rgN S hS fun hS=>rgD ?_;have h:=h hS;unfold Rgm at h;have e:mkd k.toArray.size (List.range k.length)=lst k.toArray.size (k.toArray.size-k.length):=by
  unfold mkd lst;congr 1;simp;apply List.ext_getElem?;intro j;by_cases hj:j<k.length
  ·simp[hj]
  ·simp[hj]
 rw[e,List.length_range]at h;exact h
theorem tkM (h1:ops[i]?=some oi) (hc:(Region.noSelect ops&&Region.free .any ops (mkd ops.size (i::l)) i&&(Region.ready .any ops (mkd ops.size (i::l))).contains i&&!l.contains i)=true) (hw:Region.wanted oi (yielded ops a.tmps)=true) (hS:S w)
  (h:∃v,(∀w,S w->(execOp a.eval oi).run prog w=.ok (.value v) w)/\Rgm ops l Q S (a.put oi.dst v) w):Rgm ops (i::l) Q S a w:=by
 simp only[yY]at hc;obtain⟨v,hy,h⟩:=h;refine tkD i h1 (by simp only[yY];exact hc.1) hw hS ⟨v,hy,?_⟩;rw[Qw (by simpa using hc.2)];exact h
theorem rotM (h:Rgm ops (l++[i]) Q S a w):Rgm ops (i::l) Q S a w:=by unfold Rgm at *;rw[Vv (m:=l++[i]) (fun j=>by simp[Bool.or_comm]),List.length_cons];simpa using h
theorem doM (h1:ops[i]?=some oi) (hr:(Region.ready .any ops (mkd ops.size (i::l))==[i]&&!l.contains i)=true) (hw:Region.wanted oi (yielded ops a.tmps)=true)
  (h:∀K:Act->World->Prop,Shut (∀a w,S w->(S w->Rgm ops l Q S a w)->K a w)->Oper.wp prog oi a w K (NoPanic Q)):Rgm ops (i::l) Q S a w:=by
 simp only[yY,beq_iff_eq]at hr;refine doD i h1 hr.1 hw fun K hK=>h K fun a w hS hR=>hK.out a w hS fun hS=>?_;rw[Qw (by simpa using hr.2)];exact hR hS
theorem A8j (h1:ops[i]?=some oi) (h2:ops[j]?=some oj) (hr:((Region.ready .any ops (mkd ops.size (i::j::l))==[i,j]||Region.ready .any ops (mkd ops.size (i::j::l))==[j,i])&&!(j::l).contains i&&!l.contains j)=true) (hw:Region.wanted oi (yielded ops a.tmps)=true) (hw2:Region.wanted oj (yielded ops a.tmps)=true)
  (h:∀K:Act->World->Prop,Shut (∀a w,S w->(S w->Rgm ops (j::l) Q S a w)->K a w)->Oper.wp prog oi a w K (NoPanic Q))
  (g:∀K:Act->World->Prop,Shut (∀a w,S w->(S w->Rgm ops (i::l) Q S a w)->K a w)->Oper.wp prog oj a w K (NoPanic Q)):Rgm ops (i::j::l) Q S a w:=by
 simp only[yY,Bool.or_eq_true,beq_iff_eq,Bool.not_eq_true']at hr;have h':∀K:Act->World->Prop,Shut (∀a w,S w->(S w->RgD ops ((mkd ops.size (i::j::l)).setIfInBounds i true) (l.length+1) Q S a w)->K a w)->Oper.wp prog oi a w K (NoPanic Q):=fun K hK=>h K fun a w hS hR=>hK.out a w hS fun hS=>by
  rw[Qw hr.1.2];exact hR hS
 have hij:∀x,(i::j::l).contains x=(j::i::l).contains x:=fun x=>by simp[Bool.or_left_comm]
 have hi:(i::l).contains j=false:=by have h3:=hr.1.2;have h4:=hr.2;simp at h3 h4 ⊢;exact⟨fun e=>h3.1 e.symm,h4⟩
 have g':∀K:Act->World->Prop,Shut (∀a w,S w->(S w->RgD ops ((mkd ops.size (i::j::l)).setIfInBounds j true) (l.length+1) Q S a w)->K a w)->Oper.wp prog oj a w K (NoPanic Q):=fun K hK=>g K fun a w hS hR=>hK.out a w hS fun hS=>by
  rw[Vv hij,Qw hi];exact hR hS
 rcases hr.1.1 with e|e
 ·exact A56 i j h1 h2 e hw hw2 h' g'
 ·exact A56 j i h2 h1 e hw2 hw g' h'
theorem Gx (m:List Nat) (hp:(l.length==m.length&&l.all m.contains&&m.all l.contains)=true) (h:Rgm ops m Q S a w):Rgm ops l Q S a w:=by
 simp only[yY,beq_iff_eq,List.all_eq_true]at hp;unfold Rgm at *;rw[hp.1.1,Vv (m:=m) (fun i=>?_)]
 ·exact h
 ·rw[Bool.eq_iff_iff];exact⟨fun h=>hp.1.2 i (by simpa using h),fun h=>hp.2 i (by simpa using h)⟩
theorem enM (hr:Region.ready .any ops (mkd ops.size [])=[]) (h:NoPanic Q .normal a w):Rgm ops [] Q S a w:=Uw hr h
end
end Go.Proofs.YtjbbppblgjhapaaGreatDoor
