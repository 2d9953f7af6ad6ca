import Derived.Test.YtjbbppblgjhapaaGreatDoorJ34
import Derived.Test.YtjbbppblgjhapaaGreatDoorJ49
set_option maxRecDepth 100000
set_option maxHeartbeats 8000000
namespace Go.Proofs.YtjbbppblgjhapaaGreatDoor
open Go.Deep Go.Proofs.Tryz Go.RowKit
attribute [local go_sem] Ac
structure MIn (w:World) (bm bca cn bts bt bf bc:Nat) (pace:Int) (ro:Option Addr) (n rc:Nat) (rs:List Rg):Prop where
 m:Blk w bm (mi pace bca cn bts) 247
 lc:bca<(w:Nat)
 c:Ae w bca 0 (List.replicate (cn*2) ())
 ls:bts<(w:Nat)
 s:w.cell? (bts,0)=some (.pointer bt)
 t:Blk w bt (tkA bf 1) 241
 lf:bf<(w:Nat)
 f:w.cell? (bf,0)=some (.iface 237 (.pointer bc))
 lb:bc<(w:Nat)
 b:Ae w bc 0 (cfL (.slice ro n rc))
 r:Ig w ro rs
theorem MIn.l {w w':World} {bm bca cn bts bt bf bc:Nat} {pace:Int} {ro:Option Addr} {n rc:Nat} {rs:List Rg} (h:MIn w bm bca cn bts bt bf bc pace ro n rc rs) (hb:Below w w w'):MIn w' bm bca cn bts bt bf bc pace ro n rc rs:=
 have hl:=fun {k} (hk:k<(w:Nat))=>yF hk hb.size;have hk:=A7.o (lo:=0) hb
 ⟨h.m.l hb,hl h.lc,h.c.keep hk (yE _) h.lc,hl h.ls,(hb.cell (p:=(bts,0)) h.ls).trans h.s,h.t.l hb,hl h.lf,(hb.cell (p:=(bf,0)) h.lf).trans h.f,hl h.lb,h.b.keep hk (yE _) h.lb,h.r.l hb⟩
theorem Aai (bm bca cn bts bt bf bc:Nat) (pace:Int) (ro:Option Addr) (n rc:Nat) (rs:List Rg) (w:World) (hcn:cn<=1048576) (hn:n<=250) (HM:Hid (MIn w bm bca cn bts bt bf bc pace ro n rc rs)) (HLN:Hid (rs.length=n)) (HRI:Hid (∀r∈rs,RgI r)) :
  Calls prog 59 #[.pointer bm] w fun e w'=>Kl w cn n rs pace e w':=by
 go_in;refine wk fun K HK=>?_;go_wp2_with fail;refine Ki (S:=fun W=>Below w w W/\Blk W (w:Nat) mz 58) ⟨(yA _ _).alloc (yB _) _,Blk.new w _ _⟩ (fun W hS=>HK.out _ _ ?_);clear HK K;obtain⟨B,R⟩:=hS;have HR0:Hid (Blk W w mz 58):=R;have h:=HM.out.l B;have HMW:Hid (MIn W bm bca cn bts bt bf bc pace ro n rc rs):=h;have m5:W.cell? (bm,5)=some (.slice none 0 0):=(h.m.cell 5).trans rfl;clear R h;refine wk fun K HK=>?_;refine rgL ?_;repeat (refine plF rfl ⟨?_,?_,?_⟩;rotate_left;(focus go_simp;with_reducible rfl);try simp only[Act.put,yC,yJ,yK])
 refine wpList_plain rfl fun K hK=>?_;have HK4:Hid _:=hK;clear hK;go_wp2_with fail;have h:=HMW.out;refine(A5f bm bca cn bts bt bf bc pace ro n rc rs _ hcn hn h.m.lt h.lc h.ls h.t.lt h.lf h.lb h.m h.c h.s h.t h.f h.b h.r HLN HRI).mono ?_;intro e w3 hL;have hL0:=hL;obtain⟨co,cc,bt,tc,bf,fc,ro,rc,rfl,_,_,_,_,hw3⟩:=hL0;have HR3:Hid (Blk w3 w mz 58):=HR0.out.l hw3;have HL:Hid _:=hL;clear hL h;go_wp2;refine HK4.out _ _ ?_;refine plS rfl ⟨_,Dk (b:=(w:Nat)) (o:=0) (cells:=mcs pace co cn cc bt 1 tc) (x:=.tmp 2) (y:=.tmp 8) HR3.out.there (by kernel_rfl) (by simp[Value.oneCell',mcs]) rfl (by simp[Act.eval]) (by simp[Act.eval];try rfl),?_⟩;refine wpList_nil ?_;refine HK.out _ _ ?_;have HR:=yS w3 (w:Nat) 0 (mcs pace co cn cc bt 1 tc).toList HR3.out.there;have B3:=Below.sets (g:=(w:Nat)) (mcs pace co cn cc bt 1 tc).toList 0 (B.trans (hw3.mono B.size)) (yB _);have hlt:=HR0.out.lt;go_wp2_with fail;exact bodyPost_ret (Fv (b:=(w:Nat)) (cs:=(mcs pace co cn cc bt 1 tc).toList) results59 rfl HR underlying58 rfl (by kernel_rfl)) rfl (Kl.kept HL.out (Il hlt) B.size B3)
theorem A14 (pb pof np pc n m:Nat) (re:Bool) (ao:Option Addr) (cap:Nat) (vs:List Vd) (nm:ByteArray) (ln:Int) (u0 k0 i0_ n0:Option Addr) (u1 u2 k1 k2 i1 i2 n1 n2:Nat) (w:World) (hnp:0<np) (hn:n<=250) (hmn:m<=n) (hre:re=true->m<n) (has:vs.length<=1048576) (hcap:vs.length<=cap) (hpb:pb<(w:Nat))
  (HP0:Hid (w.rangeAt pb pof [nm,ln,(m:Int),.bool re,(n:Int),.slice u0 u1 u2,.slice k0 k1 k2,.slice i0_ i1 i2,.slice n0 n1 n2])) (HA:Hid (Ld w ao cap vs)) :
  Calls prog 136 #[.agg #[.slice (some ⟨pb,pof,none⟩) np pc],(),.pointer none,.slice ao vs.length cap] w fun e w'=>∃bc ro rc,e=.returned (.pointer (some ⟨bc,0,none⟩))/\bc<w'.heap.size/\Ae w' bc 0 (cfL (.slice ro n rc))/\Ig w' ro ((List.range n).map (Fw m re vs))/\Below w w w':=by
 have X0:=Blk.new w #[.slice (some ⟨pb,pof,none⟩) np pc] 31;have B0:=(yA (w:Nat) w).alloc (yB _) (.cells #[.slice (some ⟨pb,pof,none⟩) np pc] 31);have hq:∀i v,([nm,ln,(m:Int),.bool re,(n:Int),.slice u0 u1 u2,.slice k0 k1 k2,.slice i0_ i1 i2,.slice n0 n1 n2]:List Value)[i]?=some v->(w.alloc (.cells #[.slice (some ⟨pb,pof,none⟩) np pc] 31)).cell? ⟨pb,pof+i,none⟩=some v:=fun i v h=>(B0.cell (p:=⟨pb,pof+i,none⟩) hpb).trans (HP0.out i v h);have q0:=hq 0 _ rfl;have q1:=hq 1 _ rfl;have q2:=hq 2 _ rfl;have q3:=hq 3 _ rfl;have q4:=hq 4 _ rfl;have q5:=hq 5 _ rfl;have q6:=hq 6 _ rfl;have q7:=hq 7 _ rfl;have q8:=hq 8 _ rfl;rw[Nat.add_zero]at q0;have hi:(0:Int)<np:=by omega
 clear hq;go_in;have x0:=X0.cell;go_wp2_with fail;refine(A5g n m re ao cap vs nm ln u0 k0 i0_ n0 u1 u2 k1 k2 i1 i2 n1 n2 _ hn hmn hre has hcap (HA.out.l B0)).mono ?_;rintro e w1 ⟨ro,rc,rfl,hR,hw1⟩;have HR:Hid (Ig w1 ro ((List.range n).map (Fw m re vs))):=hR;clear hR q0 q1 q2 q3 q4 q5 q6 q7 q8 x0 X0;go_wp2;go_ret;exact⟨(w1:Nat),ro,rc,rfl,by simp,fun i v hv=>by rw[yM];exact((Blk.new w1 (cfL (.slice ro n rc)).toArray 348).cell i).trans (by rw[List.getElem?_toArray];exact hv),HR.out.l ((yA _ _).alloc (yB _) _),(B0.trans (hw1.mono B0.size)).alloc (yI B0.size hw1.size) _⟩
theorem A93 {w:World} {g n:Nat} {t:TypeId} (h:Blk w g (madeCells #[(),()] (n*2)) t):Ae w g 0 (List.replicate (n*2) ()):=fun i v hv=>by
 obtain⟨hi,e⟩:=yD.1 hv;simp at hi e;subst e;rw[yM,h.cell,madeCells,Array.getElem?_map,Array.getElem?_eq_getElem (by simp;omega)];rcases Nat.mod_two_eq_zero_or_one i with e|e<;>simp[e]
theorem A1d {m:Nat} {re:Bool} {vs:List Vd} (hn:vs.length<=1048576) (hk:Yj vs) (n:Nat):∀r∈(List.range n).map (Fw m re vs),RgI r:=by
 intro r hr;obtain⟨i,_,rfl⟩:=List.mem_map.1 hr;have hz:Yj [zV]:=fun u hu=>by rw[yT.1 hu];exact⟨by decide,by decide⟩
 unfold Fw;split
 ·refine⟨.inl ⟨rfl,rfl,rfl⟩,fun u hu=>?_,by simp⟩;simp at hu;subst hu;cases h:vs[i]? with
  | none=>exact⟨by decide,by decide⟩
  | some u=>exact hk u (yH h)
 ·split
  ·refine⟨.inr (.inl ⟨rfl,rfl,rfl,by simp;omega⟩),fun u hu=>?_,by simp;omega⟩;rcases List.mem_cons.1 hu with h|hu
   ·rw[h];exact hz _ (by simp)
   ·exact hk u (List.mem_of_mem_drop hu)
  ·exact⟨.inr (.inr ⟨rfl,rfl,rfl,rfl⟩),hz,by simp⟩
theorem Nh (pb pof np pc n m:Nat) (re:Bool) (a1 a2:Option Addr) (c1 n2 c2:Nat) (ti de ce pace:Int) (vs:List Vd) (nm:ByteArray) (ln:Int) (u0 k0 i0_ n0:Option Addr) (u1 u2 k1 k2 i1 i2 m1 m2:Nat) (cn qn:Nat) (iok:Bool) (w:World) (hcn:cn<=1048576) (hqn:qn<=1048576) (has:vs.length<=1048576) (hpb:pb<(w:Nat))
  (HOK:Hid (0<qn->0<np/\n<=250/\m<=n/\(re=true->m<n)/\w.rangeAt pb pof [nm,ln,(m:Int),.bool re,(n:Int),.slice u0 u1 u2,.slice k0 k1 k2,.slice i0_ i1 i2,.slice n0 m1 m2])) (HA:Hid (A4v w a1 vs))
  (HIO:Hid (∀W,Below w w W->Kw 134 #[.agg #[.slice a1 vs.length c1,.slice a2 n2 c2,ti,de,ce]] W (.bool iok)))
  (HPR:Hid (∀W,Below w w W->Calls prog 15 #[.agg #[.slice (some ⟨pb,pof,none⟩) np pc]] W fun e w'=>∃qo qc,e=.returned (.agg #[.slice qo qn qc,(cn:Int)])/\Below W.heap.size W w')) :
  Calls prog 58 #[.agg #[.slice (some ⟨pb,pof,none⟩) np pc],.agg #[.slice a1 vs.length c1,.slice a2 n2 c2,ti,de,ce],pace] w fun e w'=>(if (inR pace 0 1000&&iok&&decide (0<qn))=true then ∃bm bca bts bt bf bc ro rc qv,e=.returned (.tuple #[.pointer (some ⟨bm,0,none⟩),qv])/\MIn w' bm bca cn bts bt bf bc pace ro n rc ((List.range n).map (Fw m re vs)) else e=.returned (.tuple #[.pointer none,nS]))/\Below w w w':=by
 (try unfold Kw);go_in;refine wk fun K HK=>?_;go_wp2_with fail;refine Ki (S:=fun W=>Below w w W/\Blk W (w:Nat) #[.slice (some ⟨pb,pof,none⟩) np pc] 31/\Blk W ((w:Nat)+1) #[.slice a1 vs.length c1,.slice a2 n2 c2,ti,de,ce] 60) ⟨((yA _ _).alloc (yB _) _).alloc (by simp) _,(Blk.new w _ _).alloc _,Blk.nh _ _ (by simp)⟩ (fun W hS=>HK.out _ _ ?_);clear HK K;obtain⟨B0,X0,Y0⟩:=hS;have y0:=Y0.cell;go_wp2_with fail;refine(Cq pace 0 1000 _).mono ?_;rintro e w1 ⟨rfl,rfl⟩;cases hpc:inR pace 0 1000
 ·go_wp2_with fail;all_goals exact bodyPost_ret (v:=.tuple #[.pointer none,nS]) (by simp[results,results58,go_sem]) rfl ⟨by simp,B0⟩
 go_wp2_with fail;refine(HIO.out _ B0).mono ?_;rintro e w2 ⟨rfl,hw2⟩;have B2:=B0.trans (hw2.mono B0.size);have X2:=X0.l hw2;have Y2:=Y0.l hw2;clear X0 Y0 y0 hw2 B0;cases iok
 ·go_wp2_with fail;all_goals exact bodyPost_ret (v:=.tuple #[.pointer none,nS]) (by simp[results,results58,go_sem]) rfl ⟨by simp,B2⟩
 have x2:=X2.cell;go_wp2_with fail;refine(HPR.out _ B2).mono ?_;rintro e w3 ⟨qo,qc,rfl,hw3⟩;have B3:=(B2.trans (hw3.mono B2.size)).alloc (yI B2.size hw3.size) (.cells #[.slice qo qn qc,(cn:Int)] 38);have X3:=(X2.l hw3).alloc (.cells #[.slice qo qn qc,(cn:Int)] 38);have Y3:=(Y2.l hw3).alloc (.cells #[.slice qo qn qc,(cn:Int)] 38);have Q3:=Blk.new w3 #[.slice qo qn qc,(cn:Int)] 38;clear X2 Y2 x2 hw3 B2;obtain⟨bq,hbq⟩:∃bq,(w3:Nat)=bq:=⟨_,rfl⟩;by_cases hq0:0<qn
 ·obtain⟨hnp,hn,hmn,hre,hP0⟩:=HOK.out hq0;have hqi:((qn:Int)==0)=false:=by simp;omega
  have q3:=Q3.cell;have y3:=Y3.cell;go_wp2_with fail;clear q3 y3;have HB3:Hid (Below w w (w3.alloc (.cells #[.slice qo qn qc,(cn:Int)] 38))):=B3;have HX3:Hid (Blk (w3.alloc (.cells #[.slice qo qn qc,(cn:Int)] 38)) (w:Nat) #[.slice (some ⟨pb,pof,none⟩) np pc] 31/\Blk (w3.alloc (.cells #[.slice qo qn qc,(cn:Int)] 38)) (w3:Nat) #[.slice qo qn qc,(cn:Int)] 38):=⟨X3,Q3⟩;clear B3 X3 Y3 Q3;generalize w3.alloc (.cells #[.slice qo qn qc,(cn:Int)] 38)=W at *;rw[hbq]at HX3;clear hbq;go_loopw [9,31] (fun y x wr=>∃j:Nat,j<=vs.length/\x=j/\Hid (wr.ownsRow (W:Nat) 210 5 y j ((vs.take j).flatMap Vd.vals))/\Hid (Below W W wr)) (fun _ x _=>vs.length-(intOf x).toNat);case atStart=>exact⟨0,yE _,rfl,yU _ _ _ _,yA _ _⟩
  case round=>
   obtain⟨j,hj,rfl,HO,HB⟩:=hrel;obtain⟨so,sc,rfl⟩:=Aa HO.out;by_cases hlt:j<vs.length
   ·obtain⟨u,huj⟩:=A8 hlt;have hb:=HB.out;obtain⟨b,off,s,rfl,hl,hc,rfl⟩:=HA.out j u huj;have HT:Hid _:=Nv huj;have p0:wr.cell? (b,off+j)=some (.string s):=((HB3.out.trans (hb.mono HB3.out.size)).cell (p:=(b,off+j)) hl).trans hc;have hs:=hb.size;clear hc huj;go_wp2_with fail;refine(Yi s wr).mono ?_;rintro e w2 ⟨rfl,hw2⟩;have A1:Below wr wr (w2.alloc (.cells #[(4:Int),(),.float .f64 0,s,()] 210)):=hw2.alloc hw2.size _;have X1:=Blk.new w2 #[(4:Int),(),.float .f64 0,s,()] 210;have HB1:Hid (Below W W _):=hb.trans (A1.mono hb.size);have HO1:Hid _:=Ai HO.out A1;have HX:Hid (Ae _ (w2:Nat) 0 [(4:Int),(),.float .f64 0,s,()]):=fun i v hv=>by rw[yM,X1.cell];simpa using hv
    have hs1:=hw2.size;clear hb HO HB A1 X1 hw2;go_wp2_with (at_builtin;refine Ir A8n rfl _ _ rfl (W:Nat) _ j _ [(4:Int),(),.float .f64 0,s,()] (w2:Nat) rfl HO1.out rfl HX.out rfl ?qc1 ?qc2 (by decide) ?qc3 ?_);case qc1=>simp[Value.oneCell']
    case qc2=>omega
    case qc3=>simp;omega
    intro v' w3 ho3 hg3 _;have HB2:Hid (Below W W w3):=HB1.out.grown hg3 HB1.out.size (fun k hk=>(World.ownsRow.lt HO1.out k hk).1);have HO2:Hid (w3.ownsRow (W:Nat) 210 5 v' (j+1) ((vs.take (j+1)).flatMap Vd.vals)):=by show World.ownsRow _ _ _ _ _ _ _;rw[HT.out];exact ho3
    clear ho3 hg3 HT HB1 HO1 HX p0;go_wp2;go_roundw;case rel=>exact⟨j+1,by omega,by go_num,HO2.out,HB2.out⟩
    case measure=>simp[intOf];omega
   ·obtain rfl:j=vs.length:=by omega
    have hjj:¬(vs.length:Int)<vs.length:=by omega
    have hO:=HO.out;rw[List.take_length]at hO;have hV:Ld wr so sc vs:=by
     rcases Br hO with ⟨e,h0,_⟩|⟨g,c,e,_,hog,_,hc⟩
     ·injection e with e1 _ e3;exact .inl ⟨e1,e3,List.eq_nil_of_length_eq_zero h0⟩
     ·injection e with e1 _ e3;subst e1 e3;exact .inr ⟨g,0,rfl,Nw hc (yE _) (fun _=>hog.lt)⟩
    have hcp:vs.length<=sc:=(Z6 hO).2;have hb:=HB.out;have hbw:=HB3.out.trans (hb.mono HB3.out.size);have x1:=(HX3.out.1.l hb).cell;have HQ1:Hid (Blk wr bq #[.slice qo qn qc,(cn:Int)] 38):=HX3.out.2.l hb;clear HO HB hO;go_wp2_with fail;refine(A14 pb pof np pc n m re so sc vs nm ln u0 k0 i0_ n0 u1 u2 k1 k2 i1 i2 m1 m2 wr hnp hn hmn hre has hcp (yF hpb hbw.size) (Ae.keep (lo:=0) hP0 (A7.o hbw) (yE _) hpb) hV).mono ?_;rintro e w4 ⟨bc,ro,rc,rfl,hbc,hC,hR,hw4⟩;have hmk:=Bj (P:=prog) 49 217 _ 2 16 underlying49 Ve .i64 .i64 cn (by omega) (by omega);have q4:=fun a b=>(((HQ1.out.l hw4).alloc a).alloc b).cell;have HD:Hid (Ae w4 bc 0 (cfL (.slice ro n rc))/\Ig w4 ro ((List.range n).map (Fw m re vs))/\Blk w4 bq #[.slice qo qn qc,(cn:Int)] 38/\Below w w w4):=⟨hC,hR,HQ1.out.l hw4,hbw.trans (hw4.mono hbw.size)⟩;clear hC hR hw4 HQ1 x1 hb hbw;go_wp2_with fail;refine Ki (S:=fun W5=>MIn W5 ((w4:Nat)+1+1+1+1) ((w4:Nat)+1+1) cn ((w4:Nat)+1+1+1) ((w4:Nat)+1) (w4:Nat) bc pace ro n rc ((List.range n).map (Fw m re vs))/\Blk W5 bq #[.slice qo qn qc,(cn:Int)] 38/\Below w w W5) ?_ (fun W5 hS=>?_)
    ·obtain⟨hC,hR,hQ,hB⟩:=HD.out;have hs:=hB.size;have b5:∀o1 o2 o3 o4 o5,Below w4 w4 (((((w4.alloc o1).alloc o2).alloc o3).alloc o4).alloc o5):=fun o1 o2 o3 o4 o5=>(((((yA _ _).alloc (yB _) _).alloc (by simp) _).alloc (by simp;omega) _).alloc (by simp;omega) _).alloc (by simp;omega) _;refine⟨⟨Blk.nh _ _ (by simp),by simp<;>omega,A93 (((Blk.nh _ _ (by simp)).alloc _).alloc _),by simp,(((Blk.nh _ _ (by simp)).alloc _).cell 0).trans rfl,(((Blk.nh _ _ (by simp)).alloc _).alloc _).alloc _,by simp<;>omega,((((((Blk.new _ _ _).alloc _).alloc _).alloc _).alloc _).cell 0).trans rfl,by simp;omega,hC.keep (lo:=0) (A7.o (b5 _ _ _ _ _)) (yE _) hbc,hR.l (b5 _ _ _ _ _)⟩,hQ.l (b5 _ _ _ _ _),hB.trans ((b5 _ _ _ _ _).mono hs)⟩
    obtain⟨hM,hQ,hB⟩:=hS;have x5:∀o,W5.drew.cell? ⟨bq,o,none⟩=_:=hQ.cell;have HM:Hid _:=hM;clear hM q4 HD;go_region_held3 (fun W=>∀o,W.cell? ⟨bq,o,none⟩=(#[.slice qo qn qc,(cn:Int)]:Array Value)[o]?) (exact x5) (fail);go_wp2_with fail;all_goals exact bodyPost_ret (v:=.tuple #[.pointer (some ⟨(w4:Nat)+1+1+1+1,0,none⟩),.slice qo qn qc]) (by simp[results,results58,go_sem]) rfl ⟨⟨_,⟨_,rfl⟩,_,_,_,_,bc,ro,rc,HM.out.l (yA _ _).drew⟩,hB.drew⟩
 ·have hqi:qn=0:=by omega
  subst hqi;have q3:=Q3.cell;go_wp2_with fail;all_goals exact bodyPost_ret (v:=.tuple #[.pointer none,nS]) (by simp[results,results58,go_sem]) rfl ⟨by simp,B3⟩
theorem Xo (cd inp:Array Value) (hcd:∃v,cd=#[v]/\v.oneCell'=true) (hin:∃a1 n1 c1 a2 n2 c2 ti de ce,inp=#[.slice a1 n1 c1,.slice a2 n2 c2,.int .i64 ti,.int .i64 de,.int .i64 ce]) (pace:Int) (ok:Bool) (cn n:Nat) (rs:List Rg) (w:World) (hcn:cn<=1048576) (HOK:Hid (ok=true->n<=250/\rs.length=n/\∀r∈rs,RgI r))
  (HNM:Hid (∀W,Below w w W->Calls prog 58 #[.agg cd,.agg inp,pace] W fun e w'=>(if ok=true then ∃bm bca bts bt bf bc ro rc qv,e=.returned (.tuple #[.pointer (some ⟨bm,0,none⟩),qv])/\MIn w' bm bca cn bts bt bf bc pace ro n rc rs else e=.returned (.tuple #[.pointer none,nS]))/\Below W.heap.size W w')) :
  Calls prog 25 #[.agg cd,.agg inp,pace] w fun e w'=>(if ok=true then Kl w cn n rs pace e w' else e=.returned (.agg mz))/\Below w w w':=by
 obtain⟨v,rfl,hv⟩:=hcd;obtain⟨a1,n1,c1,a2,n2,c2,ti,de,ce,rfl⟩:=hin;go_in;refine wk fun K HK=>?_;go_wp2_with fail;refine Ki (S:=fun W=>Below w w W/\Blk W (w:Nat) #[v] 31/\Blk W ((w:Nat)+1) #[.slice a1 n1 c1,.slice a2 n2 c2,ti,de,ce] 60/\Blk W ((w:Nat)+1+1) mz 58) ⟨(((yA _ _).alloc (yB _) _).alloc (by simp) _).alloc (by simp;omega) _,((Blk.new w _ _).alloc _).alloc _,(Blk.nh _ _ (by simp)).alloc _,Blk.nh _ _ (by simp)⟩ (fun W hS=>HK.out _ _ ?_);clear HK K;obtain⟨B0,X0,Y0,R0⟩:=hS;have HR0:Hid (Blk W ((w:Nat)+1+1) mz 58):=R0;clear R0;have x0:=X0.cell;have y0:=Y0.cell;refine wk fun K HK1=>?_;go_wp2_with fail;refine(HNM.out _ B0).mono ?_;rintro e w1 ⟨hE,hw1⟩;have HR1:Hid (Blk w1 ((w:Nat)+1+1) mz 58):=HR0.out.l hw1;have B1:=B0.trans (hw1.mono B0.size);clear X0 Y0 HR0 x0 y0 B0 hw1;cases ok
 ·rw[if_neg (by simp)]at hE;subst hE;go_wp2;refine HK1.out _ _ ?_;refine wk fun K HK2=>?_;refine wk fun K HK3=>?_;go_wp2;refine HK3.out _ _ ?_;refine wp_cond_true (by simp[Act.eval]) ?_;refine wk fun K HK4=>?_;refine rgL ?_;refine plF rfl ⟨?_,?_,?_⟩;rotate_left
  (focus go_simp;with_reducible rfl);try simp only[Act.put,yC,yJ,yK]
  refine plS rfl ⟨_,Dk (b:=(w:Nat)+1+1) (o:=0) (cells:=mz) (x:=.tmp 6) (y:=.tmp 18) HR1.out.there (by kernel_rfl) (by simp[Value.oneCell',mcs]) rfl (by simp[Act.eval]) (by simp[Act.eval];rfl),?_⟩;refine wpList_nil ?_;refine HK4.out _ _ ?_;have HR:=yS w1 ((w:Nat)+1+1) 0 mz.toList HR1.out.there;go_wp2_with fail;exact bodyPost_ret (Fv (b:=(w:Nat)+1+1) (cs:=mz.toList) results25 rfl HR underlying58 rfl (by kernel_rfl)) rfl ⟨rfl,Below.sets _ _ B1 (by omega)⟩
 ·rw[if_pos rfl]at hE;obtain⟨bm,bca,bts,bt,bf,bc,ro,rc,qv,rfl,hM⟩:=hE;have HM:Hid (MIn w1 bm bca cn bts bt bf bc pace ro n rc rs):=hM;clear hM;go_wp2;refine HK1.out _ _ ?_;refine wk fun K HK2=>?_;go_wp2;refine HK2.out _ _ ?_;refine wk fun K HK3=>?_;refine rgL ?_;refine plF rfl ⟨?_,?_,?_⟩;rotate_left
  (focus go_simp;with_reducible rfl);try simp only[Act.put,yC,yJ,yK]
  refine wpList_plain rfl fun K hK=>?_;have HK5:Hid _:=hK;clear hK;go_wp2_with fail;obtain⟨hn,hl,hr⟩:=HOK.out trivial;refine(Aai bm bca cn bts bt bf bc pace ro n rc rs _ hcn hn HM hl hr).mono ?_;intro e w3 hL;have hL0:=hL;obtain⟨co,cc,bt,tc,bf,fc,ro,rc,rfl,_,_,_,_,hw3⟩:=hL0;have HR3:Hid (Blk w3 ((w:Nat)+1+1) mz 58):=HR1.out.l hw3;have HL:Hid _:=hL;clear hL hl hr;go_wp2;refine HK5.out _ _ ?_;refine plS rfl ⟨_,Dk (b:=(w:Nat)+1+1) (o:=0) (cells:=mcs pace co cn cc bt 1 tc) (x:=.tmp 6) (y:=.tmp 20) HR3.out.there (by kernel_rfl) (by simp[Value.oneCell',mcs]) rfl (by simp[Act.eval]) (by simp[Act.eval];try rfl),?_⟩;refine wpList_nil ?_;refine HK3.out _ _ ?_;have HR:=yS w3 ((w:Nat)+1+1) 0 (mcs pace co cn cc bt 1 tc).toList HR3.out.there;have B3:=Below.sets (g:=(w:Nat)+1+1) (mcs pace co cn cc bt 1 tc).toList 0 (B1.trans (hw3.mono B1.size)) (by omega);have hlt:=HR1.out.lt;go_wp2_with fail;exact bodyPost_ret (Fv (b:=(w:Nat)+1+1) (cs:=(mcs pace co cn cc bt 1 tc).toList) results25 rfl HR underlying58 rfl (by kernel_rfl)) rfl ⟨Kl.kept HL.out (Il hlt) B1.size B3,B3⟩
theorem Ut {ps:List Pd} (h:(Cj ps).1=0):∃p,ps[0]?=some p/\(0<=p.regs/\p.regs<=250)/\0<=p.params/\p.params<=p.regs/\(p.rest=true->p.params<p.regs):=by
 have hs:(Bu ps).1=0:=by
  unfold Cj at h;split at h
  ·assumption
  ·exact h
 have hl:0<ps.length:=by
  have:=(Ti hs).1;cases ps with
  | nil=>simp[Kv,inR]at this
  | cons p r=>simp
 obtain⟨p,hp⟩:=A8 hl;have hf:=(Mi hs p (yH hp)).fit;exact⟨p,hp,hf.regs,hf.params⟩
def tk0 (rs:List Rg):Tk:=⟨2,zV,-1,false,⟨1,0,0,false,0,-1,0,0,0,false,false,0,ByteArray.empty,-1,rs⟩⟩
theorem Ae9 {w:World} {lo cn cc:Nat} {co:Option Addr} (h:w.ownsRow lo 217 2 (.slice co cn cc) cn (List.replicate (cn*2) ())):Hz lo w co (List.replicate cn (0,0)):=by
 rcases Br h with ⟨_,h0,_⟩|⟨g,c,e,h1,h2,h3,h4⟩
 ·subst h0;intro i x hx;simp at hx
 ·injection e with e1 _ _;subst e1;rw[←caZ]at h4;exact Aac h4 h1 (fun _=>h2.lt)
theorem Mq.at {w w':World} {cn n:Nat} {rs:List Rg} {pace:Int} {e:Ending} (h:Mq w cn n rs pace e w') (hl:rs.length=n):∃co cc to_ tc,e=.returned (.agg (mcs pace co (List.replicate cn ((0:Int),(0:Int))).length cc to_ (tkN (some (tk0 rs))) tc))/\Hz (w:Nat) w' co (List.replicate cn (0,0))/\Tn (w:Nat) w' to_ (some (tk0 rs)):=by obtain⟨co,cc,bt,tc,bf,fc,ro,rc,rfl,hT,hbt,hF,hbf,hR,hC,_⟩:=h;subst hl;exact⟨co,cc,_,tc,by rw[List.length_replicate];rfl,Ae9 hC,bt,fc,bf,ro,rc,rfl,⟨hbt,hbf,hT,hF,hR⟩⟩
theorem Kl.weak {w w':World} {cn n:Nat} {rs:List Rg} {pace:Int} {e:Ending} (h:Kl w cn n rs pace e w'):Mq w cn n rs pace e w':=by
 obtain⟨co,cc,bt,tc,bf,fc,ro,rc,he,h1,h2,h3,h4,h5⟩:=h;obtain⟨g1,c1,e1,l1,o1,_,r1⟩:=(Br h1).resolve_left (fun h=>absurd h.2.1 (by decide));obtain⟨g2,c2,e2,l2,o2,_,r2⟩:=(Br h2).resolve_left (fun h=>absurd h.2.1 (by decide));cases e1
 cases e2
 exact⟨co,cc,bt,tc,bf,fc,ro,rc,he,r1,⟨l1,o1.lt⟩,r2,⟨l2,o2.lt⟩,h3.regs,h4,h5⟩
theorem Gr.rm {lo rc:Nat} {w:World} {ro:Option Addr} {rs:List Rg} (h:Gr lo w ro rc rs) (hn:rs.length<=1048576) (hz:∀r∈rs,r.list.length<=1048576) (hu:∀(i j:Nat) (r q:Rg),rs[i]?=some r->rs[j]?=some q->r.list≠[]->q.list≠[]->i=j) :
  ∃(M:List Nat) (xs:List Rh),xs.map (·.r)=rs/\RM w ro M xs/\(∀b∈M,lo<=b/\b<(w:Nat)/\∃m,Own w b 327 m∨Own w b 210 m):=by
 obtain⟨vs,ho,hf⟩:=h
 classical
 let f:Nat->Rg->Rh:=fun i r=>if hr:rs[i]?=some r then ⟨r,(hf i r hr).choose,(hf i r hr).choose_spec.choose⟩ else ⟨r,none,0⟩;have hff:∀i r,rs[i]?=some r->(∀c u,(f i r).vals[c]?=some u->vs[i*8+c]?=some u)/\Ez lo w (f i r).io r.list/\(f i r).r=r:=fun i r hr=>by
  have hs:=(hf i r hr).choose_spec.choose_spec;simp only[f,dif_pos hr];exact⟨hs.1,hs.2.1,trivial⟩
 have hg:∀(i:Nat) (x:Rh),(rs.mapIdx f)[i]?=some x->∃r,rs[i]?=some r/\x=f i r:=fun i x hx=>by
  rw[List.getElem?_mapIdx]at hx;obtain⟨r,hr,e⟩:=Option.map_eq_some_iff.1 hx;exact⟨r,hr,e.symm⟩
 have hlen:(rs.mapIdx f).length=rs.length:=by simp
 have hmap:(rs.mapIdx f).map (·.r)=rs:=by
  apply List.ext_getElem?;intro i;rw[List.getElem?_map];cases hx:(rs.mapIdx f)[i]? with
  | none=>rw[List.getElem?_eq_none_iff]at hx;exact(List.getElem?_eq_none (by omega)).symm
  | some x=>obtain⟨r,hr,rfl⟩:=hg i x hx;rw[hr];exact congrArg some (hff i r hr).2.2
 have hmem:∀x∈rs.mapIdx f,∃i r,rs[i]?=some r/\x=f i r:=fun x hx=>by
  obtain⟨i,hi⟩:=List.getElem?_of_mem hx;obtain⟨r,hr,e⟩:=hg i x hi;exact⟨i,r,hr,e⟩
 rcases Br ho with ⟨_,h0,_⟩|⟨br,m,e,l1,o1,c1,r1⟩
 ·have:rs=[]:=List.eq_nil_of_length_eq_zero h0;subst this;exact⟨[],[],rfl,⟨yE _,fun x hx=>by simp at hx,.inl rfl⟩,fun b hb=>by simp at hb⟩
 ·injection e with e1 _ _;subst e1;have hflat:(rs.mapIdx f).flatMap Rh.vals=vs:=by
   apply List.ext_getElem?;intro j;have h8:((rs.mapIdx f).flatMap Rh.vals).length=rs.length*8:=by rw[Le (f:=Rh.vals) (m:=8) (fun _=>rfl),hlen]
   by_cases hj:j<rs.length*8
   ·obtain⟨x,hx⟩:=A8 (show j / 8<(rs.mapIdx f).length by rw[hlen];omega);obtain⟨r,hr,rfl⟩:=hg _ x hx;obtain⟨u,hu⟩:=A8 (show j%8<(f (j / 8) r).vals.length from Nat.mod_lt _ (by decide));have h1:=Js (f:=Rh.vals) (m:=8) (fun _=>rfl) hx hu;have h2:=(hff _ r hr).1 _ u hu;rw[show j / 8*8+j%8=j by omega]at h1 h2;rw[h1,h2]
   ·rw[List.getElem?_eq_none (by omega),List.getElem?_eq_none (by rw[ho.1];omega)]
  have hls:∀x∈rs.mapIdx f,x.r.list.length<=1048576:=fun x hx=>by
   obtain⟨i,r,hr,rfl⟩:=hmem x hx;rw[(hff i r hr).2.2];exact hz r (yH hr)
  by_cases hall:∀r∈rs,r.list=[]
  ·refine⟨[br],rs.mapIdx f,hmap,⟨by rw[hlen];exact hn,hls,.inr ⟨br,m*8,rfl,by rw[hlen];exact c1,o1,by rw[hflat];exact r1,.inl ⟨rfl,fun x hx=>?_⟩⟩⟩,fun b hb=>?_⟩
   ·obtain⟨i,r,hr,rfl⟩:=hmem x hx;rw[(hff i r hr).2.2];exact hall r (yH hr)
   ·obtain rfl:=yT.1 hb;exact⟨l1,o1.lt,_,.inl o1⟩
  ·obtain⟨r0,hr0m,hne0⟩:∃r∈rs,r.list≠[]:=by apply Classical.byContradiction;intro hc;exact hall fun r hr=>Classical.byContradiction fun h=>hc ⟨r,hr,h⟩
   obtain⟨i0,hr0⟩:=List.getElem?_of_mem hr0m;obtain⟨bl,ml,e2,l2,n2,o2,_⟩:=((hff i0 r0 hr0).2.1).resolve_left hne0;have hne:bl≠br:=fun e=>by subst e;exact absurd (o1.same o2).1 (by decide)
   refine⟨[br,bl],rs.mapIdx f,hmap,⟨by rw[hlen];exact hn,hls,.inr ⟨br,m*8,rfl,by rw[hlen];exact c1,o1,by rw[hflat];exact r1,.inr ⟨bl,ml,rfl,hne,fun x hx=>?_,fun A x B hxs hx y hy=>?_⟩⟩⟩,fun b hb=>?_⟩
   ·obtain⟨i,r,hr,rfl⟩:=hmem x hx;rw[(hff i r hr).2.2];by_cases hl:r.list=[]
    ·exact .inl hl
    ·obtain rfl:=hu i i0 r r0 hr hr0 hl hne0;obtain rfl:=yO (hr.symm.trans hr0);exact .inr ⟨e2,n2,o2⟩
   ·apply Classical.byContradiction;intro hyl;obtain⟨j,hj⟩:=List.getElem?_of_mem hy;have hjl:=(yD.1 hj).1;obtain⟨r,hr,e3⟩:=hg j y (by rw[hxs,List.getElem?_append_left hjl];exact hj);obtain⟨q,hq,e4⟩:=hg A.length x (by rw[hxs,List.getElem?_append_right (yB _)];simp);subst e3 e4;rw[(hff _ r hr).2.2]at hyl;rw[(hff _ q hq).2.2]at hx;have:=hu _ _ r q hr hq hyl hx;omega
   ·simp at hb;rcases hb with rfl|rfl
    ·exact⟨l1,o1.lt,_,.inl o1⟩
    ·exact⟨l2,o2.lt,_,.inr o2⟩
theorem Kl.marks {w w':World} {cn n:Nat} {rs:List Rg} {pace:Int} {e:Ending} (h:Kl w cn n rs pace e w') (hl:rs.length=n) (hn:rs.length<=1048576) (hz:∀r∈rs,r.list.length<=1048576) (hu:∀(i j:Nat) (r q:Rg),rs[i]?=some r->rs[j]?=some q->r.list≠[]->q.list≠[]->i=j) :
  ∃co cc to_ tc Lc Lt xs,e=.returned (.agg (mcs pace co cn cc to_ (xN (some xs)) tc))/\CM w' co Lc cn/\TsM w' to_ Lt (some xs)/\XOk (some xs)/\(∀b∈Lc++Lt,(w:Nat)<=b/\b<(w':Nat))/\(∀b∈Lt,b∉Lc):=by
 obtain⟨co,cc,bt,tc,bf,fc,ro,rc,rfl,h1,h2,h3,h4,_⟩:=h;obtain⟨g1,c1,e1,l1,o1,k1,r1⟩:=(Br h1).resolve_left (fun h=>absurd h.2.1 (by decide));obtain⟨g2,c2,e2,l2,o2,k2,r2⟩:=(Br h2).resolve_left (fun h=>absurd h.2.1 (by decide));cases e1
 cases e2
 obtain⟨M,xs,hx,hrm,hM⟩:=h3.rm hn hz hu;have hxl:xs.length=n:=by rw[←hl,←hx,List.length_map]
 have hsep:∀b∈M,b≠bt/\b≠bf:=fun b hb=>by
  obtain⟨_,_,m,o|o⟩:=hM b hb
  ·exact⟨fun e=>by subst e;exact absurd (o.same o1).1 (by decide),fun e=>by subst e;exact absurd (o.same o2).1 (by decide)⟩
  ·exact⟨fun e=>by subst e;exact absurd (o.same o1).1 (by decide),fun e=>by subst e;exact absurd (o.same o2).1 (by decide)⟩
 have q:∀{b:Nat} {cs:List Value} {i:Nat} {v:Value},Ae w' b 0 cs->cs[i]?=some v->w'.cell? (b,i)=some v:=fun hr hv=>by have:=hr _ _ hv;rwa [yM]at this
 have hT:TsM w' bt (bt::bf::M) (some xs):=⟨bt,_,bf,fc,_,ro,rc,M,rfl,rfl,⟨by omega,o1,q r1 rfl,q r1 rfl,by omega,o2,q r2 rfl,by rw[hxl];exact q r2 rfl,q r2 rfl,q r2 rfl,hrm,fun e=>by subst e;exact absurd (o1.same o2).1 (by decide),fun hb=>(hsep _ hb).1 rfl,fun hb=>(hsep _ hb).2 rfl⟩⟩;have hok:XOk (some xs):=⟨hrm.1,hrm.2.1⟩;have hlt:∀b∈bt::bf::M,(w:Nat)<=b/\b<(w':Nat):=fun b hb=>by
  rcases List.mem_cons.1 hb with rfl|hb
  ·exact⟨l1,o1.lt⟩
  ·rcases List.mem_cons.1 hb with rfl|hb
   ·exact⟨l2,o2.lt⟩
   ·exact⟨(hM b hb).1,(hM b hb).2.1⟩
 rcases Br h4 with ⟨e4,h0,_⟩|⟨g4,c4,e4,l4,o4,k4,_⟩
 ·exact⟨co,cc,_,tc,[],_,xs,rfl,.inl h0,hT,hok,by simpa using hlt,by simp⟩
 ·injection e4 with e5 _ _;refine⟨co,cc,_,tc,[g4],_,xs,rfl,.inr ⟨g4,_,e5,rfl,k4,o4⟩,hT,hok,fun b hb=>?_,fun b hb hb2=>?_⟩
  ·rcases List.mem_cons.1 hb with rfl|hb
   ·exact⟨l4,o4.lt⟩
   ·exact hlt b hb
  ·obtain rfl:=yT.1 hb2;rcases List.mem_cons.1 hb with e|hb
   ·subst e;exact absurd (o4.same o1).1 (by decide)
   ·rcases List.mem_cons.1 hb with e|hb
    ·subst e;exact absurd (o4.same o2).1 (by decide)
    ·obtain⟨_,_,m,o|o⟩:=hM b hb
     ·exact absurd (o4.same o).1 (by decide)
     ·exact absurd (o4.same o).1 (by decide)
theorem Abt {m n:Nat} {re:Bool} {vs:List Vd} (i j:Nat) (r q:Rg) (hr:((List.range n).map (Fw m re vs))[i]?=some r) (hq:((List.range n).map (Fw m re vs))[j]?=some q) (h1:r.list≠[]) (h2:q.list≠[]):i=j:=by
 have key:∀(i:Nat) (r:Rg),((List.range n).map (Fw m re vs))[i]?=some r->r.list≠[]->i=m:=fun i r hr h=>by
  rw[List.getElem?_map]at hr;obtain⟨k,hk,rfl⟩:=Option.map_eq_some_iff.1 hr;obtain⟨hi,e⟩:=yD.1 hk;simp at hi e;subst e;unfold Fw at h;split at h
  ·exact absurd rfl h
  ·split at h
   ·rename_i h3;exact h3.2
   ·exact absurd rfl h
 rw[key i r hr h1,key j q hq h2]
theorem Ac5 {α:Type} (f:α->Nat) (a b:List α):E5 f (a++b)=E5 f a+E5 f b:=by
 induction a with
 | nil=>simp[E5]
 | cons x r ih=>simp[E5,ih,Nat.add_assoc]
theorem Aaa (ps:List Pd) (j:Nat) (hj:j<=ps.length):Dn ps j<=E5 Fa (ps.take j):=by
 induction j with
 | zero=>exact yE _
 | succ j ih=>
  obtain⟨p,hp⟩:=A8 (show j<ps.length by omega);have h1:=ih (by omega);have h2:=Qe p.consts p.ins (Dn ps j) p.ins.length;rw[Rx hp,List.take_add_one,hp,Ac5];have h3:p.ins.length<=Fa p:=by unfold Fa;omega
  simp[E5];omega
theorem Ms {ps:List Pd} (hf:Kh ps):Dn ps ps.length<=1048576:=by have h1:=Aaa ps ps.length (yB _);rw[List.take_length]at h1;have:=hf.bulk;unfold Dj at this;omega
def sV (s:ByteArray):Vd:=⟨4,0,0,s,0⟩
def p0 (ps:List Pd):Pd:=ps.headD default
abbrev n0 (ps:List Pd):Nat:=(p0 ps).regs.toNat
def rs0 (ps:List Pd) (s1:List ByteArray):List Rg:=(List.range (n0 ps)).map (Fw (p0 ps).params.toNat (p0 ps).rest (s1.map sV))
noncomputable def okB (ps:List Pd) (s1 s2:List ByteArray) (t d c pace:Int):Bool:=decide ((Cj ps).1=0)&&okI s1 s2 t d c&&inR pace 0 1000
theorem Zp {w:World} {a1:Option Addr} {s1:List ByteArray} (h:Ch w a1 s1):A4v w a1 (s1.map sV):=fun j u hu=>by
 rw[List.getElem?_map]at hu;obtain⟨s,hs,rfl⟩:=Option.map_eq_some_iff.1 hu;obtain⟨hj,e⟩:=yD.1 hs;obtain⟨b,off,e1,h1,h2⟩:=h j hj;refine⟨b,off,s,e1,h1,?_,rfl⟩;rw[h2,yR,hs];rfl
theorem Abg (s1:List ByteArray):Yj (s1.map sV):=fun u hu=>by
 obtain⟨s,_,rfl⟩:=List.mem_map.1 hu;exact⟨(by decide:(4:Int)≠5),(by decide:(4:Int)≠6)⟩
theorem Uh {w:World} {g:Nat} {ps:List Pd} (hc:(Cj ps).1=0) (hv:Ad 0 w g ps):0<ps.length/\g<(w:Nat)/\n0 ps<=250/\(p0 ps).params.toNat<=n0 ps/\((p0 ps).rest=true->(p0 ps).params.toNat<n0 ps)/\∃h:Ph,w.rangeAt g 0 [.string (p0 ps).name,.int .i64 (p0 ps).line,((p0 ps).params.toNat:Int),.bool (p0 ps).rest,(n0 ps:Int),.slice h.uo (p0 ps).ups.length h.uc,.slice h.co (p0 ps).consts.length h.cc,.slice h.io (p0 ps).ins.length h.ic,.slice h.no (p0 ps).named.length h.nc]:=by
 obtain⟨p,hp,hr,h1,h2,h3⟩:=Ut hc;have e:p0 ps=p:=by cases ps with|nil=>simp at hp|cons q r=>simpa[p0]using hp
 obtain⟨b,off,e2,_,hl,h,⟨q0,q1,q2,q3,q4,q5,q6,q7,q8⟩,_⟩:=hv 0 p hp;obtain⟨rfl,rfl⟩:g=b/\0=off:=by injection e2 with e2;injection e2 with a b;exact⟨a,b⟩
 unfold n0;rw[e];have n1:(p.params.toNat:Int)=p.params:=by omega
 have n2:(p.regs.toNat:Int)=p.regs:=by omega
 refine⟨(yD.1 hp).1,hl,by omega,by omega,fun h=>by have:=h3 h;omega,h,?_⟩;rw[n1,n2];intro i v hv
 match i,hv with
 | 0,hv=>exact q0.trans hv
 | 1,hv=>exact q1.trans hv
 | 2,hv=>exact q2.trans hv
 | 3,hv=>exact q3.trans hv
 | 4,hv=>exact q4.trans hv
 | 5,hv=>exact q5.trans hv
 | 6,hv=>exact q6.trans hv
 | 7,hv=>exact q7.trans hv
 | 8,hv=>exact q8.trans hv
 | i+9,hv=>simp at hv
theorem A1h (g b1 b2 c0 c1 c2:Nat) (ps:List Pd) (s1 s2:List ByteArray) (t d c pace:Int) (w:World) (hfi:Kh ps) (hv:Ad 0 w g ps) (hm1:s1.length<=1048576) (hm2:s2.length<=1048576) (h1:Ch w b1 s1) (h2:Ch w b2 s2) :
  Calls prog 23 #[.agg #[.slice g ps.length c0],.agg #[.slice b1 s1.length c1,.slice b2 s2.length c2,t,d,c],pace] w fun e w'=>(if okB ps s1 s2 t d c pace=true then Mq w (Dn ps ps.length) (n0 ps) (rs0 ps s1) pace e w' else e=.returned (.agg mz))/\Below w w w':=by
 have hl:ps.length<=1048576:=by have:=hfi.bulk;unfold Dj at this;omega
 have hok:=fun W (hb:Below w w W)=>Ab1 g ps.length c0 b1 b2 s1.length c1 s2.length c2 t d c pace (Cj ps).1 (Cj ps).2.1 (Cj ps).2.2 (okI s1 s2 t d c) W
  (fun W2 hb2=>Ri _ c0 ps W2 hfi (hv.l (A7.o (hb.trans (hb2.mono hb.size)))))
  (fun W2 hb2=>Ug _ _ c1 c2 s1 s2 t d c W2 hm1 (h1.l (hb.trans (hb2.mono hb.size))) hm2 (h2.l (hb.trans (hb2.mono hb.size))))
 have e:(decide ((Cj ps).1=0)&&okI s1 s2 t d c&&decide (0<=pace)&&decide (pace<=1000))=okB ps s1 s2 t d c pace:=by simp[okB,inR,Bool.and_assoc]
 rw[e]at hok;refine Yf _ _ ⟨_,rfl,rfl⟩ ⟨_,_,_,_,_,_,_,_,_,rfl⟩ pace (okB ps s1 s2 t d c pace) (Dn ps ps.length) (n0 ps) (rs0 ps s1) w (fun W hb=>hok W hb) (fun ho W hb=>?_);have hc:(Cj ps).1=0:=by simp[okB]at ho;exact ho.1.1
 have hvW:=hv.l (A7.o hb);obtain⟨hnp,hgl,hn,hmn,hre,h,hP⟩:=Uh hc hvW;have hb8:=A3e g 0 ps.length c0 b1 b2 c1 s2.length c2 t d c pace (-1) (Dn ps ps.length) ps.length (n0 ps) (p0 ps).params.toNat (p0 ps).rest (s1.map sV) (p0 ps).name (p0 ps).line h.uo h.co h.io h.no (p0 ps).ups.length h.uc (p0 ps).consts.length h.cc (p0 ps).ins.length h.ic (p0 ps).named.length h.nc W (Ms hfi) (by simpa using hm1) hnp hn hmn hre hgl hP (Zp (h1.l hb))
  (fun W2 hb2=>(Xw g c0 ps W2 hl (fun p hp=>(hfi.few p hp).ins) (A7p hc) (hvW.l (A7.o hb2))).mono fun e w' ⟨ao',cap',h1,_,h3⟩=>⟨ao',cap',h1,h3⟩)
 rw[List.length_map]at hb8;refine hb8.mono ?_;rintro e w' ⟨bm,bc,bt,tc,bi,ic,ro,rc,qo,qc,rfl,hm,hml,ht,htl,hi,hil,hbc,hM,h17,hC,hT,hI,hR,hB⟩;refine⟨bm,rfl,hB,?_⟩;have k:∀i v,i≠17->(Ab0 g ps.length c0 qo ps.length qc (Dn ps ps.length) b1 s1.length c1 b2 s2.length c2 t d c pace (-1) bc)[i]?=some v->w'.cell? ⟨bm,i,none⟩=some v:=fun i v hi hv=>(hM i hi).trans hv;refine Ad2 bm bc (Dn ps ps.length) bt tc bi ic (n0 ps) rc ro (rs0 ps s1) pace w' hn (hR.w (yE _)) (show (rs0 ps s1).length=n0 ps by simp[rs0]) (fun i r hr=>(A1d (by simpa using hm1) (Abg s1) _ r (yH hr)).1) htl hil hT hI h17 (Ms hfi) hC ?_ (k 13 _ (by decide) rfl) (k 14 _ (by decide) rfl) hml ?_ (k 24 _ (by decide) rfl)
 ·intro i v hv
  match i,hv with
  | 0,hv=>exact k 29 _ (by decide) hv
  | 1,hv=>exact k 30 _ (by decide) hv
  | 2,hv=>exact k 31 _ (by decide) hv
  | 3,hv=>exact k 32 _ (by decide) hv
  | 4,hv=>exact k 33 _ (by decide) hv
  | 5,hv=>exact k 34 _ (by decide) hv
  | 6,hv=>exact k 35 _ (by decide) hv
  | i+7,hv=>simp at hv
 ·exact⟨k 8 _ (by decide) rfl,k 9 _ (by decide) rfl,k 10 _ (by decide) rfl,k 11 _ (by decide) rfl,k 12 _ (by decide) rfl,k 15 _ (by decide) rfl,k 16 _ (by decide) rfl,k 18 _ (by decide) rfl,k 20 _ (by decide) rfl,k 19 _ (by decide) rfl,k 21 _ (by decide) rfl,k 22 _ (by decide) rfl,k 23 _ (by decide) rfl,k 25 _ (by decide) rfl,k 26 _ (by decide) rfl,k 27 _ (by decide) rfl⟩
theorem A09 (g b1 b2 c0 c1 c2:Nat) (ps:List Pd) (s1 s2:List ByteArray) (t d c pace:Int) (w:World) (hfi:Kh ps) (hF:Hm w) (hv:Ad 0 w g ps) (hcap:Kz w g ps ps.length) (hgl:g<(w:Nat)) (hm1:s1.length<=1048576) (hm2:s2.length<=1048576) (h1:Ch w b1 s1) (h2:Ch w b2 s2) :
  Calls prog 25 #[.agg #[.slice g ps.length c0],.agg #[.slice b1 s1.length c1,.slice b2 s2.length c2,t,d,c],pace] w fun e w'=>(if okB ps s1 s2 t d c pace=true then Kl w (Dn ps ps.length) (n0 ps) (rs0 ps s1) pace e w' else e=.returned (.agg mz))/\Below w w w':=by
 have hl:ps.length<=1048576:=by have:=hfi.bulk;unfold Dj at this;omega
 refine Xo _ _ ⟨_,rfl,rfl⟩ ⟨_,_,_,_,_,_,_,_,_,rfl⟩ pace (okB ps s1 s2 t d c pace) (Dn ps ps.length) (n0 ps) (rs0 ps s1) w (Ms hfi) (fun ho=>?_) (fun W hb=>?_)
 ·have hc:(Cj ps).1=0:=by simp[okB]at ho;exact ho.1.1
  exact⟨(Uh hc hv).2.2.1,by simp[rs0],A1d (by simpa using hm1) (Abg s1) _⟩
 have hvW:=hv.l (A7.o hb);have hpr:=fun W2 (hb2:Below W W W2)=>Aav g c0 ps W2 hfi (hF.l (hb.trans (hb2.mono hb.size))) (hvW.l (A7.o hb2)) (hcap.l (hb.trans (hb2.mono hb.size)) hgl);have hio:=fun W2 (hb2:Below W W W2)=>U6 b1 b2 c1 c2 s1 s2 t d c W2 hm1 (h1.l (hb.trans (hb2.mono hb.size))) hm2 (h2.l (hb.trans (hb2.mono hb.size)));rw[←List.length_map (f:=sV)]at hio ⊢;by_cases hc:(Cj ps).1=0
 ·obtain⟨hnp,hgw,hn,hmn,hre,h,hP⟩:=Uh hc hvW;rw[qOf,if_pos hc,cOf,if_pos hc,Ka]at hpr;have nm:=Nh g 0 ps.length c0 (n0 ps) (p0 ps).params.toNat (p0 ps).rest b1 b2 c1 s2.length c2 t d c pace (s1.map sV) (p0 ps).name (p0 ps).line h.uo h.co h.io h.no (p0 ps).ups.length h.uc (p0 ps).consts.length h.cc (p0 ps).ins.length h.ic (p0 ps).named.length h.nc (Dn ps ps.length) ps.length (okI s1 s2 t d c) W (Ms hfi) hl (by simpa using hm1) hgw (fun _=>⟨hnp,hn,hmn,hre,hP⟩) (Zp (h1.l hb)) hio (fun W2 hb2=>(hpr W2 hb2).mono fun e w' ⟨a,c,h1,_,h3⟩=>⟨a,c,h1,h3⟩);have e:(inR pace 0 1000&&okI s1 s2 t d c&&decide (0<ps.length))=okB ps s1 s2 t d c pace:=by rw[okB,decide_eq_true hc,decide_eq_true hnp];simp[Bool.and_comm]
  rw[e]at nm;exact nm
 ·rw[qOf,if_neg hc,cOf,if_neg hc]at hpr;have nm:=Nh g 0 ps.length c0 0 0 false b1 b2 c1 s2.length c2 t d c pace (s1.map sV) ByteArray.empty 0 none none none none 0 0 0 0 0 0 0 0 0 0 (okI s1 s2 t d c) W (yE _) (yE _) (by simpa using hm1) (yF hgl hb.size) (fun h=>absurd h (Nat.lt_irrefl _)) (Zp (h1.l hb)) hio (fun W2 hb2=>(hpr W2 hb2).mono fun e w' ⟨a,c,h1,_,h3⟩=>⟨a,c,h1,h3⟩);have e:okB ps s1 s2 t d c pace=false:=by rw[okB,decide_eq_false hc];rfl
  simp only[e,Bool.false_eq_true,if_false];refine nm.mono fun e w' ⟨he,hb⟩=>⟨?_,hb⟩;rw[if_neg (by simp)]at he;exact he
section
variable (ps:List Pd) (s1 s2:List ByteArray) (t d c pace:Int)
noncomputable def paB:Int:=if okB ps s1 s2 t d c pace=true then pace else 0
noncomputable def caB:List (Int×Int):=if okB ps s1 s2 t d c pace=true then List.replicate (Dn ps ps.length) (0,0) else []
noncomputable def A4k:Option Tk:=if okB ps s1 s2 t d c pace=true then some (tk0 (rs0 ps s1)) else none
end
def MAt (lo:Nat) (w:World) (P:Int) (CS:List (Int×Int)) (T:Option Tk) (v:Value):Prop:=∃co cc to_ tc,v=.agg (mcs P co CS.length cc to_ (tkN T) tc)/\Hz lo w co CS/\Tn lo w to_ T
theorem MAt.l {lo:Nat} {w w':World} {P:Int} {CS:List (Int×Int)} {T:Option Tk} {v:Value} (h:MAt lo w P CS T v) (hk:A7 lo w w'):MAt lo w' P CS T v:=by obtain⟨co,cc,to_,tc,e,h1,h2⟩:=h;exact⟨co,cc,to_,tc,e,h1.l hk,h2.l hk⟩
def Rn (lo hi:Nat) (w:World) (P:Int) (CS:List (Int×Int)) (T:Option Tk) (v:Value):Prop:=∃co cc to_ tc Lc Lt x,v=.agg (mcs P co CS.length cc to_ (tkN T) tc)/\xN x=tkN T/\CM w co Lc CS.length/\TsM w to_ Lt x/\XOk x/\(∀b∈Lc++Lt,lo<=b/\b<hi)/\(∀b∈Lt,b∉Lc)
theorem A3h (lo:Nat) (w:World):MAt lo w 0 [] none (.agg mz):=⟨none,0,none,0,rfl,fun i x hx=>by simp at hx,trivial⟩
theorem A92 (lo hi:Nat) (w:World):Rn lo hi w 0 [] none (.agg mz):=⟨none,0,none,0,[],[],none,rfl,rfl,.inl rfl,trivial,trivial,by simp,by simp⟩
theorem specB (g b1 b2 c0 c1 c2:Nat) (ps:List Pd) (s1 s2:List ByteArray) (t d c pace:Int) (w:World) (hfi:Kh ps) (hv:Ad 0 w g ps) (hm1:s1.length<=1048576) (hm2:s2.length<=1048576) (h1:Ch w b1 s1) (h2:Ch w b2 s2) :
  Calls prog 23 #[.agg #[.slice g ps.length c0],.agg #[.slice b1 s1.length c1,.slice b2 s2.length c2,t,d,c],pace] w fun e w'=>(∃v,e=.returned v/\MAt (w:Nat) w' (paB ps s1 s2 t d c pace) (caB ps s1 s2 t d c pace) (A4k ps s1 s2 t d c pace) v)/\Below w w w':=by
 refine(A1h g b1 b2 c0 c1 c2 ps s1 s2 t d c pace w hfi hv hm1 hm2 h1 h2).mono fun e w' ⟨he,hb⟩=>⟨?_,hb⟩;unfold paB caB A4k;split at he
 ·rename_i ho;rw[if_pos ho,if_pos ho,if_pos ho];obtain⟨co,cc,to_,tc,rfl,k1,k2⟩:=he.at (by simp[rs0]);exact⟨_,rfl,co,cc,to_,tc,rfl,k1,k2⟩
 ·rename_i ho;rw[if_neg ho,if_neg ho,if_neg ho];exact⟨_,he,A3h _ _⟩
theorem implB (g b1 b2 c0 c1 c2:Nat) (ps:List Pd) (s1 s2:List ByteArray) (t d c pace:Int) (w:World) (hfi:Kh ps) (hF:Hm w) (hv:Ad 0 w g ps) (hcap:Kz w g ps ps.length) (hgl:g<(w:Nat)) (hm1:s1.length<=1048576) (hm2:s2.length<=1048576) (h1:Ch w b1 s1) (h2:Ch w b2 s2) :
  Calls prog 25 #[.agg #[.slice g ps.length c0],.agg #[.slice b1 s1.length c1,.slice b2 s2.length c2,t,d,c],pace] w fun e w'=>(∃v,e=.returned v/\MAt (w:Nat) w' (paB ps s1 s2 t d c pace) (caB ps s1 s2 t d c pace) (A4k ps s1 s2 t d c pace) v/\Rn (w:Nat) w'.heap.size w' (paB ps s1 s2 t d c pace) (caB ps s1 s2 t d c pace) (A4k ps s1 s2 t d c pace) v)/\Below w w w':=by
 refine(A09 g b1 b2 c0 c1 c2 ps s1 s2 t d c pace w hfi hF hv hcap hgl hm1 hm2 h1 h2).mono fun e w' ⟨he,hb⟩=>⟨?_,hb⟩;unfold paB caB A4k;split at he
 ·rename_i ho;rw[if_pos ho,if_pos ho,if_pos ho];have hc:(Cj ps).1=0:=by simp[okB]at ho;exact ho.1.1
  have hrl:(rs0 ps s1).length=n0 ps:=by simp[rs0]
  have hn:=(Uh hc hv).2.2.1;have hri:=A1d (m:=(p0 ps).params.toNat) (re:=(p0 ps).rest) (vs:=s1.map sV) (by simpa using hm1) (Abg s1) (n0 ps);obtain⟨co,cc,to_,tc,e1,k1,k2⟩:=he.weak.at hrl;obtain⟨co',cc',to',tc',Lc,Lt,xs,e2,m1,m2,m3,m4,m5⟩:=he.marks hrl (by omega) (fun r hr=>(hri r hr).2.2) Abt;refine⟨_,e1,⟨co,cc,to_,tc,rfl,k1,k2⟩,co',cc',to',tc',Lc,Lt,some xs,?_,rfl,by rw[List.length_replicate];exact m1,m2,m3,m4,m5⟩;rw[e1]at e2;rw[Ending.returned.inj e2,List.length_replicate];rfl
 ·rename_i ho;rw[if_neg ho,if_neg ho,if_neg ho];exact⟨_,he,A3h _ _,A92 _ _ _⟩
theorem eqB {P:Int} {CS:List (Int×Int)} {T:Option Tk} {v u:Value} (w:World) (hm:CS.length<=1048576) (ht:Aa2 T) (h1:MAt 0 w P CS T v) (h2:MAt 0 w P CS T u):Kw 26 #[v,u] w (true):=by obtain⟨co,cc,to_,tc,rfl,a1,a2⟩:=h1;obtain⟨co',cc',to',tc',rfl,b1,b2⟩:=h2;exact Xi P co co' to_ to' cc cc' tc tc' CS T w hm ht a1 b1 a2 b2
def Sq (w:World) (K:Nat) (v:Value):Prop:=∃P co n cc to_ tc x,v=.agg (mcs P co n cc to_ (xN x) tc)/\n<=1048576/\XOk x/\Hz 0 w co (mCs 1 n)/\Xc w to_ (1+n*2) x/\K=kX (1+n*2) x
theorem Sq.l {w w':World} {K:Nat} {v:Value} (h:Sq w K v) (hb:Below w w w'):Sq w' K v:=by obtain⟨P,co,n,cc,to_,tc,x,e,h1,h2,h3,h4,h5⟩:=h;exact⟨P,co,n,cc,to_,tc,x,e,h1,h2,h3.l (A7.o hb),h4.l hb,h5⟩
theorem markB {lo hi:Nat} {P:Int} {CS:List (Int×Int)} {T:Option Tk} {v:Value} (w:World) (hm:CS.length<=1048576) (hh:hi<=(w:Nat)) (h:Rn lo hi w P CS T v):Calls prog 29 #[v,(1:Int)] w fun e w'=>∃K:Nat,e=.returned K/\Sq w' K v/\Jm lo hi w w':=by obtain⟨co,cc,to_,tc,Lc,Lt,x,rfl,hx,h1,h2,h3,h4,h5⟩:=h;rw[←hx];refine(Xz P co to_ CS.length cc tc Lc Lt x w hm (fun b hb=>yF (h4 b hb).2 hh) h5 h1 h2).mono fun e w' ⟨he,k1,k2,k3⟩=>⟨_,he,⟨P,co,CS.length,cc,to_,tc,x,rfl,hm,h3,k1,k2,rfl⟩,⟨k3.os,k3.tape,k3.output,k3.size,fun b hb hs=>k3.block b (fun hm=>by have:=h4 b hm;omega) hs⟩⟩
theorem heldB {K:Nat} {v:Value} (w:World) (h:Sq w K v):Kw 30 #[v,(1:Int)] w K:=by obtain⟨P,co,n,cc,to_,tc,x,rfl,h1,h2,h3,h4,rfl⟩:=h;exact Xk P co to_ n cc tc x w h1 h2 h3 h4
theorem Aeq {ps:List Pd} {s1:List ByteArray} (hm:s1.length<=1048576):∀r∈rs0 ps s1,Zk r:=by
 intro r hr;obtain⟨i,_,rfl⟩:=List.mem_map.1 hr;have hf:∀(u:Vd),u∈s1.map sV->u.flt<18446744073709551616:=fun u hu=>by
  obtain⟨s,_,rfl⟩:=List.mem_map.1 hu;exact(by decide:(0:Nat)<18446744073709551616)
 unfold Fw;split
 ·refine⟨?_,by simp,fun u hu=>by simp at hu⟩;show Vd.flt ((s1.map sV).getD i zV)<_;rw[yR];cases h:(s1.map sV)[i]? with
  | none=>exact(by decide:(0:Nat)<18446744073709551616)
  | some u=>exact hf u (yH h)
 ·split
  ·exact⟨(by decide:(0:Nat)<18446744073709551616),by simp;omega,fun u hu=>hf u (List.mem_of_mem_drop hu)⟩
  ·exact⟨(by decide:(0:Nat)<18446744073709551616),by simp,fun u hu=>by simp at hu⟩
theorem Adv {ps:List Pd} {s1 s2:List ByteArray} {t d c pace:Int} (hm:s1.length<=1048576):Aa2 (A4k ps s1 s2 t d c pace):=by
 unfold A4k;split
 ·rename_i ho;have hc:(Cj ps).1=0:=by simp[okB]at ho;exact ho.1.1
  obtain⟨p,hp,hr,_⟩:=Ut hc;have e:p0 ps=p:=by cases ps with|nil=>simp at hp|cons q r=>simpa[p0]using hp
  refine⟨(by decide:(0:Nat)<18446744073709551616),?_,Aeq hm⟩;show (rs0 ps s1).length<=_;simp[rs0,n0,e];omega
 ·trivial
theorem Acs {ps:List Pd} {s1 s2:List ByteArray} {t d c pace:Int} (hf:Kh ps):(caB ps s1 s2 t d c pace).length<=1048576:=by
 unfold caB;split
 ·rw[List.length_replicate];exact Ms hf
 ·exact yE _
end Go.Proofs.YtjbbppblgjhapaaGreatDoor
