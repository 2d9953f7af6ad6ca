import Derived.Test.YtbefeflgjipfhaaGreatDoorF16
set_option maxRecDepth 8000
set_option maxHeartbeats 8000000
namespace Go.Proofs.YtbefeflgjipfhaaGreatDoor
open Go.Deep Go.Proofs.Tryz Go.RowKit
attribute [local go_sem] A7 vi
theorem Si (bl bm bc br n r cp pc ci il ic a gl gk:Nat) (go:Option Addr) (xB xC xD:Int) (cc:Cc) (m:Mc) (ρ:Nat->R8) (w:World) (hr:r<n) (ha:a<il) (ha1:il<=1000)
  (S:CS bl bm bc cp pc ci il ic a 28 r xB xC xD w) (n1:bl∉[bm]) (n2:bc∉[bm]) (n3:cp∉[bm]) (n4:ci∉[bm]) (M:MAt w bm {m with got:=.slice go gl gk})
  (C:CAt w bc {cc with regs:=.slice (some ⟨br,0,none⟩) n n,at_:=.int .i64 a}) (X:RgA w br n ρ) :
  Calls prog 187 #[pz' bl,pz' bc] w fun e' w'=>e'=.returned .nilIface/\Chg [bc,br,bm] w w'/\MAt w' bm {m with has:=.bool false,got:=.slice none 0 0}/\RgA w' br n (upd ρ r (.li go gl gk))/\CAt w' bc {cc with regs:=.slice (some ⟨br,0,none⟩) n n,at_:=.int .i64 (a+1)}:=by
 have DW:Below w.heap.size w w.drew:=(Below.refl _ _).drew
 have DA:Below w.heap.size w (w.alloc (.cells iz 58)).drew:=((Below.refl _ _).alloc (Nat.le_refl _) _).drew
 have t1:=(S.l DW).t
 have a0:(0:Int)<=a:=by omega
 have a1:(a:Int)<il:=by omega
 have HTK:Hid (∀W,Below w.heap.size w W->Calls prog 104 #[pz' bm] W fun e w'=>e=.returned (.slice go gl gk)/\Chg [bm] W w'/\MAt w' bm {m with has:=.bool false,got:=.slice none 0 0}):=fun W hW=>Nu bm m go gl gk W (M.l hW)
 have lts:bl<w.heap.size/\bc<w.heap.size/\cp<w.heap.size/\ci<w.heap.size:=⟨World.block_lt_of_cell? _ _ S.l0,World.block_lt_of_cell? _ _ S.c1,World.block_lt_of_cell? _ _ S.p7,World.block_lt_of_cell? _ _ S.i0⟩
 have k1:bl∉[w.heap.size]:=by simp;omega
 have k2:bc∉[w.heap.size]:=by simp;omega
 have k3:cp∉[w.heap.size]:=by simp;omega
 have k4:ci∉[w.heap.size]:=by simp;omega
 have hM:=M.lt
 clear lts
 go_enter func187,ntmps187
 go_wp2_with fail
 go_region_held3 (fun T=>T.cell? ⟨bl,0,none⟩=some (.pointer (some ⟨bm,0,none⟩))/\T.cell? ⟨bl,1,none⟩=some (.slice (some ⟨cp,0,none⟩) 1 pc)/\T.cell? ⟨bc,1,none⟩=some (.int .i64 0)/\T.cell? ⟨bc,3,none⟩=some (.int .i64 a)/\T.cell? ⟨cp,7,none⟩=some (.slice (some ⟨ci,0,none⟩) il ic)/\T.cell? ⟨ci,a*5,none⟩=some (.int .i64 28)/\T.cell? ⟨ci,a*5+1,none⟩=some (.int .i64 r)/\T.cell? ⟨ci,a*5+2,none⟩=some (.int .i64 xB)/\T.cell? ⟨ci,a*5+3,none⟩=some (.int .i64 xC)/\T.cell? ⟨ci,a*5+4,none⟩=some (.int .i64 xD)) (first|with_reducible exact t1|with_reducible exact t2|with_reducible exact(S.l DA).t|with_reducible exact((S.l DW).l ((Below.refl _ _).alloc (Nat.le_refl _) _)).t|with_reducible exact(S2.l ((Below.refl _ _).alloc (Nat.le_refl _) _)).t|with_reducible exact(S2.chg ((((((Chg.refl [w.heap.size] _).set (List.mem_singleton.2 rfl) _ _).set (List.mem_singleton.2 rfl) _ _).set (List.mem_singleton.2 rfl) _ _).set (List.mem_singleton.2 rfl) _ _).set (List.mem_singleton.2 rfl) _ _) k1 k2 k3 k4).t) (first|(go_at_call 104;first|(refine(HTK.out _ DA).mono ?_;rintro e w2 ⟨rfl,C2,M2⟩;have S2:=(S.l DA).chg C2 n1 n2 n3 n4;have t2:=S2.t;have T2:Chg [bm] w w2:=((Chg.refl _ _).below DA).trans C2 (fun _ h=>h);have O2:=((Blk.new w iz 58).l (Below.refl _ _).drew).chg C2 (by simp;omega);have os:=O2.cell;have of':=O2.frozen)|(refine(HTK.out _ DW).mono ?_;rintro e w2 ⟨rfl,C2,M2⟩;have S2:=(S.l DW).chg C2 n1 n2 n3 n4;have t2:=S2.t;have T2:Chg [bm] w w2:=((Chg.refl _ _).below DW).trans C2 (fun _ h=>h))))
 all_goals
  first
   | refine Kj (S:=fun U=>Blk U w.heap.size #[.int .i64 28,.int .i64 r,.int .i64 xB,.int .i64 xC,.int .i64 xD] 58/\MAt U bm {m with has:=.bool false,got:=.slice none 0 0}/\Chg [bm] w U) ⟨((((O2.set 0 _).set 1 _).set 2 _).set 3 _).set 4 _,M2.chg ((((((Chg.refl [w.heap.size] _).set (List.mem_singleton.2 rfl) _ _).set (List.mem_singleton.2 rfl) _ _).set (List.mem_singleton.2 rfl) _ _).set (List.mem_singleton.2 rfl) _ _).set (List.mem_singleton.2 rfl) _ _) (by simp;omega),Ib T2 ((((((Chg.refl [w.heap.size] _).set (List.mem_singleton.2 rfl) _ _).set (List.mem_singleton.2 rfl) _ _).set (List.mem_singleton.2 rfl) _ _).set (List.mem_singleton.2 rfl) _ _).set (List.mem_singleton.2 rfl) _ _) (by simp)⟩ (fun U hU=>?_)
   | refine Kj (S:=fun U=>Blk U w2.heap.size #[.int .i64 28,.int .i64 r,.int .i64 xB,.int .i64 xC,.int .i64 xD] 58/\MAt U bm {m with has:=.bool false,got:=.slice none 0 0}/\Chg [bm] w U) ⟨Blk.new w2 _ _,M2.alloc _,T2.below ((Below.refl _ _).alloc (Nat.le_refl _) _)⟩ (fun U hU=>?_)
  obtain⟨IU,MU,TU⟩:=hU
  have CU:=C.chg TU n2
  have XU:=X.chg TU (by simpa using Aa X.blk M (by decide))
  have nbr:bc≠br:=Aa C X.blk (by decide)
  have wa:IntKind.i64.wrap ((a:Int)+1)=a+1:=wr (by omega) (by omega)
  clear t1 t2 S2 T2 M2 C2
  have is:=IU.cell
  go_wp2_with fail
  refine(putL bc br r n {cc with at_:=.int .i64 a} ρ go gl gk _ hr CU XU).mono ?_
  rintro e w6 ⟨rfl,C6,X6⟩
  have D6:=CU.chg C6 (by simpa using nbr)
  have M6:=MU.chg C6 (by simpa using Aa M X.blk (by decide))
  have ds:=D6.cell
  have df:=D6.frozen
  clear is
  go_wp2_with fail
  go_ret
  have C7:Chg [bc] w6 (w6.setCell ⟨bc,3,none⟩ (.int .i64 (a+1))):=(Chg.refl _ _).set (by simp) _ _
  exact⟨rfl,(((TU.mono (M:=[bc,br,bm]) (by simp)).trans C6 (fun b h=>by simp at h;simp[h])).trans C7 (fun b h=>by simp at h;simp[h])),M6.chg C7 (by simpa using Aa M C (by decide)),X6.chg C7 (by simpa using Ne.symm nbr),D6.set 3 _⟩
structure FD (bl bm bs gs rf lo g cap gc:Nat) (mc:Mc) (sp sk so:Value) (ve tn cv cq:Int) (L:Nat) (ps:List Pr) (w:World):Prop where
 l:∃A,Blk w bl A 82/\A[0]?=some (pz' bm)
 m:MAt w bm mc
 s:∃A,Blk w gs A 127/\A[rf]?=some (pz' bs)
 y:Blk w bs (st sp sk so (.int .i64 ve) (.slice (some ⟨g,0,none⟩) L cap) (.int .i64 tn)) 176
 p:w.ownsRow lo 223 11 (.slice (some ⟨g,0,none⟩) L cap) ps.length (prs ps)
 c:Blk w gc #[.int .i64 cv,.int .i64 cq] 141
theorem Ei {w w':World} {lo e size n:Nat} {v:Value} {xs:List Value} {ts:List TypeId} (h:w.ownsRow lo e size v n xs) (hf:FrT ts w w') (ht:e∉ts):w'.ownsRow lo e size v n xs:=
 ⟨h.1,h.2.imp id fun ⟨g,cap,cur,h1,h2,h3,h4⟩=>⟨g,cap,cur,h1,h2,hf.block _ _ _ _ h3 ht,h4⟩⟩
theorem FD.fr {bl bm bs gs rf lo g cap gc:Nat} {mc:Mc} {sp sk so:Value} {ve tn cv cq:Int} {L:Nat} {ps:List Pr} {w w':World} {ts:List TypeId} (h:FD bl bm bs gs rf lo g cap gc mc sp sk so ve tn cv cq L ps w) (hf:FrT ts w w') (h1:82∉ts) (h2:88∉ts) (h3:127∉ts) (h4:176∉ts) (h5:223∉ts) (h6:141∉ts):FD bl bm bs gs rf lo g cap gc mc sp sk so ve tn cv cq L ps w':=
 ⟨let ⟨A,a1,a2⟩:=h.l;⟨A,a1.fr hf h1,a2⟩,h.m.fr hf h2,let ⟨A,a1,a2⟩:=h.s;⟨A,a1.fr hf h3,a2⟩,h.y.fr hf h4,Ei h.p hf h5,h.c.fr hf h6⟩
structure HF (bl bm bs g gc j L cap:Nat) (sp sk so:Value) (ve tn:Int) (pp:Pr) (T:World):Prop where
 lz:T.cell? ⟨bl,0,none⟩=some (.pointer (some ⟨bm,0,none⟩))
 y:Blk T bs (st sp sk so (.int .i64 ve) (.slice (some ⟨g,0,none⟩) L cap) (.int .i64 tn)) 176
 c:Blk T gc #[.int .i64 ve,.int .i64 j] 141
 e5:T.cell? ⟨g,j*11+5,none⟩=some (.int .i64 pp.xa)
 e6:T.cell? ⟨g,j*11+6,none⟩=some (.int .i64 pp.xb)
 e7:T.cell? ⟨g,j*11+7,none⟩=some (.float .f64 0)
 e8:T.cell? ⟨g,j*11+8,none⟩=some (.string pp.xd)
 e9:T.cell? ⟨g,j*11+9,none⟩=some (.int .i64 0)
theorem HF.t {bl bm bs g gc j L cap:Nat} {sp sk so:Value} {ve tn:Int} {pp:Pr} {T:World} (h:HF bl bm bs g gc j L cap sp sk so ve tn pp T):T.cell? ⟨bl,0,none⟩=some (.pointer (some ⟨bm,0,none⟩))/\(∀o',T.cell? ⟨bs,o',none⟩=(#[sp,sk,so,.int .i64 ve,.slice (some ⟨g,0,none⟩) L cap,.int .i64 tn,.pointer none,.bool false,.int .i64 0,.slice none 0 0,.int .i64 0,.int .i64 0,.float .f64 0,.string ByteArray.empty,.int .i64 0]:Array Value)[o']?)/\(∀o',T.cell? ⟨gc,o',none⟩=(#[.int .i64 ve,.int .i64 j]:Array Value)[o']?)/\T.cell? ⟨g,j*11+5,none⟩=some (.int .i64 pp.xa)/\T.cell? ⟨g,j*11+6,none⟩=some (.int .i64 pp.xb)/\T.cell? ⟨g,j*11+7,none⟩=some (.float .f64 0)/\T.cell? ⟨g,j*11+8,none⟩=some (.string pp.xd)/\T.cell? ⟨g,j*11+9,none⟩=some (.int .i64 0):=⟨h.lz,h.y.cell,h.c.cell,h.e5,h.e6,h.e7,h.e8,h.e9⟩
theorem HF.l {bl bm bs g gc j L cap:Nat} {sp sk so:Value} {ve tn:Int} {pp:Pr} {T T':World} (h:HF bl bm bs g gc j L cap sp sk so ve tn pp T) (hb:Below T.heap.size T T'):HF bl bm bs g gc j L cap sp sk so ve tn pp T':=⟨cb h.lz hb,h.y.l hb,h.c.l hb,cb h.e5 hb,cb h.e6 hb,cb h.e7 hb,cb h.e8 hb,cb h.e9 hb⟩
theorem HF.chg {bl bm bs g gc j L cap:Nat} {sp sk so:Value} {ve tn:Int} {pp:Pr} {X:List Nat} {T T':World} (h:HF bl bm bs g gc j L cap sp sk so ve tn pp T) (hc:Chg X T T') (h1:bl∉X) (h2:bs∉X) (h3:gc∉X) (h4:g∉X):HF bl bm bs g gc j L cap sp sk so ve tn pp T':=⟨hc.cell h1 h.lz,h.y.chg hc h2,h.c.chg hc h3,hc.cell h4 h.e5,hc.cell h4 h.e6,hc.cell h4 h.e7,hc.cell h4 h.e8,hc.cell h4 h.e9⟩
theorem Vb (bl bm bc br n rF rB rf gs ls lc bs lo g cap gc cp ck pc kn kc i L j:Nat) (o xA xE a0 ka kb ve tn ht:Int) (kd:ByteArray) (cc:Cc) (m:Mc) (sp sk so:Value) (ps:List Pr) (pp:Pr) (ρ:Nat->R8) (k1 p1 l1:Value) (w:World) (hrF:rF<n) (hrB:rB<n) (hn:n<=100) (ha:0<=a0) (ha1:a0<=6000) (hi:i<kn) (hh:0<=ht) (hh1:ht<=100000) (hrf:rf<ls) (hL:L=ps.length) (hj:ps[j]?=some pp)
  (h1:upd ρ rF .none rB=.v5 k1 5 0 0 ByteArray.empty rf p1 l1) (C:CAt w bc {cc with proto:=.int .i64 0,regs:=.slice (some ⟨br,0,none⟩) n n,at_:=.int .i64 a0}) (X:RgA w br n ρ) (hcc:cp≠bc/\ck≠bc)
  (F:FD bl bm bs gs rf lo g cap gc {m with slots:=.slice (some ⟨gs,0,none⟩) ls lc,caches:=.slice (some ⟨gc,0,none⟩) 1 1,hits:=.int .i64 ht} sp sk so ve tn ve j L ps w) (K:KO bl cp ck pc kn kc i br (va ka kb 0 kd 0) w w) :
  Calls prog 78 #[pz' bl,pz' bc,.agg (qa o xA rB i 0 xE rF)] w fun e' w'=>e'=.returned .nilIface/\∃h,w.heap.size<=h/\Blk w' h (va pp.xa pp.xb 0 pp.xd 0) 52/\Chg [bc,br,bm] w w'/\RgA w' br n (upd ρ rF .none)/\CAt w' bc {cc with proto:=.int .i64 0,regs:=.slice (some ⟨br,0,none⟩) n n,at_:=.int .i64 (a0+1)}/\MAt w' bm {m with slots:=.slice (some ⟨gs,0,none⟩) ls lc,caches:=.slice (some ⟨gc,0,none⟩) 1 1,hits:=.int .i64 (ht+1),has:=.bool true,got:=.slice (some ⟨h,0,none⟩) 1 1}:=by
 have B0:Below w.heap.size w (w.alloc (.cells (qa o xA rB i 0 xE rF) 161)):=(Below.refl _ _).alloc (Nat.le_refl _) _
 have Z0:=Blk.new w (qa o xA rB i 0 xE rF) 161
 have H1:Hid (upd ρ rF .none rB=.v5 k1 5 0 0 ByteArray.empty rf p1 l1):=h1
 have wa:IntKind.i64.wrap (a0+1)=a0+1:=wr (by omega) (by omega)
 have hlc:bl≠bc:=let ⟨_,a1,_⟩:=F.l;Aa a1 C (by decide)
 have HJ:Hid (ps[j]?=some pp):=hj
 have hjL:j<L:=by rw[hL];exact(List.getElem?_eq_some_iff.1 hj).1
 have HLn:Hid (L=ps.length):=hL
 clear h1 hj hL
 have zs:=Z0.cell
 go_enter func78,ntmps78
 go_wp2_with fail
 refine(U0 bc br rF n {cc with proto:=.int .i64 0,at_:=.int .i64 a0} ρ _ hrF (C.l B0) (X.l B0)).mono ?_
 rintro e w1 ⟨rfl,C1,X1⟩
 have nbr:bc≠br:=Aa C X.blk (by decide)
 have D1:=(C.l B0).chg C1 (by simpa using nbr)
 have ds:=D1.cell
 have df:=D1.frozen
 clear zs
 go_wp2_with fail
 have C2:Chg [bc] w1 (w1.setCell ⟨bc,3,none⟩ (.int .i64 (a0+1))):=(Chg.refl _ _).set (by simp) _ _
 have E2:=D1.set 3 (.int .i64 (a0+1))
 have X2:=X1.chg C2 (by simpa using Ne.symm nbr)
 have f1:FrT [178,131] w w1:=(FrT.below B0).trans (FrT.chg C1 (by simp only[List.mem_singleton];rintro _ rfl;exact⟨_,_,_,(X.l B0).blk,by simp⟩)) (fun _ h=>h)
 have f2:FrT [178,131] w1 (w1.setCell ⟨bc,3,none⟩ (.int .i64 (a0+1))):=FrT.chg C2 (by simp only[List.mem_singleton];rintro _ rfl;exact⟨_,_,_,D1,by simp⟩)
 have F2:=F.fr (f1.trans f2 (fun _ h=>h)) (by decide) (by decide) (by decide) (by decide) (by decide) (by decide)
 have Z1:=Z0.chg C1 (by simpa using Aa Z0 (X.l B0).blk (by decide))
 have Z2:=Z1.chg C2 (by simpa using Aa Z1 D1 (by decide))
 have K1:=(K.keep B0 (Nat.le_refl _)).chg C1 B0.size
 have hs1:w.heap.size<=w1.heap.size:=Nat.le_trans B0.size C1.size
 have K2:KO bl cp ck pc kn kc i br (va ka kb 0 kd 0) w (w1.setCell ⟨bc,3,none⟩ (.int .i64 (a0+1))):=⟨⟨(C2.at (by simpa using hlc) (Nat.lt_of_lt_of_le K.lt.1 hs1)).trans K1.k.l,(C2.at (by simpa using hcc.1) (Nat.lt_of_lt_of_le K.lt.2.1 hs1)).trans K1.k.p⟩,fun j hj=>(C2.at (by simpa using hcc.2) (Nat.lt_of_lt_of_le K.lt.2.2 hs1)).trans (K1.g j hj),K.lt,K.ne⟩
 have G2:Chg [bc,br,bm] w (w1.setCell ⟨bc,3,none⟩ (.int .i64 (a0+1))):=(((Chg.refl _ _).below B0).trans C1 (fun b h=>by simp at h;simp[h])).trans C2 (fun b h=>by simp at h;simp[h])
 have hs2:w.heap.size<(w1.setCell ⟨bc,3,none⟩ (.int .i64 (a0+1))).heap.size:=Z2.lt
 clear ds df C2 D1 X1 K1 C1 hs1 K Z0 Z1 B0 F f1 f2
 revert E2 X2 Z2 K2 F2 G2 hs2
 obtain⟨V,hV⟩:∃z,z=w1.setCell ⟨bc,3,none⟩ (.int .i64 (a0+1)):=⟨_,rfl⟩
 rw[←hV]
 clear hV
 intro E2 X2 F2 Z2 K2 G2 hs2
 have DW:Below V.heap.size V V.drew:=(Below.refl _ _).drew
 have O2:OpR bc br n w.heap.size {cc with proto:=.int .i64 0,at_:=.int .i64 (a0+1)} (qa o xA rB i 0 xE rF) (upd ρ rF .none) V V.drew:=⟨Z2.l DW,Blk.l E2 DW,X2.l DW,(Chg.refl _ _).below DW⟩
 have HO:Hid (OpR bc br n w.heap.size {cc with proto:=.int .i64 0,at_:=.int .i64 (a0+1)} (qa o xA rB i 0 xE rF) (upd ρ rF .none) V V.drew/\KO bl cp ck pc kn kc i br (va ka kb 0 kd 0) w V.drew):=⟨O2,K2.keep DW (Nat.le_of_lt hs2)⟩
 have zs:=O2.q.cell
 have F2b:=X2.blk
 clear O2 E2 Z2 K2 C X
 refine Js (fun a W=>∃b1 b2,a=tmA ((fun x' y' p q=>#[pz' bl,pz' bc,.agg (qa o xA rB i 0 xE rF),undef,undef,pz' w.heap.size,.nilIface,p,q,undef,undef,undef,pz' bc,.pointer (some ⟨w.heap.size,6,none⟩),.int .i64 rF,.tuple #[],pz' bc,pz' bc,.pointer (some ⟨bc,3,none⟩),.int .i64 a0,.int .i64 (a0+1),pz' bc,.pointer (some ⟨bc,3,none⟩),pz' bc,.pointer (some ⟨w.heap.size,2,none⟩),.int .i64 rB,x',pz' bl,pz' bc,.pointer (some ⟨w.heap.size,3,none⟩),.int .i64 i,y',undef,undef,undef,undef,undef,undef,undef,undef,undef,undef,undef,undef,undef,undef,undef,undef,undef,undef,undef,undef,undef,undef,undef,undef,undef,undef,undef,undef,undef,undef,undef,undef,undef,undef,undef,undef,undef,undef,undef,undef,undef,undef,undef,undef,undef,undef,undef,undef,undef,undef,undef,undef,undef,undef,undef,undef,undef,undef,undef,undef,undef,undef,undef,undef,undef,undef,undef,undef,undef,undef,undef,undef,undef,undef,undef,undef,undef,undef,undef,undef,undef,undef,undef,undef,undef,undef,undef,undef,undef,undef,undef,undef,undef]) (.agg (va 5 0 0 ByteArray.empty rf)) (.agg (va ka kb 0 kd 0)) (pz' b1) (pz' b2))/\OpR bc br n w.heap.size {cc with proto:=.int .i64 0,at_:=.int .i64 (a0+1)} (qa o xA rB i 0 xE rF) (upd ρ rF .none) V W/\Blk W b1 (va 5 0 0 ByteArray.empty rf) 52/\Blk W b2 (va ka kb 0 kd 0) 52) ?_ ?_
 ·refine rgM (fun W=>(∀o',W.cell? ⟨w.heap.size,o',none⟩=(#[.int .i64 o,.int .i64 xA,.int .i64 rB,.int .i64 i,.int .i64 0,.int .i64 xE,.int .i64 rF]:Array Value)[o']?)) zs (fun hS=>?_)
  iterate 3 (refine tkM rfl (by kernel_rfl) (by rfl) hS ⟨?_,fun W hW=>?_,?_⟩;rotate_left;(focus (go_simp;with_reducible rfl));simp only[Act.put,List.getElem_toArray,List.getElem_cons_zero,List.getElem_cons_succ,List.setIfInBounds_toArray,List.set_cons_succ,List.set_cons_zero])
  refine He [4,5,6,7,3,8,9,10,11,12] (by kernel_rfl) ?_
  iterate 4 (refine tkM rfl (by kernel_rfl) (by rfl) hS ⟨?_,fun W hW=>?_,?_⟩;rotate_left;(focus (go_simp;with_reducible rfl));simp only[Act.put,List.getElem_toArray,List.getElem_cons_zero,List.getElem_cons_succ,List.setIfInBounds_toArray,List.set_cons_succ,List.set_cons_zero])
  refine twoC 3 8 9 10 11 12 (by kernel_rfl) (by decide) (fun x' y' p q=>#[pz' bl,pz' bc,.agg (qa o xA rB i 0 xE rF),undef,undef,pz' w.heap.size,.nilIface,p,q,undef,undef,undef,pz' bc,.pointer (some ⟨w.heap.size,6,none⟩),.int .i64 rF,.tuple #[],pz' bc,pz' bc,.pointer (some ⟨bc,3,none⟩),.int .i64 a0,.int .i64 (a0+1),pz' bc,.pointer (some ⟨bc,3,none⟩),pz' bc,.pointer (some ⟨w.heap.size,2,none⟩),.int .i64 rB,x',pz' bl,pz' bc,.pointer (some ⟨w.heap.size,3,none⟩),.int .i64 i,y',undef,undef,undef,undef,undef,undef,undef,undef,undef,undef,undef,undef,undef,undef,undef,undef,undef,undef,undef,undef,undef,undef,undef,undef,undef,undef,undef,undef,undef,undef,undef,undef,undef,undef,undef,undef,undef,undef,undef,undef,undef,undef,undef,undef,undef,undef,undef,undef,undef,undef,undef,undef,undef,undef,undef,undef,undef,undef,undef,undef,undef,undef,undef,undef,undef,undef,undef,undef,undef,undef,undef,undef,undef,undef,undef,undef,undef,undef,undef,undef,undef,undef,undef,undef,undef,undef,undef,undef,undef,undef,undef,undef,undef]) V.heap.size (va 5 0 0 ByteArray.empty rf) (va ka kb 0 kd 0) (fun W=>OpR bc br n w.heap.size {cc with proto:=.int .i64 0,at_:=.int .i64 (a0+1)} (qa o xA rB i 0 xE rF) (upd ρ rF .none) V W/\KO bl cp ck pc kn kc i br (va ka kb 0 kd 0) w W) (fun W=>OpR bc br n w.heap.size {cc with proto:=.int .i64 0,at_:=.int .i64 (a0+1)} (qa o xA rB i 0 xE rF) (upd ρ rF .none) V W/\KO bl cp ck pc kn kc i br (va ka kb 0 kd 0) w W) (fun W=>OpR bc br n w.heap.size {cc with proto:=.int .i64 0,at_:=.int .i64 (a0+1)} (qa o xA rB i 0 xE rF) (upd ρ rF .none) V W/\KO bl cp ck pc kn kc i br (va ka kb 0 kd 0) w W) [178] (by decide) (fun W h=>h.1.q.cell) (fun W h=>h.1.q.cell) (fun W h=>h.1.q.cell) (fun W W' h hf hb=>⟨h.1.keep hf hb (Nat.le_refl _),h.2.keep hb (Nat.le_of_lt hs2)⟩) (fun W W' h hf hb=>⟨h.1.keep hf hb (Nat.le_refl _),h.2.keep hb (Nat.le_of_lt hs2)⟩) (fun W W' h hf hb=>⟨h.1.keep hf hb (Nat.le_refl _),h.2.keep hb (Nat.le_of_lt hs2)⟩) ?_ ?_ ?_ ?_ ?_ ?_ ?_ undef undef undef undef _ HO.out (by simp)
  ·intro x' y' p q W hR
   refine⟨_,rfl,by rfl,fun K hK=>?_⟩
   go_wp2_with fail
   refine(hR.1.reg2 rB rB k1 5 0 0 ByteArray.empty rf p1 l1 hrB hn (.inl rfl) H1.out).mono ?_
   rintro e' w3 ⟨rfl,g1,g2,g3⟩
   rw[if_neg (by omega)]at g1
   exact hK.out _ ⟨g1,hR.2.chg g3 (Nat.le_trans (Nat.le_of_lt hs2) hR.1.g.size)⟩ g2
  ·intro x' y' p q W hR
   refine⟨_,rfl,by rfl,fun K hK=>?_⟩
   go_wp2_with fail
   refine(V9 bl bc cp ck pc kn kc i {cc with regs:=.slice (some ⟨br,0,none⟩) n n,at_:=.int .i64 (a0+1)} ka kb 0 kd 0 W hR.2.k hR.1.c hi hR.2.g).mono ?_
   rintro e' w3 ⟨rfl,hw3⟩
   exact hK.out _ ⟨hR.1.keep (FrT.below hw3) hw3 hR.1.g.size,hR.2.keep hw3 (Nat.le_trans (Nat.le_of_lt hs2) hR.1.g.size)⟩ (FrT.below hw3)
  ·intro x' y' p q W
   refine⟨_,rfl,by rfl,fun K hK=>?_⟩
   go_wp2_with fail
   exact hK.out
  ·intro x' y' p q W
   refine⟨_,rfl,by rfl,fun K hK=>?_⟩
   go_wp2_with fail
   exact hK.out
  ·intro y' b' q W D
   refine⟨_,rfl,by rfl,fun K hK=>?_⟩
   have dc:=D.cell
   have df:=D.frozen
   go_wp2_with fail
   exact hK.out _ ((((((Chg.refl [b'] W).set (by simp) _ _).set (by simp) _ _).set (by simp) _ _).set (by simp) _ _).set (by simp) _ _) (((((D.set 0 _).set 1 _).set 2 _).set 3 _).set 4 _)
  ·intro x' p b' W D
   refine⟨_,rfl,by rfl,fun K hK=>?_⟩
   have dc:=D.cell
   have df:=D.frozen
   go_wp2_with fail
   exact hK.out _ ((((((Chg.refl [b'] W).set (by simp) _ _).set (by simp) _ _).set (by simp) _ _).set (by simp) _ _).set (by simp) _ _) (((((D.set 0 _).set 1 _).set 2 _).set 3 _).set 4 _)
  ·intro b1 b2 W hR D1 D2 _ _
   exact⟨rfl,b1,b2,rfl,hR.1,D1,D2⟩
 ·rintro a W ⟨b1,b2,rfl,hR,D1,D2⟩
  have HR:Hid (OpR bc br n w.heap.size {cc with proto:=.int .i64 0,at_:=.int .i64 (a0+1)} (qa o xA rB i 0 xE rF) (upd ρ rF .none) V W):=hR
  have FW:=F2.fr (ts:=[178]) (FrT.chg hR.g (by simp only[List.mem_singleton];rintro _ rfl;exact⟨_,_,_,F2b,by simp⟩)) (by decide) (by decide) (by decide) (by decide) (by decide) (by decide)
  have EW:Below W.heap.size W W.drew:=(Below.refl _ _).drew
  have hlW:W.cell? ⟨bl,0,none⟩=some (.pointer (some ⟨bm,0,none⟩)):=let ⟨_,a1,a2⟩:=FW.l;(a1.cell 0).trans a2
  have hsW:W.cell? ⟨gs,rf,none⟩=some (pz' bs):=let ⟨_,a1,a2⟩:=FW.s;(a1.cell rf).trans a2
  have l1:=cb hlW EW
  have c7:W.drew.cell? ⟨bm,7,none⟩=some (.slice (some ⟨gc,0,none⟩) 1 1):=FW.m.cell 7
  have v1:=(D1.l EW).cell
  have q1:=(hR.q.l EW).cell
  have HT:Hid (Calls prog 128 #[pz' bm,.agg (va 5 0 0 ByteArray.empty rf)] W.drew fun e' w'=>e'=.returned (pz' bs)/\Below W.drew.heap.size W.drew w'):=Hz bm bs gs ls lc rf {m with caches:=.slice (some ⟨gc,0,none⟩) 1 1,hits:=.int .i64 ht} W.drew hrf (FW.m.l EW) (cb hsW EW)
  clear zs hR X2 F2b F2 HO hsW
  dsimp only[tmA]
  go_wp2_with fail
  go_region_held3 (fun U=>U.cell? ⟨bl,0,none⟩=some (.pointer (some ⟨bm,0,none⟩))/\U.cell? ⟨bm,7,none⟩=some (.slice (some ⟨gc,0,none⟩) 1 1)/\(∀o',U.cell? ⟨b1,o',none⟩=(#[.int .i64 5,.int .i64 0,.float .f64 0,.string ByteArray.empty,.int .i64 rf]:Array Value)[o']?)/\(∀o',U.cell? ⟨w.heap.size,o',none⟩=(#[.int .i64 o,.int .i64 xA,.int .i64 rB,.int .i64 i,.int .i64 0,.int .i64 xE,.int .i64 rF]:Array Value)[o']?)) (first|with_reducible exact⟨l1,c7,v1,q1⟩|with_reducible exact⟨l3,c73,v3,q3⟩) (first|(go_at_call 128;refine HT.out.mono ?_;rintro e' w3 ⟨rfl,hw3⟩;have l3:=cb l1 hw3;have c73:=cb c7 hw3;have v3:=((D1.l EW).l hw3).cell;have q3:=((HR.out.q.l EW).l hw3).cell))
  have b3:Below W.heap.size W w3:=bl2 EW hw3
  have F3:=FW.fr (ts:=[]) (FrT.below b3) (by simp) (by simp) (by simp) (by simp) (by simp) (by simp)
  have l4:=cb hlW b3
  have y3:=(F3.y.l (Below.refl _ _).drew).cell
  have g3:=(F3.c.l (Below.refl _ _).drew).cell
  clear l1 c7 v1 q1 l3 c73 v3 q3 HT hw3 D1 D2
  go_wp2_with fail
  go_region
  have F4:=F3.fr (ts:=[]) (FrT.below (Below.refl _ _).drew) (by simp) (by simp) (by simp) (by simp) (by simp) (by simp)
  have l5:=cb l4 (Below.refl _ w3).drew
  have m4:=F4.m.cell
  have mf:=F4.m.frozen
  have wh:IntKind.i64.wrap (ht+1)=ht+1:=wr (by omega) (by omega)
  clear y3 g3
  go_wp2_with fail
  have C5:Chg [bm] w3.drew (w3.drew.setCell ⟨bm,8,none⟩ (.int .i64 (ht+1))):=(Chg.refl _ _).set (by simp) _ _
  have M5:=F4.m.set 8 (.int .i64 (ht+1))
  have f5:FrT [88] w3.drew (w3.drew.setCell ⟨bm,8,none⟩ (.int .i64 (ht+1))):=FrT.chg C5 (by simp only[List.mem_singleton];rintro _ rfl;exact⟨_,_,_,F4.m,by simp⟩)
  have Y5:=F4.y.fr f5 (by decide)
  have A5:=F4.c.fr f5 (by decide)
  have P5:=Ei F4.p f5 (by decide)
  have nlm:bl∉[bm]:=let ⟨_,a1,_⟩:=F4.l;by simpa using Aa a1 F4.m (by decide)
  have l6:=C5.cell nlm l5
  have b35:Below W.heap.size W w3.drew:=b3.drew
  have XC5:=(HR.out.x.l b35).fr f5 (by decide)
  have CC5:=(HR.out.c.l b35).fr f5 (by decide)
  have G5:Chg [bc,br,bm] w (w3.drew.setCell ⟨bm,8,none⟩ (.int .i64 (ht+1))):=((G2.trans HR.out.g (fun b h=>by simp at h;simp[h])).below b35).trans C5 (fun b h=>by simp at h;simp[h])
  clear m4 mf F4 F3 FW C5 f5 l4 l5 hlW b35
  obtain⟨U,hU⟩:∃z,z=(w3.setCell ⟨bm,8,none⟩ (.int .i64 (ht+1))).drew:=⟨_,rfl⟩
  rw[←hU]
  have hU':w3.drew.setCell ⟨bm,8,none⟩ (.int .i64 (ht+1))=U:=hU.symm
  rw[hU']at M5 Y5 A5 P5 l6 XC5 CC5 G5
  clear hU hU'
  have EU:Below U.heap.size U U.drew:=(Below.refl _ _).drew
  have P6:Cz U lo (.slice (some ⟨g,0,none⟩) ps.length cap) ps:=by rw[←HLn.out];exact P5
  have e5:=Hf P6 HJ.out (j:=5) (by decide)
  have e6:=Hf P6 HJ.out (j:=6) (by decide)
  have e7:=Hf P6 HJ.out (j:=7) (by decide)
  have e8:=Hf P6 HJ.out (j:=8) (by decide)
  have e9:=Hf P6 HJ.out (j:=9) (by decide)
  have e5:U.cell? ⟨g,j*11+5,none⟩=some (.int .i64 pp.xa):=e5
  have e6:U.cell? ⟨g,j*11+6,none⟩=some (.int .i64 pp.xb):=e6
  have e7:U.cell? ⟨g,j*11+7,none⟩=some (.float .f64 0):=e7
  have e8:U.cell? ⟨g,j*11+8,none⟩=some (.string pp.xd):=e8
  have e9:U.cell? ⟨g,j*11+9,none⟩=some (.int .i64 0):=e9
  have h6:HF bl bm bs g gc j L cap sp sk so ve tn pp U:=⟨l6,Y5,A5,e5,e6,e7,e8,e9⟩
  have t7:=(h6.l EU).t
  clear e5 e6 e7 e8 e9
  have EA:Below U.heap.size U (U.alloc (.cells (va pp.xa pp.xb 0 pp.xd 0) 52)).drew:=((Below.refl _ _).alloc (Nat.le_refl _) _).drew
  have j0:(0:Int)<=j:=by omega
  have j1:(j:Int)<L:=by omega
  have N7:=(Blk.new U (va pp.xa pp.xb 0 pp.xd 0) 52).l (Below.refl _ _).drew
  have HGV:Hid (Calls prog 102 #[pz' bm,.slice (some ⟨U.heap.size,0,none⟩) 1 1] (U.alloc (.cells (va pp.xa pp.xb 0 pp.xd 0) 52)).drew fun e w'=>e=.returned (.tuple #[])/\Chg [bm] (U.alloc (.cells (va pp.xa pp.xb 0 pp.xd 0) 52)).drew w'/\MAt w' bm {m with slots:=.slice (some ⟨gs,0,none⟩) ls lc,caches:=.slice (some ⟨gc,0,none⟩) 1 1,hits:=.int .i64 (ht+1),has:=.bool true,got:=.slice (some ⟨U.heap.size,0,none⟩) 1 1}):=Nb bm {m with slots:=.slice (some ⟨gs,0,none⟩) ls lc,caches:=.slice (some ⟨gc,0,none⟩) 1 1,hits:=.int .i64 (ht+1)} (some ⟨U.heap.size,0,none⟩) 1 1 _ (M5.l EA)
  have nym:bs∉[bm]:=by simpa using Aa Y5 M5 (by decide)
  have nam:gc∉[bm]:=by simpa using Aa A5 M5 (by decide)
  have ngm:g∉[bm]:=by simpa using Ba P5 M5 (by decide) g rfl
  go_region_held3 (fun T=>T.cell? ⟨bl,0,none⟩=some (.pointer (some ⟨bm,0,none⟩))/\(∀o',T.cell? ⟨bs,o',none⟩=(#[sp,sk,so,.int .i64 ve,.slice (some ⟨g,0,none⟩) L cap,.int .i64 tn,.pointer none,.bool false,.int .i64 0,.slice none 0 0,.int .i64 0,.int .i64 0,.float .f64 0,.string ByteArray.empty,.int .i64 0]:Array Value)[o']?)/\(∀o',T.cell? ⟨gc,o',none⟩=(#[.int .i64 ve,.int .i64 j]:Array Value)[o']?)/\T.cell? ⟨g,j*11+5,none⟩=some (.int .i64 pp.xa)/\T.cell? ⟨g,j*11+6,none⟩=some (.int .i64 pp.xb)/\T.cell? ⟨g,j*11+7,none⟩=some (.float .f64 0)/\T.cell? ⟨g,j*11+8,none⟩=some (.string pp.xd)/\T.cell? ⟨g,j*11+9,none⟩=some (.int .i64 0)) (first|with_reducible exact t7|with_reducible exact t8|with_reducible exact(h6.l (((Below.refl _ _).alloc (Nat.le_refl _) _).drew)).t) (first|(go_at_call 102;refine HGV.out.mono ?_;rintro e' w8 ⟨rfl,C8,M8⟩;have t8:=((h6.l EA).chg C8 nlm nym nam ngm).t))
  have N8:=N7.chg C8 (by simpa using Aa N7 (M5.l EA) (by decide))
  have f8:FrT [88] (U.alloc (.cells (va pp.xa pp.xb 0 pp.xd 0) 52)).drew w8:=FrT.chg C8 (by simp only[List.mem_singleton];rintro _ rfl;exact⟨_,_,_,M5.l EA,by simp⟩)
  clear t7 t8 HGV
  go_wp2_with fail
  go_ret
  exact⟨rfl,U.heap.size,G5.size,N8,(G5.below EA).trans C8 (fun b h=>by simp at h;simp[h]),(XC5.l EA).fr f8 (by decide),(CC5.l EA).fr f8 (by decide),M8⟩
theorem Sq (bl bm bc br n rF rB rf gs ls lc bs lo g cap gc cp ck pc kn kc i L j:Nat) (o xA xE a0 ka kb ve tn cv cq mi:Int) (kd:ByteArray) (cc:Cc) (m:Mc) (sp sk so:Value) (ps:List Pr) (pp:Pr) (ρ:Nat->R8) (k1 p1 l1:Value) (w:World) (hrF:rF<n) (hrB:rB<n) (hn:n<=100) (ha:0<=a0) (ha1:a0<=6000) (hi:i<kn) (hh:0<=mi) (hh1:mi<=100000) (hcv:¬ve=cv) (hka:ka=2∨ka=4) (hkv:Bl ⟨ka,kb,0,kd,0⟩=true) (hps:ps.length<=500) (hpl:G8 ps ka kb kd=j) (hxa:¬pp.xa=0) (hrf:rf<ls) (hL:L=ps.length) (hj:ps[j]?=some pp)
  (h1:upd ρ rF .none rB=.v5 k1 5 0 0 ByteArray.empty rf p1 l1) (C:CAt w bc {cc with proto:=.int .i64 0,regs:=.slice (some ⟨br,0,none⟩) n n,at_:=.int .i64 a0}) (X:RgA w br n ρ) (hcc:cp≠bc/\ck≠bc)
  (F:FD bl bm bs gs rf lo g cap gc {m with slots:=.slice (some ⟨gs,0,none⟩) ls lc,caches:=.slice (some ⟨gc,0,none⟩) 1 1,misses:=.int .i64 mi} sp sk so ve tn cv cq L ps w) (K:KO bl cp ck pc kn kc i br (va ka kb 0 kd 0) w w) :
  Calls prog 78 #[pz' bl,pz' bc,.agg (qa o xA rB i 0 xE rF)] w fun e' w'=>e'=.returned .nilIface/\∃h,w.heap.size<=h/\Blk w' h (va pp.xa pp.xb 0 pp.xd 0) 52/\Chg [bc,br,bm,gc] w w'/\RgA w' br n (upd ρ rF .none)/\CAt w' bc {cc with proto:=.int .i64 0,regs:=.slice (some ⟨br,0,none⟩) n n,at_:=.int .i64 (a0+1)}/\MAt w' bm {m with slots:=.slice (some ⟨gs,0,none⟩) ls lc,caches:=.slice (some ⟨gc,0,none⟩) 1 1,misses:=.int .i64 (mi+1),has:=.bool true,got:=.slice (some ⟨h,0,none⟩) 1 1}/\Blk w' gc #[.int .i64 ve,.int .i64 j] 141:=by
 have B0:Below w.heap.size w (w.alloc (.cells (qa o xA rB i 0 xE rF) 161)):=(Below.refl _ _).alloc (Nat.le_refl _) _
 have Z0:=Blk.new w (qa o xA rB i 0 xE rF) 161
 have H1:Hid (upd ρ rF .none rB=.v5 k1 5 0 0 ByteArray.empty rf p1 l1):=h1
 have wa:IntKind.i64.wrap (a0+1)=a0+1:=wr (by omega) (by omega)
 have hlc:bl≠bc:=let ⟨_,a1,_⟩:=F.l;Aa a1 C (by decide)
 have HJ:Hid (ps[j]?=some pp):=hj
 have hjL:j<L:=by rw[hL];exact(List.getElem?_eq_some_iff.1 hj).1
 have HLn:Hid (L=ps.length):=hL
 clear h1 hj hL
 have zs:=Z0.cell
 go_enter func78,ntmps78
 go_wp2_with fail
 refine(U0 bc br rF n {cc with proto:=.int .i64 0,at_:=.int .i64 a0} ρ _ hrF (C.l B0) (X.l B0)).mono ?_
 rintro e w1 ⟨rfl,C1,X1⟩
 have nbr:bc≠br:=Aa C X.blk (by decide)
 have D1:=(C.l B0).chg C1 (by simpa using nbr)
 have ds:=D1.cell
 have df:=D1.frozen
 clear zs
 go_wp2_with fail
 have C2:Chg [bc] w1 (w1.setCell ⟨bc,3,none⟩ (.int .i64 (a0+1))):=(Chg.refl _ _).set (by simp) _ _
 have E2:=D1.set 3 (.int .i64 (a0+1))
 have X2:=X1.chg C2 (by simpa using Ne.symm nbr)
 have f1:FrT [178,131] w w1:=(FrT.below B0).trans (FrT.chg C1 (by simp only[List.mem_singleton];rintro _ rfl;exact⟨_,_,_,(X.l B0).blk,by simp⟩)) (fun _ h=>h)
 have f2:FrT [178,131] w1 (w1.setCell ⟨bc,3,none⟩ (.int .i64 (a0+1))):=FrT.chg C2 (by simp only[List.mem_singleton];rintro _ rfl;exact⟨_,_,_,D1,by simp⟩)
 have F2:=F.fr (f1.trans f2 (fun _ h=>h)) (by decide) (by decide) (by decide) (by decide) (by decide) (by decide)
 have Z1:=Z0.chg C1 (by simpa using Aa Z0 (X.l B0).blk (by decide))
 have Z2:=Z1.chg C2 (by simpa using Aa Z1 D1 (by decide))
 have K1:=(K.keep B0 (Nat.le_refl _)).chg C1 B0.size
 have hs1:w.heap.size<=w1.heap.size:=Nat.le_trans B0.size C1.size
 have K2:KO bl cp ck pc kn kc i br (va ka kb 0 kd 0) w (w1.setCell ⟨bc,3,none⟩ (.int .i64 (a0+1))):=⟨⟨(C2.at (by simpa using hlc) (Nat.lt_of_lt_of_le K.lt.1 hs1)).trans K1.k.l,(C2.at (by simpa using hcc.1) (Nat.lt_of_lt_of_le K.lt.2.1 hs1)).trans K1.k.p⟩,fun j hj=>(C2.at (by simpa using hcc.2) (Nat.lt_of_lt_of_le K.lt.2.2 hs1)).trans (K1.g j hj),K.lt,K.ne⟩
 have G2:Chg [bc,br,bm,gc] w (w1.setCell ⟨bc,3,none⟩ (.int .i64 (a0+1))):=(((Chg.refl _ _).below B0).trans C1 (fun b h=>by simp at h;simp[h])).trans C2 (fun b h=>by simp at h;simp[h])
 have hs2:w.heap.size<(w1.setCell ⟨bc,3,none⟩ (.int .i64 (a0+1))).heap.size:=Z2.lt
 clear ds df C2 D1 X1 K1 C1 hs1 K Z0 Z1 B0 F f1 f2
 revert E2 X2 Z2 K2 F2 G2 hs2
 obtain⟨V,hV⟩:∃z,z=w1.setCell ⟨bc,3,none⟩ (.int .i64 (a0+1)):=⟨_,rfl⟩
 rw[←hV]
 clear hV
 intro E2 X2 F2 Z2 K2 G2 hs2
 have DW:Below V.heap.size V V.drew:=(Below.refl _ _).drew
 have O2:OpR bc br n w.heap.size {cc with proto:=.int .i64 0,at_:=.int .i64 (a0+1)} (qa o xA rB i 0 xE rF) (upd ρ rF .none) V V.drew:=⟨Z2.l DW,Blk.l E2 DW,X2.l DW,(Chg.refl _ _).below DW⟩
 have HO:Hid (OpR bc br n w.heap.size {cc with proto:=.int .i64 0,at_:=.int .i64 (a0+1)} (qa o xA rB i 0 xE rF) (upd ρ rF .none) V V.drew/\KO bl cp ck pc kn kc i br (va ka kb 0 kd 0) w V.drew):=⟨O2,K2.keep DW (Nat.le_of_lt hs2)⟩
 have zs:=O2.q.cell
 have F2b:=X2.blk
 clear O2 E2 Z2 K2 C X
 refine Js (fun a W=>∃b1 b2,a=tmA ((fun x' y' p q=>#[pz' bl,pz' bc,.agg (qa o xA rB i 0 xE rF),undef,undef,pz' w.heap.size,.nilIface,p,q,undef,undef,undef,pz' bc,.pointer (some ⟨w.heap.size,6,none⟩),.int .i64 rF,.tuple #[],pz' bc,pz' bc,.pointer (some ⟨bc,3,none⟩),.int .i64 a0,.int .i64 (a0+1),pz' bc,.pointer (some ⟨bc,3,none⟩),pz' bc,.pointer (some ⟨w.heap.size,2,none⟩),.int .i64 rB,x',pz' bl,pz' bc,.pointer (some ⟨w.heap.size,3,none⟩),.int .i64 i,y',undef,undef,undef,undef,undef,undef,undef,undef,undef,undef,undef,undef,undef,undef,undef,undef,undef,undef,undef,undef,undef,undef,undef,undef,undef,undef,undef,undef,undef,undef,undef,undef,undef,undef,undef,undef,undef,undef,undef,undef,undef,undef,undef,undef,undef,undef,undef,undef,undef,undef,undef,undef,undef,undef,undef,undef,undef,undef,undef,undef,undef,undef,undef,undef,undef,undef,undef,undef,undef,undef,undef,undef,undef,undef,undef,undef,undef,undef,undef,undef,undef,undef,undef,undef,undef,undef,undef,undef,undef,undef,undef,undef,undef]) (.agg (va 5 0 0 ByteArray.empty rf)) (.agg (va ka kb 0 kd 0)) (pz' b1) (pz' b2))/\OpR bc br n w.heap.size {cc with proto:=.int .i64 0,at_:=.int .i64 (a0+1)} (qa o xA rB i 0 xE rF) (upd ρ rF .none) V W/\Blk W b1 (va 5 0 0 ByteArray.empty rf) 52/\Blk W b2 (va ka kb 0 kd 0) 52) ?_ ?_
 ·refine rgM (fun W=>(∀o',W.cell? ⟨w.heap.size,o',none⟩=(#[.int .i64 o,.int .i64 xA,.int .i64 rB,.int .i64 i,.int .i64 0,.int .i64 xE,.int .i64 rF]:Array Value)[o']?)) zs (fun hS=>?_)
  iterate 3 (refine tkM rfl (by kernel_rfl) (by rfl) hS ⟨?_,fun W hW=>?_,?_⟩;rotate_left;(focus (go_simp;with_reducible rfl));simp only[Act.put,List.getElem_toArray,List.getElem_cons_zero,List.getElem_cons_succ,List.setIfInBounds_toArray,List.set_cons_succ,List.set_cons_zero])
  refine He [4,5,6,7,3,8,9,10,11,12] (by kernel_rfl) ?_
  iterate 4 (refine tkM rfl (by kernel_rfl) (by rfl) hS ⟨?_,fun W hW=>?_,?_⟩;rotate_left;(focus (go_simp;with_reducible rfl));simp only[Act.put,List.getElem_toArray,List.getElem_cons_zero,List.getElem_cons_succ,List.setIfInBounds_toArray,List.set_cons_succ,List.set_cons_zero])
  refine twoC 3 8 9 10 11 12 (by kernel_rfl) (by decide) (fun x' y' p q=>#[pz' bl,pz' bc,.agg (qa o xA rB i 0 xE rF),undef,undef,pz' w.heap.size,.nilIface,p,q,undef,undef,undef,pz' bc,.pointer (some ⟨w.heap.size,6,none⟩),.int .i64 rF,.tuple #[],pz' bc,pz' bc,.pointer (some ⟨bc,3,none⟩),.int .i64 a0,.int .i64 (a0+1),pz' bc,.pointer (some ⟨bc,3,none⟩),pz' bc,.pointer (some ⟨w.heap.size,2,none⟩),.int .i64 rB,x',pz' bl,pz' bc,.pointer (some ⟨w.heap.size,3,none⟩),.int .i64 i,y',undef,undef,undef,undef,undef,undef,undef,undef,undef,undef,undef,undef,undef,undef,undef,undef,undef,undef,undef,undef,undef,undef,undef,undef,undef,undef,undef,undef,undef,undef,undef,undef,undef,undef,undef,undef,undef,undef,undef,undef,undef,undef,undef,undef,undef,undef,undef,undef,undef,undef,undef,undef,undef,undef,undef,undef,undef,undef,undef,undef,undef,undef,undef,undef,undef,undef,undef,undef,undef,undef,undef,undef,undef,undef,undef,undef,undef,undef,undef,undef,undef,undef,undef,undef,undef,undef,undef,undef,undef,undef,undef,undef,undef]) V.heap.size (va 5 0 0 ByteArray.empty rf) (va ka kb 0 kd 0) (fun W=>OpR bc br n w.heap.size {cc with proto:=.int .i64 0,at_:=.int .i64 (a0+1)} (qa o xA rB i 0 xE rF) (upd ρ rF .none) V W/\KO bl cp ck pc kn kc i br (va ka kb 0 kd 0) w W) (fun W=>OpR bc br n w.heap.size {cc with proto:=.int .i64 0,at_:=.int .i64 (a0+1)} (qa o xA rB i 0 xE rF) (upd ρ rF .none) V W/\KO bl cp ck pc kn kc i br (va ka kb 0 kd 0) w W) (fun W=>OpR bc br n w.heap.size {cc with proto:=.int .i64 0,at_:=.int .i64 (a0+1)} (qa o xA rB i 0 xE rF) (upd ρ rF .none) V W/\KO bl cp ck pc kn kc i br (va ka kb 0 kd 0) w W) [178] (by decide) (fun W h=>h.1.q.cell) (fun W h=>h.1.q.cell) (fun W h=>h.1.q.cell) (fun W W' h hf hb=>⟨h.1.keep hf hb (Nat.le_refl _),h.2.keep hb (Nat.le_of_lt hs2)⟩) (fun W W' h hf hb=>⟨h.1.keep hf hb (Nat.le_refl _),h.2.keep hb (Nat.le_of_lt hs2)⟩) (fun W W' h hf hb=>⟨h.1.keep hf hb (Nat.le_refl _),h.2.keep hb (Nat.le_of_lt hs2)⟩) ?_ ?_ ?_ ?_ ?_ ?_ ?_ undef undef undef undef _ HO.out (by simp)
  ·intro x' y' p q W hR
   refine⟨_,rfl,by rfl,fun K hK=>?_⟩
   go_wp2_with fail
   refine(hR.1.reg2 rB rB k1 5 0 0 ByteArray.empty rf p1 l1 hrB hn (.inl rfl) H1.out).mono ?_
   rintro e' w3 ⟨rfl,g1,g2,g3⟩
   rw[if_neg (by omega)]at g1
   exact hK.out _ ⟨g1,hR.2.chg g3 (Nat.le_trans (Nat.le_of_lt hs2) hR.1.g.size)⟩ g2
  ·intro x' y' p q W hR
   refine⟨_,rfl,by rfl,fun K hK=>?_⟩
   go_wp2_with fail
   refine(V9 bl bc cp ck pc kn kc i {cc with regs:=.slice (some ⟨br,0,none⟩) n n,at_:=.int .i64 (a0+1)} ka kb 0 kd 0 W hR.2.k hR.1.c hi hR.2.g).mono ?_
   rintro e' w3 ⟨rfl,hw3⟩
   exact hK.out _ ⟨hR.1.keep (FrT.below hw3) hw3 hR.1.g.size,hR.2.keep hw3 (Nat.le_trans (Nat.le_of_lt hs2) hR.1.g.size)⟩ (FrT.below hw3)
  ·intro x' y' p q W
   refine⟨_,rfl,by rfl,fun K hK=>?_⟩
   go_wp2_with fail
   exact hK.out
  ·intro x' y' p q W
   refine⟨_,rfl,by rfl,fun K hK=>?_⟩
   go_wp2_with fail
   exact hK.out
  ·intro y' b' q W D
   refine⟨_,rfl,by rfl,fun K hK=>?_⟩
   have dc:=D.cell
   have df:=D.frozen
   go_wp2_with fail
   exact hK.out _ ((((((Chg.refl [b'] W).set (by simp) _ _).set (by simp) _ _).set (by simp) _ _).set (by simp) _ _).set (by simp) _ _) (((((D.set 0 _).set 1 _).set 2 _).set 3 _).set 4 _)
  ·intro x' p b' W D
   refine⟨_,rfl,by rfl,fun K hK=>?_⟩
   have dc:=D.cell
   have df:=D.frozen
   go_wp2_with fail
   exact hK.out _ ((((((Chg.refl [b'] W).set (by simp) _ _).set (by simp) _ _).set (by simp) _ _).set (by simp) _ _).set (by simp) _ _) (((((D.set 0 _).set 1 _).set 2 _).set 3 _).set 4 _)
  ·intro b1 b2 W hR D1 D2 _ _
   exact⟨rfl,b1,b2,rfl,hR.1,D1,D2⟩
 ·rintro a W ⟨b1,b2,rfl,hR,D1,D2⟩
  have HR:Hid (OpR bc br n w.heap.size {cc with proto:=.int .i64 0,at_:=.int .i64 (a0+1)} (qa o xA rB i 0 xE rF) (upd ρ rF .none) V W):=hR
  have HD1:Hid (Blk W b1 (va 5 0 0 ByteArray.empty rf) 52):=D1
  have HD2:Hid (Blk W b2 (va ka kb 0 kd 0) 52):=D2
  have FW:=F2.fr (ts:=[178]) (FrT.chg hR.g (by simp only[List.mem_singleton];rintro _ rfl;exact⟨_,_,_,F2b,by simp⟩)) (by decide) (by decide) (by decide) (by decide) (by decide) (by decide)
  have EW:Below W.heap.size W W.drew:=(Below.refl _ _).drew
  have hlW:W.cell? ⟨bl,0,none⟩=some (.pointer (some ⟨bm,0,none⟩)):=let ⟨_,a1,a2⟩:=FW.l;(a1.cell 0).trans a2
  have hsW:W.cell? ⟨gs,rf,none⟩=some (pz' bs):=let ⟨_,a1,a2⟩:=FW.s;(a1.cell rf).trans a2
  have l1:=cb hlW EW
  have c7:W.drew.cell? ⟨bm,7,none⟩=some (.slice (some ⟨gc,0,none⟩) 1 1):=FW.m.cell 7
  have v1:=(D1.l EW).cell
  have q1:=(hR.q.l EW).cell
  have HT:Hid (Calls prog 128 #[pz' bm,.agg (va 5 0 0 ByteArray.empty rf)] W.drew fun e' w'=>e'=.returned (pz' bs)/\Below W.drew.heap.size W.drew w'):=Hz bm bs gs ls lc rf {m with caches:=.slice (some ⟨gc,0,none⟩) 1 1,misses:=.int .i64 mi} W.drew hrf (FW.m.l EW) (cb hsW EW)
  clear zs hR X2 F2b F2 HO hsW
  dsimp only[tmA]
  go_wp2_with fail
  go_region_held3 (fun U=>U.cell? ⟨bl,0,none⟩=some (.pointer (some ⟨bm,0,none⟩))/\U.cell? ⟨bm,7,none⟩=some (.slice (some ⟨gc,0,none⟩) 1 1)/\(∀o',U.cell? ⟨b1,o',none⟩=(#[.int .i64 5,.int .i64 0,.float .f64 0,.string ByteArray.empty,.int .i64 rf]:Array Value)[o']?)/\(∀o',U.cell? ⟨w.heap.size,o',none⟩=(#[.int .i64 o,.int .i64 xA,.int .i64 rB,.int .i64 i,.int .i64 0,.int .i64 xE,.int .i64 rF]:Array Value)[o']?)) (first|with_reducible exact⟨l1,c7,v1,q1⟩|with_reducible exact⟨l3,c73,v3,q3⟩) (first|(go_at_call 128;refine HT.out.mono ?_;rintro e' w3 ⟨rfl,hw3⟩;have l3:=cb l1 hw3;have c73:=cb c7 hw3;have v3:=((D1.l EW).l hw3).cell;have q3:=((HR.out.q.l EW).l hw3).cell))
  have b3:Below W.heap.size W w3:=bl2 EW hw3
  have F3:=FW.fr (ts:=[]) (FrT.below b3) (by simp) (by simp) (by simp) (by simp) (by simp) (by simp)
  have l4:=cb hlW b3
  have y3:=(F3.y.l (Below.refl _ _).drew).cell
  have g3:=(F3.c.l (Below.refl _ _).drew).cell
  clear l1 c7 v1 q1 l3 c73 v3 q3 HT hw3 D1 D2
  go_wp2_with fail
  go_region
  have F4:=F3.fr (ts:=[]) (FrT.below (Below.refl _ _).drew) (by simp) (by simp) (by simp) (by simp) (by simp) (by simp)
  have l5:=cb l4 (Below.refl _ w3).drew
  have m4:=F4.m.cell
  have mf:=F4.m.frozen
  have wh:IntKind.i64.wrap (mi+1)=mi+1:=wr (by omega) (by omega)
  have D14:=(HD1.out.l b3).l (Below.refl _ w3).drew
  have D24:=(HD2.out.l b3).l (Below.refl _ w3).drew
  clear y3 g3
  go_wp2_with fail
  have C5:Chg [bm] w3.drew (w3.drew.setCell ⟨bm,9,none⟩ (.int .i64 (mi+1))):=(Chg.refl _ _).set (by simp) _ _
  have M5:=F4.m.set 9 (.int .i64 (mi+1))
  have f5:FrT [88] w3.drew (w3.drew.setCell ⟨bm,9,none⟩ (.int .i64 (mi+1))):=FrT.chg C5 (by simp only[List.mem_singleton];rintro _ rfl;exact⟨_,_,_,F4.m,by simp⟩)
  have Y5:=F4.y.fr f5 (by decide)
  have A5:=F4.c.fr f5 (by decide)
  have P5:=Ei F4.p f5 (by decide)
  have S5:∃A,Blk (w3.drew.setCell ⟨bm,9,none⟩ (.int .i64 (mi+1))) gs A 127/\A[rf]?=some (pz' bs):=let ⟨A,a1,a2⟩:=F4.s;⟨A,a1.fr f5 (by decide),a2⟩
  have L5:∃A,Blk (w3.drew.setCell ⟨bm,9,none⟩ (.int .i64 (mi+1))) bl A 82/\A[0]?=some (pz' bm):=let ⟨A,a1,a2⟩:=F4.l;⟨A,a1.fr f5 (by decide),a2⟩
  have D15:=D14.fr f5 (by decide)
  have D25:=D24.fr f5 (by decide)
  have b35:Below W.heap.size W w3.drew:=b3.drew
  have XC5:=(HR.out.x.l b35).fr f5 (by decide)
  have CC5:=(HR.out.c.l b35).fr f5 (by decide)
  have G5:Chg [bc,br,bm,gc] w (w3.drew.setCell ⟨bm,9,none⟩ (.int .i64 (mi+1))):=((G2.trans HR.out.g (fun b h=>by simp at h;simp[h])).below b35).trans C5 (fun b h=>by simp at h;simp[h])
  clear m4 mf F4 F3 FW C5 f5 l4 l5 hlW b35 D14 D24
  obtain⟨U,hU⟩:∃z,z=(w3.setCell ⟨bm,9,none⟩ (.int .i64 (mi+1))).drew:=⟨_,rfl⟩
  rw[←hU]
  have hU':w3.drew.setCell ⟨bm,9,none⟩ (.int .i64 (mi+1))=U:=hU.symm
  rw[hU']at M5 Y5 A5 P5 S5 L5 D15 D25 XC5 CC5 G5
  clear hU hU'
  have EU:Below U.heap.size U U.drew:=(Below.refl _ _).drew
  have y7:=(Y5.l EU).cell
  have d7:=(D25.l EU).cell
  have P6:Cz U lo (.slice (some ⟨g,0,none⟩) ps.length cap) ps:=by rw[←HLn.out];exact P5
  have HPL:Hid (Calls prog 162 #[.agg (tbv (.slice (some ⟨g,0,none⟩) L cap) tn),.agg (va ka kb 0 kd 0)] U.drew fun e' w'=>e'=.returned (.int .i64 j)/\Below U.drew.heap.size U.drew w'):=by rw[HLn.out];exact(Hu lo _ ps tn ka kb kd U.drew hka hkv hps (Ab P6 EU)).mono fun e w' ⟨g1,g2⟩=>⟨g1.trans (Cr hpl),g2⟩
  go_region_held3 (fun T=>(∀o',T.cell? ⟨bs,o',none⟩=(#[sp,sk,so,.int .i64 ve,.slice (some ⟨g,0,none⟩) L cap,.int .i64 tn,.pointer none,.bool false,.int .i64 0,.slice none 0 0,.int .i64 0,.int .i64 0,.float .f64 0,.string ByteArray.empty,.int .i64 0]:Array Value)[o']?)/\(∀o',T.cell? ⟨b2,o',none⟩=(#[.int .i64 ka,.int .i64 kb,.float .f64 0,.string kd,.int .i64 0]:Array Value)[o']?)) (first|with_reducible exact⟨y7,d7⟩|with_reducible exact⟨y8,d8⟩) (first|(go_at_call 162;refine HPL.out.mono ?_;rintro e' w8 ⟨rfl,hw8⟩;have y8:=((Y5.l EU).l hw8).cell;have d8:=((D25.l EU).l hw8).cell))
  have b8:Below U.heap.size U w8:=bl2 EU hw8
  have Y8:=Y5.l b8
  have A8:=A5.l b8
  have ys8:=Y8.cell
  have as8:=A8.cell
  have af8:=A8.frozen
  have j0:(0:Int)<=j:=by omega
  have D18:=D15.l b8
  have D28:=D25.l b8
  have C9:Chg [gc] w8 ((w8.setCell ⟨gc,0,none⟩ (.int .i64 ve)).setCell ⟨gc,1,none⟩ (.int .i64 j)):=((Chg.refl _ _).set (by simp) _ _).set (by simp) _ _
  have f9:FrT [141] w8 ((w8.setCell ⟨gc,0,none⟩ (.int .i64 ve)).setCell ⟨gc,1,none⟩ (.int .i64 j)):=FrT.chg C9 (by simp only[List.mem_singleton];rintro _ rfl;exact⟨_,_,_,A8,by simp⟩)
  have d19:=(D18.fr f9 (by decide)).cell
  have d29:=(D28.fr f9 (by decide)).cell
  clear y7 d7 y8 d8 HPL hw8
  go_wp2_with fail
  have M9:=(M5.l b8).fr f9 (by decide)
  have Y9:=Y8.fr f9 (by decide)
  have A9:=(A8.set 0 (.int .i64 ve)).set 1 (.int .i64 j)
  have P9:=Ei (Ab P6 b8) f9 (by decide)
  have l9:((w8.setCell ⟨gc,0,none⟩ (.int .i64 ve)).setCell ⟨gc,1,none⟩ (.int .i64 j)).cell? ⟨bl,0,none⟩=some (pz' bm):=let ⟨_,a1,a2⟩:=L5;(((a1.l b8).fr f9 (by decide)).cell 0).trans a2
  have s9:((w8.setCell ⟨gc,0,none⟩ (.int .i64 ve)).setCell ⟨gc,1,none⟩ (.int .i64 j)).cell? ⟨gs,rf,none⟩=some (pz' bs):=let ⟨_,a1,a2⟩:=S5;(((a1.l b8).fr f9 (by decide)).cell rf).trans a2
  have nlm:bl∉[bm]:=let ⟨_,a1,_⟩:=L5;by simpa using Aa a1 M5 (by decide)
  have X9:=(XC5.l b8).fr f9 (by decide)
  have E9:=(CC5.l b8).fr f9 (by decide)
  have G9:Chg [bc,br,bm,gc] w ((w8.setCell ⟨gc,0,none⟩ (.int .i64 ve)).setCell ⟨gc,1,none⟩ (.int .i64 j)):=(G5.below b8).trans C9 (fun b h=>by simp at h;simp[h])
  rw[HLn.out]at Y9
  clear ys8 as8 af8 d19 d29
  refine(A1n bl bm bs gs ls lc rf lo g cap j {m with caches:=.slice (some ⟨gc,0,none⟩) 1 1,misses:=.int .i64 (mi+1)} sp sk so (.int .i64 ve) ps pp tn ka kb kd _ hka hkv hps HJ.out hpl hxa hrf l9 M9 s9 Y9 P9).mono ?_
  rintro e w10 ⟨h,rfl,hge,H10,b10⟩
  go_wp2_with fail
  refine(Pj bl bm (some ⟨h,0,none⟩) 1 1 {m with slots:=.slice (some ⟨gs,0,none⟩) ls lc,caches:=.slice (some ⟨gc,0,none⟩) 1 1,misses:=.int .i64 (mi+1)} _ (cb l9 b10) nlm (M9.l b10)).mono ?_
  rintro e w11 ⟨rfl,C11,M11⟩
  have f11:FrT [88] w10 w11:=FrT.chg C11 (by simp only[List.mem_singleton];rintro _ rfl;exact⟨_,_,_,M9.l b10,by simp⟩)
  go_wp2_with fail
  go_ret
  exact⟨rfl,h,Nat.le_trans G9.size hge,H10.fr f11 (by decide),(G9.below b10).trans C11 (fun b h=>by simp at h;simp[h]),(X9.l b10).fr f11 (by decide),(E9.l b10).fr f11 (by decide),M11,(A9.l b10).fr f11 (by decide)⟩
structure WG (bl bm bt bts bf bc fc:Nat) (W:World):Prop where
 l:W.cell? ⟨bl,0,none⟩=some (.pointer (some ⟨bm,0,none⟩))
 m:∃m:Mc,MAt W bm {m with tasks:=.slice (some ⟨bts,0,none⟩) 1 1,cur:=.int .i64 0,has:=.bool true}
 b:W.cell? ⟨bts,0,none⟩=some (.pointer (some ⟨bt,0,none⟩))
 t:∃t:Tc,TAt W bt {t with frames:=.slice (some ⟨bf,0,none⟩) 1 fc}
 f:W.cell? ⟨bf,0,none⟩=some (.iface 107 (.pointer (some ⟨bc,0,none⟩)))
 c:W.cell? ⟨bc,8,none⟩=some (.bool false)
theorem Uq (bl bc bm bt bts bf fc:Nat) (P R:World->Prop) (w:World) (hl:w.cell? ⟨bl,0,none⟩=some (.pointer (some ⟨bm,0,none⟩))) (hh:w.cell? ⟨bm,12,none⟩=some (.bool false)) (hP:∀W W',P W->Below W.heap.size W W'->P W') (hG:∀W,P W->WG bl bm bt bts bf bc fc W)
  (HD:Hid (Calls prog 186 #[.pointer (some ⟨bl,0,none⟩),.pointer (some ⟨bc,0,none⟩)] w fun e w'=>e=.returned .nilIface/\P w'))
  (HC:Hid (∀W,P W->Calls prog 187 #[.pointer (some ⟨bl,0,none⟩),.pointer (some ⟨bc,0,none⟩)] W fun e w'=>e=.returned .nilIface/\R w')) :
  Calls prog 106 #[.pointer (some ⟨bl,0,none⟩),.pointer (some ⟨bc,0,none⟩)] w fun e w'=>e=.returned (.tuple #[])/\∃w1,R w1/\Below w1.heap.size w1 w':=by
 go_enter func106,ntmps106
 go_wp2_with fail
 refine HD.out.mono ?_
 rintro e w1 ⟨rfl,p1⟩
 clear hl hh
 go_wp2_with fail
 refine(Je bl _).mono ?_
 rintro e w2 ⟨rfl,hw2⟩
 have p2:=hP _ _ p1 hw2
 obtain⟨g1,⟨m,g2⟩,g3,⟨t,g4⟩,g5,g6⟩:=hG _ p2
 have ms:=g2.cell 12
 have HP2:Hid (P w2):=p2
 have HG4:Hid (TAt w2 bt {t with frames:=.slice (some ⟨bf,0,none⟩) 1 fc}):=g4
 clear p1 hw2 p2
 go_wp2_with fail
 refine(Gl bm bt bts {m with has:=.bool true} _ g2 g3).mono ?_
 rintro e w3 ⟨rfl,hw3⟩
 clear g1 ms
 go_wp2_with fail
 refine(I9 bt bf fc t _ _ (HG4.out.l hw3) (cb g5 hw3)).mono ?_
 rintro e w4 ⟨rfl,hw4⟩
 have b4:=bl2 hw3 hw4
 have c4:=cb g6 b4
 have HP4:Hid (P w4):=hP _ _ HP2.out b4
 clear g2 g3 g5 g6 hw3 hw4
 go_wp2_with fail
 refine(HC.out _ HP4.out).mono ?_
 rintro e w5 ⟨rfl,r5⟩
 clear c4
 go_wp2_with fail
 refine(Je bl _).mono ?_
 rintro e w6 ⟨rfl,hw6⟩
 go_wp2_with fail
 go_end0
 exact⟨rfl,w5,r5,hw6⟩
end Go.Proofs.YtbefeflgjipfhaaGreatDoor
namespace Go.Proofs.YtbefeflgjipfhaaGreatDoor
open Go.Deep Go.Proofs.Tryz Go.RowKit
attribute [local go_sem] A7 vi J5
structure AcN (nq:Nat) (w:World) (bl qb qi a:Nat) (fn:Nat) (g:Bool) (o x b c d e f:Int):Prop where
 q:∃qc,w.cell? ⟨bl,2,none⟩=some (.slice (some ⟨qb,0,none⟩) 1 qc)
 i:∃ic,w.cell? ⟨qb,0,none⟩=some (.slice (some ⟨qi,0,none⟩) nq ic)
 lt:a<nq
 op:0<=o/\o<47
 ins:∀j,j<7->w.cell? ⟨qi,a*7+j,none⟩=(qa o x b c d e f)[j]?
 fn:w.cell? ⟨bl,8+o.toNat*2,none⟩=some (.func (.func fn) #[] #[])
 on:w.cell? ⟨bl,8+o.toNat*2+1,none⟩=some (.bool g)
theorem A0r (nq bl bc qb qi a fn:Nat) (o x b c d e f:Int) (cc:Cc) (ts:List TypeId) (Q:World->Prop) (w:World) (ht:75∉ts) (hcf:Hid (∀args W,(callFunc fn args).run prog W=.ok (.enter fn args) W)) (hnq:nq<=100) (A:AcN nq w bl qb qi a fn true o x b c d e f)
  (C:CAt w bc {cc with proto:=.int .i64 0,at_:=.int .i64 a})
  (HD:Hid (∀W,Below w.heap.size w W->Calls prog fn #[.pointer (some ⟨bl,0,none⟩),.pointer (some ⟨bc,0,none⟩),.agg (qa o x b c d e f)] W fun e w'=>e=.returned .nilIface/\FrT ts W w'/\CAt w' bc {cc with proto:=.int .i64 0,at_:=.int .i64 a}/\Q w')) :
  Calls prog 186 #[.pointer (some ⟨bl,0,none⟩),.pointer (some ⟨bc,0,none⟩)] w fun e w'=>e=.returned .nilIface/\∃w1,Q w1/\FrT ts w w1/\Chg [bc] w1 w'/\CAt w' bc {cc with proto:=.int .i64 0,at_:=.int .i64 (a+1)}:=by
 obtain⟨⟨qc,hq⟩,⟨ic,hi⟩,ha,⟨ho,ho2⟩,hI,hf,hg⟩:=A
 have ds:=C.cell
 have i0:=hI 0 (by decide)
 have i1:=hI 1 (by decide)
 have i2:=hI 2 (by decide)
 have i3:=hI 3 (by decide)
 have i4:=hI 4 (by decide)
 have i5:=hI 5 (by decide)
 have i6:=hI 6 (by decide)
 simp only[Nat.add_zero]at i0
 simp at i0 i1 i2 i3 i4 i5 i6
 have a0:(0:Int)<=a:=by omega
 have a1:(a:Int)<nq:=by omega
 clear hI
 have da:=fun o=>(C.alloc o).cell
 have qa':=ca hq
 have ia':=ca hi
 have j0:=ca i0
 have j1:=ca i1
 have j2:=ca i2
 have j3:=ca i3
 have j4:=ca i4
 have j5:=ca i5
 have j6:=ca i6
 go_enter func186,ntmps186
 go_wp2_with fail
 go_region
 go_wp2_with fail
 obtain⟨W,hW⟩:∃z,z=(w.alloc (.cells (qa o x b c d e f) 161)).drew:=⟨_,rfl⟩
 rw[←hW]
 have Z:Blk W w.heap.size (qa o x b c d e f) 161:=by rw[hW];exact Blk.new w _ _
 have B:Below w.heap.size w W:=by rw[hW];exact((Below.refl _ _).alloc (Nat.le_refl _) _).drew
 have f1:=ca (cb hf B)
 have g1:=ca (cb hg B)
 have f2:=cb hf B
 have g2:=cb hg B
 have zs:=Z.cell
 have za:=fun o=>(Z.alloc o).cell
 clear hW da qa' ia' j0 j1 j2 j3 j4 j5 j6 ds i0 i1 i2 i3 i4 i5 i6 hq hi
 go_region
 go_wp2_with fail
 rw[hcf.out,Oper.upon_enter]
 have B2:Below w.heap.size w (W.alloc (.cells #[.func (.func fn) #[] #[],.bool true] 75)).drew:=(B.alloc B.size _).drew
 have Y:=Blk.new W #[.func (.func fn) #[] #[],.bool true] 75
 refine(HD.out _ B2).mono ?_
 rintro e w1 ⟨rfl,hF,hC,hQ⟩
 have Y1:=(Y.l (Below.refl _ _).drew).fr hF ht
 have ys:=Y1.cell
 have cs:=hC.cell
 have cf:=hC.frozen
 have wa:IntKind.i64.wrap ((a:Int)+1)=a+1:=wr (by omega) (by omega)
 clear zs za f1 f2 g1 g2
 go_wp2_with fail
 go_ret
 exact⟨rfl,w1,hQ,(FrT.below B2).trans hF (fun _ h=>h),(Chg.refl _ _).set (by simp) _ _,hC.set 3 _⟩
theorem Ve (nq bl bc qb qi a fn:Nat) (o x b c d e f:Int) (cc:Cc) (ts:List TypeId) (Q:World->Prop) (w:World) (ht:75∉ts) (hcf:Hid (∀args W,(callFunc fn args).run prog W=.ok (.enter fn args) W)) (A:AcN nq w bl qb qi a fn false o x b c d e f)
  (C:CAt w bc {cc with proto:=.int .i64 0,at_:=.int .i64 a})
  (HD:Hid (∀W,Below w.heap.size w W->Calls prog fn #[.pointer (some ⟨bl,0,none⟩),.pointer (some ⟨bc,0,none⟩),.agg (qa o x b c d e f)] W fun e w'=>e=.returned .nilIface/\FrT ts W w'/\Q w')) :
  Calls prog 186 #[.pointer (some ⟨bl,0,none⟩),.pointer (some ⟨bc,0,none⟩)] w fun e w'=>e=.returned .nilIface/\FrT ts w w'/\Q w':=by
 obtain⟨⟨qc,hq⟩,⟨ic,hi⟩,ha,⟨ho,ho2⟩,hI,hf,hg⟩:=A
 have ds:=C.cell
 have i0:=hI 0 (by decide)
 have i1:=hI 1 (by decide)
 have i2:=hI 2 (by decide)
 have i3:=hI 3 (by decide)
 have i4:=hI 4 (by decide)
 have i5:=hI 5 (by decide)
 have i6:=hI 6 (by decide)
 simp only[Nat.add_zero]at i0
 simp at i0 i1 i2 i3 i4 i5 i6
 have a0:(0:Int)<=a:=by omega
 have a1:(a:Int)<nq:=by omega
 clear hI
 have da:=fun o=>(C.alloc o).cell
 have qa':=ca hq
 have ia':=ca hi
 have j0:=ca i0
 have j1:=ca i1
 have j2:=ca i2
 have j3:=ca i3
 have j4:=ca i4
 have j5:=ca i5
 have j6:=ca i6
 go_enter func186,ntmps186
 go_wp2_with fail
 go_region
 go_wp2_with fail
 obtain⟨W,hW⟩:∃z,z=(w.alloc (.cells (qa o x b c d e f) 161)).drew:=⟨_,rfl⟩
 rw[←hW]
 have Z:Blk W w.heap.size (qa o x b c d e f) 161:=by rw[hW];exact Blk.new w _ _
 have B:Below w.heap.size w W:=by rw[hW];exact((Below.refl _ _).alloc (Nat.le_refl _) _).drew
 have f1:=ca (cb hf B)
 have g1:=ca (cb hg B)
 have f2:=cb hf B
 have g2:=cb hg B
 have zs:=Z.cell
 have za:=fun o=>(Z.alloc o).cell
 clear hW da qa' ia' j0 j1 j2 j3 j4 j5 j6 ds i0 i1 i2 i3 i4 i5 i6 hq hi
 go_region
 go_wp2_with fail
 rw[hcf.out,Oper.upon_enter]
 have B2:Below w.heap.size w (W.alloc (.cells #[.func (.func fn) #[] #[],(.bool false)] 75)).drew:=(B.alloc B.size _).drew
 have Y:=Blk.new W #[.func (.func fn) #[] #[],(.bool false)] 75
 refine(HD.out _ B2).mono ?_
 rintro e w1 ⟨rfl,hF,hQ⟩
 have Y1:=(Y.l (Below.refl _ _).drew).fr hF ht
 have ys:=Y1.cell
 clear zs za f1 f2 g1 g2
 go_wp2_with fail
 go_ret
 exact⟨rfl,(FrT.below B2).trans hF (fun _ h=>h),hQ⟩
end Go.Proofs.YtbefeflgjipfhaaGreatDoor
