import Derived.Test.YtbefeflgjipfhaaGreatDoorF15
set_option maxRecDepth 8000
set_option maxHeartbeats 4000000
namespace Go.Proofs.YtbefeflgjipfhaaGreatDoor
open Go.Deep Go.Proofs.Tryz Go.RowKit
attribute [local go_sem] A7 vi
theorem A6e {w:World} {lo lo' e s n:Nat} {v:Value} {xs:List Value} (h:w.ownsRow lo e s v n xs) (hl:lo'<=lo):w.ownsRow lo' e s v n xs:=⟨h.1,h.2.imp id fun ⟨g,c,cur,h1,h2,h3⟩=>⟨g,c,cur,h1,Nat.le_trans hl h2,h3⟩⟩
theorem doIfR (bl bc br n r:Nat) (xA xB c d e f a0:Int) (b:Bool) (cc:Cc) (ρ:Nat->R8) (k p l:Value) (w:World) (hr:r<n) (hn:n<=100) (hx:xA = -1-r) (h0:0<=a0) (h1:a0<=6000) (hρ:ρ r=.v5 k 1 (bi b) 0 ByteArray.empty 0 p l) (C:CAt w bc {cc with regs:=.slice (some ⟨br,0,none⟩) n n,at_:=.int .i64 a0}) (X:RgA w br n ρ) :
  Calls prog 54 #[pz' bl,pz' bc,.agg (qa 21 xA xB c d e f)] w fun e w'=>e=.returned .nilIface/\Chg [bc,br] w w'/\RgA w' br n (upd ρ r .none)/\CAt w' bc {cc with regs:=.slice (some ⟨br,0,none⟩) n n,at_:=.int .i64 (if b then a0+1 else xB)}:=by
 have nbr:bc≠br:=Aa C X.blk (by decide)
 have O0:OpR bc br n w.heap.size {cc with at_:=.int .i64 a0} (qa 21 xA xB c d e f) ρ w (w.alloc (.cells (qa 21 xA xB c d e f) 161)).drew:=⟨(Blk.new w _ _).l (Below.refl _ _).drew,C.l ((Below.refl _ _).alloc (Nat.le_refl _) _).drew,X.l ((Below.refl _ _).alloc (Nat.le_refl _) _).drew,(Chg.refl _ _).below ((Below.refl _ _).alloc (Nat.le_refl _) _).drew⟩
 have HO:Hid (OpR bc br n w.heap.size {cc with at_:=.int .i64 a0} (qa 21 xA xB c d e f) ρ w (w.alloc (.cells (qa 21 xA xB c d e f) 161)).drew):=O0
 have zs:=O0.q.cell
 have HX:Hid (xA = -1-r):=hx
 have HR:Hid (ρ r=.v5 k 1 (bi b) 0 ByteArray.empty 0 p l):=hρ
 have hneg:Hid (xA<0):=by show xA<0;omega
 obtain⟨T0,hT0⟩:∃z,(if b=true then a0+1 else xB)=z:=⟨_,rfl⟩
 rw[hT0]
 have HT:Hid ((if b=true then a0+1 else xB)=T0):=hT0
 clear hx hρ O0 C X hT0
 go_enter func54,ntmps54
 go_wp2_with fail
 refine rgM (fun W=>(∀o',W.cell? ⟨w.heap.size,o',none⟩=(#[.int .i64 21,.int .i64 xA,.int .i64 xB,.int .i64 c,.int .i64 d,.int .i64 e,.int .i64 f]:Array Value)[o']?)) zs (fun hS=>?_)
 iterate 6 (refine tkM rfl (by kernel_rfl) (by rfl) hS ⟨?_,fun W hW=>?_,?_⟩;rotate_left;(focus (go_simp;with_reducible rfl));simp only[Act.put,List.getElem_toArray,List.getElem_cons_zero,List.getElem_cons_succ,List.setIfInBounds_toArray,List.set_cons_succ,List.set_cons_zero])
 refine He [8,9,10,6,7,11,12] (by kernel_rfl) ?_
 iterate 3 (refine tkM rfl (by kernel_rfl) (by rfl) hS ⟨?_,fun W hW=>?_,?_⟩;rotate_left;(focus (go_simp;with_reducible rfl));simp only[Act.put,List.getElem_toArray,List.getElem_cons_zero,List.getElem_cons_succ,List.setIfInBounds_toArray,List.set_cons_succ,List.set_cons_zero])
 refine doM rfl (by kernel_rfl) (by rfl) (fun K2 hK2=>?_)
 go_wp2_with fail
 refine(HO.out.reg r xA k 1 (bi b) 0 ByteArray.empty 0 p l hr hn HX.out HR.out).mono ?_
 rintro e w1 ⟨rfl,O1,_⟩
 have HO1:Hid (OpR bc br n w.heap.size {cc with at_:=.int .i64 a0} (qa 21 xA xB c d e f) (upd ρ r .none) w w1):=O1
 refine hK2.out _ _ O1.q.cell (fun hS1=>?_)
 clear hK2 K2 O1
 try simp only[Act.put,List.getElem_toArray,List.getElem_cons_zero,List.getElem_cons_succ,List.setIfInBounds_toArray,List.set_cons_succ,List.set_cons_zero]
 refine doM rfl (by kernel_rfl) (by rfl) (fun K2 hK2=>?_)
 go_wp2_with fail
 refine(A1u b _).mono ?_
 rintro e w2 ⟨rfl,B2⟩
 have HO2:Hid (OpR bc br n w.heap.size {cc with at_:=.int .i64 a0} (qa 21 xA xB c d e f) (upd ρ r .none) w w2):=HO1.out.keep (FrT.below B2) B2 HO1.out.g.size
 refine hK2.out _ _ HO2.out.q.cell (fun hS2=>?_)
 clear hK2 K2
 try simp only[Act.put,List.getElem_toArray,List.getElem_cons_zero,List.getElem_cons_succ,List.setIfInBounds_toArray,List.set_cons_succ,List.set_cons_zero]
 iterate 1 (refine tkM rfl (by kernel_rfl) (by rfl) hS2 ⟨?_,fun W hW=>?_,?_⟩;rotate_left;(focus (go_simp;with_reducible rfl));simp only[Act.put,List.getElem_toArray,List.getElem_cons_zero,List.getElem_cons_succ,List.setIfInBounds_toArray,List.set_cons_succ,List.set_cons_zero])
 refine doM rfl (by kernel_rfl) (by rfl) (fun K2 hK2=>?_)
 go_wp2_with fail
 refine(Qw bc {cc with regs:=.slice (some ⟨br,0,none⟩) n n} a0 xB (!b) _ h0 h1 HO2.out.c).mono ?_
 rintro e w3 ⟨rfl,C3,D3⟩
 have hif:(if (!b)=true then xB else a0+1)=T0:=by rw[←HT.out];cases b<;>rfl
 rw[hif]at D3
 refine hK2.out _ _ (HO2.out.q.chg C3 (by simpa using Aa HO2.out.q HO2.out.c (by decide))).cell (fun _=>enM (by kernel_rfl) ?_)
 have HF:Hid (Chg [bc,br] w w3/\RgA w3 br n (upd ρ r .none)/\CAt w3 bc {cc with regs:=.slice (some ⟨br,0,none⟩) n n,at_:=.int .i64 T0}):=⟨(HO2.out.g.mono (by simp)).trans C3 (by simp),HO2.out.x.chg C3 (by simpa using Ne.symm nbr),D3⟩
 clear hK2
 simp only[NoPanic]
 go_wp2_with fail
 go_ret
 exact⟨rfl,HF.out⟩
theorem A9v (bl bc br n r r2:Nat) (o xB c d e f:Int) (cc:Cc) (ρ:Nat->R8) (k p l:Value) (va1 vb:Int) (vc:Nat) (vd':ByteArray) (ve:Int) (w:World) (hr:r<n) (hr2:r2<n) (hn:n<=100) (hx:xB=r2) (hρ:ρ r2=.v5 k va1 vb vc vd' ve p l) (hl:ρ r=.li none 0 0) (C:CAt w bc {cc with regs:=.slice (some ⟨br,0,none⟩) n n}) (X:RgA w br n ρ) :
  Calls prog 56 #[pz' bl,pz' bc,.agg (qa o r xB c d e f)] w fun e w'=>e=.returned .nilIface/\∃h hc,w.heap.size<=h/\w'.ownsRow w.heap.size 52 5 (.slice (some ⟨h,0,none⟩) 1 hc) 1 [.int .i64 va1,.int .i64 vb,.float .f64 vc,.string vd',.int .i64 ve]/\Chg [br] w w'/\RgA w' br n (upd ρ r (.li (some ⟨h,0,none⟩) 1 hc)):=by
 have O0:OpR bc br n w.heap.size cc (qa o r xB c d e f) ρ w (w.alloc (.cells (qa o r xB c d e f) 161)).drew:=⟨(Blk.new w _ _).l (Below.refl _ _).drew,C.l ((Below.refl _ _).alloc (Nat.le_refl _) _).drew,X.l ((Below.refl _ _).alloc (Nat.le_refl _) _).drew,(Chg.refl _ _).below ((Below.refl _ _).alloc (Nat.le_refl _) _).drew⟩
 have HO:Hid (OpR bc br n w.heap.size cc (qa o r xB c d e f) ρ w (w.alloc (.cells (qa o r xB c d e f) 161)).drew):=O0
 have zs:=O0.q.cell
 have hneg:Hid (¬xB<0):=by show ¬xB<0;omega
 have HX:Hid (xB=r2∨xB = -1-r2):=.inl hx
 have HR:Hid (ρ r2=.v5 k va1 vb vc vd' ve p l):=hρ
 have HL:Hid (ρ r=.li none 0 0):=hl
 clear hx hρ hl O0 C X
 go_enter func56,ntmps56
 go_wp2_with fail
 refine rgM (fun W=>(∀o',W.cell? ⟨w.heap.size,o',none⟩=(#[.int .i64 o,.int .i64 r,.int .i64 xB,.int .i64 c,.int .i64 d,.int .i64 e,.int .i64 f]:Array Value)[o']?)) zs (fun hS=>?_)
 iterate 6 (refine tkM rfl (by kernel_rfl) (by rfl) hS ⟨?_,fun W hW=>?_,?_⟩;rotate_left;(focus (go_simp;with_reducible rfl));simp only[Act.put,List.getElem_toArray,List.getElem_cons_zero,List.getElem_cons_succ,List.setIfInBounds_toArray,List.set_cons_succ,List.set_cons_zero])
 refine doM rfl (by kernel_rfl) (by rfl) (fun K2 hK2=>?_)
 go_wp2_with fail
 refine(HO.out.reg2 r2 xB k va1 vb vc vd' ve p l hr2 hn HX.out HR.out).mono ?_
 rintro e w1 ⟨rfl,O1,_,_⟩
 rw[if_neg (c:=xB<0) (by have:=hneg.out;omega)]at O1
 have HO1:Hid (OpR bc br n w.heap.size cc (qa o r xB c d e f) ρ w w1):=O1
 refine hK2.out _ _ O1.q.cell (fun hS1=>?_)
 clear hK2 K2 O1
 try simp only[Act.put,List.getElem_toArray,List.getElem_cons_zero,List.getElem_cons_succ,List.setIfInBounds_toArray,List.set_cons_succ,List.set_cons_zero]
 refine doM rfl (by kernel_rfl) (by rfl) (fun K2 hK2=>?_)
 go_wp2_with fail
 refine hK2.out _ _ (HO1.out.q.alloc _).cell (fun hS2=>?_)
 clear hK2 K2
 try simp only[Act.put,List.getElem_toArray,List.getElem_cons_zero,List.getElem_cons_succ,List.setIfInBounds_toArray,List.set_cons_succ,List.set_cons_zero]
 refine doM rfl (by kernel_rfl) (by rfl) (fun K2 hK2=>?_)
 go_wp2_with fail
 refine(We bc br n r w1.heap.size va1 vb vc vd' ve cc ρ _ hr HL.out (Blk.new w1 _ _) (HO1.out.c.alloc _) (HO1.out.x.alloc _)).mono ?_
 rintro e w2 ⟨rfl,h,hc,hh,O2,C2,X2⟩
 refine hK2.out _ _ ((HO1.out.q.alloc (.cells (va va1 vb vc vd' ve) 52)).chg C2 (by simpa using Aa (HO1.out.q.alloc (.cells (va va1 vb vc vd' ve) 52)) (HO1.out.x.alloc (.cells (va va1 vb vc vd' ve) 52)).blk (by decide))).cell (fun hS3=>?_)
 clear hK2 K2
 try simp only[Act.put,List.getElem_toArray,List.getElem_cons_zero,List.getElem_cons_succ,List.setIfInBounds_toArray,List.set_cons_succ,List.set_cons_zero]
 iterate 1 (refine tkM rfl (by kernel_rfl) (by rfl) hS3 ⟨?_,fun W hW=>?_,?_⟩;rotate_left;(focus (go_simp;with_reducible rfl));simp only[Act.put,List.getElem_toArray,List.getElem_cons_zero,List.getElem_cons_succ,List.setIfInBounds_toArray,List.set_cons_succ,List.set_cons_zero])
 refine enM (by kernel_rfl) ?_
 have hs:=HO1.out.g.size
 have hs2:=((Below.refl _ w1).alloc (Nat.le_refl _) (.cells (va va1 vb vc vd' ve) 52)).size
 have HF:Hid (w.heap.size<=h/\World.ownsRow w2 w.heap.size 52 5 (.slice (some ⟨h,0,none⟩) 1 hc) 1 _/\Chg [br] w w2/\RgA w2 br n _):=⟨by omega,A6e O2 (by omega),(HO1.out.g.below ((Below.refl _ _).alloc (Nat.le_refl _) _)).trans C2 (by simp),X2⟩
 simp only[NoPanic]
 go_wp2_with fail
 go_ret
 exact⟨rfl,h,hc,HF.out⟩
abbrev s7:ByteArray:=⟨#[55]⟩
theorem A8s (w:World):Calls prog 339 #[.int .i64 7] w fun e w'=>e=.returned (.string s7)/\Below w.heap.size w w':=by
 have e8:IntKind.i64.wrap 8=8:=by decide
 go_enter func339,ntmps339
 go_wp2_with fail
 go_ret
 exact⟨rfl,Below.refl _ _⟩
theorem Yj (w:World):Calls prog 222 #[.int .i64 7,.int .i64 10] w fun e w'=>e=.returned (.string s7)/\Below w.heap.size w w':=by
 have H:Hid (Calls prog 280 #[.int .i64 7,.int .i64 10] w fun e w'=>e=.returned (.string s7)/\Below w.heap.size w w'):=by
  refine Calls.mono ?_ (fun _ _ h=>h)
  go_enter func280,ntmps280
  go_wp2_with fail
  refine(A8s _).mono ?_
  rintro e w1 ⟨rfl,B1⟩
  go_wp2_with fail
  go_ret
  exact⟨rfl,B1⟩
 go_enter func222,ntmps222
 go_wp2_with fail
 refine H.out.mono ?_
 rintro e w1 ⟨rfl,B1⟩
 go_wp2_with fail
 go_ret
 exact⟨rfl,B1⟩
theorem A78 (w:World):Calls prog 163 #[.agg (va 2 7 0 ByteArray.empty 0)] w fun e w'=>e=.returned (.string s7)/\Below w.heap.size w w':=by
 have HV:Hid (∀W,Calls prog 212 #[.agg (va 2 7 0 ByteArray.empty 0)] W fun e w'=>e=.returned (.bool true)/\Below W.heap.size W w'):=fun W=>(Dz ⟨2,7,0,ByteArray.empty,0⟩ W).mono (by rintro e w' ⟨rfl,h⟩;exact⟨Ac (by kernel_rfl),h⟩)
 have X:=Blk.new w (va 2 7 0 ByteArray.empty 0) 52
 have B0:=(Below.refl _ w).alloc (Nat.le_refl _) (.cells (va 2 7 0 ByteArray.empty 0) 52)
 have xs:=X.cell
 go_enter func163,ntmps163
 go_wp2_with fail
 refine(HV.out _).mono ?_
 rintro e w1 ⟨rfl,B1⟩
 have ys:=(X.l B1).cell
 clear xs
 go_wp2_with fail
 refine(Yj _).mono ?_
 rintro e w2 ⟨rfl,B2⟩
 go_wp2_with fail
 go_ret
 exact⟨rfl,bl2 (bl2 B0 B1) B2⟩
theorem A5t (g c:Nat) (s t:ByteArray) (w:World) (G:w.cell? ⟨g,0,none⟩=some (.string s)):Calls prog 164 #[.slice (some ⟨g,0,none⟩) 1 c,.string t] w fun e w'=>e=.returned (.string s)/\Below w.heap.size w w':=by
 go_enter func164,ntmps164
 go_wp2_with fail
 go_ret
 exact⟨rfl,Below.refl _ _⟩
theorem A5d:Elt 38 92 (.agg #[.int .i64 0,.int .i64 0,.int .i64 0,.int .i64 0,.string ByteArray.empty]) 5 48:=⟨underlying38,by kernel_rfl,rfl,by decide⟩
abbrev rca (k t f l:Int) (s:ByteArray):Array Value:=#[.int .i64 k,.int .i64 t,.int .i64 f,.int .i64 l,.string s]
abbrev pp' (b:Nat):Value:=.pointer (some ⟨b,0,none⟩)
theorem A68 (bl bm:Nat) (m:Mc) (k t f l:Int) (s:ByteArray) (w:World) (l0:w.cell? ⟨bl,0,none⟩=some (pp' bm)) (l6:w.cell? ⟨bl,117,none⟩=some .nilFunc) (hbl:bl∉[bm]) (M:MAt w bm {m with cur:=.int .i64 0,rr:=.slice none 0 0}) :
  Calls prog 179 #[pp' bl,.agg (rca k t f l s)] w fun e' w'=>e'=.returned (.tuple #[])/\∃h hc,w.heap.size<=h/\w'.ownsRow w.heap.size 92 5 (.slice (some ⟨h,0,none⟩) 1 hc) 1 [.int .i64 k,.int .i64 0,.int .i64 f,.int .i64 l,.string s]/\Chg [bm] w w'/\MAt w' bm {m with cur:=.int .i64 0,rr:=.slice (some ⟨h,0,none⟩) 1 hc}:=by
 have B0:Below w.heap.size w (w.alloc (.cells (rca k t f l s) 92)):=(Below.refl _ _).alloc (Nat.le_refl _) _
 have Z0:=Blk.new w (rca k t f l s) 92
 have M0:=M.l B0
 have ms:=M0.cell
 have z0:=Z0.cell
 have zf:=Z0.frozen
 have l1:=cb l0 B0
 have l7:=cb l6 B0
 have hnf:∀W,(binOp .neq 80 .nilFunc .nilFunc).run prog W=.ok (.bool false) W:=fun W=>by kernel_rfl
 go_enter func179,ntmps179
 go_wp2_with fail
 have hlt:bl<w.heap.size:=World.block_lt_of_cell? _ _ l0
 have BV:Below w.heap.size w (w.alloc (.cells (rca k 0 f l s) 92)):=(Below.refl _ _).alloc (Nat.le_refl _) _
 have Z1:=Blk.new w (rca k 0 f l s) 92
 clear Z0 M0 ms z0 zf l1 l7 B0
 revert Z1 BV
 generalize w.alloc (.cells (rca k 0 f l s) 92)=V
 intro BV Z1
 have M1:=M.l BV
 have l2:=cb l0 BV
 have l8:=cb l6 BV
 have G1:Chg [bm] w V:=(Chg.refl _ _).below BV
 have hs1:w.heap.size<V.heap.size:=Z1.lt
 have m1:=M1.cell
 have z1:=Z1.cell
 have DV:Below V.heap.size V V.drew:=(Below.refl _ _).drew
 refine rgM (fun W=>(∀o,W.cell? ⟨w.heap.size,o,none⟩=(#[.int .i64 k,.int .i64 0,.int .i64 f,.int .i64 l,.string s]:Array Value)[o]?)/\W.cell? ⟨bl,0,none⟩=some (.pointer (some ⟨bm,0,none⟩))) ⟨(Z1.l DV).cell,cb l2 DV⟩ (fun hS=>?_)
 iterate 11 (refine tkM rfl (by kernel_rfl) (by rfl) hS ⟨?_,fun W hW=>?_,?_⟩;rotate_left;(focus (obtain⟨y2,y3⟩:=hW;go_simp;with_reducible rfl));simp only[Act.put,List.getElem_toArray,List.getElem_cons_zero,List.getElem_cons_succ,List.setIfInBounds_toArray,List.set_cons_succ,List.set_cons_zero])
 refine He [12,11,13,14,15,16,17,18] (by kernel_rfl) ?_
 (refine tkM rfl (by kernel_rfl) (by rfl) hS ⟨?_,fun W hW=>?_,?_⟩;rotate_left;(focus (obtain⟨y2,y3⟩:=hW;go_simp;with_reducible rfl));simp only[Act.put,List.getElem_toArray,List.getElem_cons_zero,List.getElem_cons_succ,List.setIfInBounds_toArray,List.set_cons_succ,List.set_cons_zero])
 have md:=(M1.l DV).cell
 have BA:Below V.heap.size V (V.alloc (.cells (rca k 0 f l s) 92)).drew:=((Below.refl _ _).alloc (Nat.le_refl _) _).drew
 have N1:Blk (V.alloc (.cells (rca k 0 f l s) 92)).drew V.heap.size (rca k 0 f l s) 92:=(Blk.new V _ _).l (Below.refl _ _).drew
 have mb:=(M1.l BA).cell
 refine Sn rfl rfl (by kernel_rfl) (by rfl) (by rfl) (fun K2 hK2=>?a1) (fun K2 hK2=>?b1)
 case' a1=>
  go_wp2_with fail
  refine hK2.out _ _ ⟨(Z1.l DV).cell,cb l2 DV⟩ (fun hS=>?_)
  clear hK2 K2
  try simp only[Act.put,List.getElem_toArray,List.getElem_cons_zero,List.getElem_cons_succ,List.setIfInBounds_toArray,List.set_cons_succ,List.set_cons_zero]
  refine doM rfl (by kernel_rfl) (by rfl) (fun K2 hK2=>?_)
  go_wp2_with fail
  refine hK2.out _ _ ⟨(Z1.l BA).cell,cb l2 BA⟩ (fun hS=>?_)
  clear hK2 K2
  try simp only[Act.put,List.getElem_toArray,List.getElem_cons_zero,List.getElem_cons_succ,List.setIfInBounds_toArray,List.set_cons_succ,List.set_cons_zero]
 case' b1=>
  go_wp2_with fail
  refine hK2.out _ _ ⟨(Z1.l BA).cell,cb l2 BA⟩ (fun hS=>?_)
  clear hK2 K2
  try simp only[Act.put,List.getElem_toArray,List.getElem_cons_zero,List.getElem_cons_succ,List.setIfInBounds_toArray,List.set_cons_succ,List.set_cons_zero]
  refine doM rfl (by kernel_rfl) (by rfl) (fun K2 hK2=>?_)
  go_wp2_with fail
  refine hK2.out _ _ ⟨(Z1.l BA).cell,cb l2 BA⟩ (fun hS=>?_)
  clear hK2 K2
  try simp only[Act.put,List.getElem_toArray,List.getElem_cons_zero,List.getElem_cons_succ,List.setIfInBounds_toArray,List.set_cons_succ,List.set_cons_zero]
 all_goals
  refine doM rfl (by kernel_rfl) (by rfl) (fun K2 hK2=>?_)
  refine Zk A5d _ _ rfl w.heap.size (.slice none 0 0) 0 [] [.int .i64 k,.int .i64 0,.int .i64 f,.int .i64 l,.string s] V.heap.size rfl (World.ownsRow_nil _ _ _ _) rfl (fun i u hu=>by rw[Nat.zero_add,N1.cell];simpa using hu) rfl (by simp[Value.oneCell']) (by omega) (by decide) (Nat.le_trans (Nat.le_of_lt hs1) BA.size) ?_
  intro v' w3 ho3 hg3 h5
  have gC:=Chg.grown (L:=[]) hg3 (fun k hk=>by simp[Value.ownBlock]at hk)
  obtain⟨h,cap',rfl,hge,_⟩:∃h cap,v'=.slice (some ⟨h,0,none⟩) 1 cap/\w.heap.size<=h/\True:=by
   rcases Aj ho3 with ⟨_,h⟩|⟨h,cap,e1,e2,_⟩
   ·cases h
   ·exact⟨h,cap,e1,e2,trivial⟩
  have M3:=(M1.l BA).chg gC (by simp)
  have Z3:=(Z1.l BA).chg gC (by simp)
  have l3:=gC.cell (by simp) (cb l2 BA)
  have l9:=gC.cell (by simp) (cb l8 BA)
  have G3:Chg [bm] w w3:=(G1.below BA).trans gC (by simp)
  refine hK2.out _ _ ⟨Z3.cell,l3⟩ (fun hS3=>?_)
  simp only[Act.put,List.getElem_toArray,List.getElem_cons_zero,List.getElem_cons_succ,List.setIfInBounds_toArray,List.set_cons_succ,List.set_cons_zero]
  iterate 3 (refine tkM rfl (by kernel_rfl) (by rfl) hS3 ⟨?_,fun W hW=>?_,?_⟩;rotate_left;(focus (go_simp;with_reducible rfl));simp only[Act.put,List.getElem_toArray,List.getElem_cons_zero,List.getElem_cons_succ,List.setIfInBounds_toArray,List.set_cons_succ,List.set_cons_zero])
  have m3:=M3.cell
  have f3:=M3.frozen
  have C4:Chg [bm] w3 (w3.setCell ⟨bm,22,none⟩ (.slice (some ⟨h,0,none⟩) 1 cap')):=(Chg.refl _ _).set (by simp) _ _
  have M4:MAt (w3.setCell ⟨bm,22,none⟩ (.slice (some ⟨h,0,none⟩) 1 cap')) bm {m with cur:=.int .i64 0,rr:=.slice (some ⟨h,0,none⟩) 1 cap'}:=M3.set 22 _
  have Z4:=Z3.chg C4 (by simpa using Aa Z3 M3 (by decide))
  have l4:=C4.cell hbl l3
  have l10:=C4.cell hbl l9
  have O4:=Ae ho3 (fun k hk=>C4.block k (by simpa using Ba ho3 M3 (by decide) k hk) (ho3.lt k hk).2)
  refine doM rfl (by kernel_rfl) (by rfl) (fun K3 hK3=>?_)
  go_wp2_with fail
  refine hK3.out _ _ ⟨Z4.cell,l4⟩ (fun _=>enM (by kernel_rfl) ?_)
  have HF:Hid (w.heap.size<=h/\World.ownsRow _ w.heap.size 92 5 (.slice (some ⟨h,0,none⟩) 1 cap') 1 _/\Chg [bm] w _/\MAt _ bm _):=⟨hge,O4,G3.trans C4 (fun _ h=>h),M4⟩
  clear hK3 hK2
  simp only[NoPanic]
  go_wp2_with fail
  go_end0
  exact⟨rfl,h,cap',HF.out⟩
end Go.Proofs.YtbefeflgjipfhaaGreatDoor
namespace Go.Proofs.YtbefeflgjipfhaaGreatDoor
open Go.Deep Go.Proofs.Tryz Go.RowKit
attribute [local go_sem] A7 vi Oper.semAt_some
set_option linter.unusedSimpArgs false
abbrev pq (b:Nat):Value:=.pointer (some ⟨b,0,none⟩)
theorem Im {L:List Nat} {w W W':World} (h:Chg L w W) (hb:Below w.heap.size W W'):Chg L w W':=
 ⟨hb.os.trans h.os,hb.tape.trans h.tape,hb.output.trans h.output,Nat.le_trans h.size hb.size,fun b hl hs=>(hb.block b hs).trans (h.block b hl hs)⟩
theorem Ro {g:Operand} {ps:Array Tmp} {assign body:Code} {Q:Exit->Act->World->Prop} {a:Act} {w:World} (f:Nat) (bx:Nat) (vs:Array Value) (X:List Nat) (P:World->Prop) (act:Act)
  (hg:a.eval g=.func (.func f) #[] #[pq bx]) (hent:Hid (∀args W,(callFunc f args).run prog W=.ok (.enter f args) W)) (hps:vs.size=ps.size) (hX:∀b∈X,b<w.heap.size)
  (hP:∀W W',P W->Below w.heap.size W W'->P W')
  (HC:Hid (∀(l:Nat) (W:World) (R:World->Prop),Below w.heap.size w W->w.heap.size<=l/\l<W.heap.size->(∀V V',R V->Below W.heap.size V V'->R V')->(∀W2,Below W.heap.size W W2->YieldAt Fence.wide 0 prog l vs W2 fun e W'=>e=.returned (.bool false)/\R W'/\Chg (l::X) W2 W')->Calls prog f #[.func (.yield l) #[] #[],pq bx] W fun e W'=>e=.returned (.tuple #[])/\R W'))
  (hassign:∀(l:Nat) (W:World) (K:Act->World->Prop),K act W->assign.wpIn (Fence.wide.inRound l) 0 prog (Exit.then K (fun _ _ _=>False)) {tmps:=(ps.zip vs).foldl (fun t (p,v)=>t.setIfInBounds p v) a.tmps,defers:=[]} W)
  (hbody:∀(l:Nat) (W:World),Below w.heap.size w W->body.wpIn (Fence.wide.inRound l) 0 prog (fun e _ W'=>e=.ret/\Chg X W W'/\P W') act W)
  (hdone:∀(D:Nat) (W:World),w.heap.size<=D->Chg X w W->P W->W.heap[D]?=some (.deferred (some []))->Q .ret {a with defers:={target:=.collected D,args:=#[]}::a.defers} W) :
  (Code.rangeFunc g ps assign body).wp prog Q a w:=by
 refine(wpIn_wide (n:=2)).1 (wpIn_rangeFunc ?_)
 intro fn hfn
 obtain⟨rec,hrec⟩:∃rec:LoopState->Option Code->Loop,rec=fun st pe=>{state:=st,pending:=pe,fn,tmps:=a.tmps,params:=ps,assign,body,defers:=w.heap.size}:=⟨_,rfl⟩
 obtain⟨W1,hW1⟩:∃W1,(w.alloc (.deferred (some []))).alloc (.loop (rec .ready none))=W1:=⟨_,rfl⟩
 have hL1:W1.heap[w.heap.size+1]?=some (.loop (rec .ready none)):=by
  rw[←hW1];have:=World.alloc_heap_new (w.alloc (.deferred (some []))) (.loop (rec .ready none));rwa [World.size_alloc]at this
 have hK1:W1.heap[w.heap.size]?=some (.deferred (some [])):=by
  rw[←hW1];exact(Below.heap_alloc _ _ _ (by simp)).trans (World.alloc_heap_new w _)
 have hs1:W1.heap.size=w.heap.size+2:=by rw[←hW1];simp
 have hb1:Below w.heap.size w W1:=by
  rw[←hW1];exact((Below.refl _ w).alloc (Nat.le_refl _) _).alloc (by simp) _
 refine⟨w.heap.size+1,[{target:=.collected w.heap.size,args:=#[]}],W1,{target:=.fn (.func f) #[pq bx],args:=#[.func (.yield (w.heap.size+1)) #[] #[]]},W1,f,
  #[.func (.yield (w.heap.size+1)) #[] #[]]++#[pq bx],W1,?_,?_,?_,?_,fun h=>(by cases h),?_⟩
 ·rw[←hW1,hrec];exact run_enterLoop_outer _ _ _ _ _
 ·simp only[resolve,hg]
  simp[go_sem]
 ·intro f' hf';exact trivial
 ·simp[invoke,go_sem,hent.out]
 refine callsIn_wide.2 ?_
 obtain⟨R,hR⟩:∃R:World->Prop,R=fun W3=>Chg X w W3/\P W3/\W3.heap[w.heap.size+1]?=some (.loop (rec .done (some .ret)))/\W3.heap[w.heap.size]?=some (.deferred (some [])):=⟨_,rfl⟩
 have hRk:∀V V',R V->Below W1.heap.size V V'->R V':=by
  rw[hR]
  rintro V V' ⟨h1,h2,h3,h4⟩ hb
  exact⟨Im h1 (hb.mono (by omega)),hP _ _ h2 (hb.mono (by omega)),(hb.block _ (by omega)).trans h3,(hb.block _ (by omega)).trans h4⟩
 refine(HC.out (w.heap.size+1) W1 R hb1 ⟨by omega,by omega⟩ hRk (fun W2 hW2=>?_)).mono ?_
 ·have hl:W2.heap[w.heap.size+1]?=some (.loop (rec .ready none)):=(hW2.block _ (by omega)).trans hL1
  have hD:W2.heap[w.heap.size]?=some (.deferred (some [])):=(hW2.block _ (by omega)).trans hK1
  have hlt:w.heap.size+1<W2.heap.size:=(Array.getElem?_eq_some_iff.1 hl).1
  have hB2:Below w.heap.size w W2:=hb1.trans (hW2.mono (by omega))
  have hy:=run_yield (P:=prog) (args:=vs) hl (by rw[hrec];exact hps)
  rw[hrec]at hy
  refine⟨fn,_,assign,body,hy,roundIn_of_wpIn hfn (hassign _ W2 _ ?_)⟩
  refine⟨_,run_beginRound hl (by rw[hrec]),?_⟩
  obtain⟨lb,hlb⟩:∃z,z=({rec .ready none with state:=.busy} : Loop):=⟨_,rfl⟩
  rw[←hlb]
  have hp:∀(V:World) (o:Obj) (k:Nat),k≠w.heap.size+1->(V.putObj (w.heap.size+1) o).heap[k]?=V.heap[k]?:=fun V o k hk=>World.putObj_heap_other hk
  have hcp:∀(V:World) (o:Obj),Chg ((w.heap.size+1)::X) V (V.putObj (w.heap.size+1) o):=fun V o=>⟨rfl,rfl,rfl,by simp,fun k hk _=>hp V o k (fun e=>hk (by simp[e]))⟩
  refine wpIn_mono (hbody _ _ (hB2.trans (Dw _ _ (by omega)))) ?_
  rintro e a3 W3 ⟨rfl,hC3,hP3⟩
  have hne:∀k,w.heap.size<=k->k∉X:=fun k hk hm=>by have:=hX k hm;omega
  have hl3:W3.heap[w.heap.size+1]?=some (.loop lb):=(hC3.block _ (hne _ (by omega)) (by simpa using hlt)).trans (World.putObj_heap_same hlt)
  have hD3:W3.heap[w.heap.size]?=some (.deferred (some [])):=(hC3.block _ (hne _ (by omega)) (by simp;omega)).trans ((hp _ _ _ (by omega)).trans hD)
  have hr:=run_endRound (P:=prog) (some .ret) hl3
  have h3s:w.heap.size+1<W3.heap.size:=(Array.getElem?_eq_some_iff.1 hl3).1
  refine⟨_,_,hr,rfl,?_,((hcp _ _).trans hC3 (fun b hb=>by simp[hb])).trans (hcp _ _) (fun _ h=>h)⟩
  rw[hR]
  refine⟨Im ((Im ((Chg.refl X w).below hB2) (Dw _ _ (by omega))).trans hC3 (fun _ h=>h)) (Dw _ _ (by omega)),hP _ _ hP3 (Dw _ _ (by omega)),?_,(hp _ _ _ (by omega)).trans hD3⟩
  rw[World.putObj_heap_same h3s,hlb,hrec]
  rfl
 rintro e W2 ⟨rfl,hR2⟩
 rw[hR]at hR2
 obtain⟨hC2,hP2,hl2,hD2⟩:=hR2
 have hend:=run_endLoop (P:=prog) hl2 (by rw[hrec];simp)
 rw[hrec]at hend
 refine⟨some .ret,_,hend,wpIn_ret ?_⟩
 exact hdone _ _ (Nat.le_refl _) (Im hC2 (Dw _ _ (by omega))) (hP _ _ hP2 (Dw _ _ (by omega))) ((World.putObj_heap_other (by omega)).trans hD2)
set_option linter.unusedSimpArgs false
theorem A3e (l bx bf fc:Nat) (v:Value) (R:World->Prop) (w:World) (hc:w.cell? ⟨bx,0,none⟩=some (.slice (some ⟨bf,0,none⟩) 1 fc)) (hf:w.cell? ⟨bf,0,none⟩=some v)
  (HY:YieldAt Fence.wide 0 prog l #[.int .i64 0,v] w fun e W'=>e=.returned (.bool false)/\R W') :
  Calls prog 368 #[.func (.yield l) #[] #[],pq bx] w fun e W'=>e=.returned (.tuple #[])/\R W':=by
 have e0:IntKind.i64.wrap 0=0:=by decide
 obtain⟨fy,ty,ay,by1,hy,hR⟩:=HY
 go_enter func368,ntmps368
 go_wp2_with fail
 refine wp_loop_rounds 1 ?_
 rw[rounds_succ]
 refine(wpIn_wide (n:=1)).1 ?_
 gi_wp2
 refine hR.mono ?_
 rintro e W6 ⟨rfl,R6⟩
 gi_wp2
 exact bodyPost_ret (results_none rfl _ _ _) rfl ⟨rfl,R6⟩
theorem Uz (bf fc:Nat) (w:World):Calls prog 331 #[.slice (some ⟨bf,0,none⟩) 1 fc] w fun e w'=>e=.returned (.func (.func 368) #[] #[pq w.heap.size])/\w'=w.alloc (.cells #[.slice (some ⟨bf,0,none⟩) 1 fc] 109):=by
 have hmf:∀(fn:Fn) (first cap:Array Value) (w:World),(Instr.makeFunc fn first cap).run prog w=.ok (.func fn first cap) w:=fun _ _ _ _=>rfl
 go_enter func331,ntmps331
 go_wp2_with fail
 go_ret
 exact⟨rfl,rfl⟩
theorem Ti (bt:Nat) (w:World):Calls prog 266 #[pq bt] w fun e w'=>e=.returned (.func (.func 330) #[] #[pq w.heap.size])/\w'=w.alloc (.cells #[pq bt] 106):=by
 have hmf:∀(fn:Fn) (first cap:Array Value) (w:World),(Instr.makeFunc fn first cap).run prog w=.ok (.func fn first cap) w:=fun _ _ _ _=>rfl
 go_enter func266,ntmps266
 go_wp2_with fail
 go_ret
 exact⟨rfl,rfl⟩
theorem A1g (l bx bt bf fc bc:Nat) (Xo:List Nat) (t:Tc) (R:World->Prop) (w:World) (hx:w.cell? ⟨bx,0,none⟩=some (pq bt)) (T:TAt w bt {t with frames:=.slice (some ⟨bf,0,none⟩) 1 fc}) (hf:w.cell? ⟨bf,0,none⟩=some (.iface 107 (pq bc))) (hl:∀b∈l::Xo,b<w.heap.size)
  (hR:∀V V',R V->Below w.heap.size V V'->R V') (HY:Hid (∀W2,Below w.heap.size w W2->YieldAt Fence.wide 0 prog l #[pq bc] W2 fun e W'=>e=.returned (.bool false)/\R W'/\Chg (l::Xo) W2 W')) :
  Calls prog 330 #[.func (.yield l) #[] #[],pq bx] w fun e W'=>e=.returned (.tuple #[])/\R W':=by
 have B0:Below w.heap.size w (w.alloc (.cells #[.func (.yield l) #[] #[]] 420)):=(Below.refl _ _).alloc (Nat.le_refl _) _
 have x0:=cb hx B0
 have t0:=(T.l B0).cell
 refine(callsIn_wide (n:=3)).1 ?_
 refine callsIn_of_wp_marks func330 rfl trivial ?_ rfl
 simp only[ntmps330,List.size_toArray,List.length_cons,List.length_nil,Nat.reduceAdd,Nat.reduceSub,Array.replicate_succ,Array.replicate_zero,List.push_toArray,List.append_toArray,List.nil_append,List.cons_append]
 refine wpIn_wide.2 ?_
 go_wp2_with (go_at_call 331;refine(Uz bf fc _).mono ?_;rintro e w1 ⟨rfl,rfl⟩)
 have B1:Below w.heap.size w ((w.alloc (.cells #[.func (.yield l) #[] #[]] 420)).alloc (.cells #[.slice (some ⟨bf,0,none⟩) 1 fc] 109)):=bl2 B0 ((Below.refl _ _).alloc (Nat.le_refl _) _)
 have Y0:Blk ((w.alloc (.cells #[.func (.yield l) #[] #[]] 420)).alloc (.cells #[.slice (some ⟨bf,0,none⟩) 1 fc] 109)) w.heap.size #[.func (.yield l) #[] #[]] 420:=(Blk.new w _ _).alloc _
 have Y1:Blk ((w.alloc (.cells #[.func (.yield l) #[] #[]] 420)).alloc (.cells #[.slice (some ⟨bf,0,none⟩) 1 fc] 109)) (w.heap.size+1) #[.slice (some ⟨bf,0,none⟩) 1 fc] 109:=nb _ _ (by simp)
 clear B0 x0 t0
 revert B1 Y0 Y1
 generalize (w.alloc (.cells #[.func (.yield l) #[] #[]] 420)).alloc (.cells #[.slice (some ⟨bf,0,none⟩) 1 fc] 109)=W1
 intro B1 Y0 Y1
 have hs:=Y1.lt
 refine Ro 368 (w.heap.size+1) #[.int .i64 0,.iface 107 (pq bc)] (l::Xo) R ?act rfl (Di func368 (by kernel_rfl) rfl) rfl (fun b hb=>by have:=hl b hb;omega) (fun V V' h hb=>hR V V' h (hb.mono (by omega))) ?HC ?assign ?body ?done
 case assign=>
  intro l' W K hK
  gi_wp2
  exact hK
 case HC=>
  intro l' W R' hW hl' hR' HY'
  exact(A3e l' (w.heap.size+1) bf fc _ R' W ((Y1.l hW).cell 0) (cb hf (bl2 B1 hW)) (by
   obtain⟨a1,a2,a3,a4,a5,a6⟩:=HY' W (Below.refl _ _)
   exact⟨a1,a2,a3,a4,a5,a6.mono fun e W' h=>⟨h.1,h.2.1⟩⟩))
 case body=>
  intro l' W hW
  have y0:=(Y0.l hW).cell
  obtain⟨fy,ty,ay,by1,hy,hRd⟩:=HY.out W (bl2 B1 hW)
  gi_wp2
  refine⟨rfl,RoundIn.mono (show RoundIn (Fence.wide.inRound l') 0 prog l fy ty ay by1 W _ from hRd) ?_⟩
  rintro e W6 ⟨rfl,R6,C6⟩
  gi_wp2
  exact R6
 case done=>
  intro D W hD hC hRW hDW
  refine⟨by simp,.inl ⟨_,_,rfl,run_takeDeferred hDW,?_⟩⟩
  exact⟨_,results_none rfl _ _ _,rfl,hR _ _ hRW (Dw _ _ (by omega))⟩
theorem Wu (bt bf fc bc:Nat) (t:Tc) (w:World) (T:TAt w bt {t with frames:=.slice (some ⟨bf,0,none⟩) 1 fc}) (hf:w.cell? ⟨bf,0,none⟩=some (.iface 107 (pq bc))) :
  Calls prog 201 #[pq bt] w fun e w'=>e=.returned (pq bc)/\Below w.heap.size w w':=by
 have B0:Below w.heap.size w (w.alloc (.cells #[.pointer none] 107)):=(Below.refl _ _).alloc (Nat.le_refl _) _
 have Z0:=Blk.new w #[.pointer none] 107
 refine(callsIn_wide (n:=3)).1 ?_
 refine callsIn_of_wp_marks func201 rfl trivial ?_ rfl
 simp only[ntmps201,List.size_toArray,List.length_cons,List.length_nil,Nat.reduceAdd,Nat.reduceSub,Array.replicate_succ,Array.replicate_zero,List.push_toArray,List.append_toArray,List.nil_append,List.cons_append]
 refine wpIn_wide.2 ?_
 go_wp2_with (go_at_call 266;refine(Ti bt _).mono ?_;rintro e w1 ⟨rfl,rfl⟩)
 have B1:Below w.heap.size w ((w.alloc (.cells #[.pointer none] 107)).alloc (.cells #[pq bt] 106)):=bl2 B0 ((Below.refl _ _).alloc (Nat.le_refl _) _)
 have Y0:Blk ((w.alloc (.cells #[.pointer none] 107)).alloc (.cells #[pq bt] 106)) w.heap.size #[.pointer none] 107:=Z0.alloc _
 have Y1:Blk ((w.alloc (.cells #[.pointer none] 107)).alloc (.cells #[pq bt] 106)) (w.heap.size+1) #[pq bt] 106:=nb _ _ (by simp)
 clear B0 Z0
 revert B1 Y0 Y1
 generalize (w.alloc (.cells #[.pointer none] 107)).alloc (.cells #[pq bt] 106)=W1
 intro B1 Y0 Y1
 have hs:=Y1.lt
 refine Ro 330 (w.heap.size+1) #[pq bc] [w.heap.size] (fun W=>Blk W w.heap.size #[pq bc] 107) ?act rfl (Di func330 (by kernel_rfl) rfl) rfl (fun b hb=>by simp at hb;omega) (fun V V' h hb=>(hb.block _ (by omega)).trans h) ?HC ?assign ?body ?done
 case assign=>
  intro l' W K hK
  gi_wp2
  exact hK
 case HC=>
  intro l' W R' hW hl' hR' HY'
  exact A1g l' (w.heap.size+1) bt bf fc bc [w.heap.size] t R' W ((Y1.l hW).cell 0) (T.l (bl2 B1 hW)) (cb hf (bl2 B1 hW)) (fun b hb=>by simp only[List.mem_cons,List.not_mem_nil,or_false]at hb;have:=hW.size;omega) hR' HY'
 case body=>
  intro l' W hW
  have y0:=(Y0.l hW).cell
  have yf:=(Y0.l hW).frozen
  gi_wp2
  exact⟨(Chg.refl _ _).set (by simp) _ _,(Y0.l hW).set 0 (pq bc)⟩
 case done=>
  intro D W hD hC hRW hDW
  refine⟨by simp,.inl ⟨_,_,rfl,run_takeDeferred hDW,?_⟩⟩
  have hne:w.heap.size≠D:=by omega
  have r:(W.putObj D (.deferred none)).cell? ⟨w.heap.size,0,none⟩=some (pq bc):=(World.cell?_of_block (World.putObj_heap_other hne)).trans (hRW.cell 0)
  exact⟨pq bc,by simp[results,results201,go_sem,r],rfl,(B1.trans (hC.low (by omega) (by simp))).trans (Dw _ _ (by omega))⟩
end Go.Proofs.YtbefeflgjipfhaaGreatDoor
namespace Go.Proofs.YtbefeflgjipfhaaGreatDoor
open Go.Deep Go.Proofs.Tryz Go.RowKit
attribute [local go_sem] A7 vi
set_option linter.unusedSimpArgs false
theorem Fg {w:World} {lo lo' e s n:Nat} {v:Value} {xs:List Value} (h:w.ownsRow lo e s v n xs) (hl:lo'<=lo):w.ownsRow lo' e s v n xs:=⟨h.1,h.2.imp id fun ⟨g,c,cur,h1,h2,h3⟩=>⟨g,c,cur,h1,Nat.le_trans hl h2,h3⟩⟩
structure NH (bl bm bts bt bf bc fc:Nat) (ln:Int) (w:World):Prop where
 l0:w.cell? ⟨bl,0,none⟩=some (pp' bm)
 l6:w.cell? ⟨bl,117,none⟩=some .nilFunc
 b:w.cell? ⟨bts,0,none⟩=some (pp' bt)
 t:∃t:Tc,TAt w bt {t with frames:=.slice (some ⟨bf,0,none⟩) 1 fc}
 f:w.cell? ⟨bf,0,none⟩=some (.iface 107 (pp' bc))
 c1:w.cell? ⟨bc,1,none⟩=some (.int .i64 0)
 c4:w.cell? ⟨bc,4,none⟩=some (.int .i64 ln)
theorem NH.l {bl bm bts bt bf bc fc:Nat} {ln:Int} {w w':World} (h:NH bl bm bts bt bf bc fc ln w) (hb:Below w.heap.size w w'):NH bl bm bts bt bf bc fc ln w':=
 ⟨cb h.l0 hb,cb h.l6 hb,cb h.b hb,let ⟨t,ht⟩:=h.t;⟨t,ht.l hb⟩,cb h.f hb,cb h.c1 hb,cb h.c4 hb⟩
theorem Ws (bl bm bts bt bf bc fc:Nat) (m:Mc) (k ln:Int) (s:ByteArray) (w:World) (H:NH bl bm bts bt bf bc fc ln w) (hbl:bl∉[bm]) (M:MAt w bm {m with tasks:=.slice (some ⟨bts,0,none⟩) 1 1,cur:=.int .i64 0,rr:=.slice none 0 0}) :
  Calls prog 120 #[pp' bl,.int .i64 k,.string s] w fun e' w'=>e'=.returned (.tuple #[])/\∃h hc,w.heap.size<=h/\w'.ownsRow w.heap.size 92 5 (.slice (some ⟨h,0,none⟩) 1 hc) 1 [.int .i64 k,.int .i64 0,.int .i64 0,.int .i64 ln,.string s]/\Chg [bm] w w'/\MAt w' bm {m with tasks:=.slice (some ⟨bts,0,none⟩) 1 1,cur:=.int .i64 0,rr:=.slice (some ⟨h,0,none⟩) 1 hc}:=by
 have B0:Below w.heap.size w (w.alloc (.cells (rca k 0 0 0 s) 92)):=(Below.refl _ _).alloc (Nat.le_refl _) _
 have Z0:=Blk.new w (rca k 0 0 0 s) 92
 have H0:=H.l B0
 have l0:=H0.l0
 go_enter func120,ntmps120
 go_wp2_with fail
 refine(Gl bm bt bts {m with rr:=.slice none 0 0} _ (M.l B0) H0.b).mono ?_
 rintro e w1 ⟨rfl,B1⟩
 obtain⟨t,T0⟩:=H0.t
 go_wp2_with fail
 refine(Wu bt bf fc bc t _ (T0.l B1) (cb H0.f B1)).mono ?_
 rintro e w2 ⟨rfl,B2⟩
 have BB:=bl2 B1 B2
 have c1:=cb H0.c1 BB
 have c4:=cb H0.c4 BB
 have z2:=(Z0.l BB).cell
 have zf2:=(Z0.l BB).frozen
 clear l0
 go_wp2_with fail
 go_region
 go_wp2_with fail
 have C9:Chg [w.heap.size] w2 ((w2.setCell ⟨w.heap.size,2,none⟩ (.int .i64 0)).setCell ⟨w.heap.size,3,none⟩ (.int .i64 ln)).drew:=(((Chg.refl _ _).set (by simp) _ _).set (by simp) _ _).below (Below.refl _ _).drew
 have B3:Below w.heap.size w ((w2.setCell ⟨w.heap.size,2,none⟩ (.int .i64 0)).setCell ⟨w.heap.size,3,none⟩ (.int .i64 ln)).drew:=(bl2 B0 BB).trans (C9.low (Nat.le_trans B0.size BB.size) (by simp))
 have hs3:=B3.size
 refine(A68 bl bm {m with tasks:=.slice (some ⟨bts,0,none⟩) 1 1} k 0 0 ln s _ (cb H.l0 B3) (cb H.l6 B3) hbl (M.l B3)).mono ?_
 rintro e w4 ⟨rfl,h,hc,hh,O4,C4,M4⟩
 go_wp2_with fail
 go_end0
 exact⟨rfl,h,hc,Nat.le_trans hs3 hh,Fg O4 hs3,((Chg.refl _ _).below B3).trans C4 (fun _ h=>h),M4⟩
theorem A8j (bl bm bts bt bf bc fc ga gc:Nat) (m:Mc) (ln:Int) (w:World) (H:NH bl bm bts bt bf bc fc ln w) (hbl:bl∉[bm]) (G:∀j,j<5->w.cell? ⟨ga,j,none⟩=(va 2 7 0 ByteArray.empty 0)[j]?) (M:MAt w bm {m with tasks:=.slice (some ⟨bts,0,none⟩) 1 1,cur:=.int .i64 0,rr:=.slice none 0 0}) :
  Calls prog 80 #[pp' bl,.slice (some ⟨ga,0,none⟩) 1 gc] w fun e' w'=>e'=.returned .nilIface/\∃h hc,w.heap.size<=h/\w'.ownsRow w.heap.size 92 5 (.slice (some ⟨h,0,none⟩) 1 hc) 1 [.int .i64 6,.int .i64 0,.int .i64 0,.int .i64 ln,.string s7]/\Chg [bm] w w'/\MAt w' bm {m with tasks:=.slice (some ⟨bts,0,none⟩) 1 1,cur:=.int .i64 0,rr:=.slice (some ⟨h,0,none⟩) 1 hc,has:=.bool true,got:=.slice none 0 0}:=by
 have g0:w.cell? ⟨ga,0,none⟩=some (.int .i64 2):=G 0 (by decide)
 have g1:w.cell? ⟨ga,1,none⟩=some (.int .i64 7):=G 1 (by decide)
 have g2:w.cell? ⟨ga,2,none⟩=some (.float .f64 0):=G 2 (by decide)
 have g3:w.cell? ⟨ga,3,none⟩=some (.string ByteArray.empty):=G 3 (by decide)
 have g4:w.cell? ⟨ga,4,none⟩=some (.int .i64 0):=G 4 (by decide)
 have e1:IntKind.i64.wrap 1=1:=by decide
 have hm:(Instr.makeSlice 28 (.int .i64 1) (.int .i64 1)).run prog w=.ok (.slice (some ⟨w.heap.size,0,none⟩) 1 1) (w.alloc (.cells #[.string ByteArray.empty] 9)):=by kernel_rfl
 have B0:Below w.heap.size w (w.alloc (.cells #[.string ByteArray.empty] 9)):=(Below.refl _ _).alloc (Nat.le_refl _) _
 have Z0:=Blk.new w #[.string ByteArray.empty] 9
 have ng:ga<w.heap.size:=World.block_lt_of_cell? _ _ g0
 go_enter func80,ntmps80
 go_wp2_with fail
 clear hm
 revert B0 Z0
 generalize w.alloc (.cells #[.string ByteArray.empty] 9)=V
 intro B0 Z0
 have h0:=cb g0 B0
 have h1:=cb g1 B0
 have h2:=cb g2 B0
 have h3:=cb g3 B0
 have h4:=cb g4 B0
 refine wp_loop_rounds 2 ?_
 rw[rounds_succ]
 go_wp2_with fail
 refine(A78 _).mono ?_
 rintro e w1 ⟨rfl,B1⟩
 have BV:Below V.heap.size V w1:=bl2 ((Below.refl _ _).alloc (Nat.le_refl _) _) B1
 have z1:=(Z0.l BV).cell
 have zf:=(Z0.l BV).frozen
 clear h0 h1 h2 h3 h4
 go_wp2_with fail
 rw[rounds_succ]
 go_wp2_with fail
 have C2:Chg [w.heap.size] w1 (w1.setCell ⟨w.heap.size,0,none⟩ (.string s7)):=(Chg.refl _ _).set (by simp) _ _
 have Z2:Blk (w1.setCell ⟨w.heap.size,0,none⟩ (.string s7)) w.heap.size #[.string s7] 9:=(Z0.l BV).set 0 (.string s7)
 have B2:Below w.heap.size w (w1.setCell ⟨w.heap.size,0,none⟩ (.string s7)):=(bl2 B0 BV).trans (C2.low (Nat.le_trans B0.size BV.size) (by simp))
 refine(A5t w.heap.size 1 s7 _ _ (Z2.cell 0)).mono ?_
 rintro e w3 ⟨rfl,B3⟩
 have B4:=bl2 B2 B3
 go_wp2_with fail
 refine(Ws bl bm bts bt bf bc fc m 6 ln s7 _ (H.l B4) hbl (M.l B4)).mono ?_
 rintro e w5 ⟨rfl,h,hc,hh,O5,C5,M5⟩
 have l5:=C5.cell hbl (cb H.l0 B4)
 go_wp2_with fail
 refine(Nb bm _ none 0 0 _ M5).mono ?_
 rintro e w6 ⟨rfl,C6,M6⟩
 go_wp2_with fail
 go_ret
 exact⟨rfl,h,hc,Nat.le_trans B4.size hh,Ae (Fg O5 B4.size) (fun k hk=>C6.block k (by simpa using Ba O5 M5 (by decide) k hk) (O5.lt k hk).2),(((Chg.refl _ _).below B4).trans C5 (fun _ h=>h)).trans C6 (fun _ h=>h),M6⟩
theorem A0l (bl bm bts bt bf bc fc ga gc:Nat) (m:Mc) (ln k n:Int) (w:World) (H:NH bl bm bts bt bf bc fc ln w) (hbl:bl∉[bm]) (h5:w.cell? ⟨bl,5,none⟩=some (.int .i64 n)) (hb:w.cell? ⟨bl,102,none⟩=some (.func (.func 80) #[] #[])) (hk:0<=k) (hn:k<n) (hm:n<=5000) (hga:ga≠bm) (nh:∀b∈[bts,bt,bf,bc],b≠bm) (G:∀j,j<5->w.cell? ⟨ga,j,none⟩=(va 2 7 0 ByteArray.empty 0)[j]?) (M:MAt w bm {m with tasks:=.slice (some ⟨bts,0,none⟩) 1 1,cur:=.int .i64 0,rr:=.slice none 0 0,rk:=.int .i64 k}) :
  Calls prog 144 #[pp' bl,.agg (va 8 0 0 ByteArray.empty 0),.slice (some ⟨ga,0,none⟩) 1 gc] w fun e' w'=>e'=.returned .nilIface/\∃h hc,w.heap.size<=h/\w'.ownsRow w.heap.size 92 5 (.slice (some ⟨h,0,none⟩) 1 hc) 1 [.int .i64 6,.int .i64 0,.int .i64 0,.int .i64 ln,.string s7]/\Chg [bm] w w'/\MAt w' bm {m with tasks:=.slice (some ⟨bts,0,none⟩) 1 1,cur:=.int .i64 0,rr:=.slice (some ⟨h,0,none⟩) 1 hc,has:=.bool true,got:=.slice none 0 0,rk:=.int .i64 (k+1)}:=by
 have B0:Below w.heap.size w (w.alloc (.cells (va 8 0 0 ByteArray.empty 0) 52)):=(Below.refl _ _).alloc (Nat.le_refl _) _
 have Z0:=Blk.new w (va 8 0 0 ByteArray.empty 0) 52
 have hcf:=(Di func80 (by kernel_rfl) rfl).out
 go_enter func144,ntmps144
 go_wp2_with fail
 refine wp_loop_rounds 1 ?_
 rw[rounds_succ]
 go_wp2_with fail
 refine(A09 bl bm {m with tasks:=.slice (some ⟨bts,0,none⟩) 1 1,cur:=.int .i64 0,rr:=.slice none 0 0} k n _ (cb H.l0 B0) (cb h5 B0) hk hn hm (M.l B0)).mono ?_
 rintro e w1 ⟨rfl,C1,M1⟩
 have hne:∀{b:Nat} {o:Nat} {v:Value},w.cell? ⟨b,o,none⟩=some v->b∉[bm]->w1.cell? ⟨b,o,none⟩=some v:=fun h hb=>C1.cell hb (cb h B0)
 have nz:w.heap.size∉[bm]:=by simpa using Nat.ne_of_gt M.lt
 have Z1:=Z0.chg C1 nz
 have z1:=Z1.cell
 have N1:NH bl bm bts bt bf bc fc ln w1:=⟨hne H.l0 hbl,hne H.l6 hbl,hne H.b (by simpa using nh bts (by simp)),let ⟨t,ht⟩:=H.t;⟨t,(ht.l B0).chg C1 (by simpa using nh bt (by simp))⟩,hne H.f (by simpa using nh bf (by simp)),hne H.c1 (by simpa using nh bc (by simp)),hne H.c4 (by simpa using nh bc (by simp))⟩
 have HN1:Hid (NH bl bm bts bt bf bc fc ln w1.drew):=N1.l (Below.refl _ _).drew
 have b1:=hne hb hbl
 have HG1:Hid (∀j,j<5->w1.drew.cell? ⟨ga,j,none⟩=(va 2 7 0 ByteArray.empty 0)[j]?):=fun j hj=>(World.cell?_of_block (C1.block ga (by simpa using hga) (Nat.lt_of_lt_of_le (World.block_lt_of_cell? _ _ (G 0 (by decide))) B0.size))).trans ((World.cell?_of_block (B0.block ga (World.block_lt_of_cell? _ _ (G 0 (by decide))))).trans (G j hj))
 have HM1:Hid (MAt w1.drew bm {m with tasks:=.slice (some ⟨bts,0,none⟩) 1 1,cur:=.int .i64 0,rr:=.slice none 0 0,rk:=.int .i64 (k+1)}):=M1.l (Below.refl _ _).drew
 clear G
 go_wp2_with fail
 have z2:=(Z1.l (Below.refl _ _).drew).cell
 have b2:=cb b1 (Below.refl _ _).drew
 clear z1 b1
 go_region_held3 (fun W=>(∀o,W.cell? ⟨w.heap.size,o,none⟩=(#[.int .i64 8,.int .i64 0,.float .f64 0,.string ByteArray.empty,.int .i64 0]:Array Value)[o]?)/\W.cell? ⟨bl,102,none⟩=some (.func (.func 80) #[] #[])) (first|with_reducible exact⟨z2,b2⟩|with_reducible exact⟨z3,b3⟩) (first|(go_at_call 80;refine(A8j bl bm bts bt bf bc fc ga gc {m with rk:=.int .i64 (k+1)} ln _ HN1.out hbl HG1.out HM1.out).mono ?_;rintro e w3 ⟨rfl,h,hc,hh,O3,C3,M3⟩;have z3:=((Z1.l (Below.refl _ _).drew).chg C3 nz).cell;have b3:=C3.cell hbl b2))
 go_wp2_with fail
 go_ret
 have hs:w.heap.size<=w1.drew.heap.size:=Nat.le_trans B0.size C1.size
 exact⟨rfl,h,hc,Nat.le_trans hs hh,Fg O3 hs,((((Chg.refl _ _).below B0).trans C1 (fun _ h=>h)).below (Below.refl _ _).drew).trans C3 (fun _ h=>h),M3⟩
theorem A7w (bl bm bts bt bf bc fc br n r1 r2 ga gc:Nat) (o xA xB xC d e f ln k nt:Int) (cc:Cc) (m:Mc) (ρ:Nat->R8) (k1 p1 l1:Value) (w:World) (hr1:r1<n) (hr2:r2<n) (hn:n<=100) (hB:xB = -1-r1) (hC:xC = -1-r2) (h12:r2≠r1) (h1:ρ r1=.v5 k1 8 0 0 ByteArray.empty 0 p1 l1) (h2:ρ r2=.li (some ⟨ga,0,none⟩) 1 gc)
  (C:CAt w bc {cc with regs:=.slice (some ⟨br,0,none⟩) n n}) (X:RgA w br n ρ) (H:NH bl bm bts bt bf bc fc ln w) (hbl:bl∉[bm,br]) (h5:w.cell? ⟨bl,5,none⟩=some (.int .i64 nt)) (hb:w.cell? ⟨bl,102,none⟩=some (.func (.func 80) #[] #[])) (hk:0<=k) (hkn:k<nt) (hnt:nt<=5000) (hga:ga≠bm/\ga≠br) (nh:∀b∈[bts,bt,bf,bc],b≠bm/\b≠br) (G:∀j,j<5->w.cell? ⟨ga,j,none⟩=(va 2 7 0 ByteArray.empty 0)[j]?)
  (M:MAt w bm {m with tasks:=.slice (some ⟨bts,0,none⟩) 1 1,cur:=.int .i64 0,rr:=.slice none 0 0,rk:=.int .i64 k}) :
  Calls prog 61 #[pz' bl,pz' bc,.agg (qa o xA xB xC d e f)] w fun e' w'=>e'=.returned .nilIface/\∃h hc,w.heap.size<=h/\w'.ownsRow w.heap.size 92 5 (.slice (some ⟨h,0,none⟩) 1 hc) 1 [.int .i64 6,.int .i64 0,.int .i64 0,.int .i64 ln,.string s7]/\Chg [bm,br] w w'/\RgA w' br n (upd (upd ρ r1 .none) r2 .none)/\MAt w' bm {m with tasks:=.slice (some ⟨bts,0,none⟩) 1 1,cur:=.int .i64 0,rr:=.slice (some ⟨h,0,none⟩) 1 hc,has:=.bool true,got:=.slice none 0 0,rk:=.int .i64 (k+1)}:=by
 have BV:Below w.heap.size w (w.alloc (.cells (qa o xA xB xC d e f) 161)).drew:=((Below.refl _ _).alloc (Nat.le_refl _) _).drew
 have O0:OpR bc br n w.heap.size cc (qa o xA xB xC d e f) ρ w (w.alloc (.cells (qa o xA xB xC d e f) 161)).drew:=⟨(Blk.new w _ _).l (Below.refl _ _).drew,C.l BV,X.l BV,(Chg.refl _ _).below BV⟩
 have HO:Hid (OpR bc br n w.heap.size cc (qa o xA xB xC d e f) ρ w (w.alloc (.cells (qa o xA xB xC d e f) 161)).drew):=O0
 have zs:=O0.q.cell
 have HB:Hid (xB = -1-r1/\xC = -1-r2):=⟨hB,hC⟩
 have H12:Hid (ρ r1=.v5 k1 8 0 0 ByteArray.empty 0 p1 l1/\ρ r2=.li (some ⟨ga,0,none⟩) 1 gc):=⟨h1,h2⟩
 have ALL:Hid (RgA w br n ρ/\NH bl bm bts bt bf bc fc ln w/\bl∉[bm,br]/\w.cell? ⟨bl,5,none⟩=some (.int .i64 nt)/\w.cell? ⟨bl,102,none⟩=some (.func (.func 80) #[] #[])/\(ga≠bm/\ga≠br)/\(∀b∈[bts,bt,bf,bc],b≠bm/\b≠br)/\(∀j,j<5->w.cell? ⟨ga,j,none⟩=(va 2 7 0 ByteArray.empty 0)[j]?)/\MAt w bm {m with tasks:=.slice (some ⟨bts,0,none⟩) 1 1,cur:=.int .i64 0,rr:=.slice none 0 0,rk:=.int .i64 k}):=⟨X,H,hbl,h5,hb,hga,nh,G,M⟩
 clear hB hC h1 h2 O0 C X H hbl h5 hb hga nh G M
 go_enter func61,ntmps61
 go_wp2_with fail
 refine Js (fun a W=>∃b1,a=tmA (#[pz' bl,pz' bc,.agg (qa o xA xB xC d e f),undef,undef,pz' w.heap.size,.nilIface,pz' b1,.slice (some ⟨ga,0,none⟩) 1 gc,pz' bc,.pointer (some ⟨w.heap.size,2,none⟩),.int .i64 xB,.agg (va 8 0 0 ByteArray.empty 0),pz' bc,.pointer (some ⟨w.heap.size,3,none⟩),.int .i64 xC,.slice (some ⟨ga,0,none⟩) 1 gc,undef,undef,undef,undef])/\OpR bc br n w.heap.size cc (qa o xA xB xC d e f) (upd (upd ρ r1 .none) r2 .none) w W/\Blk W b1 (va 8 0 0 ByteArray.empty 0) 52) ?_ ?_
 ·refine rgM (fun W=>(∀o',W.cell? ⟨w.heap.size,o',none⟩=(#[.int .i64 o,.int .i64 xA,.int .i64 xB,.int .i64 xC,.int .i64 d,.int .i64 e,.int .i64 f]:Array Value)[o']?)) zs (fun hS=>?_)
  iterate 3 (refine tkM rfl (by kernel_rfl) (by rfl) hS ⟨?_,fun W hW=>?_,?_⟩;rotate_left;(focus (go_simp;with_reducible rfl));simp only[Act.put,List.getElem_toArray,List.getElem_cons_zero,List.getElem_cons_succ,List.setIfInBounds_toArray,List.set_cons_succ,List.set_cons_zero])
  refine He [4,5,6,3,8,7,9,10] (by kernel_rfl) ?_
  iterate 3 (refine tkM rfl (by kernel_rfl) (by rfl) hS ⟨?_,fun W hW=>?_,?_⟩;rotate_left;(focus (go_simp;with_reducible rfl));simp only[Act.put,List.getElem_toArray,List.getElem_cons_zero,List.getElem_cons_succ,List.setIfInBounds_toArray,List.set_cons_succ,List.set_cons_zero])
  clear zs
  revert HO hS BV
  generalize (w.alloc (.cells (qa o xA xB xC d e f) 161)).drew=V
  intro BV HO hS
  refine Sn rfl rfl (by kernel_rfl) (by rfl) (by rfl) (fun K2 hK2=>?_) (fun K2 hK2=>?_)
  ·go_wp2_with fail
   refine(HO.out.reg r1 xB k1 8 0 0 ByteArray.empty 0 p1 l1 hr1 hn HB.out.1 H12.out.1).mono ?_
   rintro e w1 ⟨rfl,O1,g1⟩
   have HO1:Hid (OpR bc br n w.heap.size cc (qa o xA xB xC d e f) (upd ρ r1 .none) w w1):=O1
   refine hK2.out _ _ O1.q.cell (fun hS=>?_)
   clear hK2 K2 O1
   try simp only[Act.put,List.getElem_toArray,List.getElem_cons_zero,List.getElem_cons_succ,List.setIfInBounds_toArray,List.set_cons_succ,List.set_cons_zero]
   refine Sn rfl rfl (by kernel_rfl) (by rfl) (by rfl) (fun K2 hK2=>?_) (fun K2 hK2=>?_)
   ·go_wp2_with fail
    have A3:=(Below.refl _ w1).alloc (Nat.le_refl _) (.cells v0 52)
    have HA:Hid (OpR bc br n w.heap.size cc (qa o xA xB xC d e f) (upd ρ r1 .none) w (w1.alloc (.cells v0 52))):=HO1.out.keep (FrT.below A3) A3 HO1.out.g.size
    have D3:=Blk.new w1 v0 52
    refine hK2.out _ _ HA.out.q.cell (fun hS=>?_)
    clear hK2 K2
    try simp only[Act.put,List.getElem_toArray,List.getElem_cons_zero,List.getElem_cons_succ,List.setIfInBounds_toArray,List.set_cons_succ,List.set_cons_zero]
    refine doM rfl (by kernel_rfl) (by rfl) (fun K2 hK2=>?_)
    go_wp2_with fail
    refine(A2j bc br r2 n xC cc (upd ρ r1 .none) (some ⟨ga,0,none⟩) 1 gc _ hr2 hn HB.out.2 ((Gb _ h12).trans H12.out.2) HA.out.c HA.out.x).mono ?_
    rintro e w2 ⟨rfl,C2,X2⟩
    have HO2:Hid (OpR bc br n w.heap.size cc (qa o xA xB xC d e f) (upd (upd ρ r1 .none) r2 .none) w w2):=(HA.out.call C2 X2).1
    refine hK2.out _ _ HO2.out.q.cell (fun hS=>?_)
    clear hK2 K2
    try simp only[Act.put,List.getElem_toArray,List.getElem_cons_zero,List.getElem_cons_succ,List.setIfInBounds_toArray,List.set_cons_succ,List.set_cons_zero]
    have DD:=(D3.chg C2 (by simpa using Aa D3 HA.out.x.blk (by decide)))
    have d3:=DD.cell
    have df3:=DD.frozen
    have hb3:w.heap.size<=w1.heap.size:=HO1.out.g.size
    refine doM rfl (by kernel_rfl) (by rfl) (fun K2 hK2=>?_)
    go_wp2_with fail
    have C5:=A0n (b:=w1.heap.size) w2 (.int .i64 8) (.int .i64 0) (.float .f64 0) (.string ByteArray.empty) (.int .i64 0)
    have B5:=Lb (b:=w1.heap.size) (Below.refl w.heap.size w2) hb3 (.int .i64 8) (.int .i64 0) (.float .f64 0) (.string ByteArray.empty) (.int .i64 0)
    have D4:Blk _ (w1.heap.size) (va 8 0 0 ByteArray.empty 0) 52:=((((DD.set 0 (.int .i64 8)).set 1 (.int .i64 0)).set 2 (.float .f64 0)).set 3 (.string ByteArray.empty)).set 4 (.int .i64 0)
    have F5:=FrT.chg (ts:=[52]) C5 (by simp only[List.mem_singleton];rintro _ rfl;exact⟨_,_,_,DD,rfl⟩)
    have O5:=HO2.out.keep F5 B5 (Nat.le_refl _)
    refine hK2.out _ _ O5.q.cell (fun hS=>?_)
    clear hK2 K2 C5 B5 F5 d3 df3
    revert D4 O5 hS
    generalize ((((w2.setCell ⟨w1.heap.size,0,none⟩ (.int .i64 8)).setCell ⟨w1.heap.size,1,none⟩ (.int .i64 0)).setCell ⟨w1.heap.size,2,none⟩ (.float .f64 0)).setCell ⟨w1.heap.size,3,none⟩ (.string ByteArray.empty)).setCell ⟨w1.heap.size,4,none⟩ (.int .i64 0)=U
    intro D4 O5 hS
    try simp only[Act.put,List.getElem_toArray,List.getElem_cons_zero,List.getElem_cons_succ,List.setIfInBounds_toArray,List.set_cons_succ,List.set_cons_zero]
    (refine tkM rfl (by kernel_rfl) (by rfl) hS ⟨?_,fun W hW=>?_,?_⟩;rotate_left;(focus (go_simp;with_reducible rfl));simp only[Act.put,List.getElem_toArray,List.getElem_cons_zero,List.getElem_cons_succ,List.setIfInBounds_toArray,List.set_cons_succ,List.set_cons_zero])
    exact enM (by kernel_rfl) ⟨rfl,w1.heap.size,rfl,O5,D4⟩
   ·go_wp2_with fail
    refine(A2j bc br r2 n xC cc (upd ρ r1 .none) (some ⟨ga,0,none⟩) 1 gc _ hr2 hn HB.out.2 ((Gb _ h12).trans H12.out.2) HO1.out.c HO1.out.x).mono ?_
    rintro e w2 ⟨rfl,C2,X2⟩
    have HO2:Hid (OpR bc br n w.heap.size cc (qa o xA xB xC d e f) (upd (upd ρ r1 .none) r2 .none) w w2):=(HO1.out.call C2 X2).1
    refine hK2.out _ _ HO2.out.q.cell (fun hS=>?_)
    clear hK2 K2
    try simp only[Act.put,List.getElem_toArray,List.getElem_cons_zero,List.getElem_cons_succ,List.setIfInBounds_toArray,List.set_cons_succ,List.set_cons_zero]
    refine doM rfl (by kernel_rfl) (by rfl) (fun K2 hK2=>?_)
    go_wp2_with fail
    have A3:=(Below.refl _ w2).alloc (Nat.le_refl _) (.cells v0 52)
    have HA:Hid (OpR bc br n w.heap.size cc (qa o xA xB xC d e f) (upd (upd ρ r1 .none) r2 .none) w (w2.alloc (.cells v0 52))):=HO2.out.keep (FrT.below A3) A3 HO2.out.g.size
    have D3:=Blk.new w2 v0 52
    refine hK2.out _ _ HA.out.q.cell (fun hS=>?_)
    clear hK2 K2
    try simp only[Act.put,List.getElem_toArray,List.getElem_cons_zero,List.getElem_cons_succ,List.setIfInBounds_toArray,List.set_cons_succ,List.set_cons_zero]
    clear hS A3
    revert HA D3
    generalize w2.alloc (.cells v0 52)=U2
    intro HA D3
    have DD:=D3
    have d3:=DD.cell
    have df3:=DD.frozen
    have hb3:w.heap.size<=w2.heap.size:=HO2.out.g.size
    refine doM rfl (by kernel_rfl) (by rfl) (fun K2 hK2=>?_)
    go_wp2_with fail
    have C5:=A0n (b:=w2.heap.size) U2 (.int .i64 8) (.int .i64 0) (.float .f64 0) (.string ByteArray.empty) (.int .i64 0)
    have B5:=Lb (b:=w2.heap.size) (Below.refl w.heap.size U2) hb3 (.int .i64 8) (.int .i64 0) (.float .f64 0) (.string ByteArray.empty) (.int .i64 0)
    have D4:Blk _ (w2.heap.size) (va 8 0 0 ByteArray.empty 0) 52:=((((DD.set 0 (.int .i64 8)).set 1 (.int .i64 0)).set 2 (.float .f64 0)).set 3 (.string ByteArray.empty)).set 4 (.int .i64 0)
    have F5:=FrT.chg (ts:=[52]) C5 (by simp only[List.mem_singleton];rintro _ rfl;exact⟨_,_,_,DD,rfl⟩)
    have O5:=HA.out.keep F5 B5 (Nat.le_refl _)
    refine hK2.out _ _ O5.q.cell (fun hS=>?_)
    clear hK2 K2 C5 B5 F5 d3 df3
    revert D4 O5 hS
    generalize ((((U2.setCell ⟨w2.heap.size,0,none⟩ (.int .i64 8)).setCell ⟨w2.heap.size,1,none⟩ (.int .i64 0)).setCell ⟨w2.heap.size,2,none⟩ (.float .f64 0)).setCell ⟨w2.heap.size,3,none⟩ (.string ByteArray.empty)).setCell ⟨w2.heap.size,4,none⟩ (.int .i64 0)=U
    intro D4 O5 hS
    try simp only[Act.put,List.getElem_toArray,List.getElem_cons_zero,List.getElem_cons_succ,List.setIfInBounds_toArray,List.set_cons_succ,List.set_cons_zero]
    (refine tkM rfl (by kernel_rfl) (by rfl) hS ⟨?_,fun W hW=>?_,?_⟩;rotate_left;(focus (go_simp;with_reducible rfl));simp only[Act.put,List.getElem_toArray,List.getElem_cons_zero,List.getElem_cons_succ,List.setIfInBounds_toArray,List.set_cons_succ,List.set_cons_zero])
    exact enM (by kernel_rfl) ⟨rfl,w2.heap.size,rfl,O5,D4⟩
  ·go_wp2_with fail
   have A3:=(Below.refl _ V).alloc (Nat.le_refl _) (.cells v0 52)
   have HA:Hid (OpR bc br n w.heap.size cc (qa o xA xB xC d e f) ρ w (V.alloc (.cells v0 52))):=HO.out.keep (FrT.below A3) A3 HO.out.g.size
   have D3:=Blk.new V v0 52
   refine hK2.out _ _ HA.out.q.cell (fun hS=>?_)
   clear hK2 K2
   try simp only[Act.put,List.getElem_toArray,List.getElem_cons_zero,List.getElem_cons_succ,List.setIfInBounds_toArray,List.set_cons_succ,List.set_cons_zero]
   refine doM rfl (by kernel_rfl) (by rfl) (fun K2 hK2=>?_)
   go_wp2_with fail
   refine(HA.out.reg r1 xB k1 8 0 0 ByteArray.empty 0 p1 l1 hr1 hn HB.out.1 H12.out.1).mono ?_
   rintro e w1 ⟨rfl,O1,g1⟩
   have HO1:Hid (OpR bc br n w.heap.size cc (qa o xA xB xC d e f) (upd ρ r1 .none) w w1):=O1
   refine hK2.out _ _ O1.q.cell (fun hS=>?_)
   clear hK2 K2 O1
   try simp only[Act.put,List.getElem_toArray,List.getElem_cons_zero,List.getElem_cons_succ,List.setIfInBounds_toArray,List.set_cons_succ,List.set_cons_zero]
   refine doM rfl (by kernel_rfl) (by rfl) (fun K2 hK2=>?_)
   go_wp2_with fail
   refine(A2j bc br r2 n xC cc (upd ρ r1 .none) (some ⟨ga,0,none⟩) 1 gc _ hr2 hn HB.out.2 ((Gb _ h12).trans H12.out.2) HO1.out.c HO1.out.x).mono ?_
   rintro e w2 ⟨rfl,C2,X2⟩
   have HO2:Hid (OpR bc br n w.heap.size cc (qa o xA xB xC d e f) (upd (upd ρ r1 .none) r2 .none) w w2):=(HO1.out.call C2 X2).1
   refine hK2.out _ _ HO2.out.q.cell (fun hS=>?_)
   clear hK2 K2
   try simp only[Act.put,List.getElem_toArray,List.getElem_cons_zero,List.getElem_cons_succ,List.setIfInBounds_toArray,List.set_cons_succ,List.set_cons_zero]
   have DD:=((D3.fr g1 (by decide)).chg C2 (by simpa using Aa (D3.fr g1 (by decide)) HO1.out.x.blk (by decide)))
   have d3:=DD.cell
   have df3:=DD.frozen
   have hb3:w.heap.size<=V.heap.size:=HO.out.g.size
   refine doM rfl (by kernel_rfl) (by rfl) (fun K2 hK2=>?_)
   go_wp2_with fail
   have C5:=A0n (b:=V.heap.size) w2 (.int .i64 8) (.int .i64 0) (.float .f64 0) (.string ByteArray.empty) (.int .i64 0)
   have B5:=Lb (b:=V.heap.size) (Below.refl w.heap.size w2) hb3 (.int .i64 8) (.int .i64 0) (.float .f64 0) (.string ByteArray.empty) (.int .i64 0)
   have D4:Blk _ (V.heap.size) (va 8 0 0 ByteArray.empty 0) 52:=((((DD.set 0 (.int .i64 8)).set 1 (.int .i64 0)).set 2 (.float .f64 0)).set 3 (.string ByteArray.empty)).set 4 (.int .i64 0)
   have F5:=FrT.chg (ts:=[52]) C5 (by simp only[List.mem_singleton];rintro _ rfl;exact⟨_,_,_,DD,rfl⟩)
   have O5:=HO2.out.keep F5 B5 (Nat.le_refl _)
   refine hK2.out _ _ O5.q.cell (fun hS=>?_)
   clear hK2 K2 C5 B5 F5 d3 df3
   revert D4 O5 hS
   generalize ((((w2.setCell ⟨V.heap.size,0,none⟩ (.int .i64 8)).setCell ⟨V.heap.size,1,none⟩ (.int .i64 0)).setCell ⟨V.heap.size,2,none⟩ (.float .f64 0)).setCell ⟨V.heap.size,3,none⟩ (.string ByteArray.empty)).setCell ⟨V.heap.size,4,none⟩ (.int .i64 0)=U
   intro D4 O5 hS
   try simp only[Act.put,List.getElem_toArray,List.getElem_cons_zero,List.getElem_cons_succ,List.setIfInBounds_toArray,List.set_cons_succ,List.set_cons_zero]
   (refine tkM rfl (by kernel_rfl) (by rfl) hS ⟨?_,fun W hW=>?_,?_⟩;rotate_left;(focus (go_simp;with_reducible rfl));simp only[Act.put,List.getElem_toArray,List.getElem_cons_zero,List.getElem_cons_succ,List.setIfInBounds_toArray,List.set_cons_succ,List.set_cons_zero])
   exact enM (by kernel_rfl) ⟨rfl,V.heap.size,rfl,O5,D4⟩
 ·rintro a W ⟨b1,rfl,hR,D1⟩
  dsimp only[tmA]
  obtain⟨HX,H,hbl,h5,hb,hga,nh,G,M⟩:=ALL.out
  have d1:=D1.cell
  have gW:=hR.g
  have bls:bl∉[br]:=by simp at hbl;simp[hbl.2]
  have blm:bl∉[bm]:=by simp at hbl;simp[hbl.1]
  have cw:∀{b o':Nat} {v:Value},w.cell? ⟨b,o',none⟩=some v->b∉[br]->W.cell? ⟨b,o',none⟩=some v:=fun h hb=>gW.cell hb h
  have nr:∀b∈[bts,bt,bf,bc],b∉[br]:=fun b hb=>by simpa using (nh b hb).2
  have NW:NH bl bm bts bt bf bc fc ln W:=⟨cw H.l0 bls,cw H.l6 bls,cw H.b (nr _ (by simp)),let ⟨t,ht⟩:=H.t;⟨t,ht.chg gW (nr _ (by simp))⟩,cw H.f (nr _ (by simp)),cw H.c1 (nr _ (by simp)),cw H.c4 (nr _ (by simp))⟩
  have MW:=M.chg gW (by simpa using Aa M HX.blk (by decide))
  have GW:∀j,j<5->W.cell? ⟨ga,j,none⟩=(va 2 7 0 ByteArray.empty 0)[j]?:=fun j hj=>(World.cell?_of_block (gW.block ga (by simpa using hga.2) (World.block_lt_of_cell? _ _ (G 0 (by decide))))).trans (G j hj)
  have HP:Hid (Calls prog 144 #[pp' bl,.agg (va 8 0 0 ByteArray.empty 0),.slice (some ⟨ga,0,none⟩) 1 gc] W _):=A0l bl bm bts bt bf bc fc ga gc m ln k nt W NW blm (cw h5 bls) (cw hb bls) hk hkn hnt hga.1 (fun b hb=>(nh b hb).1) GW MW
  have HR:Hid (OpR bc br n w.heap.size cc (qa o xA xB xC d e f) (upd (upd ρ r1 .none) r2 .none) w W):=hR
  have HQ:Hid (RgA w br n ρ/\Chg [br] w W/\bl∉[bm]/\br∉[bm]):=⟨HX,gW,blm,by simpa using Ne.symm (Aa M HX.blk (by decide))⟩
  clear hR G GW MW NW cw zs gW nr bls blm M nh hga hb h5 hbl H HX ALL
  go_wp2_with fail
  refine HP.out.mono ?_
  rintro e' w5 ⟨rfl,h,hc,hh,O5,C5,M5⟩
  go_wp2_with fail
  go_ret
  exact⟨rfl,h,hc,Nat.le_trans HQ.out.2.1.size hh,Fg O5 HQ.out.2.1.size,(HQ.out.2.1.mono (by simp)).trans C5 (by simp),HR.out.x.chg C5 HQ.out.2.2.2,M5⟩
end Go.Proofs.YtbefeflgjipfhaaGreatDoor
