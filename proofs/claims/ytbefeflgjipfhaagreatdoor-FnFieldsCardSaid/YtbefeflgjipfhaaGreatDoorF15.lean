import Derived.Test.YtbefeflgjipfhaaGreatDoorF14
set_option maxRecDepth 8000
set_option maxHeartbeats 4000000
namespace Go.Proofs.YtbefeflgjipfhaaGreatDoor
open Go.Deep Go.Proofs.Tryz Go.RowKit
attribute [local go_sem] A7 vi
structure CS (bl bm bc cp pc ci il ic:Nat) (a:Nat) (op xA xB xC xD:Int) (T:World):Prop where
 l0:T.cell? ⟨bl,0,none⟩=some (.pointer (some ⟨bm,0,none⟩))
 l1:T.cell? ⟨bl,1,none⟩=some (.slice (some ⟨cp,0,none⟩) 1 pc)
 c1:T.cell? ⟨bc,1,none⟩=some (.int .i64 0)
 c3:T.cell? ⟨bc,3,none⟩=some (.int .i64 a)
 p7:T.cell? ⟨cp,7,none⟩=some (.slice (some ⟨ci,0,none⟩) il ic)
 i0:T.cell? ⟨ci,a*5,none⟩=some (.int .i64 op)
 i1:T.cell? ⟨ci,a*5+1,none⟩=some (.int .i64 xA)
 i2:T.cell? ⟨ci,a*5+2,none⟩=some (.int .i64 xB)
 i3:T.cell? ⟨ci,a*5+3,none⟩=some (.int .i64 xC)
 i4:T.cell? ⟨ci,a*5+4,none⟩=some (.int .i64 xD)
section
variable {bl bm bc cp pc ci il ic:Nat} {a:Nat} {op xA xB xC xD:Int} {T T':World}
theorem CS.t (h:CS bl bm bc cp pc ci il ic a op xA xB xC xD T):T.cell? ⟨bl,0,none⟩=some (.pointer (some ⟨bm,0,none⟩))/\T.cell? ⟨bl,1,none⟩=some (.slice (some ⟨cp,0,none⟩) 1 pc)/\T.cell? ⟨bc,1,none⟩=some (.int .i64 0)/\T.cell? ⟨bc,3,none⟩=some (.int .i64 a)/\T.cell? ⟨cp,7,none⟩=some (.slice (some ⟨ci,0,none⟩) il ic)/\T.cell? ⟨ci,a*5,none⟩=some (.int .i64 op)/\T.cell? ⟨ci,a*5+1,none⟩=some (.int .i64 xA)/\T.cell? ⟨ci,a*5+2,none⟩=some (.int .i64 xB)/\T.cell? ⟨ci,a*5+3,none⟩=some (.int .i64 xC)/\T.cell? ⟨ci,a*5+4,none⟩=some (.int .i64 xD):=⟨h.l0,h.l1,h.c1,h.c3,h.p7,h.i0,h.i1,h.i2,h.i3,h.i4⟩
theorem CS.l (h:CS bl bm bc cp pc ci il ic a op xA xB xC xD T) (hb:Below T.heap.size T T'):CS bl bm bc cp pc ci il ic a op xA xB xC xD T':=⟨cb h.l0 hb,cb h.l1 hb,cb h.c1 hb,cb h.c3 hb,cb h.p7 hb,cb h.i0 hb,cb h.i1 hb,cb h.i2 hb,cb h.i3 hb,cb h.i4 hb⟩
theorem CS.chg {X:List Nat} (h:CS bl bm bc cp pc ci il ic a op xA xB xC xD T) (hc:Chg X T T') (h1:bl∉X) (h2:bc∉X) (h3:cp∉X) (h4:ci∉X):CS bl bm bc cp pc ci il ic a op xA xB xC xD T':=⟨hc.cell h1 h.l0,hc.cell h1 h.l1,hc.cell h2 h.c1,hc.cell h2 h.c3,hc.cell h3 h.p7,hc.cell h4 h.i0,hc.cell h4 h.i1,hc.cell h4 h.i2,hc.cell h4 h.i3,hc.cell h4 h.i4⟩
end
abbrev iz:Array Value:=#[.int .i64 0,.int .i64 0,.int .i64 0,.int .i64 0,.int .i64 0]
theorem Qn (bl bm bc br n r cp pc ci il ic a g:Nat) (op xB xC xD:Int) (va1 vb:Int) (vc:Nat) (vd':ByteArray) (ve:Int) (cc:Cc) (m:Mc) (ρ:Nat->R8) (w:World) (hop:op=15∨op=18) (hr:r<n) (ha:a<il) (ha1:il<=1000)
  (S:CS bl bm bc cp pc ci il ic a op r xB xC xD w) (n1:bl∉[bm]) (n2:bc∉[bm]) (n3:cp∉[bm]) (n4:ci∉[bm]) (M:MAt w bm {m with got:=.slice (some ⟨g,0,none⟩) 1 1}) (G:Blk w g (va va1 vb vc vd' ve) 52)
  (C:CAt w bc {cc with regs:=.slice (some ⟨br,0,none⟩) n n,at_:=.int .i64 a}) (X:RgA w br n ρ) :
  Calls prog 187 #[pz' bl,pz' bc] w fun e' w'=>e'=.returned .nilIface/\Chg [bc,br,bm] w w'/\MAt w' bm {m with has:=.bool false,got:=.slice none 0 0}/\RgA w' br n (upd ρ r (.val va1 vb vc vd' ve))/\CAt w' bc {cc with regs:=.slice (some ⟨br,0,none⟩) n n,at_:=.int .i64 (a+1)}:=by
 have DW:Below w.heap.size w w.drew:=(Below.refl _ _).drew
 have DA:Below w.heap.size w (w.alloc (.cells iz 58)).drew:=((Below.refl _ _).alloc (Nat.le_refl _) _).drew
 have t1:=(S.l DW).t
 have a0:(0:Int)<=a:=by omega
 have a1:(a:Int)<il:=by omega
 have HTK:Hid (∀W,Below w.heap.size w W->Calls prog 104 #[pz' bm] W fun e w'=>e=.returned (.slice (some ⟨g,0,none⟩) 1 1)/\Chg [bm] W w'/\MAt w' bm {m with has:=.bool false,got:=.slice none 0 0}):=fun W hW=>Nu bm m (some ⟨g,0,none⟩) 1 1 W (M.l hW)
 have lts:bl<w.heap.size/\bc<w.heap.size/\cp<w.heap.size/\ci<w.heap.size:=⟨World.block_lt_of_cell? _ _ S.l0,World.block_lt_of_cell? _ _ S.c1,World.block_lt_of_cell? _ _ S.p7,World.block_lt_of_cell? _ _ S.i0⟩
 have k1:bl∉[w.heap.size]:=by simp;omega
 have k2:bc∉[w.heap.size]:=by simp;omega
 have k3:cp∉[w.heap.size]:=by simp;omega
 have k4:ci∉[w.heap.size]:=by simp;omega
 have HP:Hid (op=15∨op=18):=hop
 have hM:=M.lt
 clear hop lts
 go_enter func187,ntmps187
 go_wp2_with fail
 go_region_held3 (fun T=>T.cell? ⟨bl,0,none⟩=some (.pointer (some ⟨bm,0,none⟩))/\T.cell? ⟨bl,1,none⟩=some (.slice (some ⟨cp,0,none⟩) 1 pc)/\T.cell? ⟨bc,1,none⟩=some (.int .i64 0)/\T.cell? ⟨bc,3,none⟩=some (.int .i64 a)/\T.cell? ⟨cp,7,none⟩=some (.slice (some ⟨ci,0,none⟩) il ic)/\T.cell? ⟨ci,a*5,none⟩=some (.int .i64 op)/\T.cell? ⟨ci,a*5+1,none⟩=some (.int .i64 r)/\T.cell? ⟨ci,a*5+2,none⟩=some (.int .i64 xB)/\T.cell? ⟨ci,a*5+3,none⟩=some (.int .i64 xC)/\T.cell? ⟨ci,a*5+4,none⟩=some (.int .i64 xD)) (first|with_reducible exact t1|with_reducible exact t2|with_reducible exact(S.l DA).t|with_reducible exact((S.l DW).l ((Below.refl _ _).alloc (Nat.le_refl _) _)).t|with_reducible exact(S2.l ((Below.refl _ _).alloc (Nat.le_refl _) _)).t|with_reducible exact(S2.chg ((((((Chg.refl [w.heap.size] _).set (List.mem_singleton.2 rfl) _ _).set (List.mem_singleton.2 rfl) _ _).set (List.mem_singleton.2 rfl) _ _).set (List.mem_singleton.2 rfl) _ _).set (List.mem_singleton.2 rfl) _ _) k1 k2 k3 k4).t) (first|(go_at_call 104;first|(refine(HTK.out _ DA).mono ?_;rintro e w2 ⟨rfl,C2,M2⟩;have S2:=(S.l DA).chg C2 n1 n2 n3 n4;have t2:=S2.t;have T2:Chg [bm] w w2:=((Chg.refl _ _).below DA).trans C2 (fun _ h=>h);have O2:=((Blk.new w iz 58).l (Below.refl _ _).drew).chg C2 (by simp;omega);have os:=O2.cell;have of':=O2.frozen)|(refine(HTK.out _ DW).mono ?_;rintro e w2 ⟨rfl,C2,M2⟩;have S2:=(S.l DW).chg C2 n1 n2 n3 n4;have t2:=S2.t;have T2:Chg [bm] w w2:=((Chg.refl _ _).below DW).trans C2 (fun _ h=>h))))
 all_goals
  first
   | refine Kj (S:=fun U=>Blk U w.heap.size #[.int .i64 op,.int .i64 r,.int .i64 xB,.int .i64 xC,.int .i64 xD] 58/\MAt U bm {m with has:=.bool false,got:=.slice none 0 0}/\Chg [bm] w U) ⟨((((O2.set 0 _).set 1 _).set 2 _).set 3 _).set 4 _,M2.chg ((((((Chg.refl [w.heap.size] _).set (List.mem_singleton.2 rfl) _ _).set (List.mem_singleton.2 rfl) _ _).set (List.mem_singleton.2 rfl) _ _).set (List.mem_singleton.2 rfl) _ _).set (List.mem_singleton.2 rfl) _ _) (by simp;omega),Ib T2 ((((((Chg.refl [w.heap.size] _).set (List.mem_singleton.2 rfl) _ _).set (List.mem_singleton.2 rfl) _ _).set (List.mem_singleton.2 rfl) _ _).set (List.mem_singleton.2 rfl) _ _).set (List.mem_singleton.2 rfl) _ _) (by simp)⟩ (fun U hU=>?_)
   | refine Kj (S:=fun U=>Blk U w2.heap.size #[.int .i64 op,.int .i64 r,.int .i64 xB,.int .i64 xC,.int .i64 xD] 58/\MAt U bm {m with has:=.bool false,got:=.slice none 0 0}/\Chg [bm] w U) ⟨Blk.new w2 _ _,M2.alloc _,T2.below ((Below.refl _ _).alloc (Nat.le_refl _) _)⟩ (fun U hU=>?_)
  obtain⟨IU,MU,TU⟩:=hU
  have GU:=G.chg TU (by simpa using Aa G M (by decide))
  have CU:=C.chg TU n2
  have XU:=X.chg TU (by simpa using Aa X.blk M (by decide))
  have nbr:bc≠br:=Aa C X.blk (by decide)
  have wa:IntKind.i64.wrap ((a:Int)+1)=a+1:=wr (by omega) (by omega)
  clear t1 t2 S2 T2 M2 C2
  have is:=IU.cell
  rcases HP.out with rfl|rfl
  all_goals
   go_wp2_with fail
   refine(Yi g va1 vb vc vd' ve _ GU).mono ?_
   rintro e w5 ⟨rfl,b5⟩
   clear is
   go_wp2_with fail
   refine(A6j bc br r n {cc with at_:=.int .i64 a} ρ va1 vb vc vd' ve _ hr (CU.l b5) (XU.l b5)).mono ?_
   rintro e w6 ⟨rfl,C6,X6⟩
   have D6:=(CU.l b5).chg C6 (by simpa using nbr)
   have M6:=(MU.l b5).chg C6 (by simpa using Aa M X.blk (by decide))
   have ds:=D6.cell
   have df:=D6.frozen
   go_wp2_with fail
   go_ret
   have C7:Chg [bc] w6 (w6.setCell ⟨bc,3,none⟩ (.int .i64 (a+1))):=(Chg.refl _ _).set (by simp) _ _
   exact⟨rfl,((((TU.mono (M:=[bc,br,bm]) (by simp)).below b5).trans C6 (fun b h=>by simp at h;simp[h])).trans C7 (fun b h=>by simp at h;simp[h])),M6.chg C7 (by simpa using Aa M C (by decide)),X6.chg C7 (by simpa using Ne.symm nbr),D6.set 3 _⟩
theorem RgA.put7 {w:World} {br n i:Nat} {ρ:Nat->R8} (h:RgA w br n ρ) (hi:i<n) (v:Value):RgA (w.setCell ⟨br,i*8+7,none⟩ v) br n (upd ρ i {ρ i with l:=v}):=by
 obtain⟨A,h1,h2,h3⟩:=h
 refine⟨_,h1.set _ _,by simpa using h2,fun k hk j hj=>?_⟩
 unfold upd
 by_cases e:k=i
 ·subst e
  rw[if_pos rfl]
  by_cases e7:j=7
  ·subst e7
   simp[Array.getElem?_setIfInBounds,h2]
   omega
  ·rw[Array.getElem?_setIfInBounds_ne (by omega),h3 k hk j hj]
   match j,hj,e7 with
   | 0,_,_=>rfl
   | 1,_,_=>rfl
   | 2,_,_=>rfl
   | 3,_,_=>rfl
   | 4,_,_=>rfl
   | 5,_,_=>rfl
   | 6,_,_=>rfl
   | 7,_,e7=>exact absurd rfl e7
 ·rw[if_neg e,Array.getElem?_setIfInBounds_ne (by omega)]
  exact h3 k hk j hj
theorem We (bc br n r g:Nat) (a b:Int) (c:Nat) (d:ByteArray) (e:Int) (cc:Cc) (ρ:Nat->R8) (w:World) (hr:r<n) (hρ:ρ r=.li none 0 0) (G:Blk w g (va a b c d e) 52) (C:CAt w bc {cc with regs:=.slice (some ⟨br,0,none⟩) n n}) (X:RgA w br n ρ) :
  Calls prog 141 #[pz' bc,.int .i64 r,.slice (some ⟨g,0,none⟩) 1 1] w fun e' w'=>e'=.returned .nilIface/\∃h hc,w.heap.size<=h/\w'.ownsRow w.heap.size 52 5 (.slice (some ⟨h,0,none⟩) 1 hc) 1 [.int .i64 a,.int .i64 b,.float .f64 c,.string d,.int .i64 e]/\Chg [br] w w'/\RgA w' br n (upd ρ r (.li (some ⟨h,0,none⟩) 1 hc)):=by
 have h0:(0:Int)<=r:=by omega
 have h1:(r:Int)<n:=by omega
 have cs:w.cell? ⟨bc,6,none⟩=some (.slice (some ⟨br,0,none⟩) n n):=C.cell 6
 have x7:w.cell? ⟨br,r*8+7,none⟩=some (.slice none 0 0):=(X.at hr (j:=7) (by decide)).trans (by rw[hρ];rfl)
 go_enter func141,ntmps141
 go_wp2_with fail
 refine rgM (fun W=>W.cell? ⟨bc,6,none⟩=some (.slice (some ⟨br,0,none⟩) n n)) cs (fun hS=>?_)
 iterate 7 (refine tkM rfl (by kernel_rfl) (by rfl) hS ⟨?_,fun W hW=>?_,?_⟩;rotate_left;(focus (go_simp;with_reducible rfl));simp only[Act.put,List.getElem_toArray,List.getElem_cons_zero,List.getElem_cons_succ,List.setIfInBounds_toArray,List.set_cons_succ,List.set_cons_zero])
 have GD:Blk w.drew g (va a b c d e) 52:=G.l (Below.refl _ _).drew
 refine doM rfl (by kernel_rfl) (by rfl) (fun K2 hK2=>?_)
 refine Zk eltV _ _ rfl w.heap.size (.slice none 0 0) 0 [] [.int .i64 a,.int .i64 b,.float .f64 c,.string d,.int .i64 e] g rfl (World.ownsRow_nil _ _ _ _) rfl (fun k u hu=>by rw[Nat.zero_add,GD.cell];simpa using hu) rfl (by simp[Value.oneCell']) (by omega) (by decide) (by simp) ?_
 intro v' w3 ho3 hg3 h5
 have gC:=Chg.grown (L:=[]) hg3 (fun k hk=>by simp[Value.ownBlock]at hk)
 obtain⟨h,cap',rfl,hge,_⟩:∃h cap,v'=.slice (some ⟨h,0,none⟩) 1 cap/\w.heap.size<=h/\True:=by
  rcases Aj ho3 with ⟨_,h⟩|⟨h,cap,e1,e2,_⟩
  ·cases h
  ·exact⟨h,cap,e1,e2,trivial⟩
 have C3:Chg [br] w w3:=(((Chg.refl [br] w).below (Below.refl _ _).drew).trans gC (by simp))
 have X3:=(X.l (Below.refl _ _).drew).chg gC (by simp)
 have D3:=(C.l (Below.refl _ _).drew).chg gC (by simp)
 refine hK2.out _ _ (D3.cell 6) (fun hS3=>?_)
 simp only[Act.put,List.getElem_toArray,List.getElem_cons_zero,List.getElem_cons_succ,List.setIfInBounds_toArray,List.set_cons_succ,List.set_cons_zero]
 iterate 2 (refine tkM rfl (by kernel_rfl) (by rfl) hS3 ⟨?_,fun W hW=>?_,?_⟩;rotate_left;(focus (go_simp;with_reducible rfl));simp only[Act.put,List.getElem_toArray,List.getElem_cons_zero,List.getElem_cons_succ,List.setIfInBounds_toArray,List.set_cons_succ,List.set_cons_zero])
 have x3:w3.cell? ⟨br,r*8+7,none⟩=some (.slice none 0 0):=(X3.at hr (j:=7) (by decide)).trans (by rw[hρ];rfl)
 have f3:=X3.frozen
 have C4:Chg [br] w3 (w3.setCell ⟨br,r*8+7,none⟩ (.slice (some ⟨h,0,none⟩) 1 cap')):=(Chg.refl _ _).set (by simp) _ _
 have X4:=X3.put7 hr (.slice (some ⟨h,0,none⟩) 1 cap')
 rw[hρ]at X4
 have D4:=D3.chg C4 (by simpa using Aa D3 X3.blk (by decide))
 have O4:=Ae ho3 (fun k hk=>C4.block k (by simpa using Ba ho3 X3.blk (by decide) k hk) (ho3.lt k hk).2)
 refine doM rfl (by kernel_rfl) (by rfl) (fun K3 hK3=>?_)
 go_wp2_with fail
 refine hK3.out _ _ (D4.cell 6) (fun _=>enM (by kernel_rfl) ?_)
 have HF:Hid (w.heap.size<=h/\World.ownsRow _ w.heap.size 52 5 (.slice (some ⟨h,0,none⟩) 1 cap') 1 _/\Chg [br] w _/\RgA _ br n _):=⟨hge,O4,C3.trans C4 (fun _ h=>h),X4⟩
 clear hK3 hK2
 simp only[NoPanic]
 go_wp2_with fail
 go_ret
 exact⟨rfl,h,cap',HF.out⟩
structure L3 (br bc n qb:Nat) (i nn o t c d e f:Int) (T:World):Prop where
 x1:T.cell? ⟨br,1,none⟩=some (.int .i64 2)
 x2:T.cell? ⟨br,2,none⟩=some (.int .i64 i)
 x3:T.cell? ⟨br,3,none⟩=some (.float .f64 0)
 x4:T.cell? ⟨br,4,none⟩=some (.string ByteArray.empty)
 x5:T.cell? ⟨br,5,none⟩=some (.int .i64 0)
 x9:T.cell? ⟨br,9,none⟩=some (.int .i64 2)
 x10:T.cell? ⟨br,10,none⟩=some (.int .i64 nn)
 x11:T.cell? ⟨br,11,none⟩=some (.float .f64 0)
 x12:T.cell? ⟨br,12,none⟩=some (.string ByteArray.empty)
 x13:T.cell? ⟨br,13,none⟩=some (.int .i64 0)
 x17:T.cell? ⟨br,17,none⟩=some (.int .i64 2)
 x18:T.cell? ⟨br,18,none⟩=some (.int .i64 1)
 x19:T.cell? ⟨br,19,none⟩=some (.float .f64 0)
 x20:T.cell? ⟨br,20,none⟩=some (.string ByteArray.empty)
 x21:T.cell? ⟨br,21,none⟩=some (.int .i64 0)
 c6:T.cell? ⟨bc,6,none⟩=some (.slice (some ⟨br,0,none⟩) n n)
 q:Blk T qb (qa o 0 t c d e f) 161
theorem L3.t {br bc n qb:Nat} {i nn o t c d e f:Int} {T:World} (h:L3 br bc n qb i nn o t c d e f T):T.cell? ⟨br,1,none⟩=some (.int .i64 2)/\T.cell? ⟨br,2,none⟩=some (.int .i64 i)/\T.cell? ⟨br,3,none⟩=some (.float .f64 0)/\T.cell? ⟨br,4,none⟩=some (.string ByteArray.empty)/\T.cell? ⟨br,5,none⟩=some (.int .i64 0)/\T.cell? ⟨br,9,none⟩=some (.int .i64 2)/\T.cell? ⟨br,10,none⟩=some (.int .i64 nn)/\T.cell? ⟨br,11,none⟩=some (.float .f64 0)/\T.cell? ⟨br,12,none⟩=some (.string ByteArray.empty)/\T.cell? ⟨br,13,none⟩=some (.int .i64 0)/\T.cell? ⟨br,17,none⟩=some (.int .i64 2)/\T.cell? ⟨br,18,none⟩=some (.int .i64 1)/\T.cell? ⟨br,19,none⟩=some (.float .f64 0)/\T.cell? ⟨br,20,none⟩=some (.string ByteArray.empty)/\T.cell? ⟨br,21,none⟩=some (.int .i64 0)/\T.cell? ⟨bc,6,none⟩=some (.slice (some ⟨br,0,none⟩) n n)/\(∀k,T.cell? ⟨qb,k,none⟩=(#[.int .i64 o,.int .i64 0,.int .i64 t,.int .i64 c,.int .i64 d,.int .i64 e,.int .i64 f]:Array Value)[k]?):=⟨h.x1,h.x2,h.x3,h.x4,h.x5,h.x9,h.x10,h.x11,h.x12,h.x13,h.x17,h.x18,h.x19,h.x20,h.x21,h.c6,h.q.cell⟩
theorem L3.l {br bc n qb:Nat} {i nn o t c d e f:Int} {T T':World} (h:L3 br bc n qb i nn o t c d e f T) (hb:Below T.heap.size T T'):L3 br bc n qb i nn o t c d e f T':=⟨cb h.x1 hb,cb h.x2 hb,cb h.x3 hb,cb h.x4 hb,cb h.x5 hb,cb h.x9 hb,cb h.x10 hb,cb h.x11 hb,cb h.x12 hb,cb h.x13 hb,cb h.x17 hb,cb h.x18 hb,cb h.x19 hb,cb h.x20 hb,cb h.x21 hb,cb h.c6 hb,h.q.l hb⟩
theorem L3.mk' {br bc n qb:Nat} {i nn o t c d e f:Int} {cc:Cc} {ρ:Nat->R8} {k0 k1 k2 p0 p1 p2 l0 l1 l2:Value} {T:World} (hn:3<=n) (C:CAt T bc {cc with regs:=.slice (some ⟨br,0,none⟩) n n}) (X:RgA T br n ρ) (h0:ρ 0=.v5 k0 2 i 0 ByteArray.empty 0 p0 l0) (h1:ρ 1=.v5 k1 2 nn 0 ByteArray.empty 0 p1 l1) (h2:ρ 2=.v5 k2 2 1 0 ByteArray.empty 0 p2 l2) (q:Blk T qb (qa o 0 t c d e f) 161):L3 br bc n qb i nn o t c d e f T:=
 ⟨(X.at (i:=0) (by omega) (j:=1) (by decide)).trans (by rw[h0];rfl),(X.at (i:=0) (by omega) (j:=2) (by decide)).trans (by rw[h0];rfl),(X.at (i:=0) (by omega) (j:=3) (by decide)).trans (by rw[h0];rfl),(X.at (i:=0) (by omega) (j:=4) (by decide)).trans (by rw[h0];rfl),(X.at (i:=0) (by omega) (j:=5) (by decide)).trans (by rw[h0];rfl),(X.at (i:=1) (by omega) (j:=1) (by decide)).trans (by rw[h1];rfl),(X.at (i:=1) (by omega) (j:=2) (by decide)).trans (by rw[h1];rfl),(X.at (i:=1) (by omega) (j:=3) (by decide)).trans (by rw[h1];rfl),(X.at (i:=1) (by omega) (j:=4) (by decide)).trans (by rw[h1];rfl),(X.at (i:=1) (by omega) (j:=5) (by decide)).trans (by rw[h1];rfl),(X.at (i:=2) (by omega) (j:=1) (by decide)).trans (by rw[h2];rfl),(X.at (i:=2) (by omega) (j:=2) (by decide)).trans (by rw[h2];rfl),(X.at (i:=2) (by omega) (j:=3) (by decide)).trans (by rw[h2];rfl),(X.at (i:=2) (by omega) (j:=4) (by decide)).trans (by rw[h2];rfl),(X.at (i:=2) (by omega) (j:=5) (by decide)).trans (by rw[h2];rfl),C.cell 6,q⟩
theorem A0p (bl bc br n:Nat) (o t c d e f i nn:Int) (a0:Int) (cc:Cc) (ρ:Nat->R8) (k0 k1 k2 p0 p1 p2 l0 l1 l2:Value) (w:World) (hn:3<=n) (hn1:n<=100) (h0:0<=a0) (h1:a0<=6000) (g0:ρ 0=.v5 k0 2 i 0 ByteArray.empty 0 p0 l0) (g1:ρ 1=.v5 k1 2 nn 0 ByteArray.empty 0 p1 l1) (g2:ρ 2=.v5 k2 2 1 0 ByteArray.empty 0 p2 l2) (C:CAt w bc {cc with regs:=.slice (some ⟨br,0,none⟩) n n,at_:=.int .i64 a0}) (X:RgA w br n ρ) :
  Calls prog 71 #[pz' bl,pz' bc,.agg (qa o 0 t c d e f)] w fun e w'=>e=.returned .nilIface/\Chg [bc] w w'/\CAt w' bc {cc with regs:=.slice (some ⟨br,0,none⟩) n n,at_:=.int .i64 (if nn<i then t else a0+1)}:=by
 have B0:Below w.heap.size w (w.alloc (.cells (qa o 0 t c d e f) 161)):=(Below.refl _ _).alloc (Nat.le_refl _) _
 have S0:L3 br bc n w.heap.size i nn o t c d e f (w.alloc (.cells (qa o 0 t c d e f) 161)):=L3.mk' (cc:={cc with at_:=.int .i64 a0}) hn (C.l B0) (X.l B0) g0 g1 g2 (Blk.new w _ _)
 have S1:=S0.l (Below.refl _ _).drew
 have t1:=S1.t
 have e1:IntKind.i64.wrap 1=1:=by decide
 have e2:IntKind.i64.wrap 2=2:=by decide
 have o2:(ord i nn==2)=false:=by unfold ord;split<;>(try split)<;>rfl
 have o3:(ord i nn==3)=false:=by unfold ord;split<;>(try split)<;>rfl
 have n0:(0:Int)<n:=by omega
 have n9:0<n:=by omega
 have n1:(1:Int)<n:=by omega
 have n2:(2:Int)<n:=by omega
 obtain⟨T0,hT0⟩:∃z,(if nn<i then t else a0+1)=z:=⟨_,rfl⟩
 rw[hT0]
 have HT:Hid ((if nn<i then t else a0+1)=T0):=hT0
 clear hT0 g0 g1 g2 X
 go_enter func71,ntmps71
 go_wp2_with fail
 go_region_held3 (fun T=>T.cell? ⟨br,1,none⟩=some (.int .i64 2)/\T.cell? ⟨br,2,none⟩=some (.int .i64 i)/\T.cell? ⟨br,3,none⟩=some (.float .f64 0)/\T.cell? ⟨br,4,none⟩=some (.string ByteArray.empty)/\T.cell? ⟨br,5,none⟩=some (.int .i64 0)/\T.cell? ⟨br,9,none⟩=some (.int .i64 2)/\T.cell? ⟨br,10,none⟩=some (.int .i64 nn)/\T.cell? ⟨br,11,none⟩=some (.float .f64 0)/\T.cell? ⟨br,12,none⟩=some (.string ByteArray.empty)/\T.cell? ⟨br,13,none⟩=some (.int .i64 0)/\T.cell? ⟨br,17,none⟩=some (.int .i64 2)/\T.cell? ⟨br,18,none⟩=some (.int .i64 1)/\T.cell? ⟨br,19,none⟩=some (.float .f64 0)/\T.cell? ⟨br,20,none⟩=some (.string ByteArray.empty)/\T.cell? ⟨br,21,none⟩=some (.int .i64 0)/\T.cell? ⟨bc,6,none⟩=some (.slice (some ⟨br,0,none⟩) n n)/\(∀k,T.cell? ⟨w.heap.size,k,none⟩=(#[.int .i64 o,.int .i64 0,.int .i64 t,.int .i64 c,.int .i64 d,.int .i64 e,.int .i64 f]:Array Value)[k]?)) (first|with_reducible exact t1|with_reducible exact t2) (first|(go_at_call 152;refine(Jh i nn _).mono ?_;rintro e w1 ⟨rfl,hw1⟩;have S2:=S1.l hw1;have t2:=S2.t))
 have S3:=S2.l (Below.refl _ _).drew
 have t3:=S3.t
 have B1:Below w.heap.size w w1.drew:=bl2 (bl2 (bl2 B0 (Below.refl _ _).drew) hw1) (Below.refl _ _).drew
 clear t1 t2
 go_wp2_with fail
 go_region_held3 (fun T=>T.cell? ⟨br,1,none⟩=some (.int .i64 2)/\T.cell? ⟨br,2,none⟩=some (.int .i64 i)/\T.cell? ⟨br,3,none⟩=some (.float .f64 0)/\T.cell? ⟨br,4,none⟩=some (.string ByteArray.empty)/\T.cell? ⟨br,5,none⟩=some (.int .i64 0)/\T.cell? ⟨br,9,none⟩=some (.int .i64 2)/\T.cell? ⟨br,10,none⟩=some (.int .i64 nn)/\T.cell? ⟨br,11,none⟩=some (.float .f64 0)/\T.cell? ⟨br,12,none⟩=some (.string ByteArray.empty)/\T.cell? ⟨br,13,none⟩=some (.int .i64 0)/\T.cell? ⟨br,17,none⟩=some (.int .i64 2)/\T.cell? ⟨br,18,none⟩=some (.int .i64 1)/\T.cell? ⟨br,19,none⟩=some (.float .f64 0)/\T.cell? ⟨br,20,none⟩=some (.string ByteArray.empty)/\T.cell? ⟨br,21,none⟩=some (.int .i64 0)/\T.cell? ⟨bc,6,none⟩=some (.slice (some ⟨br,0,none⟩) n n)/\(∀k,T.cell? ⟨w.heap.size,k,none⟩=(#[.int .i64 o,.int .i64 0,.int .i64 t,.int .i64 c,.int .i64 d,.int .i64 e,.int .i64 f]:Array Value)[k]?)) (first|with_reducible exact t3|with_reducible exact t4) (first|(go_at_call 153;refine(Sc 1 _).mono ?_;rintro e w2 ⟨rfl,hw2⟩;have S4:=S3.l hw2;have t4:=S4.t))
 have B2:Below w.heap.size w w2:=bl2 B1 hw2
 have D2:=C.l B2
 have q4:=S4.q.cell
 clear t3 t4
 go_wp2_with fail
 refine(Qw bc {cc with regs:=.slice (some ⟨br,0,none⟩) n n} a0 t (ord i nn==1) _ h0 h1 D2).mono ?_
 rintro e w3 ⟨rfl,hC,hD⟩
 have hif:(if (ord i nn==1)=true then t else a0+1)=T0:=by rw[←HT.out];unfold ord;by_cases h:nn<i<;>by_cases h':i<nn<;>simp[h,h']<;>omega
 rw[hif]at hD
 go_wp2_with fail
 go_ret
 exact⟨rfl,((Chg.refl _ _).below B2).trans hC (fun _ h=>h),hD⟩
theorem A5c (lo bl bm bc br nr rA L n:Nat) (cp qb pc qc:Nat) (ti ce:Int) (la:Array Value) (xs:List Value) (m:Mc) (cc:Cc) (ρ:Nat->R8) (b d v k:Int) (o q2 q3 q4 q5 q6:Int) (w:World) (hb0:0<=b) (hb1:b<=1000000) (hd0:0<=d) (hd1:d<=1000000) (hv0:0<=v) (hv1:v<=1000000) (hm:L<=1000000) (hn:n<=1000000) (hk:0<=k) (hkc:k<ce) (hce:ce<=20000) (hbr:lo<=br) (hrA:rA<nr)
  (hL:Lm la bm cp qb pc qc ti ce) (BL:Blk w bl la 82) (C:CAt w bc {cc with regs:=.slice (some ⟨br,0,none⟩) nr nr}) (X:RgA w br nr ρ)
  (S:Da lo w bm {m with births:=.int .i64 b,due:=.int .i64 d,vers:=.int .i64 v,live:=.int .i64 0,since:=.int .i64 k,rm:=.int .i64 k} L n xs) :
  Calls prog 46 #[.pointer (some ⟨bl,0,none⟩),.pointer (some ⟨bc,0,none⟩),.agg (qa o rA q2 q3 q4 q5 q6)] w fun e w'=>∃(bs p L' n':Nat) (xs':List Value) (sv fv:Value),e=.returned .nilIface/\w.heap.size<=bs/\p<L'/\(n=0/\L'=L+1/\n'=0/\xs'=xs++[.pointer none]∨n=n'+1/\L'=L/\xs'=xs)/\FrT tsT w w'/\Below lo w w'/\Da lo w' bm {m with births:=.int .i64 (b+1),due:=.int .i64 (d+1),vers:=.int .i64 (v+1),live:=.int .i64 0,since:=.int .i64 (k+1),rm:=.int .i64 (k+1),slots:=sv,free:=fv} L' n' (xs'.set p (.pointer (some ⟨bs,0,none⟩)))/\Blk w' bs (sa (.int .i64 p) (.int .i64 1) (.int .i64 (b+1)) (.int .i64 (v+1))) 176/\RgA w' br nr (upd ρ rA (.val 5 0 0 ByteArray.empty p)):=by
 have B0:Below w.heap.size w (w.alloc (.cells (qa o rA q2 q3 q4 q5 q6) 161)):=(Below.refl _ _).alloc (Nat.le_refl _) _
 have HB0:Hid (Below w.heap.size w (w.alloc (.cells (qa o rA q2 q3 q4 q5 q6) 161))):=B0
 have HBL:Hid (Blk w bl la 82):=BL
 have HC:Hid (CAt w bc {cc with regs:=.slice (some ⟨br,0,none⟩) nr nr}):=C
 have HX:Hid (RgA w br nr ρ):=X
 have HS:Hid (Da lo w bm {m with births:=.int .i64 b,due:=.int .i64 d,vers:=.int .i64 v,live:=.int .i64 0,since:=.int .i64 k,rm:=.int .i64 k} L n xs):=S
 have Z:=Blk.new w (qa o rA q2 q3 q4 q5 q6) 161
 clear BL C X S B0
 go_enter func46,ntmps46
 go_wp2_with fail
 refine(Uk bl bm {m with births:=.int .i64 b,due:=.int .i64 d,vers:=.int .i64 v} k ce _ (((HBL.out.l HB0.out).cell 0).trans hL.m) (((HBL.out.l HB0.out).cell 7).trans hL.ce) hk hkc hce (HS.out.x.l HB0.out)).mono ?_
 rintro e w1 ⟨rfl,hC1,hX1⟩
 have Z1:=Z.chg hC1 (by have:=HS.out.x.lt;simp;omega)
 have F1:FrT tsT w w1:=(FrT.below HB0.out).trans (FrT.chg (ts:=tsT) hC1 (fun q hq=>by simp at hq;subst hq;exact⟨_,_,_,HS.out.x.l HB0.out,by simp⟩)) (fun _ h=>h)
 have S1:=(HS.out.l HB0.out).mach (m':={m with births:=.int .i64 b,due:=.int .i64 d,vers:=.int .i64 v,live:=.int .i64 0,since:=.int .i64 (k+1),rm:=.int .i64 (k+1)}) hC1 hX1 rfl rfl
 have HX1:Hid (RgA w1 br nr ρ):=(HX.out.l HB0.out).chg hC1 (by simpa using Aa HX.out.blk HS.out.x (by decide))
 have HC1:Hid (CAt w1 bc {cc with regs:=.slice (some ⟨br,0,none⟩) nr nr}):=HC.out.fr F1 (by decide)
 have HBL1:Hid (Blk w1 bl la 82):=HBL.out.fr F1 (by decide)
 have HS1:Hid (Da lo w1 bm {m with births:=.int .i64 b,due:=.int .i64 d,vers:=.int .i64 v,live:=.int .i64 0,since:=.int .i64 (k+1),rm:=.int .i64 (k+1)} L n xs):=S1
 have HF1:Hid (FrT tsT w w1):=F1
 have zs:∀i,w1.drew.cell? ⟨w.heap.size,i,none⟩=(qa o rA q2 q3 q4 q5 q6)[i]?:=Z1.cell
 have ls:w1.drew.cell? ⟨bl,0,none⟩=some (.pointer (some ⟨bm,0,none⟩)):=(HBL1.out.cell 0).trans hL.m
 have HZ1:Hid (Blk w1.drew w.heap.size (qa o rA q2 q3 q4 q5 q6) 161):=Z1
 have hs1:w.heap.size<=w1.heap.size:=F1.size
 have hlo:lo<=w.heap.size:=Nat.le_trans HS.out.lb (Nat.le_of_lt HS.out.x.lt)
 have LW1:Below lo w w1.drew:=((HB0.out.mono hlo).trans (hC1.low (by simp;omega) (by simpa using HS.out.lb))).drew
 clear Z Z1 hC1 hX1 F1 S1 HS HX HC HBL HB0
 go_wp2_with fail
 go_region_held3 (fun W=>(∀i,W.cell? ⟨w.heap.size,i,none⟩=(qa o rA q2 q3 q4 q5 q6)[i]?)/\W.cell? ⟨bl,0,none⟩=some (.pointer (some ⟨bm,0,none⟩))) (with_reducible exact⟨zs,ls⟩) (first
  | (go_at_call 127;refine(Sv lo bm L n xs {m with live:=.int .i64 0,since:=.int .i64 (k+1),rm:=.int .i64 (k+1)} b d v _ hb0 hb1 hd0 hd1 hv0 hv1 hm hn (HS1.out.l (Below.refl _ _).drew)).mono ?_;rintro e w2 ⟨bs,p,L',n',xs',sv,fv,rfl,hbs,hp,hc,hF2,LW2,S2,Y2⟩;have Z2:=HZ1.out.fr hF2 (by decide);have L2:=(HBL1.out.l (Below.refl _ _).drew).fr hF2 (by decide);have zs:=Z2.cell;have ls:w2.cell? ⟨bl,0,none⟩=some (.pointer (some ⟨bm,0,none⟩)):=(L2.cell 0).trans hL.m)
  | (go_at_call 126;refine(A44 bs p _ _ _ Y2).mono ?_;rintro e w3 ⟨rfl,hw3⟩;have zs:=(Z2.l hw3).cell;have ls:w3.cell? ⟨bl,0,none⟩=some (.pointer (some ⟨bm,0,none⟩)):=cb ls hw3)
  | (go_at_call 121;refine(A6j bc br rA nr cc ρ 5 0 0 ByteArray.empty p _ hrA (((HC1.out.l (Below.refl _ _).drew).fr hF2 (by decide)).l hw3) (((HX1.out.l (Below.refl _ _).drew).fr hF2 (by decide)).l hw3)).mono ?_;rintro e w4 ⟨rfl,hC4,hX4⟩;have hz4:w.heap.size∉[br]:=(by simpa using Aa HZ1.out (HX1.out.l (Below.refl _ _).drew).blk (by decide));have hl4:bl∉[br]:=(by simpa using Aa HBL1.out HX1.out.blk (by decide));have zs:=((Z2.l hw3).chg hC4 hz4).cell;have ls:w4.cell? ⟨bl,0,none⟩=some (.pointer (some ⟨bm,0,none⟩)):=hC4.cell hl4 ls))
 have X3:=((HX1.out.l (Below.refl _ _).drew).fr hF2 (by decide)).l hw3
 have F:FrT tsT w w4:=(((HF1.out.trans (FrT.below (ts:=tsT) (Below.refl _ _).drew) (fun _ h=>h)).trans hF2 (fun t h=>by simp[tsS]at h;rcases h with h|h|h<;>simp[h])).trans (FrT.below (ts:=tsT) hw3) (fun _ h=>h)).trans (FrT.chg (ts:=tsT) hC4 (fun q hq=>by simp at hq;subst hq;exact⟨_,_,_,X3.blk,by simp⟩)) (fun _ h=>h)
 have S4:=(S2.l hw3).chg X3.blk (by decide) hC4
 have Y4:=(Y2.l hw3).chg hC4 (by simpa using Aa (Y2.l hw3) X3.blk (by decide))
 have hb4:w.heap.size<=bs:=Nat.le_trans hs1 hbs
 have LW4:Below lo w w4:=((LW1.trans LW2).trans (hw3.mono (by have:=LW2.size;simp at this;omega))).trans (hC4.low (by have:=LW2.size;have:=hw3.size;simp at *;omega) (by simpa using hbr))
 go_wp2_with fail
 go_ret
 exact⟨bs,p,L',n',xs',sv,fv,rfl,hb4,hp,hc,F,LW4,S4,Y4,hX4⟩
theorem A9w (bl bc br nr:Nat) (o t c d e f i n:Int) (cc:Cc) (ρ:Nat->R8) (w:World) (hn3:3<=nr) (g0:ρ 0=.val 2 i 0 ByteArray.empty 0) (g1:ρ 1=.val 2 n 0 ByteArray.empty 0) (g2:ρ 2=.val 2 1 0 ByteArray.empty 0) (C:CAt w bc {cc with regs:=.slice (some ⟨br,0,none⟩) nr nr}) (X0:RgA w br nr ρ) :
  Calls prog 70 #[.pointer (some ⟨bl,0,none⟩),.pointer (some ⟨bc,0,none⟩),.agg (qa o 0 t c d e f)] w fun e w'=>e=.returned .nilIface/\Below w.heap.size w w':=by
 obtain⟨A,X,_,hx⟩:=X0
 have b0:A[0]?=some (.int .i64 1):=(hx 0 (by omega) 0 (by decide)).trans (by rw[g0];rfl)
 have b1:A[1]?=some (.int .i64 2):=(hx 0 (by omega) 1 (by decide)).trans (by rw[g0];rfl)
 have b2:A[2]?=some (.int .i64 i):=(hx 0 (by omega) 2 (by decide)).trans (by rw[g0];rfl)
 have b3:A[3]?=some (.float .f64 0):=(hx 0 (by omega) 3 (by decide)).trans (by rw[g0];rfl)
 have b4:A[4]?=some (.string ByteArray.empty):=(hx 0 (by omega) 4 (by decide)).trans (by rw[g0];rfl)
 have b5:A[5]?=some (.int .i64 0):=(hx 0 (by omega) 5 (by decide)).trans (by rw[g0];rfl)
 have b6:A[6]?=some (.pointer none):=(hx 0 (by omega) 6 (by decide)).trans (by rw[g0];rfl)
 have b7:A[7]?=some (.slice none 0 0):=(hx 0 (by omega) 7 (by decide)).trans (by rw[g0];rfl)
 have b8:A[8]?=some (.int .i64 1):=(hx 1 (by omega) 0 (by decide)).trans (by rw[g1];rfl)
 have b9:A[9]?=some (.int .i64 2):=(hx 1 (by omega) 1 (by decide)).trans (by rw[g1];rfl)
 have b10:A[10]?=some (.int .i64 n):=(hx 1 (by omega) 2 (by decide)).trans (by rw[g1];rfl)
 have b11:A[11]?=some (.float .f64 0):=(hx 1 (by omega) 3 (by decide)).trans (by rw[g1];rfl)
 have b12:A[12]?=some (.string ByteArray.empty):=(hx 1 (by omega) 4 (by decide)).trans (by rw[g1];rfl)
 have b13:A[13]?=some (.int .i64 0):=(hx 1 (by omega) 5 (by decide)).trans (by rw[g1];rfl)
 have b14:A[14]?=some (.pointer none):=(hx 1 (by omega) 6 (by decide)).trans (by rw[g1];rfl)
 have b15:A[15]?=some (.slice none 0 0):=(hx 1 (by omega) 7 (by decide)).trans (by rw[g1];rfl)
 have b16:A[16]?=some (.int .i64 1):=(hx 2 (by omega) 0 (by decide)).trans (by rw[g2];rfl)
 have b17:A[17]?=some (.int .i64 2):=(hx 2 (by omega) 1 (by decide)).trans (by rw[g2];rfl)
 have b18:A[18]?=some (.int .i64 1):=(hx 2 (by omega) 2 (by decide)).trans (by rw[g2];rfl)
 have b19:A[19]?=some (.float .f64 0):=(hx 2 (by omega) 3 (by decide)).trans (by rw[g2];rfl)
 have b20:A[20]?=some (.string ByteArray.empty):=(hx 2 (by omega) 4 (by decide)).trans (by rw[g2];rfl)
 have b21:A[21]?=some (.int .i64 0):=(hx 2 (by omega) 5 (by decide)).trans (by rw[g2];rfl)
 have b22:A[22]?=some (.pointer none):=(hx 2 (by omega) 6 (by decide)).trans (by rw[g2];rfl)
 have b23:A[23]?=some (.slice none 0 0):=(hx 2 (by omega) 7 (by decide)).trans (by rw[g2];rfl)
 clear hx
 have n30:(3:Int)<=nr:=by omega
 have B0:Below w.heap.size w (w.alloc (.cells (qa o 0 t c d e f) 161)).drew:=((Below.refl _ _).alloc (Nat.le_refl _) _).drew
 have xs:=fun o=>(X.alloc o).cell
 have ds:=fun o=>(C.alloc o).cell
 have zs:=(Blk.new w (qa o 0 t c d e f) 161).cell
 have e3:IntKind.i64.wrap (0+3)=3:=by decide
 go_enter func70,ntmps70
 go_wp2_with fail
 go_region
 go_wp2_with fail
 obtain⟨W,hW⟩:∃z,z=(w.alloc (.cells (qa o 0 t c d e f) 161)).drew:=⟨_,rfl⟩
 rw[←hW]at B0 ⊢
 have HX:Hid (Blk W br A 178):=X.l B0
 have HB:Hid (Below w.heap.size w W):=B0
 clear hW xs ds zs B0 X C
 go_loopw [26,8] (fun x y wr=>∃k:Nat,k<=3/\x=.int .i64 k/\y=.bool true/\Hid (Below W.heap.size W wr)) (fun x _ _=>3-(intOf x).toNat)
 case atStart=>exact⟨0,by omega,rfl,rfl,Below.refl _ _⟩
 case round=>
  obtain⟨k,hk,rfl,rfl,HW⟩:=hrel
  have xs:=(HX.out.l HW.out).cell
  have xa:=fun o=>((HX.out.l HW.out).alloc o).cell
  obtain rfl|h:k=3∨k<3:=by omega
  ·go_wp2_with fail
   refine(A12 1 _).mono ?_
   rintro e w1 ⟨rfl,hw1⟩
   have HY:Hid (Blk w1 wr.heap.size (vi 1) 52):=(Blk.new wr (vi 1) 52).l hw1
   have ys:=HY.out.cell
   have HV:Hid (Below W.heap.size W w1):=bl2 (HW.out.alloc (HW.out.size) _) hw1
   clear xs xa hw1 HW
   go_wp2_with fail
   refine(Xl _).mono ?_
   rintro e w2 ⟨rfl,hw2⟩
   go_wp2_with fail
   refine(A3x _).mono ?_
   rintro e w2 ⟨rfl,rfl⟩
   go_wp2_with fail
   have HV2:Hid (Below W.heap.size W w2):=bl2 HV.out hw2
   clear HV hw2 ys HY
   go_loopw [57] (fun x ws=>∃k:Nat,k<=3/\x=.int .i64 k/\Hid (Below W.heap.size W ws)) (fun x _=>3-(intOf x).toNat)
   case atStart=>exact⟨0,by omega,rfl,HV2.out⟩
   case round=>
    obtain⟨k,hk,rfl,HW⟩:=hrel
    have xs:=(HX.out.l HW.out).cell
    have xa:=fun o=>((HX.out.l HW.out).alloc o).cell
    obtain rfl|rfl|rfl|rfl:k=3∨k=0∨k=1∨k=2:=by omega
    ·go_wp2_with fail
     go_ret
     exact⟨rfl,bl2 HB.out HW.out⟩
    all_goals
     go_wp2_with fail
     go_roundw
     case rel=>first|exact⟨1,by decide,by go_num,HW.out.alloc HW.out.size _⟩|exact⟨2,by decide,by go_num,HW.out.alloc HW.out.size _⟩|exact⟨3,by decide,by go_num,HW.out.alloc HW.out.size _⟩
     case measure=>simp[intOf]
  ·obtain rfl|rfl|rfl:k=0∨k=1∨k=2:=by omega
   all_goals
    go_wp2_with fail
    refine(Cq _ _).mono ?_
    rintro e w1 ⟨rfl,hw1⟩
    have ys:=((Blk.new wr _ 178).l hw1).cell
    go_wp2_with fail
    go_roundw
    case rel=>first|exact⟨1,by decide,by go_num,by go_num,bl2 (HW.out.alloc (HW.out.size) _) hw1⟩|exact⟨2,by decide,by go_num,by go_num,bl2 (HW.out.alloc (HW.out.size) _) hw1⟩|exact⟨3,by decide,by go_num,by go_num,bl2 (HW.out.alloc (HW.out.size) _) hw1⟩
    case measure=>simp[intOf]
theorem Lb {N b:Nat} {V W:World} (h:Below N V W) (hb:N<=b) (x0 x1 x2 x3 x4:Value):Below N V (((((W.setCell ⟨b,0,none⟩ x0).setCell ⟨b,1,none⟩ x1).setCell ⟨b,2,none⟩ x2).setCell ⟨b,3,none⟩ x3).setCell ⟨b,4,none⟩ x4):=
 ((((h.setCell (p:=⟨b,0,none⟩) hb _).setCell (p:=⟨b,1,none⟩) hb _).setCell (p:=⟨b,2,none⟩) hb _).setCell (p:=⟨b,3,none⟩) hb _).setCell (p:=⟨b,4,none⟩) hb _
theorem A0n {b:Nat} (W:World) (x0 x1 x2 x3 x4:Value):Chg [b] W (((((W.setCell ⟨b,0,none⟩ x0).setCell ⟨b,1,none⟩ x1).setCell ⟨b,2,none⟩ x2).setCell ⟨b,3,none⟩ x3).setCell ⟨b,4,none⟩ x4):=
 (((((Chg.refl [b] W).set (by simp) _ _).set (by simp) _ _).set (by simp) _ _).set (by simp) _ _).set (by simp) _ _
theorem A0o (bl bc br n:Nat) (o t c d e f i nn:Int) (a0:Int) (cc:Cc) (ρ:Nat->R8) (k0 k1 k2 p0 p1 p2 l0 l1 l2:Value) (w:World) (hn:3<=n) (hn1:n<=100) (hi:0<=i) (hi1:i<=100000) (h0:0<=a0) (h1:a0<=6000) (g0:ρ 0=.v5 k0 2 i 0 ByteArray.empty 0 p0 l0) (g1:ρ 1=.v5 k1 2 nn 0 ByteArray.empty 0 p1 l1) (g2:ρ 2=.v5 k2 2 1 0 ByteArray.empty 0 p2 l2) (C:CAt w bc {cc with regs:=.slice (some ⟨br,0,none⟩) n n,at_:=.int .i64 a0}) (X:RgA w br n ρ) :
  Calls prog 72 #[pz' bl,pz' bc,.agg (qa o 0 t c d e f)] w fun e w'=>e=.returned .nilIface/\Chg [bc,br] w w'/\CAt w' bc {cc with regs:=.slice (some ⟨br,0,none⟩) n n,at_:=.int .i64 t}/\RgA w' br n (upd ρ 0 (.val 2 (i+1) 0 ByteArray.empty 0)):=by
 have B0:Below w.heap.size w (w.alloc (.cells (qa o 0 t c d e f) 161)):=(Below.refl _ _).alloc (Nat.le_refl _) _
 have S0:L3 br bc n w.heap.size i nn o t c d e f (w.alloc (.cells (qa o 0 t c d e f) 161)):=L3.mk' (cc:={cc with at_:=.int .i64 a0}) hn (C.l B0) (X.l B0) g0 g1 g2 (Blk.new w _ _)
 have S1:=S0.l (Below.refl _ _).drew
 have t1:=S1.t
 have hne:bc≠br:=Aa C X.blk (by decide)
 have e2:IntKind.i64.wrap 2=2:=by decide
 have e02:IntKind.i64.wrap (0+2)=2:=by decide
 have n0:(0:Int)<n:=by omega
 have n9:0<n:=by omega
 have n2:(2:Int)<n:=by omega
 clear g0 g1 g2
 go_enter func72,ntmps72
 go_wp2_with fail
 refine Js (fun a W=>∃b1 b2,a=tmA (#[pz' bl,pz' bc,.agg (qa o 0 t c d e f),undef,undef,pz' w.heap.size,.nilIface,pz' b1,pz' b2,undef,undef,pz' bc,pz' bc,.pointer (some ⟨bc,6,none⟩),.slice (some ⟨br,0,none⟩) n n,.pointer (some ⟨w.heap.size,1,none⟩),.int .i64 0,pz' br,.pointer (some ⟨br,1,none⟩),.agg (vi i),pz' bc,pz' bc,.pointer (some ⟨bc,6,none⟩),.slice (some ⟨br,0,none⟩) n n,.pointer (some ⟨w.heap.size,1,none⟩),.int .i64 0,.int .i64 2,.pointer (some ⟨br,16,none⟩),.pointer (some ⟨br,17,none⟩),.agg (vi 1),undef,undef,undef,undef,undef,undef,undef,undef,undef,undef,undef,undef,undef,undef,undef,undef,undef,undef,undef,undef,undef,undef,undef,undef,undef,undef,undef,undef,undef,undef,undef,undef,undef,undef])/\Below w.heap.size w W/\Blk W b1 (vi i) 52/\Blk W b2 (vi 1) 52/\L3 br bc n w.heap.size i nn o t c d e f W) ?_ ?_
 ·refine rgM (L3 br bc n w.heap.size i nn o t c d e f) S1 (fun hS=>?_)
  iterate 19 (refine tkM rfl (by kernel_rfl) (by rfl) hS ⟨?_,fun W hW=>?_,?_⟩;rotate_left;(focus (have tt:=hW.t;go_simp;with_reducible rfl));simp only[Act.put,List.getElem_toArray,List.getElem_cons_zero,List.getElem_cons_succ,List.setIfInBounds_toArray,List.set_cons_succ,List.set_cons_zero])
  have BD:=bl2 B0 (Below.refl _ (w.alloc (.cells (qa o 0 t c d e f) 161))).drew
  clear t1
  revert S1 BD hS
  generalize (w.alloc (.cells (qa o 0 t c d e f) 161)).drew=V
  intro S1 hS BD
  have A1:=(Below.refl _ V).alloc (Nat.le_refl _) (.cells v0 52)
  have A2:=bl2 A1 ((Below.refl _ _).alloc (Nat.le_refl _) (.cells v0 52))
  have SA:=S1.l A2
  have P1:Blk ((V.alloc (.cells v0 52)).alloc (.cells v0 52)) V.heap.size v0 52:=(Blk.new V _ _).alloc _
  have P2:Blk ((V.alloc (.cells v0 52)).alloc (.cells v0 52)) (V.heap.size+1) v0 52:=nb _ _ (by simp)
  have hV:=BD.size
  refine Sn rfl rfl (by kernel_rfl) (by rfl) (by rfl) (fun K2 hK2=>?a1) (fun K2 hK2=>?b1)
  all_goals
   go_wp2_with fail
   refine hK2.out _ _ (S1.l A1) (fun hS=>?_)
   clear hK2 K2
   try simp only[Act.put,List.getElem_toArray,List.getElem_cons_zero,List.getElem_cons_succ,List.setIfInBounds_toArray,List.set_cons_succ,List.set_cons_zero]
   refine doM rfl (by kernel_rfl) (by rfl) (fun K2 hK2=>?_)
   go_wp2_with fail
   refine hK2.out _ _ SA (fun hS=>?_)
   clear hK2 K2
   try simp only[Act.put,List.getElem_toArray,List.getElem_cons_zero,List.getElem_cons_succ,List.setIfInBounds_toArray,List.set_cons_succ,List.set_cons_zero]
   have BA:=BD.trans (A2.mono hV)
  all_goals clear A1 BA SA
  all_goals revert P1 P2 A2 hS
  all_goals generalize (V.alloc (.cells v0 52)).alloc (.cells v0 52)=U
  all_goals intro A2 P1 P2 hS
  ·have p1:=P1.cell
   have f1:=P1.frozen
   refine doM rfl (by kernel_rfl) (by rfl) (fun K2 hK2=>?_)
   go_wp2_with fail
   have B3:=Lb (b:=V.heap.size) A2 (by omega) (.int .i64 2) (.int .i64 i) (.float .f64 0) (.string ByteArray.empty) (.int .i64 0)
   have X3:Blk _ (V.heap.size) (vi i) 52:=((((P1.set 0 (.int .i64 2)).set 1 (.int .i64 i)).set 2 (.float .f64 0)).set 3 (.string ByteArray.empty)).set 4 (.int .i64 0)
   have Y3:=P2.chg (A0n (b:=V.heap.size) U (.int .i64 2) (.int .i64 i) (.float .f64 0) (.string ByteArray.empty) (.int .i64 0)) (by simp)
   refine hK2.out _ _ (S1.l B3) (fun hS=>?_)
   clear hK2 K2 p1 f1
   revert B3 X3 Y3 hS
   generalize ((((U.setCell ⟨V.heap.size,0,none⟩ (.int .i64 2)).setCell ⟨V.heap.size,1,none⟩ (.int .i64 i)).setCell ⟨V.heap.size,2,none⟩ (.float .f64 0)).setCell ⟨V.heap.size,3,none⟩ (.string ByteArray.empty)).setCell ⟨V.heap.size,4,none⟩ (.int .i64 0)=U3
   intro B3 X3 Y3 hS
   have p1:=Y3.cell
   have f1:=Y3.frozen
   refine doM rfl (by kernel_rfl) (by rfl) (fun K2 hK2=>?_)
   go_wp2_with fail
   have B4:=Lb (b:=V.heap.size+1) B3 (by omega) (.int .i64 2) (.int .i64 1) (.float .f64 0) (.string ByteArray.empty) (.int .i64 0)
   have Y4:Blk _ (V.heap.size+1) (vi 1) 52:=((((Y3.set 0 (.int .i64 2)).set 1 (.int .i64 1)).set 2 (.float .f64 0)).set 3 (.string ByteArray.empty)).set 4 (.int .i64 0)
   have X4:=X3.chg (A0n (b:=V.heap.size+1) U3 (.int .i64 2) (.int .i64 1) (.float .f64 0) (.string ByteArray.empty) (.int .i64 0)) (by simp)
   exact hK2.out _ _ (S1.l B4) (fun hS=>enM (by kernel_rfl) ⟨rfl,V.heap.size,V.heap.size+1,rfl,BD.trans (B4.mono hV),X4,Y4,hS⟩)
  ·have p1:=P2.cell
   have f1:=P2.frozen
   refine doM rfl (by kernel_rfl) (by rfl) (fun K2 hK2=>?_)
   go_wp2_with fail
   have B3:=Lb (b:=V.heap.size+1) A2 (by omega) (.int .i64 2) (.int .i64 i) (.float .f64 0) (.string ByteArray.empty) (.int .i64 0)
   have X3:Blk _ (V.heap.size+1) (vi i) 52:=((((P2.set 0 (.int .i64 2)).set 1 (.int .i64 i)).set 2 (.float .f64 0)).set 3 (.string ByteArray.empty)).set 4 (.int .i64 0)
   have Y3:=P1.chg (A0n (b:=V.heap.size+1) U (.int .i64 2) (.int .i64 i) (.float .f64 0) (.string ByteArray.empty) (.int .i64 0)) (by simp)
   refine hK2.out _ _ (S1.l B3) (fun hS=>?_)
   clear hK2 K2 p1 f1
   revert B3 X3 Y3 hS
   generalize ((((U.setCell ⟨V.heap.size+1,0,none⟩ (.int .i64 2)).setCell ⟨V.heap.size+1,1,none⟩ (.int .i64 i)).setCell ⟨V.heap.size+1,2,none⟩ (.float .f64 0)).setCell ⟨V.heap.size+1,3,none⟩ (.string ByteArray.empty)).setCell ⟨V.heap.size+1,4,none⟩ (.int .i64 0)=U3
   intro B3 X3 Y3 hS
   have p1:=Y3.cell
   have f1:=Y3.frozen
   refine doM rfl (by kernel_rfl) (by rfl) (fun K2 hK2=>?_)
   go_wp2_with fail
   have B4:=Lb (b:=V.heap.size) B3 (by omega) (.int .i64 2) (.int .i64 1) (.float .f64 0) (.string ByteArray.empty) (.int .i64 0)
   have Y4:Blk _ (V.heap.size) (vi 1) 52:=((((Y3.set 0 (.int .i64 2)).set 1 (.int .i64 1)).set 2 (.float .f64 0)).set 3 (.string ByteArray.empty)).set 4 (.int .i64 0)
   have X4:=X3.chg (A0n (b:=V.heap.size) U3 (.int .i64 2) (.int .i64 1) (.float .f64 0) (.string ByteArray.empty) (.int .i64 0)) (by simp)
   exact hK2.out _ _ (S1.l B4) (fun hS=>enM (by kernel_rfl) ⟨rfl,V.heap.size+1,V.heap.size,rfl,BD.trans (B4.mono hV),X4,Y4,hS⟩)
 ·rintro a W ⟨b1,b2,rfl,B1,P1,P2,SW⟩
  dsimp only[tmA]
  have X1:=X.l B1
  have D:=C.l B1
  clear t1 S1 S0 B0
  have p1:=P1.cell
  have p2:=P2.cell
  have Z:=SW.q
  clear SW
  go_wp2_with fail
  refine(A0i i 1 _ (by omega) (by omega) (by decide)).mono ?_
  rintro e w1 ⟨rfl,hw1⟩
  have V:∀o,Below w1.heap.size w1 (w1.alloc o):=fun o=>(Below.refl _ _).alloc (Nat.le_refl _) o
  have p1:=fun o=>((P1.l hw1).alloc o).cell
  have p2:=fun o=>((P2.l hw1).alloc o).cell
  go_wp2_with fail
  refine(Gt i 1 _).mono ?_
  rintro e w2 ⟨rfl,hw2⟩
  have G:=(Blk.new w1 #[.int .i64 0,.int .i64 2,.int .i64 (i+1),.float .f64 0,.string ByteArray.empty,.int .i64 0] 216).l hw2
  have B2:=bl2 (bl2 hw1 (V _)) hw2
  have P12:=P1.l B2
  have P22:=P2.l B2
  have Z2:=Z.l B2
  have D2:=D.l B2
  have Y2:=X1.l B2
  clear p1 p2 P1 P2 Z D X1 hw1 hw2 V
  have p1:=P12.cell
  have p2:=P22.cell
  have g:=G.cell
  go_wp2_with fail
  refine(Rt i _).mono ?_
  rintro e w3 ⟨rfl,hw3⟩
  have B3:=bl2 B2 hw3
  have G3:=G.l hw3
  have Z3:=Z2.l hw3
  have D3:=D2.l hw3
  have Y3:=Y2.l hw3
  clear p1 p2 g P12 P22 Z2 D2 Y2 B2 G hw3
  have g:=G3.cell
  have z:=Z3.cell
  go_wp2_with fail
  refine(A6j bc br 0 n {cc with at_:=.int .i64 a0} ρ 2 (i+1) 0 ByteArray.empty 0 _ (by omega) D3 Y3).mono ?_
  rintro e w4 ⟨rfl,hC4,hY4⟩
  have D4:=D3.chg hC4 (by simpa using hne)
  have Z4:=Z3.chg hC4 (by simpa using Aa Z3 Y3.blk (by decide))
  clear g z G3 Y3 D3
  have z:=Z4.cell
  go_wp2_with fail
  refine(Qw bc {cc with regs:=.slice (some ⟨br,0,none⟩) n n} a0 t true _ h0 h1 D4).mono ?_
  rintro e w5 ⟨rfl,hC5,hD5⟩
  go_wp2_with fail
  go_ret
  exact⟨rfl,(((Chg.refl _ _).below (bl2 B1 B3)).trans hC4 (by simp)).trans hC5 (by simp),hD5,hY4.chg hC5 (by simpa using Ne.symm hne)⟩
end Go.Proofs.YtbefeflgjipfhaaGreatDoor
