import Derived.Test.YtaakadmnhpboiaaGreatDoorM11
import Derived.Maps.AppendAt
namespace Go.Proofs.YtaakadmnhpboiaaGreatDoor
open Go.RowKit Go.Deep
section
variable {w : World} {ops : Array Oper} {rest : List Oper} {o : Oper} {a : Act} {Q : Exit → Act → World → Prop}
theorem app_int (hgd:o.guard=none) (s x:Operand) (ho:o.op=.call {callee:=.builtin .append,args:=#[s,x],argTypes:=#[72,72]})
  (base:Nat) (v:Value) (n:Nat) (xs:List Int) (u:Int) (B:Nat) (hs:a.eval s=v) (hown:w.ownsRow base 3 1 v n (ints xs)) (hx:a.eval x=.slice (some ⟨B,0,none⟩) 1 1) (hB:w.cell? ⟨B,0,none⟩=some (.int .i64 u))
  (hn:n≤1048576) (hbase:base≤w.heap.size)
  (h:∀v' w',w'.ownsRow base 3 1 v' (n+1) (ints (xs ++ [u]))→w.grownBy w' v.ownBlock→(v'.ownBlock=v.ownBlock∨v'.ownBlock=some w.heap.size)→wpList Tryz.prog ops Q rest (a.put o.dst v') w'):wpList Tryz.prog ops Q (o::rest) a w:=by
 obtain⟨i0,hi,hz0,hz1,hz2⟩:=info_parts Tryz.info_int
 refine wpList_append_own_at w hgd s x 72 ho base 3 i0 (.int .i64 0) 1 8 Tryz.underlying72 hi hz0 hz1 hz2 rfl (by decide) v n (ints xs) hs hown ⟨B,0,none⟩ 1 1 [.int .i64 u] hx rfl ?_ ?_ (by unfold maxLen;omega) (by omega) hbase ?_
 ·intro j q hj
  match j,hj with
  | 0,hj=>simp at hj;subst hj;simpa [Addr.add] using hB
 ·intro q hq;simp at hq;subst hq;rfl
 ·intro v' w' h1 h2 _ h4
  refine h v' w' ?_ h2 h4
  rw [ints_append]
  exact h1
theorem app_gd (hgd:o.guard=none) (s x:Operand) (ho:o.op=.call {callee:=.builtin .append,args:=#[s,x],argTypes:=#[96,96]})
  (base:Nat) (v:Value) (n:Nat) (xs:List Gd) (u:Gd) (B:Nat) (hs:a.eval s=v) (hown:w.ownsRow base 163 3 v n (gds xs)) (hx:a.eval x=.slice (some ⟨B,0,none⟩) 1 1) (hB:GdAt w B 0 u)
  (hn:n≤1048576) (hbase:base≤w.heap.size)
  (h:∀v' w',w'.ownsRow base 163 3 v' (n+1) (gds (xs ++ [u]))→w.grownBy w' v.ownBlock→(v'.ownBlock=v.ownBlock∨v'.ownBlock=some w.heap.size)→wpList Tryz.prog ops Q rest (a.put o.dst v') w'):wpList Tryz.prog ops Q (o::rest) a w:=by
 obtain⟨i0,hi,hz0,hz1,hz2⟩:=info_parts Tryz.info_Guard
 obtain⟨b0,b1,b2⟩:=hB
 refine wpList_append_own_at w hgd s x 96 ho base 163 i0 (.agg #[.bool false,.int .i64 0,.int .i64 0]) 3 24 Tryz.underlying96 hi hz0 hz1 hz2 rfl (by decide) v n (gds xs) hs hown ⟨B,0,none⟩ 1 1 u.vals hx rfl ?_ ?_ (by unfold maxLen;omega) (by omega) hbase ?_
 ·intro j q hj
  match j,hj with
  | 0,hj=>simp [Gd.vals] at hj;subst hj;simpa [Addr.add] using b0
  | 1,hj=>simp [Gd.vals] at hj;subst hj;simpa [Addr.add] using b1
  | 2,hj=>simp [Gd.vals] at hj;subst hj;simpa [Addr.add] using b2
 ·intro q hq;simp [Gd.vals] at hq;rcases hq with rfl | rfl | rfl <;> rfl
 ·intro v' w' h1 h2 _ h4
  refine h v' w' ?_ h2 h4
  rw [gds_append]
  simpa [gds] using h1
end
def ChangePost (w:World) (r:Option (List Gd)) (e:Ending) (w':World):Prop:=
 match r with
 | none=>∃v,e=.returned (.tuple #[v,.bool false])
 | some gs=>∃ao cap,e=.returned (.tuple #[.slice ao gs.length cap,.bool true])∧GdsAt w.heap.size w' ao gs
theorem AllAt.dropLast {α:Type} {lo:Nat} {w:World} {ao:Option Addr} {k:Nat} {at1:Nat→Nat→α→Prop} {xs:List α} (h:AllAt lo w ao k at1 xs):AllAt lo w ao k at1 xs.dropLast:=by
 intro i x hx
 refine h i x ?_
 rw [List.dropLast_eq_take,List.getElem?_take] at hx
 split at hx
 ·exact hx
 ·cases hx
theorem AllAt.take {α:Type} {lo:Nat} {w:World} {ao:Option Addr} {k:Nat} {at1:Nat→Nat→α→Prop} {xs:List α} (h:AllAt lo w ao k at1 xs) (n:Nat):AllAt lo w ao k at1 (xs.take n):=by
 intro i x hx
 refine h i x ?_
 rw [List.getElem?_take] at hx
 split at hx
 ·exact hx
 ·cases hx
theorem l3guards_at (ao:Option Addr) (cap m:Nat) (gs:List Gd) (w:World) (hm:Hid (gs.length=m)) (hml:m≤50) (hx:GdsAt 0 w ao gs) :
  Calls Tryz.prog 52 #[.slice ao m cap] w fun e w'=>∃v,e=.returned v∧w'.ownsRow w.heap.size 163 3 v m (gds gs)∧Below w.heap.size w w':=by
 obtain rfl:=hm.out
 exact l3guards_any ao cap gs w (by omega) hx
theorem l3above_at (ao:Option Addr) (cap m:Nat) (gs:List Gd) (keep:Int) (w:World) (hm:Hid (gs.length=m)) (hml:m≤50) (hx:GdsAt 0 w ao gs) :
  Calls Tryz.prog 99 #[.slice ao m cap,.int .i64 keep] w fun e w'=>e=.returned (.bool (aboveB gs keep))∧Below w.heap.size w w':=by
 obtain rfl:=hm.out
 exact l3above_any ao cap gs keep w (by omega) hx
theorem owns_last {w:World} {base k:Nat} {v:Value} {gs:List Gd} (h:w.ownsRow base 163 3 v (k+1) (gds gs)) (hm:gs.length=k+1) :
  ∃g cap q,v=.slice (some ⟨g,0,none⟩) (k+1) cap∧base≤g∧g<w.heap.size∧k+1≤cap∧gs[k]?=some q∧GdAt w g (k*3) q∧(∀i,w.frozen? ⟨g,i,none⟩=false)∧GdsAt base w (some ⟨g,0,none⟩) gs∧
   (∀x,(w.setCell ⟨g,k*3+1,none⟩ (.int .i64 x)).ownsRow base 163 3 v (k+1) ((gds gs).set (k*3+1) (.int .i64 x))):=by
 obtain⟨q,hq⟩:=some_of_lt (show k<gs.length by omega)
 rcases owns_form h with ⟨h1,h2⟩ | ⟨g,cap,rfl,h2,h3⟩
 ·omega
 ·obtain⟨G1,G2⟩:=owns_gds h
  have hcap:k+1≤cap:=by
   obtain⟨_,hh | ⟨g',cap',cur,e1,_,_,hc,_⟩⟩:=h
   ·obtain⟨hh,_⟩:=hh;cases hh
   ·simp only [Value.slice.injEq] at e1
    omega
  refine⟨g,cap,q,rfl,h2,h3,hcap,hq,?_,fun i=>h.frozenAt i,G1,?_⟩
  ·obtain⟨b,off,e,_,_,hg⟩:=G1 k q hq
   simp at e
   obtain⟨rfl,rfl⟩:=e
   simpa using hg
  ·intro x
   exact (h.stored (k*3+1) (.int .i64 x)).1
theorem modify_concat (ys:List Gd) (q:Gd) (f:Gd→Gd):(ys ++ [q]).modify ys.length f=ys ++ [f q]:=by
 induction ys with
 | nil=>rfl
 | cons a r ih=>
  show a::(r ++ [q]).modify r.length f=_
  rw [ih]
  rfl
theorem gds_set {gs:List Gd} {k:Nat} (hm:gs.length=k+1) (x:Int):(gds gs).set (k*3+1) (.int .i64 x)=gds (keepLast gs x):=by
 obtain⟨ys,q,rfl⟩:∃ys q,gs=ys ++ [q]:=⟨gs.dropLast,gs.getLast (by intro h;subst h;simp at hm),(List.dropLast_concat_getLast _).symm⟩
 simp at hm
 subst hm
 unfold keepLast
 rw [gds_append,List.set_append_right _ _ (by rw [gds_length];omega),gds_length]
 rw [show (ys ++ [q]).length - 1=ys.length by simp]
 rw [modify_concat,gds_append]
 congr 1
 simp [gds,Gd.vals]
theorem lastTr_of {gs:List Gd} {k:Nat} {q:Gd} (hm:gs.length=k+1) (hq:gs[k]?=some q):lastTr gs=some q.tr:=by
 unfold lastTr
 rw [List.getLast?_eq_getElem?,hm]
 simp [hq]
set_option maxRecDepth 100000 in
set_option maxHeartbeats 4000000 in
theorem l3change_31 (a b c d:Int) (ao:Option Addr) (cap m:Nat) (gs:List Gd) (w:World) (hm:Hid (gs.length=m)) (hml:m≤50) (hx:GdsAt 0 w ao gs) :
  Calls Tryz.prog 48 #[.agg #[.int .i64 31,.int .i64 a,.int .i64 b,.int .i64 c,.int .i64 d],.slice ao m cap] w fun e w'=>ChangePost w (changeF ⟨31,a,b,c,d⟩ gs) e w'∧Below w.heap.size w w':=by
 have N0:=Blk.new w #[.int .i64 31,.int .i64 a,.int .i64 b,.int .i64 c,.int .i64 d] 93
 have B0:=(Below.refl w.heap.size w).alloc (Nat.le_refl _) (.cells #[.int .i64 31,.int .i64 a,.int .i64 b,.int .i64 c,.int .i64 d] 93)
 have HC:Hid (changeF ⟨31,a,b,c,d⟩ gs=if decide (m<50) && aboveB gs b then some (gs ++ [(⟨true,b,a⟩:Gd)]) else none):=by
  show _=_
  rw [←hm.out]
  rfl
 go_enter Tryz.func48,Tryz.ntmps48
 go_wp2_with fail
 refine (l3guards_at ao cap m gs _ hm hml (hx.later (Keeps.of_below B0))).mono ?_
 rintro e w1 ⟨v,rfl,hown,hw1⟩
 have B1:=B0.trans (hw1.mono (by simp))
 have N1:=N0.later hw1
 have H1:=owns_later hown (Keeps.refl _ _)
 have hbw:w.heap.size≤(w.alloc (.cells #[.int .i64 31,.int .i64 a,.int .i64 b,.int .i64 c,.int .i64 d] 93)).heap.size:=by simp
 have n1:=N1.cell
 obtain⟨ao1,cap1,rfl⟩:=owns_slice hown
 clear hw1 N0 B0 hown
 go_wp2_with (at_builtin;refine app_gd rfl _ _ rfl _ _ m gs (⟨true,b,a⟩:Gd) w1.heap.size rfl (H1.alloc _) rfl ?c1 (by omega) ?c2 ?_)
 case c1=>exact ⟨by simp,by simp,by simp⟩
 case c2=>have:=B1.size;have:=N1.lt;simp at *;omega
 ·intro v' w2 H2 G2 _
  obtain⟨ao2,cap2,rfl⟩:=owns_slice H2
  have B2:Below w.heap.size w w2:=(B1.alloc B1.size _).grown G2 (by have:=B1.size;simp;omega) (fun k hk=>by have:=(H1.lt k hk).1;omega)
  have n2:=(blk_grown (N1.alloc _) G2 (by intro e;have:=(H1.lt _ e.symm).1;rw [show (w.alloc (.cells #[.int .i64 31,.int .i64 a,.int .i64 b,.int .i64 c,.int .i64 d] 93)).heap.size=w.heap.size+1 by simp] at this;omega)).cell
  have hx2:=hx.later (Keeps.of_below B2)
  have HG:Hid (GdsAt w.heap.size w2 ao2 (gs ++ [(⟨true,b,a⟩:Gd)])):=AllAt.lower (owns_gds H2).1 (by simp)
  clear n1 N1 H1 G2 B1 H2
  by_cases hl:m<50
  ·have k1:(m:Int)<50:=by omega
   go_wp2_with fail
   refine (l3above_at ao cap m gs b w2 hm hml hx2).mono ?_
   rintro e w3 ⟨rfl,hw3⟩
   have B3:=B2.trans (hw3.mono B2.size)
   go_wp2_with fail
   go_ret2
   refine⟨?_,B3⟩
   rw [HC.out]
   simp only [hl,decide_true,Bool.true_and]
   cases aboveB gs b
   ·exact⟨_,rfl⟩
   ·refine⟨ao2,cap2,?_,HG.out.later (Keeps.of_below hw3)⟩
    have e1:(gs ++ [(⟨true,b,a⟩:Gd)]).length=m+1:=by have:=hm.out;simp;omega
    rw [e1]
    rfl
  ·have k1:¬(m:Int)<50:=by omega
   go_wp2_with fail
   go_ret2
   refine⟨?_,B2⟩
   rw [HC.out]
   simp only [hl,decide_false,Bool.false_and]
   exact⟨_,rfl⟩
set_option maxRecDepth 100000 in
set_option maxHeartbeats 4000000 in
theorem l3change_33 (a b c d:Int) (ao:Option Addr) (cap m:Nat) (gs:List Gd) (w:World) (hm:Hid (gs.length=m)) (hml:m≤50) (hx:GdsAt 0 w ao gs) :
  Calls Tryz.prog 48 #[.agg #[.int .i64 33,.int .i64 a,.int .i64 b,.int .i64 c,.int .i64 d],.slice ao m cap] w fun e w'=>ChangePost w (changeF ⟨33,a,b,c,d⟩ gs) e w'∧Below w.heap.size w w':=by
 have N0:=Blk.new w #[.int .i64 33,.int .i64 a,.int .i64 b,.int .i64 c,.int .i64 d] 93
 have B0:=(Below.refl w.heap.size w).alloc (Nat.le_refl _) (.cells #[.int .i64 33,.int .i64 a,.int .i64 b,.int .i64 c,.int .i64 d] 93)
 have HC:Hid (changeF ⟨33,a,b,c,d⟩ gs=if decide (m<50) && aboveB gs a then some (gs ++ [(⟨false,a,0⟩:Gd)]) else none):=by
  show _=_
  rw [←hm.out]
  rfl
 go_enter Tryz.func48,Tryz.ntmps48
 go_wp2_with fail
 refine (l3guards_at ao cap m gs _ hm hml (hx.later (Keeps.of_below B0))).mono ?_
 rintro e w1 ⟨v,rfl,hown,hw1⟩
 have B1:=B0.trans (hw1.mono (by simp))
 have N1:=N0.later hw1
 have H1:=owns_later hown (Keeps.refl _ _)
 have hbw:w.heap.size≤(w.alloc (.cells #[.int .i64 33,.int .i64 a,.int .i64 b,.int .i64 c,.int .i64 d] 93)).heap.size:=by simp
 have n1:=N1.cell
 obtain⟨ao1,cap1,rfl⟩:=owns_slice hown
 clear hw1 N0 B0 hown
 go_wp2_with (at_builtin;refine app_gd rfl _ _ rfl _ _ m gs (⟨false,a,0⟩:Gd) w1.heap.size rfl (H1.alloc _) rfl ?c1 (by omega) ?c2 ?_)
 case c1=>exact ⟨by simp,by simp,by simp⟩
 case c2=>have:=B1.size;have:=N1.lt;simp at *;omega
 ·intro v' w2 H2 G2 _
  obtain⟨ao2,cap2,rfl⟩:=owns_slice H2
  have B2:Below w.heap.size w w2:=(B1.alloc B1.size _).grown G2 (by have:=B1.size;simp;omega) (fun k hk=>by have:=(H1.lt k hk).1;omega)
  have n2:=(blk_grown (N1.alloc _) G2 (by intro e;have:=(H1.lt _ e.symm).1;rw [show (w.alloc (.cells #[.int .i64 33,.int .i64 a,.int .i64 b,.int .i64 c,.int .i64 d] 93)).heap.size=w.heap.size+1 by simp] at this;omega)).cell
  have hx2:=hx.later (Keeps.of_below B2)
  have HG:Hid (GdsAt w.heap.size w2 ao2 (gs ++ [(⟨false,a,0⟩:Gd)])):=AllAt.lower (owns_gds H2).1 (by simp)
  clear n1 N1 H1 G2 B1 H2
  by_cases hl:m<50
  ·have k1:(m:Int)<50:=by omega
   go_wp2_with fail
   refine (l3above_at ao cap m gs a w2 hm hml hx2).mono ?_
   rintro e w3 ⟨rfl,hw3⟩
   have B3:=B2.trans (hw3.mono B2.size)
   go_wp2_with fail
   go_ret2
   refine⟨?_,B3⟩
   rw [HC.out]
   simp only [hl,decide_true,Bool.true_and]
   cases aboveB gs a
   ·exact⟨_,rfl⟩
   ·refine⟨ao2,cap2,?_,HG.out.later (Keeps.of_below hw3)⟩
    have e1:(gs ++ [(⟨false,a,0⟩:Gd)]).length=m+1:=by have:=hm.out;simp;omega
    rw [e1]
    rfl
  ·have k1:¬(m:Int)<50:=by omega
   go_wp2_with fail
   go_ret2
   refine⟨?_,B2⟩
   rw [HC.out]
   simp only [hl,decide_false,Bool.false_and]
   exact⟨_,rfl⟩
set_option maxRecDepth 100000 in
set_option maxHeartbeats 4000000 in
theorem l3change_32 (a b c d:Int) (ao:Option Addr) (cap m:Nat) (gs:List Gd) (w:World) (hm:Hid (gs.length=m)) (hml:m≤50) (hx:GdsAt 0 w ao gs) :
  Calls Tryz.prog 48 #[.agg #[.int .i64 32,.int .i64 a,.int .i64 b,.int .i64 c,.int .i64 d],.slice ao m cap] w fun e w'=>ChangePost w (changeF ⟨32,a,b,c,d⟩ gs) e w'∧Below w.heap.size w w':=by
 have N0:=Blk.new w #[.int .i64 32,.int .i64 a,.int .i64 b,.int .i64 c,.int .i64 d] 93
 have B0:=(Below.refl w.heap.size w).alloc (Nat.le_refl _) (.cells #[.int .i64 32,.int .i64 a,.int .i64 b,.int .i64 c,.int .i64 d] 93)
 have HC:Hid (changeF ⟨32,a,b,c,d⟩ gs=if lastTr gs=some true then some gs.dropLast else none):=by
  show _=_
  unfold changeF
  simp
 go_enter Tryz.func48,Tryz.ntmps48
 go_wp2_with fail
 refine (l3guards_at ao cap m gs _ hm hml (hx.later (Keeps.of_below B0))).mono ?_
 rintro e w1 ⟨v,rfl,hown,hw1⟩
 have B1:=B0.trans (hw1.mono (by simp))
 have n1:=(N0.later hw1).cell
 have N1:=N0.later hw1
 have hx1:=hx.later (Keeps.of_below B1)
 clear hw1 N0 B0
 rcases m with _ | k
 ·obtain⟨ao1,cap1,rfl⟩:=owns_slice hown
  clear hown
  have HN:Hid (changeF ⟨32,a,b,c,d⟩ gs=none):=by
   have:gs=[]:=List.length_eq_zero_iff.1 hm.out
   show _=_
   rw [HC.out,this]
   simp [lastTr]
  clear HC
  go_wp2_with fail
  go_ret2
  refine⟨?_,B1⟩
  rw [HN.out]
  exact⟨_,rfl⟩
 ·obtain⟨g,cap1,q,rfl,hg1,hg2,hcap,hq,hqa,hfr,HG0,HS⟩:=owns_last hown hm.out
  have HL:Hid (lastTr gs=some q.tr):=lastTr_of hm.out hq
  have HG:Hid (GdsAt w.heap.size w1 (some ⟨g,0,none⟩) gs):=AllAt.lower HG0 (by simp)
  have hgw:w.heap.size<g:=by simp at hg1;omega
  obtain⟨q0,q1,q2⟩:=hqa
  obtain⟨t0,t1,t2⟩:=q
  dsimp only at *
  have HSS:Hid _:=HS
  have HF:Hid _:=hfr
  have k1:((k:Int)+1 - 1)=k:=by omega
  have k2:(k:Int)≤cap1:=by omega
  have k3:(((k:Int)+1) == 0)=false:=by simp;omega
  clear hq HS HG0 hown hfr hg1
  cases t0
  ·have HN:Hid (changeF ⟨32,a,b,c,d⟩ gs=none):=by
    show _=_
    rw [HC.out,HL.out]
    simp
   clear HC HL HG HSS HF
   go_wp2_with fail
   go_ret2
   refine⟨?_,B1⟩
   rw [HN.out]
   exact⟨_,rfl⟩
  ·have HN:Hid (changeF ⟨32,a,b,c,d⟩ gs=some gs.dropLast):=by
    show _=_
    rw [HC.out,HL.out]
    simp
   have HK:Hid (gs.dropLast.length=k):=by show _=_;have:=hm.out;simp;omega
   clear HC HL HSS HF hgw
   go_wp2_with fail
   go_ret2
   refine⟨?_,B1⟩
   rw [HN.out]
   refine⟨some ⟨g,0,none⟩,cap1,?_,AllAt.dropLast HG.out⟩
   rw [HK.out]
   rfl
set_option maxRecDepth 100000 in
set_option maxHeartbeats 4000000 in
theorem l3change_36 (a b c d:Int) (ao:Option Addr) (cap m:Nat) (gs:List Gd) (w:World) (hm:Hid (gs.length=m)) (hml:m≤50) (hx:GdsAt 0 w ao gs) :
  Calls Tryz.prog 48 #[.agg #[.int .i64 36,.int .i64 a,.int .i64 b,.int .i64 c,.int .i64 d],.slice ao m cap] w fun e w'=>ChangePost w (changeF ⟨36,a,b,c,d⟩ gs) e w'∧Below w.heap.size w w':=by
 have N0:=Blk.new w #[.int .i64 36,.int .i64 a,.int .i64 b,.int .i64 c,.int .i64 d] 93
 have B0:=(Below.refl w.heap.size w).alloc (Nat.le_refl _) (.cells #[.int .i64 36,.int .i64 a,.int .i64 b,.int .i64 c,.int .i64 d] 93)
 have HC:Hid (changeF ⟨36,a,b,c,d⟩ gs=if lastTr gs=some false then some gs.dropLast else none):=by
  show _=_
  unfold changeF
  simp
 go_enter Tryz.func48,Tryz.ntmps48
 go_wp2_with fail
 refine (l3guards_at ao cap m gs _ hm hml (hx.later (Keeps.of_below B0))).mono ?_
 rintro e w1 ⟨v,rfl,hown,hw1⟩
 have B1:=B0.trans (hw1.mono (by simp))
 have n1:=(N0.later hw1).cell
 have N1:=N0.later hw1
 have hx1:=hx.later (Keeps.of_below B1)
 clear hw1 N0 B0
 rcases m with _ | k
 ·obtain⟨ao1,cap1,rfl⟩:=owns_slice hown
  clear hown
  have HN:Hid (changeF ⟨36,a,b,c,d⟩ gs=none):=by
   have:gs=[]:=List.length_eq_zero_iff.1 hm.out
   show _=_
   rw [HC.out,this]
   simp [lastTr]
  clear HC
  go_wp2_with fail
  go_ret2
  refine⟨?_,B1⟩
  rw [HN.out]
  exact⟨_,rfl⟩
 ·obtain⟨g,cap1,q,rfl,hg1,hg2,hcap,hq,hqa,hfr,HG0,HS⟩:=owns_last hown hm.out
  have HL:Hid (lastTr gs=some q.tr):=lastTr_of hm.out hq
  have HG:Hid (GdsAt w.heap.size w1 (some ⟨g,0,none⟩) gs):=AllAt.lower HG0 (by simp)
  have hgw:w.heap.size<g:=by simp at hg1;omega
  obtain⟨q0,q1,q2⟩:=hqa
  obtain⟨t0,t1,t2⟩:=q
  dsimp only at *
  have HSS:Hid _:=HS
  have HF:Hid _:=hfr
  have k1:((k:Int)+1 - 1)=k:=by omega
  have k2:(k:Int)≤cap1:=by omega
  have k3:(((k:Int)+1) == 0)=false:=by simp;omega
  clear hq HS HG0 hown hfr hg1
  cases t0
  ·have HN:Hid (changeF ⟨36,a,b,c,d⟩ gs=some gs.dropLast):=by
    show _=_
    rw [HC.out,HL.out]
    simp
   have HK:Hid (gs.dropLast.length=k):=by show _=_;have:=hm.out;simp;omega
   clear HC HL HSS HF hgw
   go_wp2_with fail
   go_ret2
   refine⟨?_,B1⟩
   rw [HN.out]
   refine⟨some ⟨g,0,none⟩,cap1,?_,AllAt.dropLast HG.out⟩
   rw [HK.out]
   rfl
  ·have HN:Hid (changeF ⟨36,a,b,c,d⟩ gs=none):=by
    show _=_
    rw [HC.out,HL.out]
    simp
   clear HC HL HG HSS HF
   go_wp2_with fail
   go_ret2
   refine⟨?_,B1⟩
   rw [HN.out]
   exact⟨_,rfl⟩
set_option maxRecDepth 100000 in
set_option maxHeartbeats 4000000 in
theorem l3change_35 (a b c d:Int) (ao:Option Addr) (cap m:Nat) (gs:List Gd) (w:World) (hm:Hid (gs.length=m)) (hml:m≤50) (hx:GdsAt 0 w ao gs) :
  Calls Tryz.prog 48 #[.agg #[.int .i64 35,.int .i64 a,.int .i64 b,.int .i64 c,.int .i64 d],.slice ao m cap] w fun e w'=>ChangePost w (changeF ⟨35,a,b,c,d⟩ gs) e w'∧Below w.heap.size w w':=by
 have N0:=Blk.new w #[.int .i64 35,.int .i64 a,.int .i64 b,.int .i64 c,.int .i64 d] 93
 have B0:=(Below.refl w.heap.size w).alloc (Nat.le_refl _) (.cells #[.int .i64 35,.int .i64 a,.int .i64 b,.int .i64 c,.int .i64 d] 93)
 have HC:Hid (changeF ⟨35,a,b,c,d⟩ gs=if lastTr gs=some false then some gs else none):=by
  show _=_
  unfold changeF
  simp
 go_enter Tryz.func48,Tryz.ntmps48
 go_wp2_with fail
 refine (l3guards_at ao cap m gs _ hm hml (hx.later (Keeps.of_below B0))).mono ?_
 rintro e w1 ⟨v,rfl,hown,hw1⟩
 have B1:=B0.trans (hw1.mono (by simp))
 have n1:=(N0.later hw1).cell
 have N1:=N0.later hw1
 have hx1:=hx.later (Keeps.of_below B1)
 clear hw1 N0 B0
 rcases m with _ | k
 ·obtain⟨ao1,cap1,rfl⟩:=owns_slice hown
  clear hown
  have HN:Hid (changeF ⟨35,a,b,c,d⟩ gs=none):=by
   have:gs=[]:=List.length_eq_zero_iff.1 hm.out
   show _=_
   rw [HC.out,this]
   simp [lastTr]
  clear HC
  go_wp2_with fail
  go_ret2
  refine⟨?_,B1⟩
  rw [HN.out]
  exact⟨_,rfl⟩
 ·obtain⟨g,cap1,q,rfl,hg1,hg2,hcap,hq,hqa,hfr,HG0,HS⟩:=owns_last hown hm.out
  have HL:Hid (lastTr gs=some q.tr):=lastTr_of hm.out hq
  have HG:Hid (GdsAt w.heap.size w1 (some ⟨g,0,none⟩) gs):=AllAt.lower HG0 (by simp)
  have hgw:w.heap.size<g:=by simp at hg1;omega
  obtain⟨q0,q1,q2⟩:=hqa
  obtain⟨t0,t1,t2⟩:=q
  dsimp only at *
  have HSS:Hid _:=HS
  have HF:Hid _:=hfr
  have k1:((k:Int)+1 - 1)=k:=by omega
  have k2:(k:Int)≤cap1:=by omega
  have k3:(((k:Int)+1) == 0)=false:=by simp;omega
  clear hq HS HG0 hown hfr hg1
  cases t0
  ·have HN:Hid (changeF ⟨35,a,b,c,d⟩ gs=some gs):=by
    show _=_
    rw [HC.out,HL.out]
    simp
   clear HC HL HSS HF hgw
   go_wp2_with fail
   go_ret2
   refine⟨?_,B1⟩
   rw [HN.out]
   refine⟨some ⟨g,0,none⟩,cap1,?_,HG.out⟩
   rw [hm.out]
   simp
  ·have HN:Hid (changeF ⟨35,a,b,c,d⟩ gs=none):=by
    show _=_
    rw [HC.out,HL.out]
    simp
   clear HC HL HG HSS HF
   go_wp2_with fail
   go_ret2
   refine⟨?_,B1⟩
   rw [HN.out]
   exact⟨_,rfl⟩
set_option maxRecDepth 100000 in
set_option maxHeartbeats 4000000 in
theorem l3change_34 (a b c d:Int) (ao:Option Addr) (cap m:Nat) (gs:List Gd) (w:World) (hm:Hid (gs.length=m)) (hml:m≤50) (hx:GdsAt 0 w ao gs) :
  Calls Tryz.prog 48 #[.agg #[.int .i64 34,.int .i64 a,.int .i64 b,.int .i64 c,.int .i64 d],.slice ao m cap] w fun e w'=>ChangePost w (changeF ⟨34,a,b,c,d⟩ gs) e w'∧Below w.heap.size w w':=by
 have N0:=Blk.new w #[.int .i64 34,.int .i64 a,.int .i64 b,.int .i64 c,.int .i64 d] 93
 have B0:=(Below.refl w.heap.size w).alloc (Nat.le_refl _) (.cells #[.int .i64 34,.int .i64 a,.int .i64 b,.int .i64 c,.int .i64 d] 93)
 have HC:Hid (changeF ⟨34,a,b,c,d⟩ gs=if lastTr gs=some false∧aboveB gs a=true then some (keepLast gs a) else none):=by
  show _=_
  unfold changeF
  simp
 go_enter Tryz.func48,Tryz.ntmps48
 go_wp2_with fail
 refine (l3guards_at ao cap m gs _ hm hml (hx.later (Keeps.of_below B0))).mono ?_
 rintro e w1 ⟨v,rfl,hown,hw1⟩
 have B1:=B0.trans (hw1.mono (by simp))
 have n1:=(N0.later hw1).cell
 have N1:=N0.later hw1
 have hx1:=hx.later (Keeps.of_below B1)
 clear hw1 N0 B0
 rcases m with _ | k
 ·obtain⟨ao1,cap1,rfl⟩:=owns_slice hown
  clear hown
  have HN:Hid (changeF ⟨34,a,b,c,d⟩ gs=none):=by
   have:gs=[]:=List.length_eq_zero_iff.1 hm.out
   show _=_
   rw [HC.out,this]
   simp [lastTr]
  clear HC
  go_wp2_with fail
  go_ret2
  refine⟨?_,B1⟩
  rw [HN.out]
  exact⟨_,rfl⟩
 ·obtain⟨g,cap1,q,rfl,hg1,hg2,hcap,hq,hqa,hfr,HG0,HS⟩:=owns_last hown hm.out
  have HL:Hid (lastTr gs=some q.tr):=lastTr_of hm.out hq
  have HG:Hid (GdsAt w.heap.size w1 (some ⟨g,0,none⟩) gs):=AllAt.lower HG0 (by simp)
  have hgw:w.heap.size<g:=by simp at hg1;omega
  obtain⟨q0,q1,q2⟩:=hqa
  obtain⟨t0,t1,t2⟩:=q
  dsimp only at *
  have HSE:Hid (∀x w2,Below w1.heap.size w1 w2→(w2.setCell ⟨g,k*3+1,none⟩ (.int .i64 x)).ownsRow w.heap.size 163 3 (.slice (some ⟨g,0,none⟩) (k+1) cap1) (k+1) (gds (keepLast gs x))):=by
   intro x w2 hw2
   rw [←gds_set hm.out]
   have h0:=(owns_below hown hw2).stored (k*3+1) (.int .i64 x)
   obtain⟨r1,r2 | ⟨g',c',cur,r3,r4,r5⟩⟩:=h0.1
   ·exact⟨r1,.inl r2⟩
   ·exact⟨r1,.inr ⟨g',c',cur,r3,by simp at r4;omega,r5⟩⟩
  have HSS:Hid _:=HS
  have HF:Hid _:=hfr
  have k1:((k:Int)+1 - 1)=k:=by omega
  have k2:(k:Int)≤cap1:=by omega
  have k3:(((k:Int)+1) == 0)=false:=by simp;omega
  clear hq HS HG0 hown hfr hg1
  cases t0
  ·have HA:Hid _:=fun w2 h=>l3above_at ao cap (k+1) gs a w2 hm hml h
   have HV:Hid (changeF ⟨34,a,b,c,d⟩ gs=if aboveB gs a=true then some (keepLast gs a) else none):=by
    show _=_
    rw [HC.out,HL.out]
    simp
   have c1:=n1
   go_wp2_with fail
   refine (HA.out _ hx1).mono ?_
   rintro e w2 ⟨rfl,hw2⟩
   have B2:=B1.trans (hw2.mono B1.size)
   have n2:=(N1.later hw2).cell
   have p0:=(hw2.cell (p:=⟨g,k*3,none⟩) hg2).trans q0
   have p1:=(hw2.cell (p:=⟨g,k*3+1,none⟩) hg2).trans q1
   have p2:=(hw2.cell (p:=⟨g,k*3+2,none⟩) hg2).trans q2
   have f1:=(hw2.frozen (p:=⟨g,k*3+1,none⟩) hg2).trans (HF.out _)
   have HW2:Hid _:=hw2
   clear q0 q1 q2 n1 c1 HL HC hw2
   cases hab:aboveB gs a
   ·have HN:Hid (changeF ⟨34,a,b,c,d⟩ gs=none):=by show _=_;rw [HV.out,hab];rfl
    clear hab HV
    go_wp2_with fail
    go_ret2
    refine⟨?_,B2⟩
    rw [HN.out]
    exact⟨_,rfl⟩
   ·have HN:Hid (changeF ⟨34,a,b,c,d⟩ gs=some (keepLast gs a)):=by show _=_;rw [HV.out,hab];rfl
    clear hab HV
    have HB3:Hid (Below w.heap.size w (w2.setCell ⟨g,k*3+1,none⟩ (.int .i64 a))):=B2.setCell (by dsimp only;omega) _
    have HO:Hid ((w2.setCell ⟨g,k*3+1,none⟩ (.int .i64 a)).ownsRow w.heap.size 163 3 (.slice (some ⟨g,0,none⟩) (k+1) cap1) (k+1) (gds (keepLast gs a))):=HSE.out a w2 HW2.out
    clear HSS HF hgw HW2 HSE
    go_wp2_with fail
    go_ret2
    refine⟨?_,HB3.out⟩
    rw [HN.out]
    obtain⟨h1,h2⟩:=owns_gds HO.out
    refine⟨some ⟨g,0,none⟩,cap1,?_,h1⟩
    rw [←h2]
    simp
  ·have HN:Hid (changeF ⟨34,a,b,c,d⟩ gs=none):=by
    show _=_
    rw [HC.out,HL.out]
    simp
   clear HC HL HG HSS HF
   go_wp2_with fail
   go_ret2
   refine⟨?_,B1⟩
   rw [HN.out]
   exact⟨_,rfl⟩
set_option maxRecDepth 100000 in
set_option maxHeartbeats 4000000 in
theorem l3change_other (op a b c d:Int) (ao:Option Addr) (cap m:Nat) (gs:List Gd) (w:World) (hm:Hid (gs.length=m)) (hml:m≤50) (hx:GdsAt 0 w ao gs) (h1:op≠31) (h2:op≠32) (h3:op≠33) (h4:op≠34) (h5:op≠35) (h6:op≠36) :
  Calls Tryz.prog 48 #[.agg #[.int .i64 op,.int .i64 a,.int .i64 b,.int .i64 c,.int .i64 d],.slice ao m cap] w fun e w'=>ChangePost w (changeF ⟨op,a,b,c,d⟩ gs) e w'∧Below w.heap.size w w':=by
 have N0:=Blk.new w #[.int .i64 op,.int .i64 a,.int .i64 b,.int .i64 c,.int .i64 d] 93
 have B0:=(Below.refl w.heap.size w).alloc (Nat.le_refl _) (.cells #[.int .i64 op,.int .i64 a,.int .i64 b,.int .i64 c,.int .i64 d] 93)
 have HC:Hid (changeF ⟨op,a,b,c,d⟩ gs=some gs):=by
  show _=_
  unfold changeF
  simp [h1,h2,h3,h4,h5,h6]
 have t1:(op == 31)=false:=by simpa using h1
 have t2:(op == 32)=false:=by simpa using h2
 have t3:(op == 33)=false:=by simpa using h3
 have t4:(op == 34)=false:=by simpa using h4
 have t5:(op == 35)=false:=by simpa using h5
 have t6:(op == 36)=false:=by simpa using h6
 clear h1 h2 h3 h4 h5 h6
 go_enter Tryz.func48,Tryz.ntmps48
 go_wp2_with fail
 refine (l3guards_at ao cap m gs _ hm hml (hx.later (Keeps.of_below B0))).mono ?_
 rintro e w1 ⟨v,rfl,hown,hw1⟩
 have B1:=B0.trans (hw1.mono (by simp))
 have n1:=(N0.later hw1).cell
 obtain⟨ao1,cap1,rfl⟩:=owns_slice hown
 have HG:Hid (GdsAt w.heap.size w1 ao1 gs):=AllAt.lower (owns_gds hown).1 (by simp)
 clear hw1 N0 B0 hown
 go_wp2_with fail
 go_ret2
 refine⟨?_,B1⟩
 rw [HC.out]
 refine⟨ao1,cap1,?_,HG.out⟩
 rw [hm.out]
 rfl
theorem l3change_any (n:Nd) (ao:Option Addr) (cap m:Nat) (gs:List Gd) (w:World) (hm:Hid (gs.length=m)) (hml:m≤50) (hx:GdsAt 0 w ao gs) :
  Calls Tryz.prog 48 #[n.val,.slice ao m cap] w fun e w'=>ChangePost w (changeF n gs) e w'∧Below w.heap.size w w':=by
 obtain⟨op,a,b,c,d⟩:=n
 by_cases h1:op=31
 ·subst h1;exact l3change_31 a b c d ao cap m gs w hm hml hx
 by_cases h2:op=32
 ·subst h2;exact l3change_32 a b c d ao cap m gs w hm hml hx
 by_cases h3:op=33
 ·subst h3;exact l3change_33 a b c d ao cap m gs w hm hml hx
 by_cases h4:op=34
 ·subst h4;exact l3change_34 a b c d ao cap m gs w hm hml hx
 by_cases h5:op=35
 ·subst h5;exact l3change_35 a b c d ao cap m gs w hm hml hx
 by_cases h6:op=36
 ·subst h6;exact l3change_36 a b c d ao cap m gs w hm hml hx
 exact l3change_other op a b c d ao cap m gs w hm hml hx h1 h2 h3 h4 h5 h6
end Go.Proofs.YtaakadmnhpboiaaGreatDoor
