import Derived.Test.YtaakadmnhpboiaaGreatDoorM11
import Derived.Test.YtaakadmnhpboiaaGreatDoorM14
namespace Go.Proofs.YtaakadmnhpboiaaGreatDoor
open Go.RowKit Go.Deep
theorem Tryz.info_next:(Tryz.prog.info? 110).map (fun i=>(i.zero,i.size,i.bytes))=some (some (.agg #[.int .i64 0,.bool false,.slice none 0 0,.slice none 0 0]),4,64):=by kernel_rfl
section
variable {w : World} {ops : Array Oper} {rest : List Oper} {o : Oper} {a : Act} {Q : Exit → Act → World → Prop}
theorem app_fol (hgd:o.guard=none) (s x:Operand) (ho:o.op=.call {callee:=.builtin .append,args:=#[s,x],argTypes:=#[107,107]})
  (base:Nat) (v:Value) (n:Nat) (xs cs:List Value) (B:Nat) (hs:a.eval s=v) (hown:w.ownsRow base 110 4 v n xs) (hx:a.eval x=.slice (some ⟨B,0,none⟩) 1 1) (hcl:cs.length=4) (h1:∀u ∈ cs,u.oneCell'=true) (hB:∀j,w.cell? ⟨B,j,none⟩=cs[j]?)
  (hn:n≤1048576) (hbase:base≤w.heap.size)
  (h:∀v' w',w'.ownsRow base 110 4 v' (n+1) (xs ++ cs)→w.grownBy w' v.ownBlock→wpList Tryz.prog ops Q rest (a.put o.dst v') w'):wpList Tryz.prog ops Q (o::rest) a w:=by
 obtain⟨i0,hi,hz0,hz1,hz2⟩:=info_parts Tryz.info_next
 refine wpList_append_own w hgd s x 107 ho base 110 i0 (.agg #[.int .i64 0,.bool false,.slice none 0 0,.slice none 0 0]) 4 64 Tryz.underlying107 hi hz0 hz1 hz2 rfl (by decide) v n xs hs hown ⟨B,0,none⟩ 1 1 cs hx (by rw [hcl]) ?_ h1 (by unfold maxLen;omega) (by omega) hbase ?_
 ·intro j q hj
  have h0:=(hB j).trans hj
  by_cases hj0:j=0
  ·subst hj0;simpa [Addr.add] using h0
  ·simpa [Addr.add,hj0] using h0
 ·intro v' w' h1 h2 _
  exact h v' w' h1 h2
end
def FolAt (lo:Nat) (w:World) (b o:Nat) (x:Nat × St):Prop:=
 w.cell? ⟨b,o,none⟩=some (.int .i64 x.1)∧w.cell? ⟨b,o+1,none⟩=some (.bool true)∧∃to tc go gc,w.cell? ⟨b,o+2,none⟩=some (.slice to x.2.types.length tc)∧w.cell? ⟨b,o+3,none⟩=some (.slice go x.2.guards.length gc)∧IntsAt lo w to x.2.types∧GdsAt lo w go x.2.guards
def FolsAt (lo:Nat) (w:World) (ao:Option Addr) (l:List (Nat × St)):Prop:=AllAt lo w ao 4 (FolAt lo w) l
theorem FolsAt.later {lo:Nat} {w w':World} {ao:Option Addr} {l:List (Nat × St)} (h:FolsAt lo w ao l) (hk:Keeps lo w w'):FolsAt lo w' ao l:=
 AllAt.later h hk fun _ _ _ hl hb _ ⟨h1,h2,to,tc,go,gc,h3,h4,h5,h6⟩=>⟨(hk.cell hl hb).trans h1,(hk.cell hl hb).trans h2,to,tc,go,gc,(hk.cell hl hb).trans h3,(hk.cell hl hb).trans h4,h5.later hk,h6.later hk⟩
def folC (x:Int) (tv gv:Value):List Value:=[.int .i64 x,.bool true,tv,gv]
theorem fol_at {lo base:Nat} {w:World} {g n cap:Nat} {xs:List Value} (h:w.ownsRow base 110 4 (.slice (some ⟨g,0,none⟩) n cap) n xs) (j x:Nat) (s:St) (to go:Option Addr) (tc gc:Nat) (hg:lo≤base)
  (h0:xs[j*4]?=some (.int .i64 x)) (h1:xs[j*4+1]?=some (.bool true)) (h2:xs[j*4+2]?=some (.slice to s.types.length tc)) (h3:xs[j*4+3]?=some (.slice go s.guards.length gc)) (ht:IntsAt lo w to s.types) (hgd:GdsAt lo w go s.guards) :
  ∃b off,(some ⟨g,0,none⟩:Option Addr)=some ⟨b,off,none⟩∧lo≤b∧b<w.heap.size∧FolAt lo w b (off+j*4) (x,s):=by
 have hl:=h.lt g rfl
 refine⟨g,0,rfl,by omega,hl.2,?_⟩
 rw [Nat.zero_add]
 exact⟨owns_cell h h0,owns_cell h h1,to,tc,go,gc,owns_cell h h2,owns_cell h h3,ht,hgd⟩
theorem fols_one {lo base:Nat} {w:World} {v:Value} {x:Nat} {s:St} {to go:Option Addr} {tc gc:Nat} (h:w.ownsRow base 110 4 v 1 (folC x (.slice to s.types.length tc) (.slice go s.guards.length gc))) (hg:lo≤base) (ht:IntsAt lo w to s.types) (hgd:GdsAt lo w go s.guards) :
  ∃ao cap,v=.slice ao 1 cap∧FolsAt lo w ao [(x,s)]:=by
 rcases owns_form h with ⟨_,h2⟩ | ⟨g,cap,rfl,_,_⟩
 ·cases h2
 ·refine⟨_,cap,rfl,?_⟩
  intro j y hy
  match j,hy with
  | 0,hy=>simp at hy;subst hy;exact fol_at h 0 x s to go tc gc hg rfl rfl rfl rfl ht hgd
theorem fols_two {lo base:Nat} {w:World} {v:Value} {x x':Nat} {s s':St} {to go to' go':Option Addr} {tc gc tc' gc':Nat} (h:w.ownsRow base 110 4 v 2 (folC x (.slice to s.types.length tc) (.slice go s.guards.length gc) ++ folC x' (.slice to' s'.types.length tc') (.slice go' s'.guards.length gc'))) (hg:lo≤base)
  (ht:IntsAt lo w to s.types) (hgd:GdsAt lo w go s.guards) (ht':IntsAt lo w to' s'.types) (hgd':GdsAt lo w go' s'.guards):∃ao cap,v=.slice ao 2 cap∧FolsAt lo w ao [(x,s),(x',s')]:=by
 rcases owns_form h with ⟨_,h2⟩ | ⟨g,cap,rfl,_,_⟩
 ·cases h2
 ·refine⟨_,cap,rfl,?_⟩
  intro j y hy
  match j,hy with
  | 0,hy=>simp at hy;subst hy;exact fol_at h 0 x s to go tc gc hg rfl rfl rfl rfl ht hgd
  | 1,hy=>simp at hy;subst hy;exact fol_at h 1 x' s' to' go' tc' gc' hg rfl rfl rfl rfl ht' hgd'
def FolPost (lo:Nat) (w:World) (l:List (Nat × St)) (e:Ending) (w':World):Prop:=(∃ao cap,e=.returned (.slice ao l.length cap)∧FolsAt lo w' ao l)∧Below w.heap.size w w'
theorem blk_four {w:World} {b:Nat} {x:Int} {r:Bool} {tv gv:Value} {t:TypeId} (h:Blk w b #[.int .i64 x,.bool r,tv,gv] t) (hr:r=true) (j:Nat):w.cell? ⟨b,j,none⟩=(folC x tv gv)[j]?:=by
 subst hr
 rw [h.cell j]
 unfold folC
 simp
def fillZ (ts:List Int) (b r:Nat):List Int:=ts.take b ++ (List.replicate (r - b) 0 ++ ts.drop r)
theorem fillZ_start {ts:List Int} {b:Nat} : fillZ ts b b=ts:=by unfold fillZ;simp
theorem fillZ_len {ts:List Int} {b r:Nat} (h1:b≤r) (h2:r≤ts.length):(fillZ ts b r).length=ts.length:=by unfold fillZ;simp;omega
theorem fillZ_end (ts:List Int) (b:Nat):fillZ ts b ts.length=ts.take b ++ List.replicate (ts.length - b) 0:=by unfold fillZ;simp
theorem fillZ_set {ts:List Int} {b r:Nat} (h1:b≤r) (h2:r<ts.length):(fillZ ts b r).set r 0=fillZ ts b (r+1):=by
 unfold fillZ
 rw [List.set_append_right _ _ (by simp;omega),List.set_append_right _ _ (by simp;omega),List.drop_eq_getElem_cons h2]
 congr 1
 simp only [List.length_take,List.length_replicate]
 rw [show r - min b ts.length - (r - b)=0 by omega,List.set_cons_zero,show r+1 - b=(r - b)+1 by omega,List.replicate_succ',List.append_assoc]
 rfl
theorem cell_fifth (w:World) (o1 o2 o3 o4:Obj) (x:Int) (tv gv:Value) (r:Bool) (t:TypeId) (hr:r=true) (j:Nat):(((((w.alloc o1).alloc o2).alloc o3).alloc o4).alloc (.cells #[.int .i64 x,.bool r,tv,gv] t)).cell? ⟨w.heap.size+4,j,none⟩=(folC x tv gv)[j]?:=by
 have h:=Blk.new ((((w.alloc o1).alloc o2).alloc o3).alloc o4) #[.int .i64 x,.bool r,tv,gv] t
 rw [nblk_alloc,nblk_alloc,nblk_alloc,nblk_alloc] at h
 exact blk_four h hr j
set_option maxRecDepth 100000 in
set_option maxHeartbeats 8000000 in
set_option maxRecDepth 100000 in
set_option maxHeartbeats 8000000 in
set_option maxRecDepth 100000 in
set_option maxHeartbeats 8000000 in
set_option maxRecDepth 100000 in
set_option maxHeartbeats 8000000 in
set_option maxRecDepth 100000 in
set_option maxHeartbeats 8000000 in
set_option maxRecDepth 100000 in
set_option maxHeartbeats 8000000 in
set_option maxRecDepth 100000 in
set_option maxHeartbeats 8000000 in
set_option maxRecDepth 100000 in
set_option maxHeartbeats 8000000 in
set_option maxRecDepth 100000 in
set_option maxHeartbeats 8000000 in
set_option maxRecDepth 100000 in
set_option maxHeartbeats 8000000 in
theorem l3followers_any (p:Pd) (h:Ph) (i lo np:Nat) (n:Nd) (rb:Bool) (bo bg to go:Option Addr) (bc bgc tc gc:Nat) (s:St) (ts:List Int) (gs:List Gd) (w:World) (hi:p.ins[i]?=some n) (hz:p.ins.length≤6000) (hn:InsFit np p n) (hr:p.regs≤250) (hsl:(s.types.length:Int)=p.regs) (htl:(ts.length:Int)=p.regs)
  (hp:InssAt 0 w h.io p.ins) (hlo:lo≤w.heap.size) (hbt:IntsAt lo w bo s.types) (hbg:GdsAt lo w bg s.guards) (ht:IntsAt lo w to ts) (hg:GdsAt lo w go gs) :
  Calls Tryz.prog 51 #[.agg (p.cells h),.int .i64 i,stV rb bo s.types.length bc bg s.guards.length bgc,.slice to ts.length tc,.slice go gs.length gc] w (FolPost lo w (folF n i s ts gs)):=by
 obtain⟨ib,io,hio,_,hil,q0,q1,q2,q3,q4⟩:=hp i n hi
 have hlt:i<p.ins.length:=(List.getElem?_eq_some_iff.1 hi).1
 obtain⟨f1,_,f3,f4,f5,_⟩:=fit_tab hn
 have hlo1:=hn.lo
 clear hp hn hi
 obtain⟨op,a,b,c,d⟩:=n
 obtain⟨o1,c1,o2,c2,o3,c3,o4,c4⟩:=h
 dsimp only [Pd.cells] at *
 subst hio
 have B4:∀o1 o2 o3 o4,Below w.heap.size w ((((w.alloc o1).alloc o2).alloc o3).alloc o4):=fun o1 o2 o3 o4=>((((Below.refl _ _).alloc (Nat.le_refl _) o1).alloc (by simp) o2).alloc (by simp;omega) o3).alloc (by simp;omega) o4
 have k1:(i:Int)<p.ins.length:=by omega
 have X4:=((Blk.new (w.alloc (.cells #[.string p.name,.int .i64 p.line,.int .i64 p.params,.bool p.rest,.int .i64 p.regs,.slice o1 p.ups.length c1,.slice o2 p.consts.length c2,.slice (some ⟨ib,io,none⟩) p.ins.length c3,.slice o4 p.named.length c4] 57)) #[.bool rb,.slice bo s.types.length bc,.slice bg s.guards.length bgc] 98).alloc (.cells #[.int .i64 op,.int .i64 a,.int .i64 b,.int .i64 c,.int .i64 d] 93)).alloc (.cells #[.bool true,.slice to ts.length tc,.slice go gs.length gc] 98)
 have N4:=(Blk.new ((w.alloc (.cells #[.string p.name,.int .i64 p.line,.int .i64 p.params,.bool p.rest,.int .i64 p.regs,.slice o1 p.ups.length c1,.slice o2 p.consts.length c2,.slice (some ⟨ib,io,none⟩) p.ins.length c3,.slice o4 p.named.length c4] 57)).alloc (.cells #[.bool rb,.slice bo s.types.length bc,.slice bg s.guards.length bgc] 98)) #[.int .i64 op,.int .i64 a,.int .i64 b,.int .i64 c,.int .i64 d] 93).alloc (.cells #[.bool true,.slice to ts.length tc,.slice go gs.length gc] 98)
 have S4:=Blk.new (((w.alloc (.cells #[.string p.name,.int .i64 p.line,.int .i64 p.params,.bool p.rest,.int .i64 p.regs,.slice o1 p.ups.length c1,.slice o2 p.consts.length c2,.slice (some ⟨ib,io,none⟩) p.ins.length c3,.slice o4 p.named.length c4] 57)).alloc (.cells #[.bool rb,.slice bo s.types.length bc,.slice bg s.guards.length bgc] 98)).alloc (.cells #[.int .i64 op,.int .i64 a,.int .i64 b,.int .i64 c,.int .i64 d] 93)) #[.bool true,.slice to ts.length tc,.slice go gs.length gc] 98
 rw [nblk_alloc] at X4
 rw [nblk_alloc,nblk_alloc] at N4
 rw [nblk_alloc,nblk_alloc,nblk_alloc] at S4
 unfold folF goF nextB stV
 dsimp only
 by_cases h19:op=19
 ·subst h19
  have ha:=(f3 rfl).1
  show Calls Tryz.prog 51 _ w (FolPost lo w [(a.toNat,⟨ts,gs⟩)])
  obtain⟨aN,rfl⟩:=Int.eq_ofNat_of_zero_le ha
  go_enter Tryz.func51,Tryz.ntmps51
  go_wp2_with (at_builtin;refine app_fol rfl _ _ rfl w.heap.size _ 0 [] (folC (aN:Int) (.slice to ts.length tc) (.slice go gs.length gc)) (w.heap.size+4) rfl (World.ownsRow_nil _ _ _ _) rfl rfl ?c0 ?c1 (by omega) ?c3 ?_)
  case c0=>intro u hu;simp [folC] at hu;rcases hu with rfl | rfl | rfl | rfl <;> rfl
  case c1=>intro j;rfl
  case c3=>first | omega | (simp;omega)
  ·intro v2 w2 H1 H2
   have B5:Below w.heap.size w w2:=((B4 _ _ _ _).alloc (by simp;omega) _).grown H2 (by simp;omega) (fun k hk=>by cases hk)
   obtain⟨ao,cap,rfl,HF⟩:=fols_one (x:=aN) (s:=⟨ts,gs⟩) (lo:=lo) H1 hlo (ht.later (Keeps.of_below B5)) (hg.later (Keeps.of_below B5))
   have HFF:Hid _:=HF
   clear H1 H2 HF ht hg X4 N4 S4
   go_wp2_with fail
   go_ret
   exact⟨⟨_,_,rfl,HFF.out⟩,B5⟩
 by_cases h29:op=29∨op=30
 ·rcases h29 with rfl | rfl
  all_goals
   show Calls Tryz.prog 51 _ w (FolPost lo w [])
   go_enter Tryz.func51,Tryz.ntmps51
   clear ht hg X4 N4 S4
   go_wp2_with fail
   go_ret
   exact⟨⟨_,_,rfl,fun j x hx=>by simp at hx⟩,B4 _ _ _ _⟩
 by_cases h20:op=20∨op=21∨op=38∨op=39
 ·rcases h20 with rfl | rfl | rfl | rfl
  all_goals
   have hb:=(f4 (by simp)).1
   show Calls Tryz.prog 51 _ w (FolPost lo w [(i+1,⟨ts,gs⟩),(b.toNat,⟨ts,gs⟩)])
   obtain⟨bN,rfl⟩:=Int.eq_ofNat_of_zero_le hb
   go_enter Tryz.func51,Tryz.ntmps51
   go_wp2_with (at_builtin;refine app_fol rfl _ _ rfl w.heap.size _ 0 [] (folC ((i:Int)+1) (.slice to ts.length tc) (.slice go gs.length gc)) (w.heap.size+4) rfl (World.ownsRow_nil _ _ _ _) rfl rfl ?c0 ?c1 (by omega) ?c3 ?_)
   case c0=>intro u hu;simp [folC] at hu;rcases hu with rfl | rfl | rfl | rfl <;> rfl
   case c1=>intro j;rfl
   case c3=>first | omega | (simp;omega)
   ·intro v2 w2 H1 H2
    have B5:Below w.heap.size w w2:=((B4 _ _ _ _).alloc (by simp;omega) _).grown H2 (by simp;omega) (fun k hk=>by cases hk)
    have N5:=blk_grown (N4.alloc _) H2 (by intro e;cases e)
    have S5:=blk_grown (S4.alloc _) H2 (by intro e;cases e)
    have n5:=N5.cell
    have s5:=S5.cell
    have hs5:=B5.size
    obtain⟨ao2,cap2,rfl⟩:=owns_slice H1
    clear H2 X4 N4 S4
    go_wp2_with (at_builtin;refine app_fol rfl _ _ rfl w.heap.size _ 1 (folC ((i:Int)+1) (.slice to ts.length tc) (.slice go gs.length gc)) (folC (bN:Int) (.slice to ts.length tc) (.slice go gs.length gc)) w2.heap.size rfl (H1.alloc _) rfl rfl ?c0 ?c1 (by omega) ?c3 ?_)
    case c0=>intro u hu;simp [folC] at hu;rcases hu with rfl | rfl | rfl | rfl <;> rfl
    case c1=>intro j;exact blk_four (Blk.new _ _ _) rfl _
    case c3=>first | omega | (simp;omega)
    ·intro v3 w3 H3 H4
     have B6:Below w.heap.size w w3:=(B5.alloc hs5 _).grown H4 (by simp;omega) (fun k hk=>(H1.lt k hk).1)
     obtain⟨ao,cap,rfl,HF⟩:=fols_two (x:=i+1) (x':=bN) (s:=⟨ts,gs⟩) (s':=⟨ts,gs⟩) (lo:=lo) H3 hlo (ht.later (Keeps.of_below B6)) (hg.later (Keeps.of_below B6)) (ht.later (Keeps.of_below B6)) (hg.later (Keeps.of_below B6))
     have HFF:Hid _:=HF
     clear H1 H3 H4 HF ht hg N5 S5 n5 s5
     go_wp2_with fail
     go_ret
     exact⟨⟨_,_,rfl,HFF.out⟩,B6⟩
 by_cases h41:op=41
 ·subst h41
  have hb:=(f4 (by simp)).1
  have hc:=(f5 rfl).1
  have hcl:c<s.types.length:=by have:=f5 rfl;omega
  have hcl2:c<ts.length:=by have:=f5 rfl;omega
  have htl:ts.length≤250:=by omega
  have hbt:=AllAt.lower hbt (Nat.zero_le _)
  show Calls Tryz.prog 51 _ w (FolPost lo w [(i+1,⟨ts,gs⟩),(b.toNat,⟨ts.set c.toNat (tyAt s.types c),gs⟩)])
  obtain⟨bN,rfl⟩:=Int.eq_ofNat_of_zero_le hb
  obtain⟨cN,rfl⟩:=Int.eq_ofNat_of_zero_le hc
  go_enter Tryz.func51,Tryz.ntmps51
  go_wp2_with (at_builtin;refine app_fol rfl _ _ rfl w.heap.size _ 0 [] (folC ((i:Int)+1) (.slice to ts.length tc) (.slice go gs.length gc)) (w.heap.size+4) rfl (World.ownsRow_nil _ _ _ _) rfl rfl ?c0 ?c1 (by omega) ?c3 ?_)
  case c0=>intro u hu;simp [folC] at hu;rcases hu with rfl | rfl | rfl | rfl <;> rfl
  case c1=>intro j;rfl
  case c3=>first | omega | (simp;omega)
  ·intro v2 w2 H1 H2
   have B5:Below w.heap.size w w2:=((B4 _ _ _ _).alloc (by simp;omega) _).grown H2 (by simp;omega) (fun k hk=>by cases hk)
   have X5:=blk_grown (X4.alloc _) H2 (by intro e;cases e)
   have N5:=blk_grown (N4.alloc _) H2 (by intro e;cases e)
   have n5:=N5.cell
   have hs5:=B5.size
   obtain⟨ao2,cap2,rfl⟩:=owns_slice H1
   have HST:Hid (∀(W W':World) (v:Value) (g cap:Nat),v=.slice (some ⟨g,0,none⟩) ts.length cap→W.ownsRow W'.heap.size 3 1 v ts.length (ints ts)→(W.drew.setCell ⟨g,cN,none⟩ (.int .i64 (tyAt s.types cN))).ownsRow W'.heap.size 3 1 v ts.length (ints (ts.set cN (tyAt s.types cN)))):=by
    rintro W W' v g cap rfl h
    have h1:=(owns_below h (Below.refl _ _).drew).stored cN (.int .i64 (tyAt s.types cN))
    rw [ints_set] at h1
    exact h1.1
   have htc:cN<s.types.length:=by omega
   obtain⟨xb,hxb⟩:=some_of_lt htc
   have HXB:Hid (tyAt s.types cN=xb):=by show _=_;unfold tyAt;simp [hxb]
   clear H2 X4 N4 S4
   go_wp2_with fail
   refine (l3copy_any to tc ts w2 (by omega) ((AllAt.lower (ht.later (Keeps.of_below B5)) (Nat.zero_le _)))).mono ?_
   rintro e w3 ⟨v3,rfl,H3,hw3⟩
   have B6:=B5.trans (hw3.mono hs5)
   have X6:=X5.later hw3
   have N6:=N5.later hw3
   have H6:=owns_below H1 hw3
   rcases owns_form H3 with ⟨_,h0⟩ | ⟨g,cap3,rfl,hg1,hg2⟩
   ·omega
   obtain⟨bb,bof,rfl,_,hbb,d0⟩:=hbt cN xb hxb
   unfold IntAt at d0
   rw [Nat.mul_one] at d0
   have d0:=(B6.cell (p:=⟨bb,bof+cN,none⟩) hbb).trans d0
   have hN6:=N5.lt
   have hneA:¬w.heap.size+1+1=g:=by omega
   have hneB:¬w.heap.size+1=g:=by omega
   have hneC:¬bb=g:=by omega
   have x6:=X6.cell
   have n6:=N6.cell
   have t6:=(H3.cellAt cN (by omega)).trans (ints_get (by omega))
   have f6:=H3.frozenAt cN
   have HS6:Hid _:=HST.out w3 w2 _ g cap3 rfl H3
   have kc:(cN:Int)<s.types.length:=by omega
   have kt:(cN:Int)<ts.length:=by omega
   clear hxb X5 N5 n5
   have n63:=N6.cell 3
   have x61:=X6.cell 1
   have HKP:Hid ((w3.setCell ⟨g,cN,none⟩ (.int .i64 xb)).drew.cell? ⟨w.heap.size+1+1,3,none⟩=some (.int .i64 cN)∧(w3.setCell ⟨g,cN,none⟩ (.int .i64 xb)).drew.cell? ⟨w.heap.size+1,1,none⟩=some (.slice (some ⟨bb,bof,none⟩) s.types.length bc)∧(w3.setCell ⟨g,cN,none⟩ (.int .i64 xb)).drew.cell? ⟨bb,bof+cN,none⟩=some (.int .i64 xb)):=
    ⟨(World.cell?_setCell_far _ _ _ _ (fun e=>hneA e.symm)).trans n63,(World.cell?_setCell_far _ _ _ _ (fun e=>hneB e.symm)).trans x61,(World.cell?_setCell_far _ _ _ _ (fun e=>hneC e.symm)).trans d0⟩
   go_wp2_with fail
   go_region_held3 (fun w'=>w'.cell? ⟨w.heap.size+1+1,3,none⟩=some (.int .i64 cN)∧w'.cell? ⟨w.heap.size+1,1,none⟩=some (.slice (some ⟨bb,bof,none⟩) s.types.length bc)∧w'.cell? ⟨bb,bof+cN,none⟩=some (.int .i64 xb)) (first | exact HKP.out | (go_keep;done)) (fail)
   have B7:Below w.heap.size w (w3.setCell ⟨g,cN,none⟩ (.int .i64 xb)).drew:=(B6.setCell (by dsimp only;omega) _).drew
   have N7:Blk (w3.setCell ⟨g,cN,none⟩ (.int .i64 xb)).drew (w.heap.size+1+1) _ _:=N6.setOther (p:=⟨g,cN,none⟩) hneA (.int .i64 xb)
   have H7:=owns_other H6 (w':=(w3.setCell ⟨g,cN,none⟩ (.int .i64 xb)).drew) (fun k hk=>Below.heap_setCell _ _ _ _ (by have:=(H1.lt k hk).2;dsimp only;omega))
   have T7:(w3.setCell ⟨g,cN,none⟩ (.int .i64 xb)).drew.ownsRow w2.heap.size 3 1 (.slice (some ⟨g,0,none⟩) ts.length cap3) ts.length (ints (ts.set cN xb)):=by
    have h1:=H3.stored cN (.int .i64 xb)
    rw [ints_set] at h1
    exact owns_other h1.1 (fun k hk=>rfl)
   have hs7:=B7.size
   clear HKP hneA hneB hneC n63 x61 x6 n6 t6 f6 d0 N6 X6 H6 H3 hw3 HS6
   generalize (w3.setCell ⟨g,cN,none⟩ (.int .i64 xb)).drew=w4 at *
   have n7:=N7.cell
   have HLT:Hid ((ts.set cN xb).length=ts.length):=by show _=_;simp
   go_wp2_with (at_builtin;refine app_fol rfl _ _ rfl w.heap.size _ 1 (folC ((i:Int)+1) (.slice to ts.length tc) (.slice go gs.length gc)) (folC (bN:Int) (.slice (some ⟨g,0,none⟩) ts.length cap3) (.slice go gs.length gc)) w4.heap.size rfl (H7.alloc _) rfl rfl ?c0 ?c1 (by omega) ?c3 ?_)
   case c0=>intro u hu;simp [folC] at hu;rcases hu with rfl | rfl | rfl | rfl <;> rfl
   case c1=>intro j;exact blk_four (Blk.new _ _ _) rfl _
   case c3=>first | omega | (simp;omega)
   ·intro v8 w8 H8 G8
    have B8:Below w.heap.size w w8:=(B7.alloc hs7 _).grown G8 (by simp;omega) (fun k hk=>(H7.lt k hk).1)
    have T8:=owns_grown (T7.alloc _) G8 (fun k hk e=>by have h1:=(T7.lt k hk).1;have h2:=(H1.lt k e.symm).2;omega)
    have I8:=AllAt.lower (owns_ints T8).1 (show lo≤w2.heap.size by omega)
    obtain⟨ao,cap,rfl,HF⟩:=fols_two (x:=i+1) (x':=bN) (s:=⟨ts,gs⟩) (s':=⟨ts.set cN xb,gs⟩) (lo:=lo) (to':=some ⟨g,0,none⟩) (tc':=cap3) (by rw [HLT.out];exact H8) hlo (ht.later (Keeps.of_below B8)) (hg.later (Keeps.of_below B8)) I8 (hg.later (Keeps.of_below B8))
    have HFF:Hid _:=HF
    clear H8 G8 HF ht hg N7 n7 H1 H7 T7 T8 I8
    go_wp2_with fail
    go_ret
    refine⟨⟨_,_,rfl,?_⟩,B8⟩
    have:=HFF.out
    rw [←HXB.out] at this
    exact this
 by_cases h31:op=31
 ·subst h31
  have ha:=(f1 rfl).1.1
  have hb:=(f1 rfl).2.1
  have hbl:b+2≤s.types.length:=by have:=f1 rfl;omega
  have hbl2:s.types.length≤250:=by omega
  show Calls Tryz.prog 51 _ w (FolPost lo w [(i+1,⟨ts,gs⟩),(a.toNat,⟨tryT b s.types,s.guards⟩)])
  obtain⟨aN,rfl⟩:=Int.eq_ofNat_of_zero_le ha
  obtain⟨bN,rfl⟩:=Int.eq_ofNat_of_zero_le hb
  go_enter Tryz.func51,Tryz.ntmps51
  go_wp2_with (at_builtin;refine app_fol rfl _ _ rfl w.heap.size _ 0 [] (folC ((i:Int)+1) (.slice to ts.length tc) (.slice go gs.length gc)) (w.heap.size+4) rfl (World.ownsRow_nil _ _ _ _) rfl rfl ?c0 ?c1 (by omega) ?c3 ?_)
  case c0=>intro u hu;simp [folC] at hu;rcases hu with rfl | rfl | rfl | rfl <;> rfl
  case c1=>intro j;rfl
  case c3=>first | omega | (simp;omega)
  ·intro v2 w2 H1 H2
   have B5:Below w.heap.size w w2:=((B4 _ _ _ _).alloc (by simp;omega) _).grown H2 (by simp;omega) (fun k hk=>by cases hk)
   have X5:=blk_grown (X4.alloc _) H2 (by intro e;cases e)
   have N5:=blk_grown (N4.alloc _) H2 (by intro e;cases e)
   have n5:=N5.cell
   have x5:=X5.cell
   have hs5:=B5.size
   have hN5:=N5.lt
   obtain⟨ao2,cap2,rfl⟩:=owns_slice H1
   clear H2 X4 N4 S4
   go_wp2_with fail
   refine (l3copy_any bo bc s.types w2 (by omega) (AllAt.lower (hbt.later (Keeps.of_below B5)) (Nat.zero_le _))).mono ?_
   rintro e w3 ⟨v3,rfl,H3,hw3⟩
   have B6:=B5.trans (hw3.mono hs5)
   have X6:=X5.later hw3
   have N6:=N5.later hw3
   have H6:=owns_below H1 hw3
   have hw3s:=hw3.size
   have n6:=N6.cell
   rcases owns_form H3 with ⟨_,h0⟩ | ⟨g,cap3,rfl,hg1,hg2⟩
   ·omega
   clear X5 N5 n5 x5 hw3
   go_wp2_with fail
   clear n6
   go_loopw [16] (fun y wi=>∃r:Nat,y=.int .i64 r∧bN≤r∧r≤s.types.length∧wi.ownsRow w2.heap.size 3 1 (.slice (some ⟨g,0,none⟩) s.types.length cap3) s.types.length (ints (fillZ s.types bN r))∧wi.ownsRow w.heap.size 110 4 (.slice ao2 1 cap2) 1 (folC ((i:Int)+1) (.slice to ts.length tc) (.slice go gs.length gc))∧Blk wi (w.heap.size+1) #[.bool rb,.slice bo s.types.length bc,.slice bg s.guards.length bgc] 98∧Blk wi (w.heap.size+1+1) #[.int .i64 31,.int .i64 aN,.int .i64 bN,.int .i64 c,.int .i64 d] 93∧Below w.heap.size w wi) (fun y _=>s.types.length - (intOf y).toNat)
   case atStart=>exact ⟨bN,rfl,Nat.le_refl _,by omega,by rw [fillZ_start];exact H3,H6,X6,N6,B6⟩
   case round=>
    obtain⟨r,rfl,hr1,hr2,T7,H7,X7,N7,B7⟩:=hrel
    clear H3 H6 X6 N6 B6 hg2
    by_cases hrl:r<s.types.length
    ·have t7:=(T7.cellAt r (by omega)).trans (ints_get (by rw [fillZ_len hr1 hr2];omega))
     have f7:=T7.frozenAt r
     have T8:=(T7.stored r (.int .i64 0)).1
     rw [ints_set,fillZ_set hr1 hrl] at T8
     have H8:=owns_other H7 (w':=wr.setCell ⟨g,r,none⟩ (.int .i64 0)) (fun k hk=>Below.heap_setCell _ _ _ _ (by have:=(H1.lt k hk).2;dsimp only;omega))
     have X8:=X7.setOther (p:=⟨g,r,none⟩) (by dsimp only;omega) (.int .i64 0)
     have N8:=N7.setOther (p:=⟨g,r,none⟩) (by dsimp only;omega) (.int .i64 0)
     have B8:=B7.setCell (p:=⟨g,r,none⟩) (by dsimp only;omega) (.int .i64 0)
     have k2:(r:Int)<s.types.length:=by omega
     go_wp2_with fail
     go_roundw
     case rel=>exact ⟨r+1,by go_num,by omega,by omega,T8,H8,X8,N8,B8⟩
     case measure=>simp [intOf];omega
    ·obtain rfl:r=s.types.length:=by omega
     have hlen:=fillZ_len hr1 hr2
     have t7:=(T7.cellAt bN (by omega)).trans (ints_get (by omega))
     have f7:=T7.frozenAt bN
     have T8:=(T7.stored bN (.int .i64 1)).1
     rw [ints_set] at T8
     have t8:=(T8.cellAt (bN+1) (by omega)).trans (ints_get (by simp;omega))
     have f8:=T8.frozenAt (bN+1)
     have T9:=(T8.stored (bN+1) (.int .i64 1)).1
     rw [ints_set] at T9
     have H8:=owns_other H7 (w':=wr.setCell ⟨g,bN,none⟩ (.int .i64 1)) (fun k hk=>Below.heap_setCell _ _ _ _ (by have:=(H1.lt k hk).2;dsimp only;omega))
     have H9:=owns_other H8 (w':=(wr.setCell ⟨g,bN,none⟩ (.int .i64 1)).setCell ⟨g,bN+1,none⟩ (.int .i64 1)) (fun k hk=>Below.heap_setCell _ _ _ _ (by have:=(H1.lt k hk).2;dsimp only;omega))
     have X9:=(X7.setOther (p:=⟨g,bN,none⟩) (by dsimp only;omega) (.int .i64 1)).setOther (p:=⟨g,bN+1,none⟩) (by dsimp only;omega) (.int .i64 1)
     have N8:=N7.setOther (p:=⟨g,bN,none⟩) (by dsimp only;omega) (.int .i64 1)
     have N9:=N8.setOther (p:=⟨g,bN+1,none⟩) (by dsimp only;omega) (.int .i64 1)
     have B9:=(B7.setCell (p:=⟨g,bN,none⟩) (by dsimp only;omega) (.int .i64 1)).setCell (p:=⟨g,bN+1,none⟩) (by dsimp only;omega) (.int .i64 1)
     have HTT:Hid (((fillZ s.types bN s.types.length).set bN 1).set (bN+1) 1=tryT bN s.types):=by
      show _=_
      unfold tryT
      rw [fillZ_end]
      rfl
     rw [HTT.out] at T9
     have HLT:Hid ((tryT bN s.types).length=s.types.length):=tryT_len (by simp;omega)
     have n7:=N7.cell 2
     have n8:=N8.cell 2
     have n9:=N9.cell
     have x9:=X9.cell
     have hs9:=B7.size
     have k2:(bN:Int)+1<s.types.length:=by omega
     have k3:(bN:Int)<s.types.length:=by omega
     have k4:¬(s.types.length:Int)<s.types.length:=by omega
     clear T7 H7 X7 N7 B7 T8 H8 N8 hlen
     go_wp2_with (at_builtin;refine app_fol rfl _ _ rfl w.heap.size _ 1 (folC ((i:Int)+1) (.slice to ts.length tc) (.slice go gs.length gc)) (folC (aN:Int) (.slice (some ⟨g,0,none⟩) s.types.length cap3) (.slice bg s.guards.length bgc)) wr.heap.size rfl (H9.alloc _) rfl rfl ?c0 ?c1 (by omega) ?c3 ?_)
     case c0=>intro u hu;simp [folC] at hu;rcases hu with rfl | rfl | rfl | rfl <;> rfl
     case c1=>intro j;rfl
     case c3=>first | omega | (simp;omega)
     ·intro v8 w8 H8 G8
      have B8:Below w.heap.size w w8:=(B9.alloc (by simp;omega) _).grown G8 (by simp;omega) (fun k hk=>(H9.lt k hk).1)
      have T8:=owns_grown (T9.alloc _) G8 (fun k hk e=>by have h1:=(T9.lt k hk).1;have h2:=(H1.lt k e.symm).2;omega)
      have I8:=AllAt.lower (owns_ints T8).1 (show lo≤w2.heap.size by omega)
      obtain⟨ao,cap,rfl,HF⟩:=fols_two (x:=i+1) (x':=aN) (s:=⟨ts,gs⟩) (s':=⟨tryT bN s.types,s.guards⟩) (lo:=lo) (to':=some ⟨g,0,none⟩) (tc':=cap3) (by rw [HLT.out];exact H8) hlo (ht.later (Keeps.of_below B8)) (hg.later (Keeps.of_below B8)) I8 (hbg.later (Keeps.of_below B8))
      have HFF:Hid _:=HF
      clear H8 G8 HF ht hg T8 I8 T9 H9 X9 N9 n7 n8 n9 x9 t7 t8 f7 f8 H1
      go_wp2_with fail
      go_ret
      exact⟨⟨_,_,rfl,HFF.out⟩,B8⟩
 have e1:(op != 19 && op != 29 && op != 30)=true:=by simp;omega
 rw [e1,if_pos rfl,if_neg h19,if_neg (by omega),if_neg h41,if_neg h31]
 show Calls Tryz.prog 51 _ w (FolPost lo w [(i+1,⟨ts,gs⟩)])
 have t19:(op == 19)=false:=by simp;omega
 have t29:(op == 29)=false:=by simp;omega
 have t30:(op == 30)=false:=by simp;omega
 have t20:(op == 20)=false:=by simp;omega
 have t21:(op == 21)=false:=by simp;omega
 have t38:(op == 38)=false:=by simp;omega
 have t39:(op == 39)=false:=by simp;omega
 have t41:(op == 41)=false:=by simp;omega
 have t31:(op == 31)=false:=by simp;omega
 have u19:(op != 19)=true:=by simp;omega
 have u29:(op != 29)=true:=by simp;omega
 have u30:(op != 30)=true:=by simp;omega
 clear h19 h29 h20 h41 h31 e1
 go_enter Tryz.func51,Tryz.ntmps51
 go_wp2_with (at_builtin;refine app_fol rfl _ _ rfl w.heap.size _ 0 [] (folC ((i:Int)+1) (.slice to ts.length tc) (.slice go gs.length gc)) (w.heap.size+4) rfl (World.ownsRow_nil _ _ _ _) rfl rfl ?c0 ?c1 (by omega) ?c3 ?_)
 case c0=>intro u hu;simp [folC] at hu;rcases hu with rfl | rfl | rfl | rfl <;> rfl
 case c1=>intro j;exact cell_fifth _ _ _ _ _ _ _ _ _ _ rfl _
 case c3=>first | omega | (simp;omega)
 ·intro v2 w2 H1 H2
  have B5:Below w.heap.size w w2:=((B4 _ _ _ _).alloc (by simp;omega) _).grown H2 (by simp;omega) (fun k hk=>by cases hk)
  obtain⟨ao,cap,rfl,HF⟩:=fols_one (x:=i+1) (s:=⟨ts,gs⟩) (lo:=lo) H1 hlo (ht.later (Keeps.of_below B5)) (hg.later (Keeps.of_below B5))
  have HFF:Hid _:=HF
  have N5:=blk_grown (N4.alloc _) H2 (by intro e;cases e)
  have n5:=N5.cell
  clear H1 H2 HF ht hg X4 N4 S4
  go_wp2_with fail
  go_ret
  exact⟨⟨_,_,rfl,HFF.out⟩,B5⟩
end Go.Proofs.YtaakadmnhpboiaaGreatDoor
