import Derived.Test.YtaakadmnhpboiaaGreatDoorM18
import Derived.Test.YtaakadmnhpboiaaGreatDoorM12
import Derived.Test.YtaakadmnhpboiaaGreatDoorM13
import Derived.Test.YtaakadmnhpboiaaGreatDoorM19
import Derived.Test.YtaakadmnhpboiaaGreatDoorM14
import Derived.Test.YtaakadmnhpboiaaGreatDoorM04
namespace Go.Proofs.YtaakadmnhpboiaaGreatDoor
open Go.RowKit Go.Deep
theorem l3kept_at (op na nb nc nd:Int) (p:Pd) (s:St) (tk ts:List Int) (kb:Bool) (go uo to vo:Option Addr) (gc uc tc vc:Nat) (W:World) (hs:StOk p s) (hr:p.regs≤250) (hk:tk.length≤4) (hl:ts.length=s.types.length) (hkb:keptF ⟨op,na,nb,nc,nd⟩ s.guards tk s.types ts=kb)
  (h1:GdsAt 0 W go s.guards) (h2:IntsAt 0 W uo tk) (h3:IntsAt 0 W to s.types) (h4:IntsAt 0 W vo ts) :
  Calls Tryz.prog 50 #[.agg #[.int .i64 op,.int .i64 na,.int .i64 nb,.int .i64 nc,.int .i64 nd],.slice go s.guards.length gc,.slice uo tk.length uc,.slice to s.types.length tc,.slice vo s.types.length vc] W fun e w'=>e=.returned (.bool kb)∧Below W.heap.size W w':=by
 have hlen:=hs.len
 have h:=l3kept_any ⟨op,na,nb,nc,nd⟩ go uo to vo gc uc tc vc s.guards tk s.types ts W hs.few (by omega) (by omega) hl (fun g hg=>by have:=(hs.keep g hg).2;omega) h1 h2 h3 h4
 rw [hl] at h
 subst hkb
 exact h
theorem l3followers_at (p:Pd) (h:Ph) (i lo np:Nat) (op na nb nc nd:Int) (bo bg to go:Option Addr) (bc bgc tc gc:Nat) (s:St) (ts:List Int) (gs:List Gd) (w:World) (hi:p.ins[i]?=some ⟨op,na,nb,nc,nd⟩) (hz:p.ins.length≤6000) (hn:InsFit np p ⟨op,na,nb,nc,nd⟩) (hr:p.regs≤250) (hs:StOk p s) (hl:ts.length=s.types.length)
  (hp:InssAt 0 w h.io p.ins) (hlo:lo≤w.heap.size) (hbt:IntsAt lo w bo s.types) (hbg:GdsAt lo w bg s.guards) (ht:IntsAt lo w to ts) (hg:GdsAt lo w go gs) :
  Calls Tryz.prog 51 #[.agg #[.string p.name,.int .i64 p.line,.int .i64 p.params,.bool p.rest,.int .i64 p.regs,.slice h.uo p.ups.length h.uc,.slice h.co p.consts.length h.cc,.slice h.io p.ins.length h.ic,.slice h.no p.named.length h.nc],.int .i64 i,.agg #[.bool true,.slice bo s.types.length bc,.slice bg s.guards.length bgc],.slice to s.types.length tc,.slice go gs.length gc] w
   fun e w'=>(∃ao cap,e=.returned (.slice ao (folF ⟨op,na,nb,nc,nd⟩ i s ts gs).length cap)∧FolsAt lo w' ao (folF ⟨op,na,nb,nc,nd⟩ i s ts gs))∧Below w.heap.size w w':=by
 have h1:=l3followers_any p h i lo np ⟨op,na,nb,nc,nd⟩ true bo bg to go bc bgc tc gc s ts gs w hi hz hn hr hs.len (by rw [hl];exact hs.len) hp hlo hbt hbg ht hg
 rw [hl] at h1
 exact h1
structure WkAt (w:World) (cao:Option Addr) (ccap:Nat) (ps:List Pd) (p:Pd) (h:Ph) (wr:World) (c:Cf):Prop where
 code:Blk wr w.heap.size #[.slice cao ps.length ccap] 31
 flt:Blk wr (w.heap.size+1) #[.int .i64 0,.int .i64 0,.int .i64 0] 27
 proto:Blk wr (w.heap.size+1+1) (p.cells h) 57
 sts:StsAt (w.heap.size+1+1+1+1+1) wr (w.heap.size+1+1+1) c.sts
 due:Blk wr (w.heap.size+1+1+1+1) (boolArr c.due) 4
 below:Below w.heap.size w wr
theorem WkAt.later {w:World} {cao:Option Addr} {ccap:Nat} {ps:List Pd} {p:Pd} {h:Ph} {wr wr':World} {c:Cf} (x:WkAt w cao ccap ps p h wr c) (hb:Below wr.heap.size wr wr'):WkAt w cao ccap ps p h wr' c:=
 ⟨x.code.later hb,x.flt.later hb,x.proto.later hb,x.sts.below hb,x.due.later hb,x.below.trans (hb.mono x.below.size)⟩
theorem WkAt.lt {w:World} {cao:Option Addr} {ccap:Nat} {ps:List Pd} {p:Pd} {h:Ph} {wr:World} {c:Cf} (x:WkAt w cao ccap ps p h wr c):w.heap.size+1+1+1+1<wr.heap.size:=x.due.lt
theorem WkAt.grown {w:World} {cao:Option Addr} {ccap:Nat} {ps:List Pd} {p:Pd} {h:Ph} {wr w1 wr':World} {c:Cf} {row:Option Nat} (x:WkAt w cao ccap ps p h wr c) (hb:Below wr.heap.size wr w1) (hg:w1.grownBy wr' row) (hr:∀k,row=some k→wr.heap.size≤k):WkAt w cao ccap ps p h wr' c:=
 x.later (hb.grown hg hb.size hr)
theorem sts_none_later {w w':World} {sb n:Nat} (h:∀lo,StsAt lo w sb (List.replicate n none)) (hb:w'.heap[sb]?=w.heap[sb]?):∀lo,StsAt lo w' sb (List.replicate n none):=by
 intro lo
 refine⟨(h lo).own.of_block hb,?_⟩
 intro j o hj
 obtain⟨to,tc,go,gc,h1,h2,h3,_,_⟩:=(h lo).at_ j o hj
 have hc:∀i,w'.cell? ⟨sb,i,none⟩=w.cell? ⟨sb,i,none⟩:=fun i=>World.cell?_of_block (w:=w) (a:=⟨sb,i,none⟩) hb
 have ho:o=none:=by rw [List.getElem?_replicate] at hj;split at hj <;> simp at hj;exact hj.symm
 subst ho
 exact⟨to,tc,go,gc,(hc _).trans h1,(hc _).trans h2,(hc _).trans h3,fun i x hx=>by simp [stT] at hx,fun i x hx=>by simp [stG] at hx⟩
theorem wk_start {w X X3:World} {cao:Option Addr} {ccap:Nat} {ps:List Pd} {p:Pd} {h:Ph} (hN:0<p.ins.length) (C5:Blk X w.heap.size #[.slice cao ps.length ccap] 31) (F5:Blk X (w.heap.size+1) #[.int .i64 0,.int .i64 0,.int .i64 0] 27) (P5:Blk X (w.heap.size+1+1) (p.cells h) 57)
  (D5:Blk X (w.heap.size+1+1+1+1) (boolArr (List.replicate p.ins.length false)) 4) (B5:Below w.heap.size w X) (S6:StsAt (w.heap.size+1+1+1+1+1) X3 (w.heap.size+1+1+1) ((List.replicate p.ins.length none).set 0 (some ⟨firstT p,[]⟩)))
  (hX:∀k,k≠w.heap.size+1+1+1→X3.heap[k]?=X.heap[k]?) (hB:Below w.heap.size w X3):WkAt w cao ccap ps p h (X3.setCell ⟨w.heap.size+1+1+1+1,0,none⟩ (.bool true)) (startC p):=by
 have hb:∀k,k≠w.heap.size+1+1+1+1→(X3.setCell ⟨w.heap.size+1+1+1+1,0,none⟩ (.bool true)).heap[k]?=X3.heap[k]?:=fun k hk=>Below.heap_setCell _ _ _ _ hk
 have _:=B5
 have _:=hN
 refine⟨(hb _ (by omega)).trans ((hX _ (by omega)).trans C5),(hb _ (by omega)).trans ((hX _ (by omega)).trans F5),(hb _ (by omega)).trans ((hX _ (by omega)).trans P5),?_,?_,hB.setCell (by dsimp only;omega) _⟩
 ·exact S6.later ((Keeps.refl _ _).setCell (by dsimp only;omega) _) (hb _ (by omega))
 ·have h1:Blk X3 (w.heap.size+1+1+1+1) (boolArr (List.replicate p.ins.length false)) 4:=(hX _ (by omega)).trans D5
  have h2:=h1.set 0 (.bool true)
  rw [boolArr_set] at h2
  exact h2
theorem leastDue_all {d:List Bool} (h:∀j,j<d.length→d.getD j false=false):leastDue d=none:=by
 unfold leastDue
 rw [List.findIdx?_eq_none_iff]
 intro b hb
 obtain⟨j,hj⟩:=List.getElem?_of_mem hb
 have hl:=(List.getElem?_eq_some_iff.1 hj).1
 have:=h j hl
 rw [List.getD_eq_getElem?_getD,hj] at this
 simpa using this
theorem leastDue_at {d:List Bool} {a:Nat} (h:∀j,j<a→d.getD j false=false) (ha:d.getD a false=true):leastDue d=some a:=by
 have hl:a<d.length:=by
  refine Classical.byContradiction fun hn=>?_
  rw [List.getD_eq_getElem?_getD,List.getElem?_eq_none (by omega)] at ha
  cases ha
 unfold leastDue
 rw [List.findIdx?_eq_some_iff_getElem]
 refine⟨hl,by simpa [List.getD_eq_getElem?_getD,hl] using ha,?_⟩
 intro j hj
 have:=h j hj
 simpa [List.getD_eq_getElem?_getD,show j<d.length by omega] using this
theorem walk_end {ps:List Pd} {p:Pd} {g:Nat} {c:Cf} (hg:0<g) (h:leastDue c.due=none):walkF ps p g c=.ok c:=by
 obtain⟨f,rfl⟩:∃f,g=f+1:=⟨g - 1,by omega⟩
 unfold walkF
 rw [h]
theorem walk_bad {ps:List Pd} {p:Pd} {g a:Nat} {c:Cf} {e:Nat × Nat} (hg:0<g) (h:leastDue c.due=some a) (hr:roundF ps p c a=.error e):walkF ps p g c=.error e:=by
 obtain⟨f,rfl⟩:∃f,g=f+1:=⟨g - 1,by omega⟩
 unfold walkF
 rw [h]
 dsimp only
 rw [hr]
theorem walk_on {ps:List Pd} {p:Pd} {g a:Nat} {c c':Cf} (hg:0<g) (h:leastDue c.due=some a) (hr:roundF ps p c a=.ok c'):walkF ps p g c=walkF ps p (g - 1) c':=by
 obtain⟨f,rfl⟩:∃f,g=f+1:=⟨g - 1,by omega⟩
 rw [Nat.add_sub_cancel]
 conv=>lhs;unfold walkF
 rw [h]
 dsimp only
 rw [hr]
theorem st_get {c:Cf} {i:Nat} {o:Option St} (h:c.sts[i]?=some o):c.st i=o:=by unfold Cf.st;rw [List.getD_eq_getElem?_getD,h];rfl
theorem proto9 {w:World} {b:Nat} {p:Pd} {h:Ph} {t:TypeId} (x:Blk w b (p.cells h) t):w.cell? ⟨b,0,none⟩=some (.string p.name)∧w.cell? ⟨b,1,none⟩=some (.int .i64 p.line)∧w.cell? ⟨b,2,none⟩=some (.int .i64 p.params)∧w.cell? ⟨b,3,none⟩=some (.bool p.rest)∧w.cell? ⟨b,4,none⟩=some (.int .i64 p.regs)∧
  w.cell? ⟨b,5,none⟩=some (.slice h.uo p.ups.length h.uc)∧w.cell? ⟨b,6,none⟩=some (.slice h.co p.consts.length h.cc)∧w.cell? ⟨b,7,none⟩=some (.slice h.io p.ins.length h.ic)∧w.cell? ⟨b,8,none⟩=some (.slice h.no p.named.length h.nc):=
 ⟨x.cell 0,x.cell 1,x.cell 2,x.cell 3,x.cell 4,x.cell 5,x.cell 6,x.cell 7,x.cell 8⟩
theorem WkAt.setDue {w:World} {cao:Option Addr} {ccap:Nat} {ps:List Pd} {p:Pd} {h:Ph} {wr:World} {c:Cf} (x:WkAt w cao ccap ps p h wr c) {a:Nat} (b:Bool):WkAt w cao ccap ps p h (wr.setCell ⟨w.heap.size+1+1+1+1,a,none⟩ (.bool b)) ⟨c.sts,c.due.set a b⟩:=by
 have hb:∀k,k≠w.heap.size+1+1+1+1→(wr.setCell ⟨w.heap.size+1+1+1+1,a,none⟩ (.bool b)).heap[k]?=wr.heap[k]?:=fun k hk=>Below.heap_setCell _ _ _ _ hk
 have h2:=x.due.set a (.bool b)
 rw [boolArr_set] at h2
 exact⟨(hb _ (by omega)).trans x.code,(hb _ (by omega)).trans x.flt,(hb _ (by omega)).trans x.proto,x.sts.later ((Keeps.refl _ _).setCell (by dsimp only;omega) _) (hb _ (by omega)),h2,x.below.setCell (by dsimp only;omega) _⟩
theorem Tryz.size_Proto:(Tryz.prog.info? 57).map (·.size)=some 9:=by kernel_rfl
theorem Tryz.und_Proto:Tryz.prog.underlying 57=some (.struct (Tryz.prog.fieldsOf 57)):=by kernel_rfl
theorem keeps_grown {a b:World} {row:Option Nat} {lo:Nat} (h:a.grownBy b row) (hr:∀k,row=some k→k<lo):Keeps lo a b:=
 ⟨h.size,fun k hk hs=>h.block k hs (fun e=>by have:=hr k e.symm;omega)⟩
theorem load_proto {ops:Array Oper} {rest:List Oper} {o:Oper} {a:Act} {w:World} {Q:Exit→Act→World→Prop} (x:Operand) (hw:Region.wanted o (yielded ops a.tmps)=true) (ho:o.op=.load 57 x)
  (g:Nat) (hx:a.eval x=.pointer (some ⟨g,0,none⟩)) (cs:Array Value) (hg:Blk w g cs 57) (hs:cs.size=9)
  (h:wpList Tryz.prog ops Q rest (a.put o.dst (.agg cs)) w):wpList Tryz.prog ops Q (o::rest) a w:=
 wpList_step fun K hK=>by
  rw [if_pos hw]
  exact wp_load_row 57 x ho g hx 57 cs (0,0) _ hg Tryz.und_Proto rfl (by rw [hs];exact Tryz.size_Proto) (hK _ _ h)
theorem folF_len (n:Nd) (a:Nat) (s:St) (ts:List Int) (gs:List Gd):(folF n a s ts gs).length≤2:=by
 unfold folF goF
 rw [List.length_append]
 have h1:(if nextB n then [(a+1,(⟨ts,gs⟩:St))] else []).length≤1:=by split <;> simp
 have h2:(if n.op=19 then [(n.a.toNat,(⟨ts,gs⟩:St))] else if n.op=20∨n.op=21∨n.op=38∨n.op=39 then [(n.b.toNat,⟨ts,gs⟩)] else if n.op=41 then [(n.b.toNat,⟨ts.set n.c.toNat (tyAt s.types n.c),gs⟩)] else if n.op=31 then [(n.a.toNat,⟨tryT n.b s.types,s.guards⟩)] else []).length≤1:=by repeat (first | split | simp)
 omega
def pathC:List Nat→Code→Code
 | [],c=>c
 | 0::p,.seq a _=>pathC p a
 | 1::p,.seq _ b=>pathC p b
 | 0::p,.cond _ a _=>pathC p a
 | 1::p,.cond _ _ b=>pathC p b
 | 0::p,.loop c=>pathC p c
 | 0::p,.block _ c=>pathC p c
 | _,_=>.skip
noncomputable def pcFinal:Code:=pathC [1,1,1,1,1,1,1,1,1,0,0,0,1,1,0,1,0,0,1,0] (Tryz.f22.body.getD .skip)
noncomputable def pcRound:Code:=pathC [1,1,1,1,1,1,1,1,1,0,0] (Tryz.f22.body.getD .skip)
noncomputable def pcTail:Code:=pathC [1,1,1,1,1,1,1,1,1,0,0,0,1,1,1] (Tryz.f22.body.getD .skip)
noncomputable def pcFols:Code:=pathC [1,1,1,1,1,1,1,1,1,0,0,0,1,1,1,1,1,1,1,1,1,1,1,1,1,0] (Tryz.f22.body.getD .skip)
def WkPost (w:World) (ps:List Pd) (p:Pd) (pi:Nat) (e:Ending) (w':World):Prop:=(∃v,e=.returned (.tuple #[v,faultV (verF ps p pi)]))∧Below w.heap.size w w'
theorem WkAt.put {w:World} {cao:Option Addr} {ccap:Nat} {ps:List Pd} {p:Pd} {h:Ph} {wr:World} {c:Cf} (x:WkAt w cao ccap ps p h wr c) {k:Nat} (hk:k<c.sts.length) {s:St} {to go:Option Addr} {tc gc:Nat} (ht:IntsAt (w.heap.size+1+1+1+1+1) wr to s.types) (hg:GdsAt (w.heap.size+1+1+1+1+1) wr go s.guards) :
  WkAt w cao ccap ps p h (((wr.setCell ⟨w.heap.size+1+1+1,k*3,none⟩ (.bool true)).setCell ⟨w.heap.size+1+1+1,k*3+1,none⟩ (.slice to s.types.length tc)).setCell ⟨w.heap.size+1+1+1,k*3+2,none⟩ (.slice go s.guards.length gc)) ⟨c.sts.set k (some s),c.due⟩:=by
 have hb:∀j,j≠w.heap.size+1+1+1→(((wr.setCell ⟨w.heap.size+1+1+1,k*3,none⟩ (.bool true)).setCell ⟨w.heap.size+1+1+1,k*3+1,none⟩ (.slice to s.types.length tc)).setCell ⟨w.heap.size+1+1+1,k*3+2,none⟩ (.slice go s.guards.length gc)).heap[j]?=wr.heap[j]?:=fun j hj=>by
  rw [Below.heap_setCell _ _ _ _ hj,Below.heap_setCell _ _ _ _ hj,Below.heap_setCell _ _ _ _ hj]
 exact⟨(hb _ (by omega)).trans x.code,(hb _ (by omega)).trans x.flt,(hb _ (by omega)).trans x.proto,x.sts.put hk (by omega) ht hg,(hb _ (by omega)).trans x.due,((x.below.setCell (by dsimp only;omega) _).setCell (by dsimp only;omega) _).setCell (by dsimp only;omega) _⟩
theorem follow_cons {c:Cf} {x:Nat} {s:St} {r:List (Nat × St)} : followF c ((x,s)::r)=match reachF c x s with | none=>.error (13,x) | some c'=>followF c' r:=rfl
theorem fol_next {fl:List (Nat × St)} {j x:Nat} {s:St} (h:fl[j]?=some (x,s)):fl.drop j=(x,s)::fl.drop (j+1):=by
 obtain⟨hl,he⟩:=List.getElem?_eq_some_iff.1 h
 rw [List.drop_eq_getElem_cons hl,he]
theorem reach_new {c:Cf} {x:Nat} {s:St} (h:c.st x=none):reachF c x s=some ⟨c.sts.set x (some s),c.due.set x true⟩:=by unfold reachF;rw [h]
theorem reach_old {c:Cf} {x:Nat} {s t:St} (h:c.st x=some t):reachF c x s=if t=s then some c else none:=by unfold reachF;rw [h]
theorem st_same {t s:St} : (decide (t.types=s.types) && decide (t.guards=s.guards))=decide (t=s):=by
 obtain⟨a,b⟩:=t
 obtain⟨a2,b2⟩:=s
 rw [Bool.eq_iff_iff]
 simp
theorem equalInt_at (o1 o2:Option Addr) (c1 c2 n m:Nat) (t1 t2:List Int) (w:World) (e1:t1.length=n) (e2:t2.length=m) (l1:n≤1048576) (h1:IntsAt 0 w o1 t1) (h2:IntsAt 0 w o2 t2) :
  Calls Tryz.prog 110 #[.slice o1 n c1,.slice o2 m c2] w fun e w'=>e=.returned (.bool (decide (t1=t2)))∧Below w.heap.size w w':=by
 subst e1
 subst e2
 exact equalInt_any o1 o2 c1 c2 t1 t2 w l1 h1 h2
set_option maxRecDepth 100000 in
set_option maxHeartbeats 1600000 in
theorem keptStay_any (keep:Nat) (to bo ao:Option Addr) (tc bc ac:Nat) (tk bs cs:List Int) (w:World) (ht:tk.length≤1000) (hb:keep≤bs.length) (hc:keep≤cs.length) (hbl:bs.length≤250) (hbc:keep≤bc) (hac:keep≤ac) (h1:IntsAt 0 w to tk) (h2:IntsAt 0 w bo bs) (h3:IntsAt 0 w ao cs) :
  Calls Tryz.prog 119 #[.int .i64 keep,.slice to tk.length tc,.slice bo bs.length bc,.slice ao cs.length ac] w fun e w'=>e=.returned (.bool (stayB keep tk bs cs))∧Below w.heap.size w w':=by
 have HE:Hid (∀W,Below w.heap.size w W→Calls Tryz.prog 110 #[.slice bo keep bc,.slice ao keep ac] W fun e w'=>e=.returned (.bool (sameBelow keep bs cs))∧Below W.heap.size W w'):=
  fun W hW=>equalInt_at bo ao bc ac keep keep (bs.take keep) (cs.take keep) W (by simp;omega) (by simp;omega) (by omega) (AllAt.take (h2.later (Keeps.of_below hW)) keep) (AllAt.take (h3.later (Keeps.of_below hW)) keep)
 have kb:(keep:Int)≤bc:=by omega
 have ka:(keep:Int)≤ac:=by omega
 clear hb hc h2 h3 hbc hac
 go_enter Tryz.func119,Tryz.ntmps119
 go_wp2_with fail
 go_loopw [13] (fun y wr=>∃j:Nat,j≤tk.length∧y=.int .i64 j∧Hid (notBelow keep (tk.drop j)=notBelow keep tk)∧wr=w) (fun y _=>tk.length - (intOf y).toNat)
 case atStart=>exact ⟨0,Nat.zero_le _,rfl,rfl,rfl⟩
 case round=>
  obtain⟨j,hj,rfl,HQ,rfl⟩:=hrel
  by_cases hjl:j<tk.length
  ·obtain⟨t,htk⟩:=some_of_lt hjl
   obtain⟨bb,off,rfl,_,hbl2,p0⟩:=h1 j t htk
   unfold IntAt at p0
   rw [Nat.mul_one] at p0
   have HD:Hid _:=HQ.out.symm.trans (notBelow_drop htk)
   clear htk HQ
   by_cases hlt:t<keep
   ·have HN:Hid (stayB keep tk bs cs=false):=by
     show _=_
     unfold stayB
     rw [HD.out]
     simp [hlt]
    clear HD
    go_wp2_with fail
    go_ret
    exact⟨ret_bool HN.out.symm,Below.refl _ _⟩
   ·have HN:Hid (notBelow keep (tk.drop (j+1))=notBelow keep tk):=by show _=_;rw [HD.out];simp [hlt]
    clear HD
    go_wp2_with fail
    go_roundw
    case rel=>exact ⟨j+1,by omega,by go_num,HN.out,trivial⟩
    case measure=>simp [intOf];omega
  ·have HN:Hid (stayB keep tk bs cs=sameBelow keep bs cs):=by
    have h:=HQ.out
    rw [List.drop_of_length_le (by omega)] at h
    show _=_
    unfold stayB
    rw [←h]
    rfl
   clear HQ
   go_wp2_with fail
   go_region_held3 (fun _=>True) (trivial)
    (first | (go_at_call 110;refine (HE.out wr.drew (Below.refl _ _).drew).mono ?_;rintro e w2 ⟨rfl,hw2⟩))
   go_wp2_with fail
   go_ret
   exact⟨ret_bool HN.out.symm,(Below.refl _ _).drew.trans hw2⟩
theorem keptBelow_at (ao:Option Addr) (cap m:Nat) (gs:List Gd) (w:World) (hm:Hid (gs.length=m)) (hml:m≤50) (hx:GdsAt 0 w ao gs) :
  Calls Tryz.prog 120 #[.slice ao m cap] w fun e w'=>e=.returned (.int .i64 (maxKeep gs))∧Below w.heap.size w w':=by
 obtain rfl:=hm.out
 exact keptBelow_any ao cap gs w (by omega) hx
set_option maxRecDepth 100000 in
set_option maxHeartbeats 3200000 in
theorem guardsFit_31 (a b c d:Int) (ao:Option Addr) (cap m:Nat) (gs:List Gd) (w:World) (hm:Hid (gs.length=m)) (hml:m≤50) (hx:GdsAt 0 w ao gs) :
  Calls Tryz.prog 116 #[.agg #[.int .i64 31,.int .i64 a,.int .i64 b,.int .i64 c,.int .i64 d],.slice ao m cap] w fun e w'=>e=.returned (.bool (gfitB ⟨31,a,b,c,d⟩ gs))∧Below w.heap.size w w':=by
 have N0:=Blk.new w #[.int .i64 31,.int .i64 a,.int .i64 b,.int .i64 c,.int .i64 d] 93
 have B0:=(Below.refl w.heap.size w).alloc (Nat.le_refl _) (.cells #[.int .i64 31,.int .i64 a,.int .i64 b,.int .i64 c,.int .i64 d] 93)
 have HB:Hid (gfitB ⟨31,a,b,c,d⟩ gs=(decide (m<50) && decide (maxKeep gs≤b))):=by
  show _=_
  try rw [←hm.out]
  unfold gfitB
  simp
 go_enter Tryz.func116,Tryz.ntmps116
 go_wp2_with fail
 refine (keptBelow_at ao cap m gs _ hm hml (hx.later (Keeps.of_below B0))).mono ?_
 rintro e w1 ⟨rfl,hw1⟩
 have B1:=B0.trans (hw1.mono (by simp))
 have n1:=(N0.later hw1).cell
 have hx1:=hx.later (Keeps.of_below B1)
 generalize maxKeep gs=mk at *
 clear hw1 N0 B0 hx
 rcases m with _ | k
 ·have HL:Hid (lastTr gs=none):=by have:gs=[]:=List.length_eq_zero_iff.1 hm.out;show _=_;rw [this];rfl
  have hx1':=hx1
  clear hx1 hx1'
  go_wp2_with fail
  all_goals
   go_ret
   refine⟨ret_bool ?_,B1⟩
   rw [HB.out]
   simp
   try omega
 ·obtain⟨q,hq⟩:=some_of_lt (show k<gs.length by rw [hm.out];omega)
  obtain⟨gb,gof,rfl,_,hgl,q0,_,_⟩:=hx1 k q hq
  have HL:Hid (lastTr gs=some q.tr):=lastTr_of hm.out hq
  obtain⟨t0,t1,t2⟩:=q
  dsimp only at *
  have k1:((k:Int)+1 - 1)=k:=by omega
  have k2:(0:Int)<(k:Int)+1:=by omega
  clear hq hx1
  cases t0
  ·go_wp2_with fail
   all_goals
    go_ret
    refine⟨ret_bool ?_,B1⟩
    rw [HB.out]
    simp
    try omega
  ·go_wp2_with fail
   all_goals
    go_ret
    refine⟨ret_bool ?_,B1⟩
    rw [HB.out]
    simp
    try omega
set_option maxRecDepth 100000 in
set_option maxHeartbeats 3200000 in
theorem guardsFit_33 (a b c d:Int) (ao:Option Addr) (cap m:Nat) (gs:List Gd) (w:World) (hm:Hid (gs.length=m)) (hml:m≤50) (hx:GdsAt 0 w ao gs) :
  Calls Tryz.prog 116 #[.agg #[.int .i64 33,.int .i64 a,.int .i64 b,.int .i64 c,.int .i64 d],.slice ao m cap] w fun e w'=>e=.returned (.bool (gfitB ⟨33,a,b,c,d⟩ gs))∧Below w.heap.size w w':=by
 have N0:=Blk.new w #[.int .i64 33,.int .i64 a,.int .i64 b,.int .i64 c,.int .i64 d] 93
 have B0:=(Below.refl w.heap.size w).alloc (Nat.le_refl _) (.cells #[.int .i64 33,.int .i64 a,.int .i64 b,.int .i64 c,.int .i64 d] 93)
 have HB:Hid (gfitB ⟨33,a,b,c,d⟩ gs=(decide (m<50) && decide (maxKeep gs≤a))):=by
  show _=_
  try rw [←hm.out]
  unfold gfitB
  simp
 go_enter Tryz.func116,Tryz.ntmps116
 go_wp2_with fail
 refine (keptBelow_at ao cap m gs _ hm hml (hx.later (Keeps.of_below B0))).mono ?_
 rintro e w1 ⟨rfl,hw1⟩
 have B1:=B0.trans (hw1.mono (by simp))
 have n1:=(N0.later hw1).cell
 have hx1:=hx.later (Keeps.of_below B1)
 generalize maxKeep gs=mk at *
 clear hw1 N0 B0 hx
 rcases m with _ | k
 ·have HL:Hid (lastTr gs=none):=by have:gs=[]:=List.length_eq_zero_iff.1 hm.out;show _=_;rw [this];rfl
  have hx1':=hx1
  clear hx1 hx1'
  go_wp2_with fail
  all_goals
   go_ret
   refine⟨ret_bool ?_,B1⟩
   rw [HB.out]
   simp
   try omega
 ·obtain⟨q,hq⟩:=some_of_lt (show k<gs.length by rw [hm.out];omega)
  obtain⟨gb,gof,rfl,_,hgl,q0,_,_⟩:=hx1 k q hq
  have HL:Hid (lastTr gs=some q.tr):=lastTr_of hm.out hq
  obtain⟨t0,t1,t2⟩:=q
  dsimp only at *
  have k1:((k:Int)+1 - 1)=k:=by omega
  have k2:(0:Int)<(k:Int)+1:=by omega
  clear hq hx1
  cases t0
  ·go_wp2_with fail
   all_goals
    go_ret
    refine⟨ret_bool ?_,B1⟩
    rw [HB.out]
    simp
    try omega
  ·go_wp2_with fail
   all_goals
    go_ret
    refine⟨ret_bool ?_,B1⟩
    rw [HB.out]
    simp
    try omega
set_option maxRecDepth 100000 in
set_option maxHeartbeats 3200000 in
theorem guardsFit_32 (a b c d:Int) (ao:Option Addr) (cap m:Nat) (gs:List Gd) (w:World) (hm:Hid (gs.length=m)) (hml:m≤50) (hx:GdsAt 0 w ao gs) :
  Calls Tryz.prog 116 #[.agg #[.int .i64 32,.int .i64 a,.int .i64 b,.int .i64 c,.int .i64 d],.slice ao m cap] w fun e w'=>e=.returned (.bool (gfitB ⟨32,a,b,c,d⟩ gs))∧Below w.heap.size w w':=by
 have N0:=Blk.new w #[.int .i64 32,.int .i64 a,.int .i64 b,.int .i64 c,.int .i64 d] 93
 have B0:=(Below.refl w.heap.size w).alloc (Nat.le_refl _) (.cells #[.int .i64 32,.int .i64 a,.int .i64 b,.int .i64 c,.int .i64 d] 93)
 have HB:Hid (gfitB ⟨32,a,b,c,d⟩ gs=decide (lastTr gs=some true)):=by
  show _=_
  try rw [←hm.out]
  unfold gfitB
  simp
 go_enter Tryz.func116,Tryz.ntmps116
 go_wp2_with fail
 refine (keptBelow_at ao cap m gs _ hm hml (hx.later (Keeps.of_below B0))).mono ?_
 rintro e w1 ⟨rfl,hw1⟩
 have B1:=B0.trans (hw1.mono (by simp))
 have n1:=(N0.later hw1).cell
 have hx1:=hx.later (Keeps.of_below B1)
 generalize maxKeep gs=mk at *
 clear hw1 N0 B0 hx
 rcases m with _ | k
 ·have HL:Hid (lastTr gs=none):=by have:gs=[]:=List.length_eq_zero_iff.1 hm.out;show _=_;rw [this];rfl
  have hx1':=hx1
  clear hx1 hx1'
  go_wp2_with fail
  all_goals
   go_ret
   refine⟨ret_bool ?_,B1⟩
   rw [HB.out]
   simp [HL.out]
   try omega
 ·obtain⟨q,hq⟩:=some_of_lt (show k<gs.length by rw [hm.out];omega)
  obtain⟨gb,gof,rfl,_,hgl,q0,_,_⟩:=hx1 k q hq
  have HL:Hid (lastTr gs=some q.tr):=lastTr_of hm.out hq
  obtain⟨t0,t1,t2⟩:=q
  dsimp only at *
  have k1:((k:Int)+1 - 1)=k:=by omega
  have k2:(0:Int)<(k:Int)+1:=by omega
  clear hq hx1
  cases t0
  ·go_wp2_with fail
   all_goals
    go_ret
    refine⟨ret_bool ?_,B1⟩
    rw [HB.out]
    simp [HL.out]
    try omega
  ·go_wp2_with fail
   all_goals
    go_ret
    refine⟨ret_bool ?_,B1⟩
    rw [HB.out]
    simp [HL.out]
    try omega
set_option maxRecDepth 100000 in
set_option maxHeartbeats 3200000 in
theorem guardsFit_34 (a b c d:Int) (ao:Option Addr) (cap m:Nat) (gs:List Gd) (w:World) (hm:Hid (gs.length=m)) (hml:m≤50) (hx:GdsAt 0 w ao gs) :
  Calls Tryz.prog 116 #[.agg #[.int .i64 34,.int .i64 a,.int .i64 b,.int .i64 c,.int .i64 d],.slice ao m cap] w fun e w'=>e=.returned (.bool (gfitB ⟨34,a,b,c,d⟩ gs))∧Below w.heap.size w w':=by
 have N0:=Blk.new w #[.int .i64 34,.int .i64 a,.int .i64 b,.int .i64 c,.int .i64 d] 93
 have B0:=(Below.refl w.heap.size w).alloc (Nat.le_refl _) (.cells #[.int .i64 34,.int .i64 a,.int .i64 b,.int .i64 c,.int .i64 d] 93)
 have HB:Hid (gfitB ⟨34,a,b,c,d⟩ gs=(decide (lastTr gs=some false) && decide (maxKeep gs≤a))):=by
  show _=_
  try rw [←hm.out]
  unfold gfitB
  simp
 go_enter Tryz.func116,Tryz.ntmps116
 go_wp2_with fail
 refine (keptBelow_at ao cap m gs _ hm hml (hx.later (Keeps.of_below B0))).mono ?_
 rintro e w1 ⟨rfl,hw1⟩
 have B1:=B0.trans (hw1.mono (by simp))
 have n1:=(N0.later hw1).cell
 have hx1:=hx.later (Keeps.of_below B1)
 generalize maxKeep gs=mk at *
 clear hw1 N0 B0 hx
 rcases m with _ | k
 ·have HL:Hid (lastTr gs=none):=by have:gs=[]:=List.length_eq_zero_iff.1 hm.out;show _=_;rw [this];rfl
  have hx1':=hx1
  clear hx1 hx1'
  go_wp2_with fail
  all_goals
   go_ret
   refine⟨ret_bool ?_,B1⟩
   rw [HB.out]
   simp [HL.out]
   try omega
 ·obtain⟨q,hq⟩:=some_of_lt (show k<gs.length by rw [hm.out];omega)
  obtain⟨gb,gof,rfl,_,hgl,q0,_,_⟩:=hx1 k q hq
  have HL:Hid (lastTr gs=some q.tr):=lastTr_of hm.out hq
  obtain⟨t0,t1,t2⟩:=q
  dsimp only at *
  have k1:((k:Int)+1 - 1)=k:=by omega
  have k2:(0:Int)<(k:Int)+1:=by omega
  clear hq hx1
  cases t0
  ·go_wp2_with fail
   all_goals
    go_ret
    refine⟨ret_bool ?_,B1⟩
    rw [HB.out]
    simp [HL.out]
    try omega
  ·go_wp2_with fail
   all_goals
    go_ret
    refine⟨ret_bool ?_,B1⟩
    rw [HB.out]
    simp [HL.out]
    try omega
set_option maxRecDepth 100000 in
set_option maxHeartbeats 3200000 in
theorem guardsFit_35 (a b c d:Int) (ao:Option Addr) (cap m:Nat) (gs:List Gd) (w:World) (hm:Hid (gs.length=m)) (hml:m≤50) (hx:GdsAt 0 w ao gs) :
  Calls Tryz.prog 116 #[.agg #[.int .i64 35,.int .i64 a,.int .i64 b,.int .i64 c,.int .i64 d],.slice ao m cap] w fun e w'=>e=.returned (.bool (gfitB ⟨35,a,b,c,d⟩ gs))∧Below w.heap.size w w':=by
 have N0:=Blk.new w #[.int .i64 35,.int .i64 a,.int .i64 b,.int .i64 c,.int .i64 d] 93
 have B0:=(Below.refl w.heap.size w).alloc (Nat.le_refl _) (.cells #[.int .i64 35,.int .i64 a,.int .i64 b,.int .i64 c,.int .i64 d] 93)
 have HB:Hid (gfitB ⟨35,a,b,c,d⟩ gs=decide (lastTr gs=some false)):=by
  show _=_
  try rw [←hm.out]
  unfold gfitB
  simp
 go_enter Tryz.func116,Tryz.ntmps116
 go_wp2_with fail
 refine (keptBelow_at ao cap m gs _ hm hml (hx.later (Keeps.of_below B0))).mono ?_
 rintro e w1 ⟨rfl,hw1⟩
 have B1:=B0.trans (hw1.mono (by simp))
 have n1:=(N0.later hw1).cell
 have hx1:=hx.later (Keeps.of_below B1)
 generalize maxKeep gs=mk at *
 clear hw1 N0 B0 hx
 rcases m with _ | k
 ·have HL:Hid (lastTr gs=none):=by have:gs=[]:=List.length_eq_zero_iff.1 hm.out;show _=_;rw [this];rfl
  have hx1':=hx1
  clear hx1 hx1'
  go_wp2_with fail
  all_goals
   go_ret
   refine⟨ret_bool ?_,B1⟩
   rw [HB.out]
   simp [HL.out]
   try omega
 ·obtain⟨q,hq⟩:=some_of_lt (show k<gs.length by rw [hm.out];omega)
  obtain⟨gb,gof,rfl,_,hgl,q0,_,_⟩:=hx1 k q hq
  have HL:Hid (lastTr gs=some q.tr):=lastTr_of hm.out hq
  obtain⟨t0,t1,t2⟩:=q
  dsimp only at *
  have k1:((k:Int)+1 - 1)=k:=by omega
  have k2:(0:Int)<(k:Int)+1:=by omega
  clear hq hx1
  cases t0
  ·go_wp2_with fail
   all_goals
    go_ret
    refine⟨ret_bool ?_,B1⟩
    rw [HB.out]
    simp [HL.out]
    try omega
  ·go_wp2_with fail
   all_goals
    go_ret
    refine⟨ret_bool ?_,B1⟩
    rw [HB.out]
    simp [HL.out]
    try omega
set_option maxRecDepth 100000 in
set_option maxHeartbeats 3200000 in
theorem guardsFit_36 (a b c d:Int) (ao:Option Addr) (cap m:Nat) (gs:List Gd) (w:World) (hm:Hid (gs.length=m)) (hml:m≤50) (hx:GdsAt 0 w ao gs) :
  Calls Tryz.prog 116 #[.agg #[.int .i64 36,.int .i64 a,.int .i64 b,.int .i64 c,.int .i64 d],.slice ao m cap] w fun e w'=>e=.returned (.bool (gfitB ⟨36,a,b,c,d⟩ gs))∧Below w.heap.size w w':=by
 have N0:=Blk.new w #[.int .i64 36,.int .i64 a,.int .i64 b,.int .i64 c,.int .i64 d] 93
 have B0:=(Below.refl w.heap.size w).alloc (Nat.le_refl _) (.cells #[.int .i64 36,.int .i64 a,.int .i64 b,.int .i64 c,.int .i64 d] 93)
 have HB:Hid (gfitB ⟨36,a,b,c,d⟩ gs=decide (lastTr gs=some false)):=by
  show _=_
  try rw [←hm.out]
  unfold gfitB
  simp
 go_enter Tryz.func116,Tryz.ntmps116
 go_wp2_with fail
 refine (keptBelow_at ao cap m gs _ hm hml (hx.later (Keeps.of_below B0))).mono ?_
 rintro e w1 ⟨rfl,hw1⟩
 have B1:=B0.trans (hw1.mono (by simp))
 have n1:=(N0.later hw1).cell
 have hx1:=hx.later (Keeps.of_below B1)
 generalize maxKeep gs=mk at *
 clear hw1 N0 B0 hx
 rcases m with _ | k
 ·have HL:Hid (lastTr gs=none):=by have:gs=[]:=List.length_eq_zero_iff.1 hm.out;show _=_;rw [this];rfl
  have hx1':=hx1
  clear hx1 hx1'
  go_wp2_with fail
  all_goals
   go_ret
   refine⟨ret_bool ?_,B1⟩
   rw [HB.out]
   simp [HL.out]
   try omega
 ·obtain⟨q,hq⟩:=some_of_lt (show k<gs.length by rw [hm.out];omega)
  obtain⟨gb,gof,rfl,_,hgl,q0,_,_⟩:=hx1 k q hq
  have HL:Hid (lastTr gs=some q.tr):=lastTr_of hm.out hq
  obtain⟨t0,t1,t2⟩:=q
  dsimp only at *
  have k1:((k:Int)+1 - 1)=k:=by omega
  have k2:(0:Int)<(k:Int)+1:=by omega
  clear hq hx1
  cases t0
  ·go_wp2_with fail
   all_goals
    go_ret
    refine⟨ret_bool ?_,B1⟩
    rw [HB.out]
    simp [HL.out]
    try omega
  ·go_wp2_with fail
   all_goals
    go_ret
    refine⟨ret_bool ?_,B1⟩
    rw [HB.out]
    simp [HL.out]
    try omega
set_option maxRecDepth 100000 in
set_option maxHeartbeats 3200000 in
theorem guardsFit_other (op a b c d:Int) (ao:Option Addr) (cap m:Nat) (gs:List Gd) (w:World) (hm:Hid (gs.length=m)) (hml:m≤50) (hx:GdsAt 0 w ao gs) (h31:op≠31) (h33:op≠33) (h32:op≠32) (h34:op≠34) (h35:op≠35) (h36:op≠36) :
  Calls Tryz.prog 116 #[.agg #[.int .i64 op,.int .i64 a,.int .i64 b,.int .i64 c,.int .i64 d],.slice ao m cap] w fun e w'=>e=.returned (.bool (gfitB ⟨op,a,b,c,d⟩ gs))∧Below w.heap.size w w':=by
 have N0:=Blk.new w #[.int .i64 op,.int .i64 a,.int .i64 b,.int .i64 c,.int .i64 d] 93
 have B0:=(Below.refl w.heap.size w).alloc (Nat.le_refl _) (.cells #[.int .i64 op,.int .i64 a,.int .i64 b,.int .i64 c,.int .i64 d] 93)
 have HB:Hid (gfitB ⟨op,a,b,c,d⟩ gs=true):=by
  show _=_
  try rw [←hm.out]
  unfold gfitB
  simp [h31,h33,h32,h34,h35,h36]
 have t31:(op == 31)=false:=by simpa using h31
 have t33:(op == 33)=false:=by simpa using h33
 have t32:(op == 32)=false:=by simpa using h32
 have t34:(op == 34)=false:=by simpa using h34
 have t35:(op == 35)=false:=by simpa using h35
 have t36:(op == 36)=false:=by simpa using h36
 clear h31 h33 h32 h34 h35 h36
 go_enter Tryz.func116,Tryz.ntmps116
 go_wp2_with fail
 refine (keptBelow_at ao cap m gs _ hm hml (hx.later (Keeps.of_below B0))).mono ?_
 rintro e w1 ⟨rfl,hw1⟩
 have B1:=B0.trans (hw1.mono (by simp))
 have n1:=(N0.later hw1).cell
 have hx1:=hx.later (Keeps.of_below B1)
 generalize maxKeep gs=mk at *
 clear hw1 N0 B0 hx
 rcases m with _ | k
 ·have HL:Hid (lastTr gs=none):=by have:gs=[]:=List.length_eq_zero_iff.1 hm.out;show _=_;rw [this];rfl
  have hx1':=hx1
  clear hx1 hx1'
  go_wp2_with fail
  all_goals
   go_ret
   exact⟨ret_bool HB.out.symm,B1⟩
 ·obtain⟨q,hq⟩:=some_of_lt (show k<gs.length by rw [hm.out];omega)
  obtain⟨gb,gof,rfl,_,hgl,q0,_,_⟩:=hx1 k q hq
  have HL:Hid (lastTr gs=some q.tr):=lastTr_of hm.out hq
  obtain⟨t0,t1,t2⟩:=q
  dsimp only at *
  have k1:((k:Int)+1 - 1)=k:=by omega
  have k2:(0:Int)<(k:Int)+1:=by omega
  clear hq hx1
  cases t0
  ·go_wp2_with fail
   all_goals
    go_ret
    exact⟨ret_bool HB.out.symm,B1⟩
  ·go_wp2_with fail
   all_goals
    go_ret
    exact⟨ret_bool HB.out.symm,B1⟩
theorem guardsFit_any (n:Nd) (ao:Option Addr) (cap m:Nat) (gs:List Gd) (w:World) (hm:Hid (gs.length=m)) (hml:m≤50) (hx:GdsAt 0 w ao gs) :
  Calls Tryz.prog 116 #[n.val,.slice ao m cap] w fun e w'=>e=.returned (.bool (gfitB n gs))∧Below w.heap.size w w':=by
 obtain⟨op,a,b,c,d⟩:=n
 by_cases h31:op=31
 ·subst h31;exact guardsFit_31 a b c d ao cap m gs w hm hml hx
 by_cases h33:op=33
 ·subst h33;exact guardsFit_33 a b c d ao cap m gs w hm hml hx
 by_cases h32:op=32
 ·subst h32;exact guardsFit_32 a b c d ao cap m gs w hm hml hx
 by_cases h34:op=34
 ·subst h34;exact guardsFit_34 a b c d ao cap m gs w hm hml hx
 by_cases h35:op=35
 ·subst h35;exact guardsFit_35 a b c d ao cap m gs w hm hml hx
 by_cases h36:op=36
 ·subst h36;exact guardsFit_36 a b c d ao cap m gs w hm hml hx
 exact guardsFit_other op a b c d ao cap m gs w hm hml hx h31 h33 h32 h34 h35 h36
set_option maxRecDepth 1000000 in
set_option maxHeartbeats 16000000 in
theorem walk_fols (ps:List Pd) (pi:Nat) (p:Pd) (h:Ph) (cao:Option Addr) (ccap:Nat) (c:Cf) (fl:List (Nat × St)) (fo:Option Addr) (fc:Nat) (w wr:World) (c0 c2 c3 c4 c6 c9 c10 c11 c12 c13 c14 c15 c16 c17 c18 c19 c20 c21 c22 c23 c24 c25 c26 c27 c28 c29 c30 c31 c32 c33 c34 c35 c36 c37 c38 c39 c40 c41 c42 c43 c44 c45 c46 c47 c48 c49 c50 c51 c52 c53 c54 c55 c56 c57 c58 c59 c60 c61 c62 c63 c64 c65 c66 c67 c68 c69 c70 c71 c72 c73 c74 c75 c76 c77 c78 c79 c80 c81 c82 c83 c84 c85 c86 c87 c88 c89 c90 c91 c92 c93 c94 c95 c96 c97 c98 c99 c100 c101 c102 c103 c104 c105 c106 c107 c108 c109 c110 c111 c112 c113 c114 c115 c116 c117 c118 c119 c120 c121 c122 c123 c124 c125 c126 c127 c128 c129 c130 c131 c132 c133 c134 c135 c136 c137 c138 c139 c140 c141 c142 c143 c144 c145 c146 c147 c148 c149 c150 c151 c152 c153 c154 c155 c156 c157 c158 c159 c160 c161 c162 c163 c164 c165 c169 c170 c171 c172 c173 c174 c175 c176 c177 c178 c179 c180 c181 c182 c183 c184 c185 c186 c187 c188 c189 c190 c191 c192 c193 c194 c195 c196 c197 c198 c199 c200 c201 c202 c203 c204 c205 c206 c207 c208 c209:Value) (Q:Exit→Act→World→Prop) (hq:∀a' w',bodyPost Tryz.prog Tryz.f22 (WkPost w ps p pi) .ret a' w'→Q .ret a' w')
  (hn:∀(u4 u19 u168 u169 u170 u171 u172 u173 u174 u175 u176 u177 u178 u179 u180 u181 u182 u183 u184 u185 u186 u187 u188 u189 u190 u191 u192 u193 u194 u195 u196 u197 u198 u199 u200 u201 u202 u203 u204 u205 u206 u207 u208 u209:Value) (w':World) (c':Cf),followF c fl=.ok c'→WkAt w cao ccap ps p h w' c'→Q (.exit 8) ⟨List.toArray (c0::.int .i64 pi::c2::c3::u4::.pointer (some ⟨w.heap.size+1,0,none⟩)::c6::.slice (some ⟨w.heap.size+1+1+1,0,none⟩) p.ins.length p.ins.length::.slice (some ⟨w.heap.size+1+1+1+1,0,none⟩) p.ins.length p.ins.length::c9::c10::c11::c12::c13::c14::c15::c16::c17::c18::u19::c20::c21::c22::c23::c24::c25::c26::c27::c28::c29::c30::c31::c32::c33::c34::c35::c36::c37::c38::c39::c40::c41::c42::c43::c44::c45::c46::c47::c48::c49::c50::c51::c52::c53::c54::c55::c56::c57::c58::c59::c60::c61::c62::c63::c64::c65::c66::c67::c68::c69::c70::c71::c72::c73::c74::c75::c76::c77::c78::c79::c80::c81::c82::c83::c84::c85::c86::c87::c88::c89::c90::c91::c92::c93::c94::c95::c96::c97::c98::c99::c100::c101::c102::c103::c104::c105::c106::c107::c108::c109::c110::c111::c112::c113::c114::c115::c116::c117::c118::c119::c120::c121::c122::c123::c124::c125::c126::c127::c128::c129::c130::c131::c132::c133::c134::c135::c136::c137::c138::c139::c140::c141::c142::c143::c144::c145::c146::c147::c148::c149::c150::c151::c152::c153::c154::c155::c156::c157::c158::c159::c160::c161::c162::c163::c164::c165::.slice fo fl.length fc::.int .i64 fl.length::u168::u169::u170::u171::u172::u173::u174::u175::u176::u177::u178::u179::u180::u181::u182::u183::u184::u185::u186::u187::u188::u189::u190::u191::u192::u193::u194::u195::u196::u197::u198::u199::u200::u201::u202::u203::u204::u205::u206::u207::u208::u209::[]),[]⟩ w')
  (hr:p.regs≤250) (_hz:p.ins.length≤6000) (hok:CfOk p c) (hfo:FolOk p fl) (hfl:fl.length≤2) (herr:∀x:Nat,followF c fl=.error (13,x)→verF ps p pi=(13,(pi:Int),(x:Int))) (W1:WkAt w cao ccap ps p h wr c) (F1:FolsAt (w.heap.size+1+1+1+1+1) wr fo fl) :
  Code.wp Tryz.prog pcFols Q ⟨List.toArray (c0::.int .i64 pi::c2::c3::c4::.pointer (some ⟨w.heap.size+1,0,none⟩)::c6::.slice (some ⟨w.heap.size+1+1+1,0,none⟩) p.ins.length p.ins.length::.slice (some ⟨w.heap.size+1+1+1+1,0,none⟩) p.ins.length p.ins.length::c9::c10::c11::c12::c13::c14::c15::c16::c17::c18::c19::c20::c21::c22::c23::c24::c25::c26::c27::c28::c29::c30::c31::c32::c33::c34::c35::c36::c37::c38::c39::c40::c41::c42::c43::c44::c45::c46::c47::c48::c49::c50::c51::c52::c53::c54::c55::c56::c57::c58::c59::c60::c61::c62::c63::c64::c65::c66::c67::c68::c69::c70::c71::c72::c73::c74::c75::c76::c77::c78::c79::c80::c81::c82::c83::c84::c85::c86::c87::c88::c89::c90::c91::c92::c93::c94::c95::c96::c97::c98::c99::c100::c101::c102::c103::c104::c105::c106::c107::c108::c109::c110::c111::c112::c113::c114::c115::c116::c117::c118::c119::c120::c121::c122::c123::c124::c125::c126::c127::c128::c129::c130::c131::c132::c133::c134::c135::c136::c137::c138::c139::c140::c141::c142::c143::c144::c145::c146::c147::c148::c149::c150::c151::c152::c153::c154::c155::c156::c157::c158::c159::c160::c161::c162::c163::c164::c165::.slice fo fl.length fc::.int .i64 fl.length::.int .i64 0::c169::c170::c171::c172::c173::c174::c175::c176::c177::c178::c179::c180::c181::c182::c183::c184::c185::c186::c187::c188::c189::c190::c191::c192::c193::c194::c195::c196::c197::c198::c199::c200::c201::c202::c203::c204::c205::c206::c207::c208::c209::[]),[]⟩ wr:=by
 conv=>arg 2;whnf
 have HFO:Hid _:=hfo
 have HE:Hid _:=herr
 have HQ:Hid _:=hq
 have HN:Hid _:=hn
 clear hfo herr hq hn
 go_loopg [168] (fl.length+1) (fun g y wi=>∃(j:Nat) (c':Cf),j≤fl.length∧y=.int .i64 j∧Hid (followF c' (fl.drop j)=followF c fl)∧Hid (CfOk p c')∧Hid (fl.length+1 - j≤g)∧FolsAt (w.heap.size+1+1+1+1+1) wi fo fl∧WkAt w cao ccap ps p h wi c')
 case atStart=>exact ⟨0,c,Nat.zero_le _,rfl,rfl,hok,Nat.le_refl _,F1,W1⟩
 case round=>
  obtain⟨j,c',hj,rfl,HF,HOK,HG,F2,W2⟩:=hrel
  clear W1 F1 hok
  by_cases hjl:j<fl.length
  ·obtain⟨⟨x,s⟩,hxs⟩:=some_of_lt hjl
   have HX:Hid (x<p.ins.length∧StOk p s):=HFO.out _ (List.mem_of_getElem? hxs)
   have HF2:Hid (followF c fl=match reachF c' x s with | none=>.error (13,x) | some c'=>followF c' (fl.drop (j+1))):=by
    show _=_
    rw [←HF.out,fol_next hxs,follow_cons] <;> rfl
   obtain⟨fb,fof,rfl,_,hfb,f0,f1,to,tc,go,gc,f2,f3,IT,IG⟩:=F2 j (x,s) hxs
   dsimp only at f0 f1 f2 f3 IT IG
   have k1:(j:Int)<fl.length:=by omega
   have hxl:=HX.out.1
   have k2:(x:Int)<p.ins.length:=by omega
   have hxS:x<c'.sts.length:=by rw [HOK.out.lenS];exact hxl
   have hxD:x<c'.due.length:=by rw [HOK.out.lenD];exact hxl
   obtain⟨o,ho⟩:=some_of_lt hxS
   have HO:Hid (c'.st x=o):=st_get ho
   have HG2:Hid (fl.length+1 - (j+1)≤gk - 1∧gk - 1<gk):=by have:=HG.out;show _∧_;omega
   have hstl:s.types.length≤250:=by have:=HX.out.2.len;omega
   have hsgl:s.guards.length≤50:=HX.out.2.few
   have X3:=Blk.new wr #[.int .i64 x,.bool true,.slice to s.types.length tc,.slice go s.guards.length gc] 110
   have AB:Below wr.heap.size wr (wr.alloc (.cells #[.int .i64 x,.bool true,.slice to s.types.length tc,.slice go s.guards.length gc] 110)):=(Below.refl _ _).alloc (Nat.le_refl _) _
   have W3:=W2.later AB
   have F3:=F2.later (Keeps.of_below AB)
   have IT3:=IT.later (Keeps.of_below AB)
   have IG3:=IG.later (Keeps.of_below AB)
   obtain⟨to2,tc2,go2,gc2,s0,s1,s2,JT,JG⟩:=W3.sts.at_ x o ho
   have hsb:=W2.sts.own.lt
   have hnesb:¬wr.heap.size=w.heap.size+1+1+1:=by omega
   clear HF HG hxs ho F2 IT IG AB
   cases o with
   | none=>
    go_wp2_with fail
    generalize hw1:wr.alloc (.cells #[.int .i64 x,.bool true,.slice to s.types.length tc,.slice go s.guards.length gc] 110)=w1 at *
    clear f0 f1 f2 f3 hw1 JT JG
    have hD1:Below w1.heap.size w1 w1.drew:=(Below.refl _ _).drew
    have X4:=X3.later hD1
    have HCP:Hid (∀_:Unit,_):=fun _=>l3copy_any to tc s.types w1.drew (by omega) (AllAt.lower (IT3.later (Keeps.of_below hD1)) (Nat.zero_le _))
    have HW4:Hid _:=W3.later hD1
    have HF4:Hid (FolsAt (w.heap.size+1+1+1+1+1) w1.drew (some ⟨fb,fof,none⟩) fl):=F3.later (Keeps.of_below hD1)
    have HIG4:Hid (GdsAt (w.heap.size+1+1+1+1+1) w1.drew go s.guards):=IG3.later (Keeps.of_below hD1)
    have x30:=X3.cell 0
    have x32:=X3.cell 2
    have x33:=X3.cell 3
    have hsl1:w.heap.size+1+1+1<w1.drew.heap.size:=W3.sts.own.lt
    have HNS:Hid (¬w.heap.size+1+1+1=wr.heap.size):=fun e=>hnesb e.symm
    clear s0 s1 s2 hD1
    go_wp2_with fail
    go_region_held3 (fun w'=>w'.cell? ⟨wr.heap.size,0,none⟩=some (.int .i64 x)∧w'.cell? ⟨wr.heap.size,2,none⟩=some (.slice to s.types.length tc)∧w'.cell? ⟨wr.heap.size,3,none⟩=some (.slice go s.guards.length gc)) (first | exact ⟨x30,x32,x33⟩ | exact ⟨d0,d2,d3⟩ | exact ⟨e0,e2,e3⟩ | exact HKP.out | (go_keep;done))
     (first
      | (go_at_call 46;refine (HCP.out ()).mono ?_;rintro e w2 ⟨v2,rfl,T2,hw2⟩;obtain ⟨vo,vc,rfl⟩:=owns_slice T2;have X5:=X4.later hw2;have d0:=X5.cell 0;have d2:=X5.cell 2;have d3:=X5.cell 3;have HGP:Hid (∀_:Unit,_):=fun _=>l3guards_any go gc s.guards w2 (by omega) (AllAt.lower (HIG4.out.later (Keeps.of_below hw2)) (Nat.zero_le _));have W5:=HW4.out.later hw2;have F5:=HF4.out.later (Keeps.of_below hw2))
      | (go_at_call 52;refine (HGP.out ()).mono ?_;rintro e w3 ⟨v3,rfl,G3,hw3⟩;obtain ⟨uo,uc,rfl⟩:=owns_slice G3;have X6:=X5.later hw3;have e0:=X6.cell 0;have e2:=X6.cell 2;have e3:=X6.cell 3;have W6:=W5.later hw3;have F6:=F5.later (Keeps.of_below hw3);obtain ⟨to3,tc3,go3,gc3,z0,z1,z2,_,_⟩:=W6.sts.at_ x none (by have:=HO.out;unfold Cf.st at this;rw [List.getD_eq_getElem?_getD,List.getElem?_eq_getElem hxS] at this;rw [List.getElem?_eq_getElem hxS];exact congrArg some this);have fz:=W6.sts.own.frozen;have HKP:Hid ((((w3.setCell ⟨w.heap.size+1+1+1,x*3,none⟩ (.bool true)).setCell ⟨w.heap.size+1+1+1,x*3+1,none⟩ (.slice vo s.types.length vc)).setCell ⟨w.heap.size+1+1+1,x*3+2,none⟩ (.slice uo s.guards.length uc)).cell? ⟨wr.heap.size,0,none⟩=some (.int .i64 x)∧(((w3.setCell ⟨w.heap.size+1+1+1,x*3,none⟩ (.bool true)).setCell ⟨w.heap.size+1+1+1,x*3+1,none⟩ (.slice vo s.types.length vc)).setCell ⟨w.heap.size+1+1+1,x*3+2,none⟩ (.slice uo s.guards.length uc)).cell? ⟨wr.heap.size,2,none⟩=some (.slice to s.types.length tc)∧(((w3.setCell ⟨w.heap.size+1+1+1,x*3,none⟩ (.bool true)).setCell ⟨w.heap.size+1+1+1,x*3+1,none⟩ (.slice vo s.types.length vc)).setCell ⟨w.heap.size+1+1+1,x*3+2,none⟩ (.slice uo s.guards.length uc)).cell? ⟨wr.heap.size,3,none⟩=some (.slice go s.guards.length gc)):=⟨((World.cell?_setCell_far _ _ _ _ HNS.out).trans ((World.cell?_setCell_far _ _ _ _ HNS.out).trans (World.cell?_setCell_far _ _ _ _ HNS.out))).trans e0,((World.cell?_setCell_far _ _ _ _ HNS.out).trans ((World.cell?_setCell_far _ _ _ _ HNS.out).trans (World.cell?_setCell_far _ _ _ _ HNS.out))).trans e2,((World.cell?_setCell_far _ _ _ _ HNS.out).trans ((World.cell?_setCell_far _ _ _ _ HNS.out).trans (World.cell?_setCell_far _ _ _ _ HNS.out))).trans e3⟩))
    have HLO:Hid (w.heap.size+1+1+1+1+1≤w1.drew.heap.size):=W3.lt
    have I6:=AllAt.lower (owns_ints (owns_below T2 hw3)).1 HLO.out
    have G6:=AllAt.lower (owns_gds G3).1 (Nat.le_trans HLO.out hw2.size)
    have W7:=W6.put (k:=x) hxS (s:=s) (to:=vo) (tc:=vc) (go:=uo) (gc:=uc) I6 G6
    have K7:Keeps (w.heap.size+1+1+1+1+1) w3 (((w3.setCell ⟨w.heap.size+1+1+1,x*3,none⟩ (.bool true)).setCell ⟨w.heap.size+1+1+1,x*3+1,none⟩ (.slice vo s.types.length vc)).setCell ⟨w.heap.size+1+1+1,x*3+2,none⟩ (.slice uo s.guards.length uc)):=(((Keeps.refl _ _).setCell (by dsimp only;omega) _).setCell (by dsimp only;omega) _).setCell (by dsimp only;omega) _
    have F7:=F6.later K7
    have HC3:Hid (CfOk p ⟨c'.sts.set x (some s),c'.due.set x true⟩):=reach_ok HOK.out HX.out.2 (reach_new HO.out)
    have HF3:Hid (followF ⟨c'.sts.set x (some s),c'.due.set x true⟩ (fl.drop (j+1))=followF c fl):=by show _=_;rw [HF2.out,reach_new HO.out]
    have W8:=W7.setDue (a:=x) true
    have d7:=(W7.due.cell x).trans (boolArr_get hxD)
    have f7:=W7.due.frozen x
    have x7:=HKP.out.1
    clear HKP I6 G6 K7 d0 d2 d3 e0 e2 e3 X4 X5 X6 W5 W6 F5 F6 T2 G3 hw2 hw3 z0 z1 z2 fz x30 x32 x33 HCP HGP HW4 HF4 HIG4 W2 W3 F3 IT3 IG3 X3 HF2 HO
    generalize (((w3.setCell ⟨w.heap.size+1+1+1,x*3,none⟩ (.bool true)).setCell ⟨w.heap.size+1+1+1,x*3+1,none⟩ (.slice vo s.types.length vc)).setCell ⟨w.heap.size+1+1+1,x*3+2,none⟩ (.slice uo s.guards.length uc))=w7 at *
    have F8:=F7.later (w':=w7.setCell ⟨w.heap.size+1+1+1+1,x,none⟩ (.bool true)) ((Keeps.refl _ _).setCell (by dsimp only;omega) _)
    clear F7 W7
    go_wp2_with fail
    go_roundg (gk - 1)
    case measure=>exact HG2.out.2
    case rel=>exact ⟨j+1,⟨c'.sts.set x (some s),c'.due.set x true⟩,by omega,by go_num,HF3.out,HC3.out,HG2.out.1,F8,W8⟩
   | some t=>
    have HOT:Hid _:=HOK.out.ok x t HO.out
    go_wp2_with fail
    generalize hw1:wr.alloc (.cells #[.int .i64 x,.bool true,.slice to s.types.length tc,.slice go s.guards.length gc] 110)=w1 at *
    clear f0 f1 f2 f3 hw1
    dsimp only [stT,stG,Option.isSome] at s0 s1 s2 JT JG
    have hD1:Below w1.heap.size w1 w1.drew:=(Below.refl _ _).drew
    have X4:=X3.later hD1
    have HSM:Hid (∀_:Unit,_):=fun _=>l3same_any true true to2 to go2 go tc2 tc gc2 gc t.types s.types t.guards s.guards w1.drew (by have:=HOT.out.len;omega) (by have:=HOT.out.few;omega) (AllAt.lower (JT.later (Keeps.of_below hD1)) (Nat.zero_le _)) (AllAt.lower (IT3.later (Keeps.of_below hD1)) (Nat.zero_le _)) (AllAt.lower (JG.later (Keeps.of_below hD1)) (Nat.zero_le _)) (AllAt.lower (IG3.later (Keeps.of_below hD1)) (Nat.zero_le _))
    unfold stV at HSM
    rw [st_same] at HSM
    have HW4:Hid _:=W3.later hD1
    have HF4:Hid (FolsAt (w.heap.size+1+1+1+1+1) w1.drew (some ⟨fb,fof,none⟩) fl):=F3.later (Keeps.of_below hD1)
    have x30:=X3.cell 0
    have x31:=X3.cell 1
    have x32:=X3.cell 2
    have x33:=X3.cell 3
    have hsl1:w.heap.size+1+1+1<w1.drew.heap.size:=W3.sts.own.lt
    have HF3:Hid (followF c fl=if t=s then followF c' (fl.drop (j+1)) else .error (13,x)):=by
     show _=_
     rw [HF2.out,reach_old HO.out]
     split
     ·rename_i h1;split at h1
      ·cases h1
      ·rename_i h2;rw [if_neg h2]
     ·rename_i h1;split at h1
      ·rename_i h2;rw [if_pos h2];obtain rfl:=Option.some.inj h1;rfl
      ·cases h1
    clear hD1 HF2 HO
    go_wp2_with fail
    go_region_held3 (fun w'=>w'.cell? ⟨wr.heap.size,0,none⟩=some (.int .i64 x)∧w'.cell? ⟨wr.heap.size,1,none⟩=some (.bool true)∧w'.cell? ⟨wr.heap.size,2,none⟩=some (.slice to s.types.length tc)∧w'.cell? ⟨wr.heap.size,3,none⟩=some (.slice go s.guards.length gc)∧w'.cell? ⟨w.heap.size+1+1+1,x*3,none⟩=some (.bool true)∧w'.cell? ⟨w.heap.size+1+1+1,x*3+1,none⟩=some (.slice to2 t.types.length tc2)∧w'.cell? ⟨w.heap.size+1+1+1,x*3+2,none⟩=some (.slice go2 t.guards.length gc2)) (first | exact ⟨x30,x31,x32,x33,s0,s1,s2⟩ | exact ⟨d0,d1,d2,d3,d4,d5,d6⟩ | (go_keep;done))
     (first | (go_at_call 53;refine (HSM.out ()).mono ?_;rintro e w2 ⟨rfl,hw2⟩;have X5:=X4.later hw2;have d0:=X5.cell 0;have d1:=X5.cell 1;have d2:=X5.cell 2;have d3:=X5.cell 3;have d4:=(hw2.cell (p:=⟨w.heap.size+1+1+1,x*3,none⟩) hsl1).trans s0;have d5:=(hw2.cell (p:=⟨w.heap.size+1+1+1,x*3+1,none⟩) hsl1).trans s1;have d6:=(hw2.cell (p:=⟨w.heap.size+1+1+1,x*3+2,none⟩) hsl1).trans s2;have W5:=HW4.out.later hw2;have F5:=HF4.out.later (Keeps.of_below hw2)))
    clear x30 x31 x32 x33 s0 s1 s2 d1 d2 d3 d4 d5 d6 HSM HW4 HF4 W2 W3 F3 IT3 IG3 JT JG X3 X4 hw2
    by_cases hts:t=s
    ·have HF5:Hid (followF c' (fl.drop (j+1))=followF c fl):=by have:=HF3.out;rw [if_pos hts] at this;exact this.symm
     have kd:decide (t=s)=true:=decide_eq_true hts
     rw [kd]
     clear HF3 hts kd
     go_wp2_with fail
     go_roundg (gk - 1)
     case measure=>exact HG2.out.2
     case rel=>exact ⟨j+1,c',by omega,by go_num,HF5.out,HOK.out,HG2.out.1,F5,W5⟩
    ·have HVF:Hid (verF ps p pi=(13,(pi:Int),(x:Int))):=HE.out x (by have:=HF3.out;rw [if_neg hts] at this;exact this)
     have kd:decide (t=s)=false:=decide_eq_false hts
     rw [kd]
     clear HF3 hts kd
     go_wp2_with fail
     refine (l3fault_any _ _ _ _).mono ?_
     rintro e wf ⟨rfl,hwf⟩
     have WF:=W5.later hwf
     have cF:=WF.flt.cell
     have fF:=WF.flt.frozen
     go_wp2_with fail
     refine HQ.out _ _ (bodyPost_ret (v:=.tuple #[.slice none 0 0,.agg #[.int .i64 13,.int .i64 pi,.int .i64 x]]) ?_ rfl ⟨⟨.slice none 0 0,?_⟩,?_⟩)
     ·simp [results,Tryz.results22,go_sem,cF]
     ·rw [HVF.out];rfl
     ·iterate 3 (refine Below.setCell ?_ (by simp) _)
      exact WF.below
  ·obtain rfl:j=fl.length:=by omega
   have k1:¬(fl.length:Int)<fl.length:=by omega
   have HR:Hid (followF c fl=.ok c'):=by show _=_;rw [←HF.out,List.drop_length];rfl
   clear HF HG
   go_wp2_with fail
   exact HN.out _ _ _ _ _ _ _ _ _ _ _ _ _ _ _ _ _ _ _ _ _ _ _ _ _ _ _ _ _ _ _ _ _ _ _ _ _ _ _ _ _ _ _ _ _ _ HR.out W2
end Go.Proofs.YtaakadmnhpboiaaGreatDoor
