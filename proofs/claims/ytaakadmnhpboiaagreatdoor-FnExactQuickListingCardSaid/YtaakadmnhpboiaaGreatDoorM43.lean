import Derived.Test.YtaakadmnhpboiaaGreatDoorM39
namespace Go.Proofs.YtaakadmnhpboiaaGreatDoor
open Go.RowKit Go.Deep
def silR (p:Pd) (c:Cf) (j:Nat):List Nat:=match p.ins[j]?,c.st j with | some n,some _=>silI n j | _,_=>[]
theorem Tryz.info_ints:(Tryz.prog.info? 72).map (fun i=>(i.zero,i.size,i.bytes))=some (some (.slice none 0 0),1,24):=by kernel_rfl
structure SiAt (gb N k:Nat) (wr W:World) (nb:Array Value) (v:Value) (e:List Int):Prop where
 blk:∀b,b≠gb→b<wr.heap.size→W.heap[b]?=wr.heap[b]?
 oth:∀j,j≠k→W.cell? ⟨gb,j,none⟩=wr.cell? ⟨gb,j,none⟩
 cur:W.cell? ⟨gb,k,none⟩=some v
 own:Own W gb 72 N
 row:W.ownsRow (wr.heap.size+1) 3 1 v e.length (ints e)
 ins:Blk W wr.heap.size nb 93
 size:wr.heap.size<W.heap.size
 kN:k<N
theorem SiAt.later {gb N k:Nat} {wr W W':World} {nb:Array Value} {v:Value} {e:List Int} (h:SiAt gb N k wr W nb v e) (hb:Below W.heap.size W W'):SiAt gb N k wr W' nb v e:=
 ⟨fun b h1 h2=>(hb.block b (Nat.lt_trans h2 h.size)).trans (h.blk b h1 h2),fun j hj=>(hb.cell (p:=⟨gb,j,none⟩) h.own.lt).trans (h.oth j hj),(hb.cell (p:=⟨gb,k,none⟩) h.own.lt).trans h.cur,h.own.later hb,owns_below h.row hb,h.ins.later hb,Nat.lt_of_lt_of_le h.size hb.size,h.kN⟩
theorem SiAt.app {gb N k:Nat} {wr W w2:World} {nb:Array Value} {v v':Value} {e:List Int} {x:Int} {o:Obj} (h:SiAt gb N k wr W nb v e) (h1:w2.ownsRow (wr.heap.size+1) 3 1 v' (e.length+1) (ints (e ++ [x]))) (h2:(W.alloc o).grownBy w2 v.ownBlock) (hg:gb<wr.heap.size) :
  SiAt gb N k wr (w2.setCell ⟨gb,k,none⟩ v') nb v' (e ++ [x])∧w2.cell? ⟨gb,k,none⟩=some v∧w2.frozen? ⟨gb,k,none⟩=false∧Below gb W (w2.setCell ⟨gb,k,none⟩ v'):=by
 have hv:∀b,b<wr.heap.size+1→some b≠v.ownBlock:=fun b hb e=>by have:=(h.row.lt b e.symm).1;omega
 have hbk:∀b,b<wr.heap.size+1→w2.heap[b]?=W.heap[b]?:=fun b hb=>(h2.block b (by simp;have:=h.size;omega) (hv b hb)).trans (blk_alloc_lt _ _ _ (by have:=h.size;omega))
 have hgb2:=hbk gb (by omega)
 have ho2:Own w2 gb 72 N:=h.own.of_block hgb2
 have hc2:∀j,w2.cell? ⟨gb,j,none⟩=W.cell? ⟨gb,j,none⟩:=fun j=>World.cell?_of_block (w:=W) (a:=⟨gb,j,none⟩) hgb2
 have hs2:W.heap.size≤w2.heap.size:=Nat.le_trans (by simp) h2.size
 refine⟨⟨?_,?_,own_set_cell ho2 h.kN,ho2.set k v',?_,?_,?_,h.kN⟩,(hc2 k).trans h.cur,ho2.frozen k,?_⟩
 ·intro b hb hl
  exact (Below.heap_setCell _ _ _ _ hb).trans ((hbk b (by omega)).trans (h.blk b hb hl))
 ·intro j hj
  rw [cell_set_ne (fun e=>hj e.symm)]
  exact (hc2 j).trans (h.oth j hj)
 ·rw [List.length_append]
  exact owns_other h1 (fun b hb=>Below.heap_setCell _ _ _ _ (by have:=(h1.lt b hb).1;dsimp only;omega))
 ·exact (Below.heap_setCell _ _ _ _ (by dsimp only;omega)).trans ((hbk _ (by omega)).trans h.ins)
 ·rw [size_set];exact Nat.lt_of_lt_of_le h.size hs2
 ·exact (((Below.refl gb W).alloc (by have:=h.size;omega) o).grown h2 (by simp;have:=h.size;omega) (fun b hb=>by have:=(h.row.lt b hb).1;omega)).setCell (by dsimp only;exact Nat.le_refl _) _
def rowsTo (p:Pd) (c:Cf) (k j:Nat):List Int:=if j<k then zs (silR p c j) else []
theorem ss_next {p:Pd} {c:Cf} {gb N k:Nat} {wr W:World} {nb:Array Value} {v:Value} {e:List Int} (h:SsAt (gb+1) wr gb N (rowsTo p c k)) (hk:k<N) (s:SiAt gb N k wr W nb v e) (he:zs (silR p c k)=e):SsAt (gb+1) W gb N (rowsTo p c (k+1)):=by
 refine⟨s.own,fun j hj=>?_⟩
 have _:=hk
 by_cases hjk:j=k
 ·subst hjk
  have e1:rowsTo p c (j+1) j=e:=by unfold rowsTo;rw [if_pos (by omega)];exact he
  rw [e1]
  obtain⟨ao,cap,hv⟩:=owns_slice s.row
  have hr:=s.row
  have hc:=s.cur
  rw [hv] at hr hc
  exact⟨ao,cap,hc,AllAt.lower (owns_ints hr).1 (by have:=h.own.lt;omega)⟩
 ·have e1:rowsTo p c (k+1) j=rowsTo p c k j:=by
   unfold rowsTo
   by_cases h1:j<k
   ·rw [if_pos h1,if_pos (by omega)]
   ·rw [if_neg h1,if_neg (by omega)]
  rw [e1]
  obtain⟨ao,cap,hc,hr⟩:=h.at_ j hj
  refine⟨ao,cap,(s.oth j hjk).trans hc,fun i x hx=>?_⟩
  obtain⟨b,off,e2,h1,h2,h3⟩:=hr i x hx
  exact⟨b,off,e2,h1,Nat.lt_trans h2 s.size,(World.cell?_of_block (w:=wr) (a:=⟨b,off+i*1,none⟩) (s.blk b (by omega) h2)).trans h3⟩
set_option maxRecDepth 100000 in
set_option maxHeartbeats 16000000 in
theorem silentSteps_any (w0:World) (B L vb sb db:Nat) (cao:Option Addr) (ccap:Nat) (ps:List Pd) (p:Pd) (h:Ph) (c:Cf) (l:Nat) (w:World) (X:Vctx w0 B L vb sb db ps p h) (H0:VfAt L vb sb db cao ccap ps p h w c l) (hb0:Below w0.heap.size w0 w) :
  Calls Tryz.prog 66 #[.pointer (some ⟨vb,0,none⟩)] w fun e w'=>(∃gb,e=.returned (.slice (some ⟨gb,0,none⟩) p.ins.length p.ins.length)∧SsAt (gb+1) w' gb p.ins.length fun j=>zs (silR p c j))∧Below w.heap.size w w':=by
 have hz:=X.hz
 have hmk:=run_make_k (P:=Tryz.prog) 126 72 _ 1 24 Tryz.underlying126 Tryz.info_ints .i64 .i64 p.ins.length (by omega) (by omega)
 simp only [Nat.mul_one] at hmk
 have A0:=below_al (Below.refl w.heap.size w) (.cells (madeCells #[.slice none 0 0] p.ins.length) 72)
 have S0:SsAt (w.heap.size+1) (w.alloc (.cells (madeCells #[.slice none 0 0] p.ins.length) 72)) w.heap.size p.ins.length (rowsTo p c 0):=by
  refine⟨Own.made w #[.slice none 0 0] p.ins.length 72,fun j hj=>⟨none,0,?_,fun i x hx=>by simp [rowsTo] at hx⟩⟩
  have hb:=blk_alloc_new w (.cells (madeCells #[.slice none 0 0] p.ins.length) 72)
  have:=made_cell (z:=#[.slice none 0 0]) (n:=p.ins.length) (j:=j) (i:=0) (by simp) (by simp;omega)
  simp only [World.cell?,hb]
  simpa [rowsTo] using this
 obtain⟨nz,hnz⟩:=some_of_lt X.fit.some
 obtain⟨ib,iof,hio,_⟩:=X.ins 0 nz hnz
 have v0:=H0.blk.cell 8
 have v1:=(H0.below A0).blk.cell 8
 simp only [List.getElem?_toArray,List.getElem?_cons_succ,List.getElem?_cons_zero] at v0 v1
 rw [hio] at v0 v1
 have Z0:∀j,0≤j→j<p.ins.length→(w.alloc (.cells (madeCells #[.slice none 0 0] p.ins.length) 72)).cell? ⟨w.heap.size,j,none⟩=some (.slice none 0 0):=by
  intro j _ hj
  have hb:=blk_alloc_new w (.cells (madeCells #[.slice none 0 0] p.ins.length) 72)
  have:=made_cell (z:=#[.slice none 0 0]) (n:=p.ins.length) (j:=j) (i:=0) (by simp) (by simp;omega)
  simp only [World.cell?,hb]
  simpa using this
 have HIO:Hid (h.io=some ⟨ib,iof,none⟩):=hio
 clear hio hnz
 go_enter Tryz.func66,Tryz.ntmps66
 go_wp2_with fail
 clear hmk v0 v1
 generalize w.alloc (.cells (madeCells #[.slice none 0 0] p.ins.length) 72)=w1 at *
 go_loopg [20] (p.ins.length+1) (fun g y wr=>∃k:Nat,k≤p.ins.length∧y=.int .i64 k∧Hid (SsAt (w.heap.size+1) wr w.heap.size p.ins.length (rowsTo p c k))∧Hid (∀j,k≤j→j<p.ins.length→wr.cell? ⟨w.heap.size,j,none⟩=some (.slice none 0 0))∧Hid (Below w.heap.size w wr)∧Hid (p.ins.length+1 - k≤g))
 case atStart=>exact ⟨0,Nat.zero_le _,rfl,S0,Z0,A0,Nat.le_refl _⟩
 case round=>
  obtain⟨k,hk,rfl,HS,HZ,HB,HG⟩:=hrel
  clear S0 A0 Z0
  by_cases hkl:k<p.ins.length
  ·obtain⟨n,hn⟩:=some_of_lt hkl
   have HNF:Hid (InsFit ps.length p n):=X.fit.fit k n hn
   obtain⟨ib',iof',hio',_,hibl,q0,q1,q2,q3,q4⟩:=(X.ins.later (Keeps.of_below (hb0.trans (HB.out.mono hb0.size)))) k n hn
   rw [HIO.out] at hio'
   obtain⟨rfl,rfl⟩:ib=ib'∧iof=iof':=by simpa using hio'
   have HSR:Hid (silR p c k=match c.st k with | some _=>silI n k | none=>[]):=by show _=_;unfold silR;rw [hn];cases c.st k <;> rfl
   obtain⟨op,na,nb,nc,nd⟩:=n
   dsimp only at q0 q1 q2 q3 q4
   have HG2:Hid (p.ins.length+1 - (k+1)≤gk - 1∧gk - 1<gk):=by have:=HG.out;show _∧_;omega
   have hgr:w.heap.size<wr.heap.size:=HS.out.own.lt
   have AW:=below_al (Below.refl wr.heap.size wr) (.cells #[.int .i64 op,.int .i64 na,.int .i64 nb,.int .i64 nc,.int .i64 nd] 93)
   have HB1:Hid (Below w.heap.size w (wr.alloc (.cells #[.int .i64 op,.int .i64 na,.int .i64 nb,.int .i64 nc,.int .i64 nd] 93))):=HB.out.trans (AW.mono HB.out.size)
   have S1:SiAt w.heap.size p.ins.length k wr (wr.alloc (.cells #[.int .i64 op,.int .i64 na,.int .i64 nb,.int .i64 nc,.int .i64 nd] 93)) #[.int .i64 op,.int .i64 na,.int .i64 nb,.int .i64 nc,.int .i64 nd] (.slice none 0 0) ([]:List Int):=
    ⟨fun b _ hl=>AW.block b hl,fun j _=>AW.cell (p:=⟨w.heap.size,j,none⟩) hgr,(AW.cell (p:=⟨w.heap.size,k,none⟩) hgr).trans (HZ.out k (Nat.le_refl _) hkl),HS.out.own.later AW,owns_nil _ _ _,Blk.new wr #[.int .i64 op,.int .i64 na,.int .i64 nb,.int .i64 nc,.int .i64 nd] 93,by simp,hkl⟩
   have HH1:=H0.below HB1.out
   have u10:=HH1.blk.cell 10
   obtain⟨o,ho⟩:=some_of_lt (show k<c.sts.length by rw [H0.lenS];exact hkl)
   have HO:Hid (c.st k=o):=by show _=_;unfold Cf.st;rw [List.getD_eq_getElem?_getD,ho];rfl
   obtain⟨_,_,_,_,z0,_,_,_,_⟩:=HH1.sts.at_ k o ho
   have kk:(k:Int)<p.ins.length:=by omega
   have k6:(k:Int)<6000:=by omega
   have HS1:Hid (SiAt w.heap.size p.ins.length k wr (wr.alloc (.cells #[.int .i64 op,.int .i64 na,.int .i64 nb,.int .i64 nc,.int .i64 nd] 93)) #[.int .i64 op,.int .i64 na,.int .i64 nb,.int .i64 nc,.int .i64 nd] (.slice none 0 0) ([]:List Int)):=S1
   clear hn hio' ho HH1 HG AW S1
   cases o with
   | none=>
    have HRD:Hid (zs (silR p c k)=([]:List Int)):=by show _=_;rw [HSR.out,HO.out];rfl
    go_wp2_with fail
    go_roundg (gk - 1)
    case measure=>exact HG2.out.2
    case rel=>exact ⟨k+1,by omega,by go_num,ss_next HS.out hkl HS1.out HRD.out,fun j h1 h2=>((HS1.out).oth j (by omega)).trans (HZ.out j (by omega) h2),HB1.out,HG2.out.1⟩
   | some st=>
    have HSR2:Hid (silR p c k=silI ⟨op,na,nb,nc,nd⟩ k):=by show _=_;rw [HSR.out,HO.out]
    have HTI:Hid (∀W,Calls Tryz.prog 123 #[.agg #[.int .i64 op,.int .i64 na,.int .i64 nb,.int .i64 nc,.int .i64 nd]] W fun e w'=>e=.returned (.bool (ticksB ⟨op,na,nb,nc,nd⟩))∧Below W.heap.size W w'):=fun W=>ticks_any ⟨op,na,nb,nc,nd⟩ W
    have HHN:Hid (∀W,Calls Tryz.prog 107 #[.agg #[.int .i64 op,.int .i64 na,.int .i64 nb,.int .i64 nc,.int .i64 nd]] W fun e w'=>e=.returned (.bool (nextB ⟨op,na,nb,nc,nd⟩))∧Below W.heap.size W w'):=fun W=>hasNext_any ⟨op,na,nb,nc,nd⟩ W
    clear HSR HO
    dsimp only [Option.isSome] at z0
    go_wp2_with fail
    refine (HTI.out _).mono ?_
    rintro e w2 ⟨rfl,hw2⟩
    have S2:=HS1.out.later hw2
    have HB2:Hid (Below w.heap.size w w2):=HB1.out.trans (hw2.mono HB1.out.size)
    clear HTI u10 z0 q0 q1 q2 q3 q4 hibl HS1 HB1 hw2
    cases hti:ticksB ⟨op,na,nb,nc,nd⟩
    ·have n2:=S2.ins.cell
     have HS2:Hid (SiAt w.heap.size p.ins.length k wr w2 #[.int .i64 op,.int .i64 na,.int .i64 nb,.int .i64 nc,.int .i64 nd] (.slice none 0 0) ([]:List Int)):=S2
     go_wp2_with fail
     refine (HHN.out _).mono ?_
     rintro e w3 ⟨rfl,hw3⟩
     have S3:=HS2.out.later hw3
     have HB3:Hid (Below w.heap.size w w3):=HB2.out.trans (hw3.mono HB2.out.size)
     clear n2 HHN hw3 S2 HS2 HB2
     by_cases hnx:nextB ⟨op,na,nb,nc,nd⟩=true∧op≠41
     ·have HRW:Hid (zs (silR p c k)=([] ++ [((k:Int)+1:Int)]) ++ zs ((tgtF ⟨op,na,nb,nc,nd⟩).toList)):=by show _=_;rw [HSR2.out];unfold silI;rw [hti];simp [hnx.1,hnx.2,zs]
      have e41:(op != 41)=true:=by simpa using hnx.2
      rw [hnx.1]
      have n3:=S3.ins.cell
      clear hnx hti
      have HSa:Hid (SiAt w.heap.size p.ins.length k wr w3 #[.int .i64 op,.int .i64 na,.int .i64 nb,.int .i64 nc,.int .i64 nd] (.slice none 0 0) ([]:List Int)):=S3
      have cu:=HSa.out.cur
      have cf:=HSa.out.own.frozen k
      have hsw:=HSa.out.size
      have hgw:=HSa.out.own.lt
      go_wp2_with (at_builtin;refine app_int rfl _ _ rfl (wr.heap.size+1) _ ([]:List Int).length ([]:List Int) (((k:Int)+1)) _ rfl (HSa.out.row.alloc _) rfl ?c1 (by simp) ?c3 ?_)
      case c1=>exact (Blk.new w3 #[.int .i64 (((k:Int)+1))] 3).cell 0
      case c3=>exact Nat.le_trans HSa.out.size (by simp)
      intro v' w' H1 H2 _
      have H1b:w'.ownsRow (wr.heap.size+1) 3 1 v' 1 (ints (([]:List Int) ++ [(((k:Int)+1):Int)])):=H1
      obtain⟨vo',vc',rfl⟩:=owns_slice H1b
      obtain⟨HSb,cu',cf',hbb⟩:=HSa.out.app H1 H2 hgr
      have HSb2:Hid (SiAt w.heap.size p.ins.length k wr (w'.setCell ⟨w.heap.size,k,none⟩ (.slice vo' 1 vc')) #[.int .i64 op,.int .i64 na,.int .i64 nb,.int .i64 nc,.int .i64 nd] (.slice vo' 1 vc') (([]:List Int) ++ [(((k:Int)+1):Int)])):=HSb
      have HBb:Hid (Below w.heap.size w (w'.setCell ⟨w.heap.size,k,none⟩ (.slice vo' 1 vc'))):=HB3.out.trans hbb
      clear HSb hbb H1 H1b H2 cu cf HSa
      have HGA:Hid (∀_:Unit,_):=fun _=>goesOnAt_any ps.length p ⟨op,na,nb,nc,nd⟩ (w'.setCell ⟨w.heap.size,k,none⟩ (.slice vo' 1 vc')) HNF.out (X.forms.later (hb0.trans ((HBb.out).mono hb0.size)))
      unfold Nd.val at HGA
      have n8:=(HSb2.out).ins.cell
      go_wp2_with fail
      refine (HGA.out ()).mono ?_
      rintro e w8 ⟨rfl,hw8⟩
      have S8:=(HSb2.out).later hw8
      have HB8:Hid (Below w.heap.size w w8):=(HBb.out).trans (hw8.mono (HBb.out).size)
      clear n8 HGA hw8
      cases htg:tgtF ⟨op,na,nb,nc,nd⟩ with
      | none=>
       have HTV:Hid (tgV ⟨op,na,nb,nc,nd⟩ = -1):=by show _=_;unfold tgV;rw [htg]
       rw [HTV.out]
       have HS8:Hid (SiAt w.heap.size p.ins.length k wr w8 #[.int .i64 op,.int .i64 na,.int .i64 nb,.int .i64 nc,.int .i64 nd] (.slice vo' 1 vc') ([] ++ [((k:Int)+1:Int)])):=S8
       have HRD:Hid (zs (silR p c k)=([] ++ [((k:Int)+1:Int)])):=by have:=HRW.out;rw [htg] at this;show _=_;rw [this];simp [zs]
       clear htg HTV S8
       go_wp2_with fail
       go_roundg (gk - 1)
       case measure=>exact HG2.out.2
       case rel=>exact ⟨k+1,by omega,by go_num,ss_next HS.out hkl HS8.out HRD.out,fun j h1 h2=>((HS8.out).oth j (by omega)).trans (HZ.out j (by omega) h2),HB8.out,HG2.out.1⟩
      | some t=>
       have HTV:Hid (tgV ⟨op,na,nb,nc,nd⟩=(t:Int)):=by show _=_;unfold tgV;rw [htg]
       rw [HTV.out]
       have HRD:Hid (zs (silR p c k)=([] ++ [((k:Int)+1:Int)]) ++ [(t:Int)]):=by have:=HRW.out;rw [htg] at this;show _=_;rw [this];simp [zs]
       have kt:(0:Int)≤t:=by omega
       clear htg HTV
       have HSa:Hid (SiAt w.heap.size p.ins.length k wr w8 #[.int .i64 op,.int .i64 na,.int .i64 nb,.int .i64 nc,.int .i64 nd] (.slice vo' 1 vc') ([] ++ [((k:Int)+1:Int)])):=S8
       have cu:=HSa.out.cur
       have cf:=HSa.out.own.frozen k
       have hsw:=HSa.out.size
       have hgw:=HSa.out.own.lt
       go_wp2_with (at_builtin;refine app_int rfl _ _ rfl (wr.heap.size+1) _ ([] ++ [((k:Int)+1:Int)]).length ([] ++ [((k:Int)+1:Int)]) ((t:Int)) _ rfl (HSa.out.row.alloc _) rfl ?c1 (by simp) ?c3 ?_)
       case c1=>exact (Blk.new w8 #[.int .i64 ((t:Int))] 3).cell 0
       case c3=>exact Nat.le_trans HSa.out.size (by simp)
       intro v' w' H1 H2 _
       have H1b:w'.ownsRow (wr.heap.size+1) 3 1 v' 2 (ints (([] ++ [((k:Int)+1:Int)]) ++ [((t:Int):Int)])):=H1
       obtain⟨vo',vc',rfl⟩:=owns_slice H1b
       obtain⟨HSb,cu',cf',hbb⟩:=HSa.out.app H1 H2 hgr
       have HSb2:Hid (SiAt w.heap.size p.ins.length k wr (w'.setCell ⟨w.heap.size,k,none⟩ (.slice vo' 2 vc')) #[.int .i64 op,.int .i64 na,.int .i64 nb,.int .i64 nc,.int .i64 nd] (.slice vo' 2 vc') (([] ++ [((k:Int)+1:Int)]) ++ [((t:Int):Int)])):=HSb
       have HBb:Hid (Below w.heap.size w (w'.setCell ⟨w.heap.size,k,none⟩ (.slice vo' 2 vc'))):=HB8.out.trans hbb
       clear HSb hbb H1 H1b H2 cu cf HSa
       go_wp2_with fail
       go_roundg (gk - 1)
       case measure=>exact HG2.out.2
       case rel=>exact ⟨k+1,by omega,by go_num,ss_next HS.out hkl HSb2.out HRD.out,fun j h1 h2=>((HSb2.out).oth j (by omega)).trans (HZ.out j (by omega) h2),HBb.out,HG2.out.1⟩
     ·have hnf:(nextB ⟨op,na,nb,nc,nd⟩ && op != 41)=false:=by
       rw [Bool.and_eq_false_iff]
       by_cases h1:nextB ⟨op,na,nb,nc,nd⟩=true
       ·right
        have:¬op≠41:=fun h2=>hnx ⟨h1,h2⟩
        simpa using this
       ·left;simpa using h1
      have HRW:Hid (zs (silR p c k)=([]:List Int) ++ zs ((tgtF ⟨op,na,nb,nc,nd⟩).toList)):=by show _=_;rw [HSR2.out];unfold silI;rw [hti];dsimp only;rw [hnf];rfl
      have n3:=S3.ins.cell
      cases hb:nextB ⟨op,na,nb,nc,nd⟩
      ·clear hnx hti hnf hb
       have HGA:Hid (∀_:Unit,_):=fun _=>goesOnAt_any ps.length p ⟨op,na,nb,nc,nd⟩ w3 HNF.out (X.forms.later (hb0.trans ((HB3.out).mono hb0.size)))
       unfold Nd.val at HGA
       have n8:=(S3).ins.cell
       go_wp2_with fail
       refine (HGA.out ()).mono ?_
       rintro e w8 ⟨rfl,hw8⟩
       have S8:=(S3).later hw8
       have HB8:Hid (Below w.heap.size w w8):=(HB3.out).trans (hw8.mono (HB3.out).size)
       clear n8 HGA hw8
       cases htg:tgtF ⟨op,na,nb,nc,nd⟩ with
       | none=>
        have HTV:Hid (tgV ⟨op,na,nb,nc,nd⟩ = -1):=by show _=_;unfold tgV;rw [htg]
        rw [HTV.out]
        have HS8:Hid (SiAt w.heap.size p.ins.length k wr w8 #[.int .i64 op,.int .i64 na,.int .i64 nb,.int .i64 nc,.int .i64 nd] (.slice none 0 0) ([]:List Int)):=S8
        have HRD:Hid (zs (silR p c k)=([]:List Int)):=by have:=HRW.out;rw [htg] at this;show _=_;rw [this];simp [zs]
        clear htg HTV S8
        go_wp2_with fail
        go_roundg (gk - 1)
        case measure=>exact HG2.out.2
        case rel=>exact ⟨k+1,by omega,by go_num,ss_next HS.out hkl HS8.out HRD.out,fun j h1 h2=>((HS8.out).oth j (by omega)).trans (HZ.out j (by omega) h2),HB8.out,HG2.out.1⟩
       | some t=>
        have HTV:Hid (tgV ⟨op,na,nb,nc,nd⟩=(t:Int)):=by show _=_;unfold tgV;rw [htg]
        rw [HTV.out]
        have HRD:Hid (zs (silR p c k)=([]:List Int) ++ [(t:Int)]):=by have:=HRW.out;rw [htg] at this;show _=_;rw [this];simp [zs]
        have kt:(0:Int)≤t:=by omega
        clear htg HTV
        have HSa:Hid (SiAt w.heap.size p.ins.length k wr w8 #[.int .i64 op,.int .i64 na,.int .i64 nb,.int .i64 nc,.int .i64 nd] (.slice none 0 0) ([]:List Int)):=S8
        have cu:=HSa.out.cur
        have cf:=HSa.out.own.frozen k
        have hsw:=HSa.out.size
        have hgw:=HSa.out.own.lt
        go_wp2_with (at_builtin;refine app_int rfl _ _ rfl (wr.heap.size+1) _ ([]:List Int).length ([]:List Int) ((t:Int)) _ rfl (HSa.out.row.alloc _) rfl ?c1 (by simp) ?c3 ?_)
        case c1=>exact (Blk.new w8 #[.int .i64 ((t:Int))] 3).cell 0
        case c3=>exact Nat.le_trans HSa.out.size (by simp)
        intro v' w' H1 H2 _
        have H1b:w'.ownsRow (wr.heap.size+1) 3 1 v' 1 (ints (([]:List Int) ++ [((t:Int):Int)])):=H1
        obtain⟨vo',vc',rfl⟩:=owns_slice H1b
        obtain⟨HSb,cu',cf',hbb⟩:=HSa.out.app H1 H2 hgr
        have HSb2:Hid (SiAt w.heap.size p.ins.length k wr (w'.setCell ⟨w.heap.size,k,none⟩ (.slice vo' 1 vc')) #[.int .i64 op,.int .i64 na,.int .i64 nb,.int .i64 nc,.int .i64 nd] (.slice vo' 1 vc') (([]:List Int) ++ [((t:Int):Int)])):=HSb
        have HBb:Hid (Below w.heap.size w (w'.setCell ⟨w.heap.size,k,none⟩ (.slice vo' 1 vc'))):=HB8.out.trans hbb
        clear HSb hbb H1 H1b H2 cu cf HSa
        go_wp2_with fail
        go_roundg (gk - 1)
        case measure=>exact HG2.out.2
        case rel=>exact ⟨k+1,by omega,by go_num,ss_next HS.out hkl HSb2.out HRD.out,fun j h1 h2=>((HSb2.out).oth j (by omega)).trans (HZ.out j (by omega) h2),HBb.out,HG2.out.1⟩
      ·have e41:(op != 41)=false:=by rw [hb] at hnf;simpa using hnf
       clear hnx hti hnf hb
       have HGA:Hid (∀_:Unit,_):=fun _=>goesOnAt_any ps.length p ⟨op,na,nb,nc,nd⟩ w3 HNF.out (X.forms.later (hb0.trans ((HB3.out).mono hb0.size)))
       unfold Nd.val at HGA
       have n8:=(S3).ins.cell
       go_wp2_with fail
       refine (HGA.out ()).mono ?_
       rintro e w8 ⟨rfl,hw8⟩
       have S8:=(S3).later hw8
       have HB8:Hid (Below w.heap.size w w8):=(HB3.out).trans (hw8.mono (HB3.out).size)
       clear n8 HGA hw8
       cases htg:tgtF ⟨op,na,nb,nc,nd⟩ with
       | none=>
        have HTV:Hid (tgV ⟨op,na,nb,nc,nd⟩ = -1):=by show _=_;unfold tgV;rw [htg]
        rw [HTV.out]
        have HS8:Hid (SiAt w.heap.size p.ins.length k wr w8 #[.int .i64 op,.int .i64 na,.int .i64 nb,.int .i64 nc,.int .i64 nd] (.slice none 0 0) ([]:List Int)):=S8
        have HRD:Hid (zs (silR p c k)=([]:List Int)):=by have:=HRW.out;rw [htg] at this;show _=_;rw [this];simp [zs]
        clear htg HTV S8
        go_wp2_with fail
        go_roundg (gk - 1)
        case measure=>exact HG2.out.2
        case rel=>exact ⟨k+1,by omega,by go_num,ss_next HS.out hkl HS8.out HRD.out,fun j h1 h2=>((HS8.out).oth j (by omega)).trans (HZ.out j (by omega) h2),HB8.out,HG2.out.1⟩
       | some t=>
        have HTV:Hid (tgV ⟨op,na,nb,nc,nd⟩=(t:Int)):=by show _=_;unfold tgV;rw [htg]
        rw [HTV.out]
        have HRD:Hid (zs (silR p c k)=([]:List Int) ++ [(t:Int)]):=by have:=HRW.out;rw [htg] at this;show _=_;rw [this];simp [zs]
        have kt:(0:Int)≤t:=by omega
        clear htg HTV
        have HSa:Hid (SiAt w.heap.size p.ins.length k wr w8 #[.int .i64 op,.int .i64 na,.int .i64 nb,.int .i64 nc,.int .i64 nd] (.slice none 0 0) ([]:List Int)):=S8
        have cu:=HSa.out.cur
        have cf:=HSa.out.own.frozen k
        have hsw:=HSa.out.size
        have hgw:=HSa.out.own.lt
        go_wp2_with (at_builtin;refine app_int rfl _ _ rfl (wr.heap.size+1) _ ([]:List Int).length ([]:List Int) ((t:Int)) _ rfl (HSa.out.row.alloc _) rfl ?c1 (by simp) ?c3 ?_)
        case c1=>exact (Blk.new w8 #[.int .i64 ((t:Int))] 3).cell 0
        case c3=>exact Nat.le_trans HSa.out.size (by simp)
        intro v' w' H1 H2 _
        have H1b:w'.ownsRow (wr.heap.size+1) 3 1 v' 1 (ints (([]:List Int) ++ [((t:Int):Int)])):=H1
        obtain⟨vo',vc',rfl⟩:=owns_slice H1b
        obtain⟨HSb,cu',cf',hbb⟩:=HSa.out.app H1 H2 hgr
        have HSb2:Hid (SiAt w.heap.size p.ins.length k wr (w'.setCell ⟨w.heap.size,k,none⟩ (.slice vo' 1 vc')) #[.int .i64 op,.int .i64 na,.int .i64 nb,.int .i64 nc,.int .i64 nd] (.slice vo' 1 vc') (([]:List Int) ++ [((t:Int):Int)])):=HSb
        have HBb:Hid (Below w.heap.size w (w'.setCell ⟨w.heap.size,k,none⟩ (.slice vo' 1 vc'))):=HB8.out.trans hbb
        clear HSb hbb H1 H1b H2 cu cf HSa
        go_wp2_with fail
        go_roundg (gk - 1)
        case measure=>exact HG2.out.2
        case rel=>exact ⟨k+1,by omega,by go_num,ss_next HS.out hkl HSb2.out HRD.out,fun j h1 h2=>((HSb2.out).oth j (by omega)).trans (HZ.out j (by omega) h2),HBb.out,HG2.out.1⟩
    ·have HRD:Hid (zs (silR p c k)=([]:List Int)):=by show _=_;rw [HSR2.out];unfold silI;rw [hti];rfl
     have HS2:Hid (SiAt w.heap.size p.ins.length k wr w2 #[.int .i64 op,.int .i64 na,.int .i64 nb,.int .i64 nc,.int .i64 nd] (.slice none 0 0) ([]:List Int)):=S2
     clear hti S2
     go_wp2_with fail
     go_roundg (gk - 1)
     case measure=>exact HG2.out.2
     case rel=>exact ⟨k+1,by omega,by go_num,ss_next HS.out hkl HS2.out HRD.out,fun j h1 h2=>((HS2.out).oth j (by omega)).trans (HZ.out j (by omega) h2),HB2.out,HG2.out.1⟩
  ·obtain rfl:k=p.ins.length:=by omega
   have kk:¬(p.ins.length:Int)<p.ins.length:=by omega
   clear HG
   go_wp2_with fail
   go_ret
   refine⟨⟨w.heap.size,rfl,HS.out.own,fun j hj=>?_⟩,HB.out⟩
   have:=HS.out.at_ j hj
   unfold rowsTo at this
   rw [if_pos hj] at this
   exact this
end Go.Proofs.YtaakadmnhpboiaaGreatDoor
