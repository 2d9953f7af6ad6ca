import Derived.Test.YtgopdffmnikhdaaGreatDoorT26
import Derived.Test.YtgopdffmnikhdaaGreatDoorT36
import Derived.Test.YtgopdffmnikhdaaGreatDoorT25
import Derived.Test.YtgopdffmnikhdaaGreatDoorT03
namespace Go.Proofs.YtgopdffmnikhdaaGreatDoor
open Go.RowKit Go.Deep
def ReachPost (B L vb sb db:Nat) (cao:Option Addr) (ccap:Nat) (ps:List Pd) (p:Pd) (h:Ph) (w:World) (o:Option Cf) (e:Ending) (w':World):Prop:=
 (match o with | none=>e=.returned (.bool false) | some c'=>e=.returned (.bool true)∧∃l',l'≤p.ins.length∧VfAt L vb sb db cao ccap ps p h w' c' l')∧Off B L w w'
set_option maxRecDepth 100000 in
set_option maxHeartbeats 8000000 in
theorem reach_any (B L vb sb db:Nat) (cao:Option Addr) (ccap:Nat) (ps:List Pd) (p:Pd) (h:Ph) (c:Cf) (l:Nat) (w:World) (x:Nat) (rb:Bool) (s:St) (to go:Option Addr) (tc gc:Nat) (V:VfIn B L vb sb db) (_hz:p.ins.length≤6000) (H0:VfAt L vb sb db cao ccap ps p h w c l) (hl:l≤p.ins.length) (hL:L≤w.heap.size) (hx:x<p.ins.length) (ht:RowI L w to tc s.types) (hg:RowG L w go gc s.guards) (hB:B≤L) (hold:∀t,c.st x=some t→t.types.length≤250∧t.guards.length≤50) :
  Calls Tryz.prog 250 #[.pointer (some ⟨vb,0,none⟩),.int .i64 x,.agg #[.bool rb,.slice to s.types.length tc,.slice go s.guards.length gc]] w (ReachPost B L vb sb db cao ccap ps p h w (reachF c x s)):=by
 have HVI:Hid _:=V
 have A0:=fun o=>(Below.refl w.heap.size w).alloc (Nat.le_refl _) o
 have hxS:x<c.sts.length:=by rw [H0.lenS];exact hx
 obtain⟨o,ho⟩:=some_of_lt hxS
 have HO:Hid (c.st x=o):=by show _=_;unfold Cf.st;rw [List.getD_eq_getElem?_getD,ho];rfl
 have k1:(x:Int)<p.ins.length:=by omega
 have H1:=H0.below (A0 (.cells #[.bool rb,.slice to s.types.length tc,.slice go s.guards.length gc] 318))
 have T1:=ht.later (Keeps.of_below (A0 (.cells #[.bool rb,.slice to s.types.length tc,.slice go s.guards.length gc] 318)))
 have G1:=hg.later (Keeps.of_below (A0 (.cells #[.bool rb,.slice to s.types.length tc,.slice go s.guards.length gc] 318)))
 have S1:=Blk.new w #[.bool rb,.slice to s.types.length tc,.slice go s.guards.length gc] 318
 obtain⟨to2,tc2,go2,gc2,z0,z1,z2,RT,RG⟩:=H1.sts.at_ x o ho
 have O1:Off B L w (w.alloc (.cells #[.bool rb,.slice to s.types.length tc,.slice go s.guards.length gc] 318)):=Off.of_below (A0 _) (Nat.le_trans hB hL)
 have v1:=H1.blk.cell
 have hwl:L≤w.heap.size:=hL
 have HOLD:Hid _:=hold
 have HH0:Hid _:=H0
 have HT0:Hid (RowI L w to tc s.types):=ht
 have HG0:Hid (RowG L w go gc s.guards):=hg
 have HSX:Hid (c.sts[x]?=some o):=ho
 have HB1:Hid (Below w.heap.size w (w.alloc (.cells #[.bool rb,.slice to s.types.length tc,.slice go s.guards.length gc] 318))):=A0 _
 clear H0 ht hg V hold ho A0
 generalize hw1:w.alloc (.cells #[.bool rb,.slice to s.types.length tc,.slice go s.guards.length gc] 318)=w1 at *
 have hw1s:w1.heap.size=w.heap.size+1:=by rw [←hw1];simp
 cases o with
 | none=>
  dsimp only [stT,stG,Option.isSome,List.length_nil] at z0 z1 z2
  have BZ:Below w.heap.size w ((w.alloc (.cells #[.bool true,.slice to s.types.length tc,.slice go s.guards.length gc] 318)).alloc (.cells #[.bool false,.slice to2 0 tc2,.slice go2 0 gc2] 318)):=((Below.refl _ _).alloc (Nat.le_refl _) _).alloc (by simp) _
  have H2:=HH0.out.below BZ
  have T2:=HT0.out.later (Keeps.of_below BZ)
  have G2:=HG0.out.later (Keeps.of_below BZ)
  have S2:=(Blk.new w #[.bool true,.slice to s.types.length tc,.slice go s.guards.length gc] 318).alloc (.cells #[.bool false,.slice to2 0 tc2,.slice go2 0 gc2] 318)
  have O2:Off B L w _:=Off.of_below BZ (Nat.le_trans hB hL)
  have HRE:Hid (reachF c x s=some ⟨c.sts.set x (some s),c.due.set x true⟩):=reach_new HO.out
  have hneS2:¬sb=w.heap.size:=by have:=HVI.out.s2;omega
  have hsv:¬sb=vb:=fun e=>HVI.out.vs e.symm
  clear H1 T1 G1 S1 O1 BZ
  subst hw1
  go_enter Tryz.func250,Tryz.ntmps250
  go_wp2_with fail
  generalize hwz:(w.alloc (.cells #[.bool true,.slice to s.types.length tc,.slice go s.guards.length gc] 318)).alloc (.cells #[.bool false,.slice to2 0 tc2,.slice go2 0 gc2] 318)=w2 at *
  have hB2:B≤w2.heap.size:=Nat.le_trans (Nat.le_trans hB hL) O2.size
  clear hwz v1 z0 z1 z2
  have v210:=H2.blk.cell 10
  have s20:=S2.cell 0
  have s21:=S2.cell 1
  have s22:=S2.cell 2
  obtain⟨to3,tc3,go3,gc3,y0,y1,y2,_,_⟩:=H2.sts.at_ x none HSX.out
  have fz:=H2.sts.own.frozen
  have HKP:Hid ((((w2.setCell ⟨sb,x*3,none⟩ (.bool true)).setCell ⟨sb,x*3+1,none⟩ (.slice to s.types.length tc)).setCell ⟨sb,x*3+2,none⟩ (.slice go s.guards.length gc)).drew.cell? ⟨vb,10,none⟩=some (.slice (some ⟨sb,0,none⟩) p.ins.length p.ins.length)∧(((w2.setCell ⟨sb,x*3,none⟩ (.bool true)).setCell ⟨sb,x*3+1,none⟩ (.slice to s.types.length tc)).setCell ⟨sb,x*3+2,none⟩ (.slice go s.guards.length gc)).drew.cell? ⟨w.heap.size,0,none⟩=some (.bool true)∧(((w2.setCell ⟨sb,x*3,none⟩ (.bool true)).setCell ⟨sb,x*3+1,none⟩ (.slice to s.types.length tc)).setCell ⟨sb,x*3+2,none⟩ (.slice go s.guards.length gc)).drew.cell? ⟨w.heap.size,1,none⟩=some (.slice to s.types.length tc)∧(((w2.setCell ⟨sb,x*3,none⟩ (.bool true)).setCell ⟨sb,x*3+1,none⟩ (.slice to s.types.length tc)).setCell ⟨sb,x*3+2,none⟩ (.slice go s.guards.length gc)).drew.cell? ⟨w.heap.size,2,none⟩=some (.slice go s.guards.length gc)):=
   ⟨((World.cell?_setCell_far _ _ _ _ hsv).trans ((World.cell?_setCell_far _ _ _ _ hsv).trans (World.cell?_setCell_far _ _ _ _ hsv))).trans v210,((World.cell?_setCell_far _ _ _ _ hneS2).trans ((World.cell?_setCell_far _ _ _ _ hneS2).trans (World.cell?_setCell_far _ _ _ _ hneS2))).trans s20,((World.cell?_setCell_far _ _ _ _ hneS2).trans ((World.cell?_setCell_far _ _ _ _ hneS2).trans (World.cell?_setCell_far _ _ _ _ hneS2))).trans s21,((World.cell?_setCell_far _ _ _ _ hneS2).trans ((World.cell?_setCell_far _ _ _ _ hneS2).trans (World.cell?_setCell_far _ _ _ _ hneS2))).trans s22⟩
  have hD:Below w2.heap.size w2 w2.drew:=(Below.refl _ _).drew
  have H3:=(H2.below hD).put HVI.out hx (T2.later (Keeps.of_below hD)) (G2.later (Keeps.of_below hD))
  have O3:=(((O2.trans (Off.of_below (L:=L) hD hB2)).set (.bool true) (p:=⟨sb,x*3,none⟩) HVI.out.s1 HVI.out.s2).set (.slice to s.types.length tc) (p:=⟨sb,x*3+1,none⟩) HVI.out.s1 HVI.out.s2).set (.slice go s.guards.length gc) (p:=⟨sb,x*3+2,none⟩) HVI.out.s1 HVI.out.s2
  have HH3:Hid (VfAt L vb sb db cao ccap ps p h (((w2.setCell ⟨sb,x*3,none⟩ (.bool true)).setCell ⟨sb,x*3+1,none⟩ (.slice to s.types.length tc)).setCell ⟨sb,x*3+2,none⟩ (.slice go s.guards.length gc)).drew ⟨c.sts.set x (some s),c.due⟩ l):=H3
  have HO3:Hid (Off B L w (((w2.setCell ⟨sb,x*3,none⟩ (.bool true)).setCell ⟨sb,x*3+1,none⟩ (.slice to s.types.length tc)).setCell ⟨sb,x*3+2,none⟩ (.slice go s.guards.length gc)).drew):=O3
  clear H3 O3 hD T2 G2 H2 O2 S2 hneS2 hsv
  go_wp2_with fail
  go_region_held3 (fun w'=>w'.cell? ⟨vb,10,none⟩=some (.slice (some ⟨sb,0,none⟩) p.ins.length p.ins.length)∧w'.cell? ⟨w.heap.size,0,none⟩=some (.bool true)∧w'.cell? ⟨w.heap.size,1,none⟩=some (.slice to s.types.length tc)∧w'.cell? ⟨w.heap.size,2,none⟩=some (.slice go s.guards.length gc)) (first | exact ⟨v210,s20,s21,s22⟩ | exact HKP.out | (go_keep;done)) (fail)
  clear v210 s20 s21 s22 y0 y1 y2 fz HKP
  generalize (((w2.setCell ⟨sb,x*3,none⟩ (.bool true)).setCell ⟨sb,x*3+1,none⟩ (.slice to s.types.length tc)).setCell ⟨sb,x*3+2,none⟩ (.slice go s.guards.length gc)).drew=w3 at *
  have v3:=HH3.out.blk.cell
  have f3:=HH3.out.blk.frozen 12
  have d3:=(HH3.out.due.cell x).trans (boolArr_get (by rw [HH3.out.lenD];exact hx))
  have g3:=HH3.out.due.frozen x
  have hdv:¬db=vb:=fun e=>HVI.out.vd e.symm
  have hvd:¬vb=db:=HVI.out.vd
  have hmn:min (l:Int) (x:Int)=((min l x:Nat):Int):=by omega
  have HMN:Hid _:=hmn
  clear hmn
  go_wp2_with fail
  go_ret
  unfold ReachPost
  rw [HRE.out,HMN.out]
  exact⟨⟨rfl,min l x,by omega,HH3.out.setDue HVI.out x (min l x) (by omega) (by omega)⟩,(HO3.out.set _ HVI.out.d1 HVI.out.d2).set _ HVI.out.v1 HVI.out.v2⟩
 | some t=>
  dsimp only [stT,stG,Option.isSome] at z0 z1 z2
  have hots:=HOLD.out t HO.out
  have BZ:Below w.heap.size w ((w.alloc (.cells #[.bool rb,.slice to s.types.length tc,.slice go s.guards.length gc] 318)).alloc (.cells #[.bool true,.slice to2 t.types.length tc2,.slice go2 t.guards.length gc2] 318)):=((Below.refl _ _).alloc (Nat.le_refl _) _).alloc (by simp) _
  have H2:=HH0.out.below BZ
  obtain⟨to3,tc3,go3,gc3,y0,y1,y2,RT0,RG0⟩:=HH0.out.sts.at_ x (some t) HSX.out
  have e1:to3=to2∧tc3=tc2:=by
   have:=(HB1.out.cell (p:=⟨sb,x*3+1,none⟩) HH0.out.sts.own.lt).trans y1
   rw [z1] at this
   simpa [stT] using this.symm
  have e2:go3=go2∧gc3=gc2:=by
   have:=(HB1.out.cell (p:=⟨sb,x*3+2,none⟩) HH0.out.sts.own.lt).trans y2
   rw [z2] at this
   simpa [stG] using this.symm
  obtain⟨rfl,rfl⟩:=e1
  obtain⟨rfl,rfl⟩:=e2
  dsimp only [stT,stG] at RT0 RG0
  have HE1:Hid (∀W,Below w.heap.size w W→Calls Tryz.prog 301 #[.slice to3 t.types.length tc3,.slice to s.types.length tc] W fun e w'=>e=.returned (.bool (decide (t.types=s.types)))∧Below W.heap.size W w'):=fun W hb=>equalInt_any _ _ _ _ _ _ W (by omega) (AllAt.lower (RT0.later (Keeps.of_below hb)).at_ (Nat.zero_le _)) (AllAt.lower (HT0.out.later (Keeps.of_below hb)).at_ (Nat.zero_le _))
  have HE2:Hid (∀W,Below w.heap.size w W→Calls Tryz.prog 302 #[.slice go3 t.guards.length gc3,.slice go s.guards.length gc] W fun e w'=>e=.returned (.bool (decide (t.guards=s.guards)))∧Below W.heap.size W w'):=fun W hb=>equalGd_any _ _ _ _ _ _ W (by omega) (AllAt.lower (RG0.later (Keeps.of_below hb)).at_ (Nat.zero_le _)) (AllAt.lower (HG0.out.later (Keeps.of_below hb)).at_ (Nat.zero_le _))
  have S2:=(Blk.new w #[.bool rb,.slice to s.types.length tc,.slice go s.guards.length gc] 318).alloc (.cells #[.bool true,.slice to3 t.types.length tc3,.slice go3 t.guards.length gc3] 318)
  have P2:=Blk.new (w.alloc (.cells #[.bool rb,.slice to s.types.length tc,.slice go s.guards.length gc] 318)) #[.bool true,.slice to3 t.types.length tc3,.slice go3 t.guards.length gc3] 318
  simp only [nblk_alloc] at P2
  have HRE:Hid (reachF c x s=if t=s then some c else none):=reach_old HO.out
  have HST:Hid ((decide (t.types=s.types) && decide (t.guards=s.guards))=decide (t=s)):=st_same
  have HBZ:Hid _:=BZ
  clear H1 T1 G1 S1 O1 BZ RT0 RG0 RT RG y0 y1 y2 HOLD hots
  subst hw1
  go_enter Tryz.func250,Tryz.ntmps250
  go_wp2_with fail
  generalize hwz:(w.alloc (.cells #[.bool rb,.slice to s.types.length tc,.slice go s.guards.length gc] 318)).alloc (.cells #[.bool true,.slice to3 t.types.length tc3,.slice go3 t.guards.length gc3] 318)=w2 at *
  clear hwz v1 z0 z1 z2
  refine (HE1.out w2 HBZ.out).mono ?_
  rintro e w3 ⟨rfl,hw3⟩
  have HB3:Hid (Below w.heap.size w w3):=HBZ.out.trans (hw3.mono HBZ.out.size)
  have H3:=H2.below hw3
  have s3:=(S2.later hw3).cell
  have p3:=(P2.later hw3).cell
  clear hw3 H2 S2 P2 HE1
  cases hte:decide (t.types=s.types)
  ·have HR2:Hid (reachF c x s=none):=by
    have h1:=HST.out
    rw [hte] at h1
    show _=_
    rw [HRE.out,if_neg (by simpa using h1.symm)]
   clear hte HST HRE
   go_wp2_with fail
   go_ret
   unfold ReachPost
   rw [HR2.out]
   exact⟨rfl,Off.of_below HB3.out (Nat.le_trans hB hL)⟩
  ·have HST2:Hid (decide (t.guards=s.guards)=decide (t=s)):=by have h1:=HST.out;rw [hte,Bool.true_and] at h1;exact h1
   clear hte HST
   go_wp2_with fail
   refine (HE2.out w3 HB3.out).mono ?_
   rintro e w4 ⟨rfl,hw4⟩
   have HB4:Hid (Below w.heap.size w w4):=HB3.out.trans (hw4.mono HB3.out.size)
   have H4:=H3.below hw4
   rw [HST2.out]
   clear hw4 H3 s3 p3 HE2 HST2
   by_cases hts:t=s
   ·have HR2:Hid (reachF c x s=some c):=by show _=_;rw [HRE.out,if_pos hts]
    rw [decide_eq_true hts]
    clear hts HRE
    go_wp2_with fail
    go_ret
    unfold ReachPost
    rw [HR2.out]
    exact⟨⟨rfl,l,hl,H4⟩,Off.of_below HB4.out (Nat.le_trans hB hL)⟩
   ·have HR2:Hid (reachF c x s=none):=by show _=_;rw [HRE.out,if_neg hts]
    rw [decide_eq_false hts]
    clear hts HRE
    go_wp2_with fail
    go_ret
    unfold ReachPost
    rw [HR2.out]
    exact⟨rfl,Off.of_below HB4.out (Nat.le_trans hB hL)⟩
end Go.Proofs.YtgopdffmnikhdaaGreatDoor
