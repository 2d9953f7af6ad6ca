import Derived.Test.YtbefeflgjipfhaaGreatDoorF07
set_option maxRecDepth 8000
set_option maxHeartbeats 4000000
namespace Go.Proofs.YtbefeflgjipfhaaGreatDoor
open Go.Deep Go.Proofs.Tryz Go.RowKit
attribute [local go_sem] A7 vi
@[local go_sem] theorem Aar (w:World):(Op.equalIn 9999 50 (.float .f64 0) (.float .f64 0)).run prog w=.ok true w:=by kernel_rfl
abbrev vd (a b:Int) (c:Nat) (d:ByteArray) (e:Int):Array Value:=#[.int .i64 0,.int .i64 a,.int .i64 b,.float .f64 c,.string d,.int .i64 e]
theorem A87 (b:Int) (d:ByteArray) (w:World) (hv:Bl ⟨2,b,0,d,0⟩=true) :
  Calls prog 206 #[.agg (va 2 b 0 d 0)] w fun e' w'=>e'=.returned (.agg (vd 2 b 0 d 0))/\Below w.heap.size w w':=by
 have HV:Hid (∀W,Calls prog 212 #[.agg (va 2 b 0 d 0)] W fun e w'=>e=.returned (.bool true)/\Below W.heap.size W w'):=fun W=>(Dz ⟨2,b,0,d,0⟩ W).mono (by rintro e w' ⟨rfl,h⟩;exact⟨Ac hv,h⟩)
 clear hv
 have B0:Below w.heap.size w ((w.alloc (.cells (va 2 b 0 d 0) 52)).alloc (.cells vdz 216)):=bl2 ((Below.refl _ _).alloc (Nat.le_refl _) _) ((Below.refl _ _).alloc (Nat.le_refl _) _)
 have X:=(Blk.new w (va 2 b 0 d 0) 52).alloc (.cells vdz 216)
 have Y:Blk ((w.alloc (.cells (va 2 b 0 d 0) 52)).alloc (.cells vdz 216)) (w.heap.size+1) vdz 216:=by have:=Blk.new (w.alloc (.cells (va 2 b 0 d 0) 52)) vdz 216;simpa using this
 go_enter func206,ntmps206
 go_wp2_with fail
 refine(HV.out _).mono ?_
 rintro e w1 ⟨rfl,hw1⟩
 have x1:=(X.l hw1).cell
 have Y1:=Y.l hw1
 have y1:=Y1.cell
 have y2:=Y1.frozen
 go_wp2_with fail
 go_region
 go_wp2_with fail
 have r:=(((((Y1.set 0 (.int .i64 0)).set 1 (.int .i64 2)).set 2 (.int .i64 b)).set 3 (.float .f64 0)).set 4 (.string d) |>.set 5 (.int .i64 0) |>.l (Below.refl _ _).drew).cell
 exact bodyPost_ret (v:=.agg (vd 2 b 0 d 0)) (by simp[results,results206,go_sem,r]) rfl ⟨rfl,(((((((bl2 B0 hw1).setCell (by simp) _).setCell (by simp) _).setCell (by simp) _).setCell (by simp) _).setCell (by simp) _).setCell (by simp) _).drew⟩
theorem A88 (b:Int) (d:ByteArray) (w:World) (hv:Bl ⟨4,b,0,d,0⟩=true) :
  Calls prog 206 #[.agg (va 4 b 0 d 0)] w fun e' w'=>e'=.returned (.agg (vd 4 b 0 d 0))/\Below w.heap.size w w':=by
 have HV:Hid (∀W,Calls prog 212 #[.agg (va 4 b 0 d 0)] W fun e w'=>e=.returned (.bool true)/\Below W.heap.size W w'):=fun W=>(Dz ⟨4,b,0,d,0⟩ W).mono (by rintro e w' ⟨rfl,h⟩;exact⟨Ac hv,h⟩)
 clear hv
 have B0:Below w.heap.size w ((w.alloc (.cells (va 4 b 0 d 0) 52)).alloc (.cells vdz 216)):=bl2 ((Below.refl _ _).alloc (Nat.le_refl _) _) ((Below.refl _ _).alloc (Nat.le_refl _) _)
 have X:=(Blk.new w (va 4 b 0 d 0) 52).alloc (.cells vdz 216)
 have Y:Blk ((w.alloc (.cells (va 4 b 0 d 0) 52)).alloc (.cells vdz 216)) (w.heap.size+1) vdz 216:=by have:=Blk.new (w.alloc (.cells (va 4 b 0 d 0) 52)) vdz 216;simpa using this
 go_enter func206,ntmps206
 go_wp2_with fail
 refine(HV.out _).mono ?_
 rintro e w1 ⟨rfl,hw1⟩
 have x1:=(X.l hw1).cell
 have Y1:=Y.l hw1
 have y1:=Y1.cell
 have y2:=Y1.frozen
 go_wp2_with fail
 go_region
 go_wp2_with fail
 have r:=(((((Y1.set 0 (.int .i64 0)).set 1 (.int .i64 4)).set 2 (.int .i64 b)).set 3 (.float .f64 0)).set 4 (.string d) |>.set 5 (.int .i64 0) |>.l (Below.refl _ _).drew).cell
 exact bodyPost_ret (v:=.agg (vd 4 b 0 d 0)) (by simp[results,results206,go_sem,r]) rfl ⟨rfl,(((((((bl2 B0 hw1).setCell (by simp) _).setCell (by simp) _).setCell (by simp) _).setCell (by simp) _).setCell (by simp) _).setCell (by simp) _).drew⟩
theorem Oo (a b:Int) (d:ByteArray) (w:World) (ha:a=2∨a=4) (hv:Bl ⟨a,b,0,d,0⟩=true) :
  Calls prog 206 #[.agg (va a b 0 d 0)] w fun e' w'=>e'=.returned (.agg (vd a b 0 d 0))/\Below w.heap.size w w':=by
 rcases ha with rfl|rfl
 ·exact A87 b d w hv
 ·exact A88 b d w hv
structure Pr where
 (ka kb:Int)
 kd:ByteArray
 (xa xb:Int)
 xd:ByteArray
 tn:Int
abbrev Pr.ls (p:Pr):List Value:=[.int .i64 p.ka,.int .i64 p.kb,.float .f64 0,.string p.kd,.int .i64 0,.int .i64 p.xa,.int .i64 p.xb,.float .f64 0,.string p.xd,.int .i64 0,.int .i64 p.tn]
def prs (ps:List Pr):List Value:=ps.flatMap Pr.ls
theorem A6i:∀{ps:List Pr} {i:Nat} {p:Pr} {j:Nat},ps[i]?=some p->j<11->(prs ps)[i*11+j]?=p.ls[j]?
 | [],i,p,j,h,_=>by simp at h
 | q::qs,0,p,j,h,hj=>by
  simp at h
  subst h
  show (Pr.ls q++prs qs)[0*11+j]?=_
  rw[List.getElem?_append_left (by simp;omega),Nat.zero_mul,Nat.zero_add]
 | q::qs,i+1,p,j,h,hj=>by
  have h':qs[i]?=some p:=by simpa using h
  show (Pr.ls q++prs qs)[(i+1)*11+j]?=_
  rw[List.getElem?_append_right (by simp;omega),←A6i h' hj]
  congr 1
  simp
  omega
abbrev Cz (w:World) (lo:Nat) (v:Value) (ps:List Pr):Prop:=w.ownsRow lo 223 11 v ps.length (prs ps)
theorem Hf {w:World} {lo g cap:Nat} {ps:List Pr} (h:Cz w lo (.slice (some ⟨g,0,none⟩) ps.length cap) ps) {i:Nat} {p:Pr} (hi:ps[i]?=some p) {j:Nat} (hj:j<11):w.cell? ⟨g,i*11+j,none⟩=p.ls[j]?:=by
 have h1:=A6i hi hj
 have h2:p.ls[j]?=some (p.ls[j]'(by simp;omega)):=List.getElem?_eq_getElem (by simp;omega)
 rw[h2]at h1 ⊢
 exact Ai h h1
abbrev Pr.is (p:Pr) (a b:Int) (d:ByteArray):Prop:=p.ka=a/\p.kb=b/\p.kd.toList=d.toList
def G8 (ps:List Pr) (a b:Int) (d:ByteArray):Int:=match ps.findIdx? (fun p=>decide (p.is a b d)) with
 | some i=>i
 | none=>-1
theorem Jr {ps:List Pr} {a b:Int} {d:ByteArray} {i:Nat} {p:Pr} (hi:ps[i]?=some p) (hp:p.is a b d) (hn:∀j q,j<i->ps[j]?=some q->¬q.is a b d):G8 ps a b d=i:=by
 have h:ps.findIdx? (fun p=>decide (p.is a b d))=some i:=by
  obtain⟨hl,he⟩:=List.getElem?_eq_some_iff.1 hi
  rw[List.findIdx?_eq_some_iff_getElem]
  refine⟨hl,by simpa[he]using hp,fun j hj=>?_⟩
  have:=hn j _ hj (List.getElem?_eq_getElem (by omega))
  simpa using this
 unfold G8
 rw[h]
theorem Jq {ps:List Pr} {a b:Int} {d:ByteArray} (hn:∀(j:Nat) q,ps[j]?=some q->¬q.is a b d):G8 ps a b d = -1:=by
 have h:ps.findIdx? (fun p=>decide (p.is a b d))=none:=by
  rw[List.findIdx?_eq_none_iff]
  intro p hp
  obtain⟨j,hj⟩:=List.getElem?_of_mem hp
  simpa using hn j p hj
 unfold G8
 rw[h]
theorem Hu (lo:Nat) (v:Value) (ps:List Pr) (tn a b:Int) (d:ByteArray) (w:World) (ha:a=2∨a=4) (hv:Bl ⟨a,b,0,d,0⟩=true) (hl:ps.length<=500) (P:Cz w lo v ps) :
  Calls prog 162 #[.agg #[v,.int .i64 tn],.agg (va a b 0 d 0)] w fun e' w'=>e'=.returned (.int .i64 (G8 ps a b d))/\Below w.heap.size w w':=by
 have HK:Hid (∀W,Calls prog 206 #[.agg (va a b 0 d 0)] W fun e' w'=>e'=.returned (.agg (vd a b 0 d 0))/\Below W.heap.size W w'):=fun W=>Oo a b d W ha hv
 clear ha hv
 obtain⟨po,cap,rfl⟩:=Af P
 obtain⟨L,hL⟩:∃L,L=ps.length:=⟨_,rfl⟩
 have P0:=P
 rw[←hL]at hl P ⊢
 clear P
 have HL:Hid (L=ps.length):=hL
 clear hL
 have B0:∀o o',Below w.heap.size w ((w.alloc o).alloc o'):=fun _ _=>bl2 ((Below.refl _ _).alloc (Nat.le_refl _) _) ((Below.refl _ _).alloc (Nat.le_refl _) _)
 have HT:Hid (Blk ((w.alloc (.cells #[.slice po L cap,.int .i64 tn] 145)).alloc (.cells (va a b 0 d 0) 52)) w.heap.size #[.slice po L cap,.int .i64 tn] 145):=(Blk.new w _ _).alloc _
 go_enter func162,ntmps162
 go_wp2_with fail
 refine(HK.out _).mono ?_
 rintro e w1 ⟨rfl,hw1⟩
 have B1:=bl2 (B0 _ _) hw1
 have T1:=HT.out.l hw1
 have ta:=fun o=>(T1.alloc o).cell
 go_wp2_with fail
 have VB:=Blk.new w1 (vd a b 0 d 0) 216
 have T2:=T1.alloc (.cells (vd a b 0 d 0) 216)
 have P2:Cz (w1.alloc (.cells (vd a b 0 d 0) 216)) lo (.slice po ps.length cap) ps:=Ab P0 (bl2 B1 ((Below.refl _ _).alloc (Nat.le_refl _) _))
 have B2:=bl2 B1 ((Below.refl _ _).alloc (Nat.le_refl _) (.cells (vd a b 0 d 0) 216))
 clear ta T1
 revert VB T2 P2 B2
 obtain⟨W,hW⟩:∃z,z=w1.alloc (.cells (vd a b 0 d 0) 216):=⟨_,rfl⟩
 rw[←hW]
 clear hW
 intro VB T2 P2 B2
 have HVB:Hid (Blk W w1.heap.size (vd a b 0 d 0) 216):=VB
 have HT2:Hid (Blk W w.heap.size #[.slice po L cap,.int .i64 tn] 145):=T2
 have HP2:Hid (Cz W lo (.slice po ps.length cap) ps):=P2
 clear VB T2 P2 P0 HT
 go_loopw [15] (fun x wr=>∃i:Nat,i<=L/\x=.int .i64 i/\Hid (∀j q,j<i->ps[j]?=some q->¬q.is a b d)/\Hid (Below W.heap.size W wr)) (fun x _=>L-(intOf x).toNat)
 case atStart=>exact⟨0,by omega,rfl,fun j q hj=>by omega,Below.refl _ _⟩
 case round=>
  obtain⟨i,hi,rfl,HN,HB⟩:=hrel
  have ts:=(HT2.out.l HB.out).cell
  have vs:=(HVB.out.l HB.out).cell
  by_cases hiL:i=L
  ·have hi1:¬(i:Int)<L:=by omega
   go_wp2_with fail
   go_ret
   exact⟨Cr (Jq (fun j q hq=>HN.out j q (by have:=(List.getElem?_eq_some_iff.1 hq).1;have:=HL.out;omega) hq)).symm,bl2 B2 HB.out⟩
  ·have hi1:(i:Int)<L:=by omega
   have hi0:(0:Int)<=i:=by omega
   obtain⟨p,hp⟩:∃p,ps[i]?=some p:=⟨_,List.getElem?_eq_getElem (by have:=HL.out;omega)⟩
   rcases Aj HP2.out with ⟨_,h0⟩|⟨g,cap',hpo,_⟩
   ·have:=HL.out;omega
   ·cases hpo
    have HA:Hid (Cz wr lo (.slice (some ⟨g,0,none⟩) ps.length cap) ps):=Ab HP2.out HB.out
    have c0:=Hf HA.out hp (j:=0) (by decide)
    have c1:=Hf HA.out hp (j:=1) (by decide)
    have c2:=Hf HA.out hp (j:=2) (by decide)
    have c3:=Hf HA.out hp (j:=3) (by decide)
    have c4:=Hf HA.out hp (j:=4) (by decide)
    simp only[Nat.add_zero]at c0
    simp at c0 c1 c2 c3 c4
    by_cases e:p.is a b d
    ·have HE:Hid (p.is a b d):=e
     obtain⟨e1,e2,e3⟩:=e
     go_wp2_with fail
     go_region
     go_wp2_with fail
     go_ret
     exact⟨Cr (Jr hp HE.out HN.out).symm,bl2 B2 HB.out.drew⟩
    ·have HE:Hid (¬p.is a b d):=e
     have HN':Hid (∀j q,j<i+1->ps[j]?=some q->¬q.is a b d):=fun j q hj hq=>by
      rcases Nat.lt_or_eq_of_le (Nat.lt_succ_iff.1 hj) with h|h
      ·exact HN.out j q h hq
      ·subst h;rw[hp]at hq;cases hq;exact HE.out
     clear e
     by_cases e1:p.ka=a
     ·by_cases e2:p.kb=b
      ·have e3:¬p.kd.toList=d.toList:=fun h=>HE.out ⟨e1,e2,h⟩
       go_wp2_with fail
       go_region
       go_wp2_with fail
       go_roundw
       case rel=>exact⟨i+1,by omega,by go_num,HN'.out,HB.out.drew⟩
       case measure=>simp[intOf];omega
      ·go_wp2_with fail
       go_region
       go_wp2_with fail
       go_roundw
       case rel=>exact⟨i+1,by omega,by go_num,HN'.out,HB.out.drew⟩
       case measure=>simp[intOf];omega
     ·go_wp2_with fail
      go_region
      go_wp2_with fail
      go_roundw
      case rel=>exact⟨i+1,by omega,by go_num,HN'.out,HB.out.drew⟩
      case measure=>simp[intOf];omega
theorem eltPr:Elt 143 223 (.agg #[.int .i64 0,.int .i64 0,.float .f64 0,.string ByteArray.empty,.int .i64 0,.int .i64 0,.int .i64 0,.float .f64 0,.string ByteArray.empty,.int .i64 0,.int .i64 0]) 11 104:=⟨underlying143,by kernel_rfl,rfl,by decide⟩
theorem A8k (ps:List Pr) (p:Pr):prs (ps++[p])=prs ps++p.ls:=by simp[prs]
abbrev tbv (v:Value) (tn:Int):Array Value:=#[v,.int .i64 tn]
theorem A4c (lo:Nat) (v:Value) (ps:List Pr) (tn ka kb xa xb:Int) (kd xd:ByteArray) (w:World) (hl:ps.length<500) (ht:0<=tn) (ht1:tn<=100000) (hxa:¬xa=0) (hlo:lo<=w.heap.size) (P:Cz w lo v ps) :
  Calls prog 207 #[.agg (tbv v tn),.int .i64 (-1),.agg (va ka kb 0 kd 0),.agg (va xa xb 0 xd 0)] w fun e' w'=>∃v',e'=.returned (.agg (tbv v' (tn+1)))/\Cz w' lo v' (ps++[⟨ka,kb,kd,xa,xb,xd,tn+1⟩])/\Chg v.ownBlock.toList w w'/\(v'.ownBlock=v.ownBlock∨∃g,v'.ownBlock=some g/\w.heap.size<=g):=by
 obtain⟨po,cap,rfl⟩:=Af P
 obtain⟨L,hL⟩:∃L,L=ps.length:=⟨_,rfl⟩
 have HP:Hid (w.ownsRow lo 223 11 (.slice po ps.length cap) ps.length (prs ps)):=P
 rw[←hL]at hl HP ⊢
 have HL:Hid (L=ps.length):=hL
 clear hL P
 have wt:IntKind.i64.wrap (tn+1)=tn+1:=wr (by omega) (by omega)
 have hl1:(L:Int)<500:=by omega
 have ht2:tn<1000000000000:=by omega
 have B5:∀o1 o2 o3 o4 o5,Below w.heap.size w (((((w.alloc o1).alloc o2).alloc o3).alloc o4).alloc o5):=fun _ _ _ _ _=>bl2 (bl2 (bl2 (bl2 ((Below.refl _ _).alloc (Nat.le_refl _) _) ((Below.refl _ _).alloc (Nat.le_refl _) _)) ((Below.refl _ _).alloc (Nat.le_refl _) _)) ((Below.refl _ _).alloc (Nat.le_refl _) _)) ((Below.refl _ _).alloc (Nat.le_refl _) _)
 have N5:∀o1 o2 o3 o4 A,Blk (((((w.alloc o1).alloc o2).alloc o3).alloc o4).alloc (.cells A 223)) (w.heap.size+1+1+1+1) A 223:=fun o1 o2 o3 o4 A=>by have:=Blk.new ((((w.alloc o1).alloc o2).alloc o3).alloc o4) A 223;simpa using this
 have T5:∀o2 o3 o4 o5 A,Blk (((((w.alloc (.cells A 145)).alloc o2).alloc o3).alloc o4).alloc o5) w.heap.size A 145:=fun o2 o3 o4 o5 A=>((((Blk.new w A 145).alloc o2).alloc o3).alloc o4).alloc o5
 have R5:∀o1 o2 o3 o5 A,Blk (((((w.alloc o1).alloc o2).alloc o3).alloc (.cells A 145)).alloc o5) (w.heap.size+1+1+1) A 145:=fun o1 o2 o3 o5 A=>by have:=Blk.new (((w.alloc o1).alloc o2).alloc o3) A 145;exact(by simpa using this:Blk ((((w.alloc o1).alloc o2).alloc o3).alloc (.cells A 145)) (w.heap.size+1+1+1) A 145).alloc o5
 go_enter func207,ntmps207
 go_wp2_with (at_builtin;refine Jy eltPr rfl _ _ rfl lo _ L (prs ps) (Pr.ls ⟨ka,kb,kd,xa,xb,xd,tn+1⟩) (w.heap.size+1+1+1+1) rfl ?qc9 rfl ?qc0 rfl ?qc1 ?qc2 (by decide) ?qc3 ?_)
 case qc9=>exact Ab HP.out (B5 _ _ _ _ _)
 case qc0=>exact fun k u hu=>by rw[Nat.zero_add,(N5 _ _ _ _ (Pr.ls ⟨ka,kb,kd,xa,xb,xd,tn+1⟩).toArray).cell];simpa using hu
 case qc1=>simp[Value.oneCell']
 case qc2=>omega
 case qc3=>simp;omega
 intro v' w3 ho3 hg3 h5
 obtain⟨po',cap',rfl⟩:=Af ho3
 have gC:=Chg.grown (L:=(Value.slice po L cap).ownBlock.toList) hg3 (fun k hk=>by rw[hk];simp)
 have nw:∀k,(Value.slice po L cap).ownBlock=some k->k<w.heap.size:=fun k hk=>(HP.out.lt k hk).2
 have ne:∀q,w.heap.size<=q->q∉(Value.slice po L cap).ownBlock.toList:=fun q hq h=>by have:=nw q (by simpa using h);omega
 have T3:=(T5 _ _ _ _ (tbv (.slice po L cap) (tn+1))).chg gC (ne _ (by omega))
 have R3:=(R5 _ _ _ _ (tbv (.slice none 0 0) 0)).chg gC (ne _ (by omega))
 have HC:Hid (Chg (Value.slice po L cap).ownBlock.toList w w3):=((Chg.refl _ _).below (B5 _ _ _ _ _)).trans gC (fun _ h=>h)
 have HO:Hid (w3.ownsRow lo 223 11 (.slice po' (L+1) cap') (L+1) (prs ps++Pr.ls ⟨ka,kb,kd,xa,xb,xd,tn+1⟩)):=ho3
 have HN:Hid (∀k,(Value.slice po' (L+1) cap').ownBlock=some k->k<w.heap.size∨w.heap.size+1+1+1+1<k):=fun k hk=>by
  rcases h5 with h5|h5
  ·exact .inl (nw k (h5▸hk))
  ·rw[h5]at hk;simp at hk;omega
 have HV:Hid ((Value.slice po' (L+1) cap').ownBlock=(Value.slice po L cap).ownBlock∨∃g,(Value.slice po' (L+1) cap').ownBlock=some g/\w.heap.size<=g):=h5.imp id fun h=>⟨_,h,by omega⟩
 clear h5 gC hg3 ho3 nw ne
 have t3:=T3.cell
 have tf:=T3.frozen
 have r3:=R3.cell
 have rf:=R3.frozen
 go_wp2_with fail
 have C9:Chg [w.heap.size,w.heap.size+1+1+1] w3 (((w3.setCell ⟨w.heap.size,0,none⟩ (.slice po' (L+1) cap')).setCell ⟨w.heap.size+1+1+1,0,none⟩ (.slice po' (L+1) cap')).setCell ⟨w.heap.size+1+1+1,1,none⟩ (.int .i64 (tn+1))):=(((Chg.refl _ _).set (by simp) _ _).set (by simp) _ _).set (by simp) _ _
 have r:=(((R3.setOther (p:=⟨w.heap.size,0,none⟩) (by show w.heap.size+1+1+1≠w.heap.size;omega) (.slice po' (L+1) cap')).set 0 (.slice po' (L+1) cap')).set 1 (.int .i64 (tn+1))).cell
 refine bodyPost_ret (v:=.agg (tbv (.slice po' (L+1) cap') (tn+1))) ?_ rfl ⟨_,rfl,?_,Ib HC.out C9 (by simp;omega),HV.out⟩
 ·simp[results,results207,go_sem,r]
 ·have h9:=Ae HO.out (fun k hk=>C9.block k (by have:=HN.out k hk;simp;omega) (HO.out.lt k hk).2)
  show World.ownsRow _ _ _ _ _ _ _
  rw[List.length_append,A8k,←HL.out]
  exact h9
end Go.Proofs.YtbefeflgjipfhaaGreatDoor
