import Derived.Lib.SliceRun
import Derived.Test.YtbefeflgjipfhaaGreatDoorF10
import Derived.Test.YtbefeflgjipfhaaGreatDoorF12
set_option maxRecDepth 8000
set_option maxHeartbeats 4000000
namespace Go.Proofs.YtbefeflgjipfhaaGreatDoor
open Go.Deep Go.Proofs.Tryz Go.RowKit
attribute [local go_sem] A7 vi
abbrev pz:List Value:=[.int .i64 0,.int .i64 0,.float .f64 0,.string ByteArray.empty,.int .i64 0,.int .i64 0,.int .i64 0,.float .f64 0,.string ByteArray.empty,.int .i64 0,.int .i64 0]
theorem Ju (w:World) (ty:TypeId) (g o c:Nat) (hc:∀j,j<11->(w.cell? ⟨g,o+j,none⟩).isSome=true) (hf:∀j,j<11->w.frozen? ⟨g,o+j,none⟩=false) :
  (Builtin.clear_ #[143] ty #[.slice (some ⟨g,o,none⟩) 1 c]).run prog w=.ok (.tuple #[]) (w.setCells g o pz):=by
 have hzc:(Builtin.zeroCells (Value.agg #[.int .i64 0,.int .i64 0,.float .f64 0,.string ⟨#[]⟩,.int .i64 0,.int .i64 0,.int .i64 0,.float .f64 0,.string ⟨#[]⟩,.int .i64 0,.int .i64 0]).cells 1).toList=pz:=by kernel_rfl
 have hst:=run_storeCells_cells (P:=prog) g o pz 0 w (by simpa using hc) (by simpa using hf) (by simp[Value.oneCell'])
 simp only[Nat.add_zero]at hst
 simp[Builtin.clear_,run_underlying underlying143]
 rw[hzc,hst]
 rfl
theorem Pi {w:World} {lo g cap:Nat} {p0 p1:Pr} (P:Cz w lo (.slice (some ⟨g,0,none⟩) 2 cap) [p0,p1]):Cz (w.setCells g 11 pz) lo (.slice (some ⟨g,0,none⟩) 1 cap) [p0]:=by
 obtain⟨h1,⟨h,_⟩|⟨g',cap',cur,e,hg,hb,hnc,hm,hsz,htk⟩⟩:=P
 ·cases h
 ·cases e
  have X:Blk w g cur 223:=hb
  have Y:Blk (w.setCells g 11 pz) g _ 223:=(((((((((((X.set 11 _).set 12 _).set 13 _).set 14 _).set 15 _).set 16 _).set 17 _).set 18 _).set 19 _).set 20 _).set 21 _)
  refine⟨rfl,.inr ⟨g,cap,_,rfl,hg,Y,by simp at hnc ⊢;omega,hm,by simpa using hsz,?_⟩⟩
  have e0:cur.toList.take 11=p0.ls:=by
   have h2:=congrArg (List.take 11) htk
   rw[List.take_take]at h2
   simpa[prs]using h2
  show List.take 11 _=prs [p0]
  rw[show prs [p0]=p0.ls by simp[prs],←e0]
  have ts:∀(l:List Value) (k:Nat) (u:Value),11<=k->(l.set k u).take 11=l.take 11:=fun l k u hk=>by
   rw[List.take_set,List.set_eq_of_length_le (by simp;omega)]
  simp only[Array.toList_setIfInBounds]
  iterate 11 rw[ts _ _ _ (by decide)]
theorem Xv (lo g cap:Nat) (p0 p1:Pr) (w:World) (P:Cz w lo (.slice (some ⟨g,0,none⟩) 2 cap) [p0,p1]) :
  Calls prog 271 #[.slice (some ⟨g,0,none⟩) 2 cap,.int .i64 1,.int .i64 2] w fun e' w'=>e'=.returned (.slice (some ⟨g,0,none⟩) 1 cap)/\Chg [g] w w'/\Cz w' lo (.slice (some ⟨g,0,none⟩) 1 cap) [p0]:=by
 have HP:Hid (Cz w lo (.slice (some ⟨g,0,none⟩) 2 cap) [p0,p1]):=P
 obtain⟨h1,⟨h,_⟩|⟨g',cap',A,e,hg,hb,hc,hm,hA,htk⟩⟩:=P
 ·cases h
 cases e
 have X:Blk w g A 223:=hb
 simp at hc
 clear h1 hb htk
 have x:=X.cell
 have f:=X.frozen
 have hc1:(2:Int)<=cap:=by omega
 have hc2:(1:Int)<=cap:=by omega
 have hc3:1<=cap:=by omega
 by_cases h2:cap=2
 ·subst h2
  clear hc1 hc2 hc hc3
  go_enter func271,ntmps271
  go_wp2_with fail
  go_region
  go_wp2_with fail
  rw[Ju w.drew _ g 11 _ (fun j hj=>by rw[show (w.drew.cell? ⟨g,11+j,none⟩)=A[11+j]? from x _];simp;omega) (fun j _=>f _)]
  go_wp2_with fail
  go_ret
  exact⟨rfl,(Chg.sets' (L:=[g]) (by simp) _ _ ((Chg.refl [g] w).below (Below.refl _ _).drew)),Pi (Ab HP.out (Below.refl _ _).drew)⟩
 ·go_enter func271,ntmps271
  go_wp2_with fail
  go_region
  go_wp2_with fail
  rw[Ju w.drew _ g 11 _ (fun j hj=>by rw[show (w.drew.cell? ⟨g,11+j,none⟩)=A[11+j]? from x _];simp;omega) (fun j _=>f _)]
  go_wp2_with fail
  go_ret
  exact⟨rfl,(Chg.sets' (L:=[g]) (by simp) _ _ ((Chg.refl [g] w).below (Below.refl _ _).drew)),Pi (Ab HP.out (Below.refl _ _).drew)⟩
theorem A1k (lo g cap:Nat) (p0 p1:Pr) (tn ka kb:Int) (kd:ByteArray) (w:World) (P:Cz w lo (.slice (some ⟨g,0,none⟩) 2 cap) [p0,p1]) :
  Calls prog 207 #[.agg (tbv (.slice (some ⟨g,0,none⟩) 2 cap) tn),.int .i64 1,.agg (va ka kb 0 kd 0),.agg (va 0 0 0 ByteArray.empty 0)] w fun e' w'=>e'=.returned (.agg (tbv (.slice (some ⟨g,0,none⟩) 1 cap) tn))/\Chg [g] w w'/\Cz w' lo (.slice (some ⟨g,0,none⟩) 1 cap) [p0]:=by
 have hg:g<w.heap.size:=(P.lt g rfl).2
 have HP:Hid (Cz w lo (.slice (some ⟨g,0,none⟩) 2 cap) [p0,p1]):=P
 clear P
 have B4:∀o1 o2 o3 o4,Below w.heap.size w ((((w.alloc o1).alloc o2).alloc o3).alloc o4):=fun _ _ _ _=>bl2 (bl2 (bl2 ((Below.refl _ _).alloc (Nat.le_refl _) _) ((Below.refl _ _).alloc (Nat.le_refl _) _)) ((Below.refl _ _).alloc (Nat.le_refl _) _)) ((Below.refl _ _).alloc (Nat.le_refl _) _)
 have T4:∀o2 o3 o4 A,Blk ((((w.alloc (.cells A 145)).alloc o2).alloc o3).alloc o4) w.heap.size A 145:=fun o2 o3 o4 A=>(((Blk.new w A 145).alloc o2).alloc o3).alloc o4
 have R4:∀o1 o2 o3 A,Blk ((((w.alloc o1).alloc o2).alloc o3).alloc (.cells A 145)) (w.heap.size+1+1+1) A 145:=fun o1 o2 o3 A=>by have:=Blk.new (((w.alloc o1).alloc o2).alloc o3) A 145;simpa using this
 go_enter func207,ntmps207
 go_wp2_with fail
 refine(Xv lo g cap p0 p1 _ (Ab HP.out (B4 _ _ _ _))).mono ?_
 rintro e w3 ⟨rfl,C3,P3⟩
 have T3:=(T4 _ _ _ (tbv (.slice (some ⟨g,0,none⟩) 2 cap) tn)).chg C3 (by simp;omega)
 have R3:=(R4 _ _ _ (tbv (.slice none 0 0) 0)).chg C3 (by simp;omega)
 have HC:Hid (Chg [g] w w3):=((Chg.refl _ _).below (B4 _ _ _ _)).trans C3 (fun _ h=>h)
 have HO:Hid (Cz w3 lo (.slice (some ⟨g,0,none⟩) 1 cap) [p0]):=P3
 clear C3 P3
 have t3:=T3.cell
 have tf:=T3.frozen
 have r3:=R3.cell
 have rf:=R3.frozen
 go_wp2_with fail
 have C9:Chg [w.heap.size,w.heap.size+1+1+1] w3 (((w3.setCell ⟨w.heap.size,0,none⟩ (.slice (some ⟨g,0,none⟩) 1 cap)).setCell ⟨w.heap.size+1+1+1,0,none⟩ (.slice (some ⟨g,0,none⟩) 1 cap)).setCell ⟨w.heap.size+1+1+1,1,none⟩ (.int .i64 tn)):=(((Chg.refl _ _).set (by simp) _ _).set (by simp) _ _).set (by simp) _ _
 have r:=(((R3.setOther (p:=⟨w.heap.size,0,none⟩) (by show w.heap.size+1+1+1≠w.heap.size;omega) (.slice (some ⟨g,0,none⟩) 1 cap)).set 0 (.slice (some ⟨g,0,none⟩) 1 cap)).set 1 (.int .i64 tn)).cell
 refine bodyPost_ret (v:=.agg (tbv (.slice (some ⟨g,0,none⟩) 1 cap) tn)) ?_ rfl ⟨rfl,Ib HC.out C9 (by simp;omega),?_⟩
 ·simp[results,results207,go_sem,r]
 ·exact Ae HO.out (fun k hk=>C9.block k (by simp[Value.ownBlock]at hk;subst hk;simp;omega) (HO.out.lt k hk).2)
abbrev sl (g n cap:Nat):Value:=.slice (some ⟨g,0,none⟩) n cap
theorem Zr (bl bm bs lo g cap:Nat) (m:Mc) (vv:Int) (sp sk so:Value) (p0 p1:Pr) (tn ka kb:Int) (kd:ByteArray) (w:World)
  (h0:w.cell? ⟨bl,0,none⟩=some (.pointer (some ⟨bm,0,none⟩))) (hvv:0<=vv) (hvm:vv<=1000000)
  (hka:ka=2∨ka=4) (hkv:Bl ⟨ka,kb,0,kd,0⟩=true) (hpl:G8 [p0,p1] ka kb kd=1) (nbl:bl≠bs) (n5:bl∉[g])
  (X:MAt w bm {m with vers:=.int .i64 vv}) (Y:Blk w bs (st sp sk so (.int .i64 vv) (sl g 2 cap) (.int .i64 tn)) 176) (P:Cz w lo (sl g 2 cap) [p0,p1]) :
  Calls prog 130 #[.pointer (some ⟨bl,0,none⟩),.pointer (some ⟨bs,0,none⟩),.agg (va ka kb 0 kd 0),.agg (va 0 0 0 ByteArray.empty 0)] w fun e' w'=>e'=.returned .nilIface/\Chg [bm,bs,g] w w'/\MAt w' bm {m with vers:=.int .i64 (vv+1)}/\Blk w' bs (st sp sk so (.int .i64 (vv+1)) (sl g 1 cap) (.int .i64 tn)) 176/\Cz w' lo (sl g 1 cap) [p0]:=by
 have HP:Hid (Cz w lo (sl g 2 cap) [p0,p1]):=P
 clear P
 have HPL:Hid (∀W,Cz W lo (sl g 2 cap) [p0,p1]->Calls prog 162 #[.agg (tbv (sl g 2 cap) tn),.agg (va ka kb 0 kd 0)] W fun e' w'=>e'=.returned (.int .i64 1)/\Below W.heap.size W w'):=fun W h=>(Hu lo _ [p0,p1] tn ka kb kd W hka hkv (by simp) h).mono fun e w' ⟨h1,h2⟩=>⟨h1.trans (Cr hpl),h2⟩
 have HK:Hid (∀W,Calls prog 206 #[.agg (va ka kb 0 kd 0)] W fun e' w'=>e'=.returned (.agg (vd ka kb 0 kd 0))/\Below W.heap.size W w'):=fun W=>Oo ka kb kd W hka hkv
 clear hka hkv hpl
 have HX:Hid (MAt w bm {m with vers:=.int .i64 vv}):=X
 have HY:Hid (Blk w bs (st sp sk so (.int .i64 vv) (sl g 2 cap) (.int .i64 tn)) 176):=Y
 clear X Y
 have B2:∀o1 o2,Below w.heap.size w ((w.alloc o1).alloc o2):=fun _ _=>bl2 ((Below.refl _ _).alloc (Nat.le_refl _) _) ((Below.refl _ _).alloc (Nat.le_refl _) _)
 have HA:Hid (Blk ((w.alloc (.cells (va ka kb 0 kd 0) 52)).alloc (.cells (va 0 0 0 ByteArray.empty 0) 52)) w.heap.size (va ka kb 0 kd 0) 52):=(Blk.new w _ _).alloc _
 have HB:Hid (Blk ((w.alloc (.cells (va ka kb 0 kd 0) 52)).alloc (.cells (va 0 0 0 ByteArray.empty 0) 52)) (w.heap.size+1) (va 0 0 0 ByteArray.empty 0) 52):=Blk.new1 w _ _ _
 go_enter func130,ntmps130
 go_wp2_with fail
 refine(HK.out _).mono ?_
 rintro e w1 ⟨rfl,hw1⟩
 have b1:=bl2 (B2 _ _) hw1
 have A1:=HA.out.l hw1
 have V1:=HB.out.l hw1
 have ax:=fun o=>(A1.alloc o).cell
 go_wp2_with fail
 have K2:=Blk.new w1 (vd ka kb 0 kd 0) 216
 have A2:=A1.alloc (.cells (vd ka kb 0 kd 0) 216)
 have V2:=V1.alloc (.cells (vd ka kb 0 kd 0) 216)
 have b2:=bl2 b1 ((Below.refl _ _).alloc (Nat.le_refl _) (.cells (vd ka kb 0 kd 0) 216))
 clear ax A1 V1
 revert K2 A2 V2 b2
 obtain⟨W,hW⟩:∃z,z=w1.alloc (.cells (vd ka kb 0 kd 0) 216):=⟨_,rfl⟩
 rw[←hW]
 clear hW
 intro K2 A2 V2 b2
 have ys:=(HY.out.l b2.drew).cell
 have av:=(A2.l (Below.refl _ _).drew).cell
 have HP2:Hid (Cz W.drew lo (sl g 2 cap) [p0,p1]):=Ab HP.out (b2.drew)
 go_region_held3 (fun W=>(∀o,W.cell? ⟨bs,o,none⟩=(#[sp,sk,so,.int .i64 vv,.slice (some ⟨g,0,none⟩) 2 cap,.int .i64 tn,.pointer none,.bool false,.int .i64 0,.slice none 0 0,.int .i64 0,.int .i64 0,.float .f64 0,.string ByteArray.empty,.int .i64 0]:Array Value)[o]?)/\(∀o,W.cell? ⟨w.heap.size,o,none⟩=(#[.int .i64 ka,.int .i64 kb,.float .f64 0,.string kd,.int .i64 0]:Array Value)[o]?)) (first|with_reducible exact⟨ys,av⟩|with_reducible exact⟨ys2,av2⟩) (first|(go_at_call 162;refine(HPL.out _ HP2.out).mono ?_;rintro e w2 ⟨rfl,hw2⟩;have b3:Below w.heap.size w w2:=bl2 b2.drew hw2;have ys2:=(HY.out.l b3).cell;have av2:=(A2.l (bl2 (Below.refl _ _).drew hw2)).cell))
 have b3:Below w.heap.size w w2:=bl2 b2.drew hw2
 have K4:=K2.l (bl2 (Below.refl _ _).drew hw2)
 have V4:=V2.l (bl2 (Below.refl _ _).drew hw2)
 have Y4:=HY.out.l b3
 have X4:=HX.out.l b3
 have P4:Cz w2 lo (sl g 2 cap) [p0,p1]:=Ab HP.out b3
 have l4:=cb h0 b3
 clear ys av K2 V2 A2 hw2 HP2 HPL HK
 go_wp2_with fail
 have ys:=(Y4.l (Below.refl _ _).drew).cell
 have ks:=(K4.l (Below.refl _ _).drew).cell
 have vs:=(V4.l (Below.refl _ _).drew).cell
 have D4:Below w2.heap.size w2 w2.drew:=(Below.refl _ _).drew
 have HPUT:Hid (Calls prog 207 #[.agg (tbv (sl g 2 cap) tn),.int .i64 1,.agg (va ka kb 0 kd 0),.agg (va 0 0 0 ByteArray.empty 0)] w2.drew fun e' w'=>e'=.returned (.agg (tbv (sl g 1 cap) tn))/\Chg [g] w2.drew w'/\Cz w' lo (sl g 1 cap) [p0]):=
  A1k lo g cap p0 p1 tn ka kb kd w2.drew (Ab P4 D4)
 have n1:bs∉[g]:=by simpa using fun h=>Ba P4 Y4 (by decide) g rfl h.symm
 have n4:bm∉[g]:=by simpa using fun h=>Ba P4 X4 (by decide) g rfl h.symm
 have nbs:bs≠bm:=Aa Y4 X4 (by decide)
 go_region_with (first|(go_at_call 207;refine HPUT.out.mono ?_;rintro e w5 ⟨rfl,C5,P5⟩;have Y5:=(Y4.l D4).chg C5 n1;have ys5:=Y5.cell;have yf5:=Y5.frozen))
 all_goals
  have X5:=(X4.l D4).chg C5 n4
  have l5:=C5.cell n5 (cb l4 D4)
  have C6:Chg [bs] w5 ((w5.setCell ⟨bs,4,none⟩ (sl g 1 cap)).setCell ⟨bs,5,none⟩ (.int .i64 tn)):=((Chg.refl _ _).set (by simp) _ _).set (by simp) _ _
  have Y6:=(Y5.set 4 (sl g 1 cap)).set 5 (.int .i64 tn)
  have X6:=X5.chg C6 (by simpa using Ne.symm nbs)
  have P6:Cz _ lo (sl g 1 cap) [p0]:=Ae P5 (fun k hk=>C6.block k (by simpa using Ba P5 Y5 (by decide) k hk) (P5.lt k hk).2)
  have HC6:=(((((Chg.refl [bm,bs,g] w).below b3).below D4).trans C5 (fun b h=>by simp at h;simp[h])).trans C6 (fun b h=>by simp at h;simp[h]))
  have l6:=C6.cell (b:=bl) (by simpa using nbl) l5
  refine Kj (S:=fun W=>MAt W bm {m with vers:=.int .i64 vv}/\Blk W bs (st sp sk so (.int .i64 vv) (sl g 1 cap) (.int .i64 tn)) 176/\Cz W lo (sl g 1 cap) [p0]/\Chg [bm,bs,g] w W/\W.cell? ⟨bl,0,none⟩=some (.pointer (some ⟨bm,0,none⟩))) ⟨X6,Y6,P6,HC6,l6⟩ (fun W hS=>?_)
  obtain⟨X7,Y7,P7,C7,l7⟩:=hS
  clear P5 C5 Y5 ys5 yf5 X5 l5 C6 Y6 X6 P6 HC6 l6 ys ks vs HPUT
  have ys:=Y7.cell
  go_wp2_with fail
  refine(Jg bm bs m vv _ _ _ _ _ _ _ _ _ _ _ _ _ _ _ _ hvv hvm (Ne.symm nbs) X7 Y7).mono ?_
  rintro e w8 ⟨rfl,C8,X8,Y8⟩
  go_wp2_with fail
  go_ret
  exact⟨rfl,C7.trans C8 (fun b h=>by simp at h;simp;omega),X8,Y8,Ae P7 (fun k hk=>C8.block k (by simpa using ⟨Ba P7 X7 (by decide) k hk,Ba P7 Y7 (by decide) k hk⟩) (P7.lt k hk).2)⟩
end Go.Proofs.YtbefeflgjipfhaaGreatDoor
namespace Go.Proofs.YtbefeflgjipfhaaGreatDoor
open Go.Deep Go.Proofs.Tryz Go.RowKit
def fam2 (c1 c2 a1 a2 s1 s2:Nat):List (List Nat):=[[c1,c2,a1,a2,s1,s2],[c2,a1,a2,s1,s2],[a1,a2,s1,s2],[c1,c2,a2,s1,s2],[c2,a2,s1,s2],[a2,s1,s2],[c1,c2,a1,s1,s2],[c2,a1,s1,s2],[a1,s1,s2],[c1,c2,s1,s2],[c2,s1,s2],[s1,s2],[s2],[]]
def dep2 (c1 c2 a1 a2 s1 s2:Nat) (l:List Nat) (i:Nat):Bool:=
 (i==c1&&(l.contains c1&&l.contains c2))||(i==c2&&(!l.contains c1&&l.contains c2))||(i==a1&&l.contains s1)||(i==a2&&l.contains s2)||(i==s1&&(l.contains s1&&!l.contains c1&&!l.contains c2&&!l.contains a1&&!l.contains a2))||(i==s2&&(l.contains s2&&!l.contains c1&&!l.contains c2&&!l.contains a1&&!l.contains a2))
def ck2 (ops:Array Oper) (c1 c2 a1 a2 s1 s2:Nat):Bool:=
 (fam2 c1 c2 a1 a2 s1 s2).all (fun l=>(Region.ready .any ops (mkd ops.size l)).all (fun i=>l.contains i&&!(l.erase i).contains i&&(fam2 c1 c2 a1 a2 s1 s2).contains (l.erase i)&&dep2 c1 c2 a1 a2 s1 s2 l i)&&(l.isEmpty==(Region.ready .any ops (mkd ops.size l)).isEmpty))
abbrev pz' (b:Nat):Value:=.pointer (some ⟨b,0,none⟩)
structure TwI (c1 c2 a1 a2 s1 s2 N:Nat) (X1 X2:Array Value) (R0 R1 R2:World->Prop) (l:List Nat) (x y p q:Value) (W:World):Prop where
 n:N<=W.heap.size
 r0:l.contains c1=true->R0 W
 r1:l.contains c1=false->l.contains c2=true->x=.agg X1/\R1 W
 r2:l.contains c1=false->l.contains c2=false->x=.agg X1/\y=.agg X2/\R2 W
 p1:l.contains a1=false->∃b,p=pz' b/\N<=b/\Blk W b (if l.contains s1 then v0 else X1) 52
 p2:l.contains a2=false->∃b,q=pz' b/\N<=b/\Blk W b (if l.contains s2 then v0 else X2) 52
 ne:l.contains a1=false->l.contains a2=false->p≠q
section
variable {c1 c2 a1 a2 s1 s2 N:Nat} {X1 X2:Array Value} {R0 R1 R2:World→Prop} {l:List Nat} {x y p q:Value} {W W':World}
theorem TwI.blks {ts:List TypeId} (h:TwI c1 c2 a1 a2 s1 s2 N X1 X2 R0 R1 R2 l x y p q W) (hf:FrT ts W W') (ht:52∉ts):N<=W'.heap.size/\(l.contains a1=false->∃b,p=pz' b/\N<=b/\Blk W' b (if l.contains s1 then v0 else X1) 52)/\(l.contains a2=false->∃b,q=pz' b/\N<=b/\Blk W' b (if l.contains s2 then v0 else X2) 52):=
 ⟨Nat.le_trans h.n hf.size,fun e=>let ⟨b,h1,h2,h3⟩:=h.p1 e;⟨b,h1,h2,h3.fr hf ht⟩,fun e=>let ⟨b,h1,h2,h3⟩:=h.p2 e;⟨b,h1,h2,h3.fr hf ht⟩⟩
end
abbrev tmA (t:Array Value):Act:={tmps:=t,defers:=[]}
theorem twoC {ops:Array Oper} {Q:Exit->Act->World->Prop} {S:World->Prop} (c1 c2 a1 a2 s1 s2:Nat) (hck:ck2 ops c1 c2 a1 a2 s1 s2=true) (hnd:[c1,c2,a1,a2,s1,s2].Nodup)
  (tm:Value->Value->Value->Value->Array Value) (N:Nat) (X1 X2:Array Value) (R0 R1 R2:World->Prop) (ts:List TypeId) (ht:52∉ts)
  (hS0:∀W,R0 W->S W) (hS1:∀W,R1 W->S W) (hS2:∀W,R2 W->S W)
  (k0:∀W W',R0 W->FrT [52] W W'->Below N W W'->R0 W') (k1:∀W W',R1 W->FrT [52] W W'->Below N W W'->R1 W') (k2:∀W W',R2 W->FrT [52] W W'->Below N W W'->R2 W')
  (H1:∀x y p q W,R0 W->∃oi,ops[c1]?=some oi/\Region.wanted oi (yielded ops (tm x y p q))=true/\∀K:Act->World->Prop,Shut (∀w',R1 w'->FrT ts W w'->K (tmA (tm (.agg X1) y p q)) w')->Oper.wp prog oi (tmA (tm x y p q)) W K (NoPanic Q))
  (H2:∀x y p q W,R1 W->∃oi,ops[c2]?=some oi/\Region.wanted oi (yielded ops (tm x y p q))=true/\∀K:Act->World->Prop,Shut (∀w',R2 w'->FrT ts W w'->K (tmA (tm x (.agg X2) p q)) w')->Oper.wp prog oi (tmA (tm x y p q)) W K (NoPanic Q))
  (A1:∀x y p q W,∃oi,ops[a1]?=some oi/\Region.wanted oi (yielded ops (tm x y p q))=true/\∀K:Act->World->Prop,Shut (K (tmA (tm x y (pz' W.heap.size) q)) (W.alloc (.cells v0 52)))->Oper.wp prog oi (tmA (tm x y p q)) W K (NoPanic Q))
  (A2:∀x y p q W,∃oi,ops[a2]?=some oi/\Region.wanted oi (yielded ops (tm x y p q))=true/\∀K:Act->World->Prop,Shut (K (tmA (tm x y p (pz' W.heap.size))) (W.alloc (.cells v0 52)))->Oper.wp prog oi (tmA (tm x y p q)) W K (NoPanic Q))
  (B1:∀y b q W,Blk W b v0 52->∃oi,ops[s1]?=some oi/\Region.wanted oi (yielded ops (tm (.agg X1) y (pz' b) q))=true/\∀K:Act->World->Prop,Shut (∀w',Chg [b] W w'->Blk w' b X1 52->K (tmA (tm (.agg X1) y (pz' b) q)) w')->Oper.wp prog oi (tmA (tm (.agg X1) y (pz' b) q)) W K (NoPanic Q))
  (B2:∀x p b W,Blk W b v0 52->∃oi,ops[s2]?=some oi/\Region.wanted oi (yielded ops (tm x (.agg X2) p (pz' b)))=true/\∀K:Act->World->Prop,Shut (∀w',Chg [b] W w'->Blk w' b X2 52->K (tmA (tm x (.agg X2) p (pz' b))) w')->Oper.wp prog oi (tmA (tm x (.agg X2) p (pz' b))) W K (NoPanic Q))
  (done:∀b1 b2 W,R2 W->Blk W b1 X1 52->Blk W b2 X2 52->N<=b1->N<=b2->NoPanic Q .normal (tmA (tm (.agg X1) (.agg X2) (pz' b1) (pz' b2))) W)
  (x y p q:Value) (W:World) (hR:R0 W) (hN:N<=W.heap.size):Rgm ops [c1,c2,a1,a2,s1,s2] Q S (tmA (tm x y p q)) W:=by
 simp only[List.nodup_cons,List.mem_cons,List.not_mem_nil,or_false,not_or]at hnd
 refine A9h (fam2 c1 c2 a1 a2 s1 s2) (dep2 c1 c2 a1 a2 s1 s2) (fun l a W=>∃x y p q,a=tmA (tm x y p q)/\TwI c1 c2 a1 a2 s1 s2 N X1 X2 R0 R1 R2 l x y p q W) hck ?_ ?_ ?_ 6 [c1,c2,a1,a2,s1,s2] _ W rfl (by simp[fam2]) ⟨x,y,p,q,rfl,hN,fun _=>hR,fun h=>by simp at h,fun h=>by simp at h,fun h=>by simp at h,fun h=>by simp at h,fun h=>by simp at h⟩
 ·rintro l a W ⟨x,y,p,q,rfl,h⟩
  cases e1:l.contains c1 with
  | true=>exact hS0 _ (h.r0 e1)
  | false=>
   cases e2:l.contains c2 with
   | true=>exact hS1 _ (h.r1 e1 e2).2
   | false=>exact hS2 _ (h.r2 e1 e2).2.2
 ·rintro l a W i ⟨x,y,p,q,rfl,h⟩ hd hne
  simp only[dep2,Bool.or_eq_true,Bool.and_eq_true,beq_iff_eq,Bool.not_eq_true']at hd
  obtain⟨⟨n12,n13,n14,n15,n16⟩,⟨n23,n24,n25,n26⟩,⟨n34,n35,n36⟩,⟨n45,n46⟩,n56,_⟩:=hnd
  rcases hd with ((((⟨hi,h1,h2⟩|⟨hi,h1,h2⟩)|⟨hi,h1⟩)|⟨hi,h1⟩)|⟨hi,⟨⟨⟨h0,h1⟩,h2⟩,h3⟩,h4⟩)|⟨hi,⟨⟨⟨h0,h1⟩,h2⟩,h3⟩,h4⟩
  ·rw[hi]at hne ⊢
   have ec2:(l.erase c1).contains c2=l.contains c2:=Ag (by omega)
   have ea1:(l.erase c1).contains a1=l.contains a1:=Ag (by omega)
   have ea2:(l.erase c1).contains a2=l.contains a2:=Ag (by omega)
   have es1:(l.erase c1).contains s1=l.contains s1:=Ag (by omega)
   have es2:(l.erase c1).contains s2=l.contains s2:=Ag (by omega)
   obtain⟨oi,ho,hw,HK⟩:=H1 x y p q W (h.r0 h1)
   refine⟨oi,ho,hw,fun K hK=>HK K (fun w' hr hf=>hK.out _ _ ⟨_,y,p,q,rfl,?_⟩)⟩
   obtain⟨b1,b2,b3⟩:=h.blks hf ht
   exact⟨b1,fun e=>(by rw[hne]at e;cases e),fun _ _=>⟨rfl,hr⟩,fun _ e=>(by rw[ec2,h2]at e;cases e),fun e=>(by rw[es1];exact b2 (ea1▸e)),fun e=>(by rw[es2];exact b3 (ea2▸e)),fun e f=>h.ne (ea1▸e) (ea2▸f)⟩
  ·rw[hi]at hne ⊢
   have ec1:(l.erase c2).contains c1=l.contains c1:=Ag (by omega)
   have ea1:(l.erase c2).contains a1=l.contains a1:=Ag (by omega)
   have ea2:(l.erase c2).contains a2=l.contains a2:=Ag (by omega)
   have es1:(l.erase c2).contains s1=l.contains s1:=Ag (by omega)
   have es2:(l.erase c2).contains s2=l.contains s2:=Ag (by omega)
   obtain⟨rfl,hr1⟩:=h.r1 h1 h2
   obtain⟨oi,ho,hw,HK⟩:=H2 (.agg X1) y p q W hr1
   refine⟨oi,ho,hw,fun K hK=>HK K (fun w' hr hf=>hK.out _ _ ⟨_,_,p,q,rfl,?_⟩)⟩
   obtain⟨b1,b2,b3⟩:=h.blks hf ht
   exact⟨b1,fun e=>(by rw[ec1,h1]at e;cases e),fun _ e=>(by rw[hne]at e;cases e),fun _ _=>⟨rfl,rfl,hr⟩,fun e=>(by rw[es1];exact b2 (ea1▸e)),fun e=>(by rw[es2];exact b3 (ea2▸e)),fun e f=>h.ne (ea1▸e) (ea2▸f)⟩
  ·rw[hi]at hne ⊢
   have ec1:(l.erase a1).contains c1=l.contains c1:=Ag (by omega)
   have ec2:(l.erase a1).contains c2=l.contains c2:=Ag (by omega)
   have ea2:(l.erase a1).contains a2=l.contains a2:=Ag (by omega)
   have es1:(l.erase a1).contains s1=l.contains s1:=Ag (by omega)
   have es2:(l.erase a1).contains s2=l.contains s2:=Ag (by omega)
   obtain⟨oi,ho,hw,HK⟩:=A1 x y p q W
   refine⟨oi,ho,hw,fun K hK=>HK K (hK.out _ _ ⟨x,y,_,q,rfl,?_⟩)⟩
   have hb:∀M,M<=W.heap.size->Below M W (W.alloc (.cells v0 52)):=fun M hM=>(Below.refl _ _).alloc hM _
   have hf:FrT [52] W (W.alloc (.cells v0 52)):=FrT.below (hb _ (Nat.le_refl _))
   refine⟨Nat.le_trans h.n hf.size,fun e=>k0 _ _ (h.r0 (ec1▸e)) hf (hb _ h.n),fun e f=>⟨(h.r1 (ec1▸e) (ec2▸f)).1,k1 _ _ (h.r1 (ec1▸e) (ec2▸f)).2 hf (hb _ h.n)⟩,fun e f=>⟨(h.r2 (ec1▸e) (ec2▸f)).1,(h.r2 (ec1▸e) (ec2▸f)).2.1,k2 _ _ (h.r2 (ec1▸e) (ec2▸f)).2.2 hf (hb _ h.n)⟩,fun _=>⟨_,rfl,h.n,?_⟩,fun e=>?_,fun _ e he=>?_⟩
   ·rw[es1,h1,if_pos rfl];exact Blk.new W _ _
   ·obtain⟨b,e1,e2,e3⟩:=h.p2 (ea2▸e)
    exact⟨b,e1,e2,by rw[es2];exact e3.alloc _⟩
   ·obtain⟨b,e1,e2,e3⟩:=h.p2 (ea2▸e)
    rw[e1]at he
    have hl:=e3.lt
    simp[pz']at he
  ·rw[hi]at hne ⊢
   have ec1:(l.erase a2).contains c1=l.contains c1:=Ag (by omega)
   have ec2:(l.erase a2).contains c2=l.contains c2:=Ag (by omega)
   have ea1:(l.erase a2).contains a1=l.contains a1:=Ag (by omega)
   have es1:(l.erase a2).contains s1=l.contains s1:=Ag (by omega)
   have es2:(l.erase a2).contains s2=l.contains s2:=Ag (by omega)
   obtain⟨oi,ho,hw,HK⟩:=A2 x y p q W
   refine⟨oi,ho,hw,fun K hK=>HK K (hK.out _ _ ⟨x,y,p,_,rfl,?_⟩)⟩
   have hb:∀M,M<=W.heap.size->Below M W (W.alloc (.cells v0 52)):=fun M hM=>(Below.refl _ _).alloc hM _
   have hf:FrT [52] W (W.alloc (.cells v0 52)):=FrT.below (hb _ (Nat.le_refl _))
   refine⟨Nat.le_trans h.n hf.size,fun e=>k0 _ _ (h.r0 (ec1▸e)) hf (hb _ h.n),fun e f=>⟨(h.r1 (ec1▸e) (ec2▸f)).1,k1 _ _ (h.r1 (ec1▸e) (ec2▸f)).2 hf (hb _ h.n)⟩,fun e f=>⟨(h.r2 (ec1▸e) (ec2▸f)).1,(h.r2 (ec1▸e) (ec2▸f)).2.1,k2 _ _ (h.r2 (ec1▸e) (ec2▸f)).2.2 hf (hb _ h.n)⟩,fun e=>?_,fun _=>⟨_,rfl,h.n,?_⟩,fun e _ he=>?_⟩
   ·obtain⟨b,e1,e2,e3⟩:=h.p1 (ea1▸e)
    exact⟨b,e1,e2,by rw[es1];exact e3.alloc _⟩
   ·rw[es2,h1,if_pos rfl];exact Blk.new W _ _
   ·obtain⟨b,e1,e2,e3⟩:=h.p1 (ea1▸e)
    rw[e1]at he
    have hl:=e3.lt
    simp[pz']at he
  ·rw[hi]at hne ⊢
   have ec1:(l.erase s1).contains c1=l.contains c1:=Ag (by omega)
   have ec2:(l.erase s1).contains c2=l.contains c2:=Ag (by omega)
   have ea1:(l.erase s1).contains a1=l.contains a1:=Ag (by omega)
   have ea2:(l.erase s1).contains a2=l.contains a2:=Ag (by omega)
   have es2:(l.erase s1).contains s2=l.contains s2:=Ag (by omega)
   obtain⟨rfl,rfl,hr⟩:=h.r2 h1 h2
   obtain⟨b,rfl,nb,D⟩:=h.p1 h3
   rw[h0,if_pos rfl]at D
   obtain⟨b',rfl,nb',D'⟩:=h.p2 h4
   obtain⟨oi,ho,hw,HK⟩:=B1 (.agg X2) b (pz' b') W D
   refine⟨oi,ho,hw,fun K hK=>HK K (fun w' hc hB=>hK.out _ _ ⟨_,_,_,_,rfl,?_⟩)⟩
   have hf:FrT [52] W w':=FrT.chg hc (by simp only[List.mem_singleton];rintro _ rfl;exact⟨_,_,_,D,by simp⟩)
   have hn:b'∉[b]:=fun e=>h.ne h3 h4 (by rw[List.mem_singleton.1 e])
   exact⟨Nat.le_trans h.n hf.size,fun e=>(by rw[ec1,h1]at e;cases e),fun _ e=>(by rw[ec2,h2]at e;cases e),fun _ _=>⟨rfl,rfl,k2 _ _ hr hf (hc.low h.n (by simpa using nb))⟩,fun _=>⟨b,rfl,nb,by rw[hne];exact hB⟩,fun _=>⟨b',rfl,nb',by rw[es2];exact D'.chg hc hn⟩,fun _ _=>h.ne h3 h4⟩
  ·rw[hi]at hne ⊢
   have ec1:(l.erase s2).contains c1=l.contains c1:=Ag (by omega)
   have ec2:(l.erase s2).contains c2=l.contains c2:=Ag (by omega)
   have ea1:(l.erase s2).contains a1=l.contains a1:=Ag (by omega)
   have ea2:(l.erase s2).contains a2=l.contains a2:=Ag (by omega)
   have es1:(l.erase s2).contains s1=l.contains s1:=Ag (by omega)
   obtain⟨rfl,rfl,hr⟩:=h.r2 h1 h2
   obtain⟨b,rfl,nb,D⟩:=h.p1 h3
   obtain⟨b',rfl,nb',D'⟩:=h.p2 h4
   rw[h0,if_pos rfl]at D'
   obtain⟨oi,ho,hw,HK⟩:=B2 (.agg X1) (pz' b) b' W D'
   refine⟨oi,ho,hw,fun K hK=>HK K (fun w' hc hB=>hK.out _ _ ⟨_,_,_,_,rfl,?_⟩)⟩
   have hf:FrT [52] W w':=FrT.chg hc (by simp only[List.mem_singleton];rintro _ rfl;exact⟨_,_,_,D',by simp⟩)
   have hn:b∉[b']:=fun e=>h.ne h3 h4 (by rw[List.mem_singleton.1 e])
   exact⟨Nat.le_trans h.n hf.size,fun e=>(by rw[ec1,h1]at e;cases e),fun _ e=>(by rw[ec2,h2]at e;cases e),fun _ _=>⟨rfl,rfl,k2 _ _ hr hf (hc.low h.n (by simpa using nb'))⟩,fun _=>⟨b,rfl,nb,by rw[es1];exact D.chg hc hn⟩,fun _=>⟨b',rfl,nb',by rw[hne];exact hB⟩,fun _ _=>h.ne h3 h4⟩
 ·rintro a W ⟨x,y,p,q,rfl,h⟩
  obtain⟨rfl,rfl,hr⟩:=h.r2 rfl rfl
  obtain⟨b1,rfl,n1,D1⟩:=h.p1 rfl
  obtain⟨b2,rfl,n2,D2⟩:=h.p2 rfl
  exact done b1 b2 W hr (by simpa using D1) (by simpa using D2) n1 n2
end Go.Proofs.YtbefeflgjipfhaaGreatDoor
namespace Go.Proofs.YtbefeflgjipfhaaGreatDoor
open Go.Deep Go.Proofs.Tryz Go.RowKit
attribute [local go_sem] A7 vi
theorem RgA.fr {ts:List TypeId} {w w':World} {br n:Nat} {ρ:Nat->R8} (h:RgA w br n ρ) (hf:FrT ts w w') (ht:178∉ts):RgA w' br n ρ:=let ⟨A,h1,h2⟩:=h;⟨A,h1.fr hf ht,h2⟩
theorem Hz (bm bs gs ls lc rf:Nat) (m:Mc) (w:World) (h:rf<ls) (M:MAt w bm {m with slots:=.slice (some ⟨gs,0,none⟩) ls lc}) (sg:w.cell? ⟨gs,rf,none⟩=some (pz' bs)) :
  Calls prog 128 #[pz' bm,.agg (va 5 0 0 ByteArray.empty rf)] w fun e' w'=>e'=.returned (pz' bs)/\Below w.heap.size w w':=by
 have ms:=fun o=>(M.alloc o).cell
 have sa:=ca sg
 have h0:(0:Int)<=rf:=by omega
 have h1:(rf:Int)<ls:=by omega
 go_enter func128,ntmps128
 go_wp2_with fail
 go_region
 go_wp2_with fail
 go_ret
 exact⟨rfl,((Below.refl _ _).alloc (Nat.le_refl _) _).drew⟩
theorem A7v {N:Nat} {L:List Nat} {w W W':World} (h:Chg L w W) (hb:Below N W W') (hN:w.heap.size<=N):Chg L w W':=
 ⟨hb.os.trans h.os,hb.tape.trans h.tape,hb.output.trans h.output,Nat.le_trans h.size hb.size,fun b hb' hl=>(hb.block b (by omega)).trans (h.block b hb' hl)⟩
structure OpR (bc br n qb:Nat) (cc:Cc) (qc:Array Value) (ρ:Nat->R8) (w W:World):Prop where
 q:Blk W qb qc 161
 c:CAt W bc {cc with regs:=.slice (some ⟨br,0,none⟩) n n}
 x:RgA W br n ρ
 g:Chg [br] w W
theorem OpR.keep {bc br n qb N:Nat} {cc:Cc} {qc:Array Value} {ρ:Nat->R8} {w W W':World} (h:OpR bc br n qb cc qc ρ w W) (hf:FrT [52] W W') (hb:Below N W W') (hN:w.heap.size<=N):OpR bc br n qb cc qc ρ w W':=
 ⟨h.q.fr hf (by decide),h.c.fr hf (by decide),h.x.fr hf (by decide),A7v h.g hb hN⟩
theorem OpR.call {bc br n qb:Nat} {cc:Cc} {qc:Array Value} {ρ ρ':Nat->R8} {w W W':World} (h:OpR bc br n qb cc qc ρ w W) (hc:Chg [br] W W') (hx:RgA W' br n ρ'):OpR bc br n qb cc qc ρ' w W'/\FrT [178] W W':=
 ⟨⟨h.q.chg hc (by simpa using Aa h.q h.x.blk (by decide)),h.c.chg hc (by simpa using Aa h.c h.x.blk (by decide)),hx,h.g.trans hc (fun _ h=>h)⟩,FrT.chg hc (by simp only[List.mem_singleton];rintro _ rfl;exact⟨_,_,_,h.x.blk,by simp⟩)⟩
theorem OpR.reg {bc br n qb:Nat} {cc:Cc} {qc:Array Value} {ρ:Nat->R8} {w W:World} (h:OpR bc br n qb cc qc ρ w W) (r:Nat) (x:Int) (k:Value) (a b:Int) (c:Nat) (d:ByteArray) (e:Int) (p l:Value) (hr:r<n) (hn:n<=100) (hx:x = -1-r) (hρ:ρ r=.v5 k a b c d e p l) :
  Calls prog 123 #[pz' bc,.int .i64 x] W fun e' w'=>e'=.returned (.agg (va a b c d e))/\OpR bc br n qb cc qc (upd ρ r .none) w w'/\FrT [178] W w':=by
 refine(A7d bc br r n x cc ρ k a b c d e p l W hr hn (.inr hx) hρ h.c h.x).mono ?_
 rintro e' w' ⟨rfl,hc,hx'⟩
 rw[if_pos (by omega)]at hx'
 exact⟨rfl,h.call hc hx'⟩
theorem Tz (bl bm bs gs ls lc rf bc br n r1 r2 ra:Nat) (o x b c d e f:Int) (cc:Cc) (ρ:Nat->R8) (k1 k2 p1 l1 p2 l2:Value) (ka kb xa xb:Int) (kd xd:ByteArray) (w:World) (hr1:r1<n) (hr2:r2<n) (hn:n<=100) (hb:b = -1-r1) (hc:c = -1-r2) (h12:r2≠r1)
  (h1:ρ r1=.v5 k1 ka kb 0 kd 0 p1 l1) (h2:ρ r2=.v5 k2 xa xb 0 xd 0 p2 l2) (C:CAt w bc {cc with regs:=.slice (some ⟨br,0,none⟩) n n}) (X:RgA w br n ρ)
  (m:Mc) (k3 p3 l3:Value) (G:World->World->Prop) (hx:x=ra) (hra:ra<n) (ha1:ra≠r1) (ha2:ra≠r2) (h3:ρ ra=.v5 k3 5 0 0 ByteArray.empty rf p3 l3) (hrf:rf<ls) (l0:w.cell? ⟨bl,0,none⟩=some (pz' bm)) (hlb:bl≠br) (hgb:gs≠br) (M:MAt w bm {m with slots:=.slice (some ⟨gs,0,none⟩) ls lc}) (sg:w.cell? ⟨gs,rf,none⟩=some (pz' bs))
  (HPUT:Hid (∀W,Chg [br] w W->Calls prog 130 #[pz' bl,pz' bs,.agg (va ka kb 0 kd 0),.agg (va xa xb 0 xd 0)] W fun e w'=>e=.returned .nilIface/\G W w')) :
  Calls prog 47 #[pz' bl,pz' bc,.agg (qa o x b c d e f)] w fun e w'=>e=.returned .nilIface/\∃W,Chg [br] w W/\RgA W br n (upd (upd ρ r1 .none) r2 .none)/\G W w':=by
 have H3:Hid (upd (upd ρ r1 .none) r2 .none ra=.v5 k3 5 0 0 ByteArray.empty rf p3 l3):=(Gb _ ha2).trans ((Gb _ ha1).trans h3)
 have HX:Hid (x=ra):=hx
 have HM:Hid (MAt w bm {m with slots:=.slice (some ⟨gs,0,none⟩) ls lc}):=M
 have hmb:bm∉[br]:=by simpa using Aa M X.blk (by decide)
 have HL:Hid (w.cell? ⟨bl,0,none⟩=some (pz' bm)):=l0
 have HG:Hid (w.cell? ⟨gs,rf,none⟩=some (pz' bs)):=sg
 clear h3 hx M l0 sg ha1 ha2
 have O0:OpR bc br n w.heap.size cc (qa o x b c d e f) ρ w (w.alloc (.cells (qa o x b c d e f) 161)).drew:=⟨(Blk.new w _ _).l (Below.refl _ _).drew,C.l ((Below.refl _ _).alloc (Nat.le_refl _) _).drew,X.l ((Below.refl _ _).alloc (Nat.le_refl _) _).drew,(Chg.refl _ _).below ((Below.refl _ _).alloc (Nat.le_refl _) _).drew⟩
 have HO:Hid (OpR bc br n w.heap.size cc (qa o x b c d e f) ρ w (w.alloc (.cells (qa o x b c d e f) 161)).drew):=O0
 have zs:=O0.q.cell
 have HB:Hid (b = -1-r1/\c = -1-r2):=⟨hb,hc⟩
 have H12:Hid (ρ r1=.v5 k1 ka kb 0 kd 0 p1 l1/\upd ρ r1 .none r2=.v5 k2 xa xb 0 xd 0 p2 l2):=⟨h1,(Gb _ h12).trans h2⟩
 clear hb hc h1 h2 C X O0
 go_enter func47,ntmps47
 go_wp2_with fail
 refine Js (fun a W=>∃b1 b2,a=tmA ((fun x' y' p q=>#[pz' bl,pz' bc,.agg (qa o x b c d e f),undef,undef,pz' w.heap.size,.nilIface,p,q,undef,pz' bc,.pointer (some ⟨w.heap.size,2,none⟩),.int .i64 b,x',pz' bc,.pointer (some ⟨w.heap.size,3,none⟩),.int .i64 c,y',undef,undef,undef,undef,undef,undef,undef,undef,undef,undef,undef,undef,undef,undef,undef,undef,undef,undef,undef,undef,undef,undef]) (.agg (va ka kb 0 kd 0)) (.agg (va xa xb 0 xd 0)) (pz' b1) (pz' b2))/\OpR bc br n w.heap.size cc (qa o x b c d e f) (upd (upd ρ r1 .none) r2 .none) w W/\Blk W b1 (va ka kb 0 kd 0) 52/\Blk W b2 (va xa xb 0 xd 0) 52) ?_ ?_
 ·refine rgM (fun W=>(∀o',W.cell? ⟨w.heap.size,o',none⟩=(#[.int .i64 o,.int .i64 x,.int .i64 b,.int .i64 c,.int .i64 d,.int .i64 e,.int .i64 f]:Array Value)[o']?)) zs (fun hS=>?_)
  iterate 3 (refine tkM rfl (by kernel_rfl) (by rfl) hS ⟨?_,fun W hW=>?_,?_⟩;rotate_left;(focus (go_simp;with_reducible rfl));simp only[Act.put,List.getElem_toArray,List.getElem_cons_zero,List.getElem_cons_succ,List.setIfInBounds_toArray,List.set_cons_succ,List.set_cons_zero])
  refine He [4,5,6,3,7,8,9,10,11] (by kernel_rfl) ?_
  iterate 3 (refine tkM rfl (by kernel_rfl) (by rfl) hS ⟨?_,fun W hW=>?_,?_⟩;rotate_left;(focus (go_simp;with_reducible rfl));simp only[Act.put,List.getElem_toArray,List.getElem_cons_zero,List.getElem_cons_succ,List.setIfInBounds_toArray,List.set_cons_succ,List.set_cons_zero])
  refine twoC 3 7 8 9 10 11 (by kernel_rfl) (by decide) (fun x' y' p q=>#[pz' bl,pz' bc,.agg (qa o x b c d e f),undef,undef,pz' w.heap.size,.nilIface,p,q,undef,pz' bc,.pointer (some ⟨w.heap.size,2,none⟩),.int .i64 b,x',pz' bc,.pointer (some ⟨w.heap.size,3,none⟩),.int .i64 c,y',undef,undef,undef,undef,undef,undef,undef,undef,undef,undef,undef,undef,undef,undef,undef,undef,undef,undef,undef,undef,undef,undef]) (w.heap.size+1) (va ka kb 0 kd 0) (va xa xb 0 xd 0) (OpR bc br n w.heap.size cc (qa o x b c d e f) ρ w) (OpR bc br n w.heap.size cc (qa o x b c d e f) (upd ρ r1 .none) w) (OpR bc br n w.heap.size cc (qa o x b c d e f) (upd (upd ρ r1 .none) r2 .none) w) [178] (by decide) (fun W h=>h.q.cell) (fun W h=>h.q.cell) (fun W h=>h.q.cell) (fun W W' h hf hb=>h.keep hf hb (by omega)) (fun W W' h hf hb=>h.keep hf hb (by omega)) (fun W W' h hf hb=>h.keep hf hb (by omega)) ?_ ?_ ?_ ?_ ?_ ?_ ?_ undef undef undef undef _ HO.out (by simp)
  ·intro x' y' p q W hR
   refine⟨_,rfl,by rfl,fun K hK=>?_⟩
   go_wp2_with fail
   refine(hR.reg r1 b k1 ka kb 0 kd 0 p1 l1 hr1 hn HB.out.1 H12.out.1).mono ?_
   rintro e' w1 ⟨rfl,g1,g2⟩
   exact hK.out _ g1 g2
  ·intro x' y' p q W hR
   refine⟨_,rfl,by rfl,fun K hK=>?_⟩
   go_wp2_with fail
   refine(hR.reg r2 c k2 xa xb 0 xd 0 p2 l2 hr2 hn HB.out.2 H12.out.2).mono ?_
   rintro e' w1 ⟨rfl,g1,g2⟩
   exact hK.out _ g1 g2
  ·intro x' y' p q W
   refine⟨_,rfl,by rfl,fun K hK=>?_⟩
   go_wp2_with fail
   exact hK.out
  ·intro x' y' p q W
   refine⟨_,rfl,by rfl,fun K hK=>?_⟩
   go_wp2_with fail
   exact hK.out
  ·intro y' b' q W D
   refine⟨_,rfl,by rfl,fun K hK=>?_⟩
   have dc:=D.cell
   have df:=D.frozen
   go_wp2_with fail
   exact hK.out _ ((((((Chg.refl [b'] W).set (by simp) _ _).set (by simp) _ _).set (by simp) _ _).set (by simp) _ _).set (by simp) _ _) (((((D.set 0 _).set 1 _).set 2 _).set 3 _).set 4 _)
  ·intro x' p b' W D
   refine⟨_,rfl,by rfl,fun K hK=>?_⟩
   have dc:=D.cell
   have df:=D.frozen
   go_wp2_with fail
   exact hK.out _ ((((((Chg.refl [b'] W).set (by simp) _ _).set (by simp) _ _).set (by simp) _ _).set (by simp) _ _).set (by simp) _ _) (((((D.set 0 _).set 1 _).set 2 _).set 3 _).set 4 _)
  ·intro b1 b2 W hR D1 D2 _ _
   exact⟨rfl,b1,b2,rfl,hR,D1,D2⟩
 ·rintro a W ⟨b1,b2,rfl,hR,D1,D2⟩
  have HR:Hid (OpR bc br n w.heap.size cc (qa o x b c d e f) (upd (upd ρ r1 .none) r2 .none) w W):=hR
  have HD1:Hid (Blk W b1 (va ka kb 0 kd 0) 52):=D1
  have HD2:Hid (Blk W b2 (va xa xb 0 xd 0) 52):=D2
  have hR':=hR
  obtain⟨q1,q2,q3,q4⟩:=hR'
  have e1:W.drew.cell? ⟨bl,0,none⟩=some (pz' bm):=q4.cell (by simpa using hlb) HL.out
  have e2:∀o',W.drew.cell? ⟨w.heap.size,o',none⟩=(qa o x b c d e f)[o']?:=q1.cell
  have e3:W.drew.cell? ⟨bc,6,none⟩=some (.slice (some ⟨br,0,none⟩) n n):=q2.cell 6
  have er:∀j,j<5->W.drew.cell? ⟨br,ra*8+1+j,none⟩=(va 5 0 0 ByteArray.empty rf)[j]?:=fun j hj=>by
   have:=q3.at hra (j:=1+j) (by omega)
   rw[H3.out,←Nat.add_assoc]at this
   refine Eq.trans (b:=W.cell? ⟨br,ra*8+1+j,none⟩) rfl (this.trans ?_)
   match j,hj with
   | 0,_=>rfl
   | 1,_=>rfl
   | 2,_=>rfl
   | 3,_=>rfl
   | 4,_=>rfl
  have f0:=er 0 (by decide)
  have f1:=er 1 (by decide)
  have f2:=er 2 (by decide)
  have f3:=er 3 (by decide)
  have f4:=er 4 (by decide)
  simp only[Nat.add_zero,Nat.add_assoc,Nat.reduceAdd]at f0 f1 f2 f3 f4
  have hra0:(0:Int)<=ra:=by omega
  have hra1:(ra:Int)<n:=by omega
  obtain rfl:=HX.out
  clear er q1 q2 q3 q4 hR D1 D2
  dsimp only[tmA]
  go_wp2_with fail
  have MW:MAt W.drew bm {m with slots:=.slice (some ⟨gs,0,none⟩) ls lc}:=(HM.out.chg HR.out.g hmb).l (Below.refl _ _).drew
  have GW:W.drew.cell? ⟨gs,rf,none⟩=some (pz' bs):=HR.out.g.cell (by simpa using hgb) HG.out
  have HT:Hid (Calls prog 128 #[pz' bm,.agg (va 5 0 0 ByteArray.empty rf)] W.drew fun e' w'=>e'=.returned (pz' bs)/\Below W.drew.heap.size W.drew w'):=Hz bm bs gs ls lc rf m W.drew hrf MW GW
  clear MW GW
  go_region_held3 (fun V=>V.cell? ⟨bl,0,none⟩=some (.pointer (some ⟨bm,0,none⟩))/\(∀o',V.cell? ⟨w.heap.size,o',none⟩=(#[.int .i64 o,.int .i64 ra,.int .i64 b,.int .i64 c,.int .i64 d,.int .i64 e,.int .i64 f]:Array Value)[o']?)/\V.cell? ⟨bc,6,none⟩=some (.slice (some ⟨br,0,none⟩) n n)/\V.cell? ⟨br,ra*8+1,none⟩=some (.int .i64 5)/\V.cell? ⟨br,ra*8+2,none⟩=some (.int .i64 0)/\V.cell? ⟨br,ra*8+3,none⟩=some (.float .f64 0)/\V.cell? ⟨br,ra*8+4,none⟩=some (.string ByteArray.empty)/\V.cell? ⟨br,ra*8+5,none⟩=some (.int .i64 rf)) (first|exact⟨e1,e2,e3,f0,f1,f2,f3,f4⟩|exact⟨cb e1 hw1,fun o'=>((HR.out.q.l (Below.refl _ _).drew).l hw1).cell o',cb e3 hw1,cb f0 hw1,cb f1 hw1,cb f2 hw1,cb f3 hw1,cb f4 hw1⟩) (first|(go_at_call 128;refine HT.out.mono ?_;rintro e' w1 ⟨rfl,hw1⟩))
  have b1W:Below W.heap.size W w1:=bl2 (Below.refl _ _).drew hw1
  have D1:=HD1.out.l b1W
  have D2:=HD2.out.l b1W
  have d1:=D1.cell
  have d2:=D2.cell
  clear e1 e2 e3 f0 f1 f2 f3 f4 HT hw1
  go_wp2_with fail
  have CW:Chg [br] w w1:=HR.out.g.below b1W
  refine(HPUT.out w1 CW).mono ?_
  rintro e' w2 ⟨rfl,hG⟩
  go_wp2_with fail
  go_ret
  exact⟨rfl,w1,CW,HR.out.x.l b1W,hG⟩
end Go.Proofs.YtbefeflgjipfhaaGreatDoor
