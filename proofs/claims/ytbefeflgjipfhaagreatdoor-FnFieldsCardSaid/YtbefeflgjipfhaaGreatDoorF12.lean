import Derived.Test.YtbefeflgjipfhaaGreatDoorF11
set_option maxRecDepth 8000
set_option maxHeartbeats 4000000
namespace Go.Proofs.YtbefeflgjipfhaaGreatDoor
open Go.Deep Go.Proofs.Tryz Go.RowKit
attribute [local go_sem] A7 vi
theorem Blk.new1 (w:World) (o:Obj) (A:Array Value) (t:TypeId):Blk ((w.alloc o).alloc (.cells A t)) (w.heap.size+1) A t:=by have:=Blk.new (w.alloc o) A t;simpa using this
theorem Chg.mono {L M:List Nat} {w w':World} (h:Chg L w w') (hs:∀b∈L,b∈M):Chg M w w':=⟨h.os,h.tape,h.output,h.size,fun b hb hl=>h.block b (fun e=>hb (hs b e)) hl⟩
theorem Ba {w:World} {v:Value} {n e lo size:Nat} {xs:List Value} {b:Nat} {arr:Array Value} {t:TypeId} (h:w.ownsRow lo e size v n xs) (X:Blk w b arr t) (ht:e≠t):∀g,v.ownBlock=some g->g≠b:=fun g hg hb=>by
 obtain⟨_,⟨rfl,_⟩|⟨g',c,cur,rfl,_,h3,_⟩⟩:=h
 ·simp[Value.ownBlock]at hg
 ·simp[Value.ownBlock]at hg
  subst hg hb
  have e1:=h3.symm.trans X
  injection e1 with e1
  injection e1 with _ e1
  exact ht e1
abbrev st (p k bo ve v tn:Value):Array Value:=#[p,k,bo,ve,v,tn,.pointer none,.bool false,.int .i64 0,.slice none 0 0,.int .i64 0,.int .i64 0,.float .f64 0,.string ByteArray.empty,.int .i64 0]
theorem A1l (bl bm bs lo:Nat) (m:Mc) (kk n vv:Int) (sp sk so:Value) (v:Value) (ps:List Pr) (tn ka kb xa xb:Int) (kd xd:ByteArray) (w:World)
  (h0:w.cell? ⟨bl,0,none⟩=some (.pointer (some ⟨bm,0,none⟩))) (h7:w.cell? ⟨bl,7,none⟩=some (.int .i64 n)) (hk:0<=kk) (hn:kk<n) (hm:n<=20000) (hvv:0<=vv) (hvm:vv<=1000000)
  (hka:ka=2∨ka=4) (hkv:Bl ⟨ka,kb,0,kd,0⟩=true) (hl:ps.length<500) (ht:0<=tn) (ht1:tn<=100000) (hxa:¬xa=0) (hlo:lo<=w.heap.size) (hpl:G8 ps ka kb kd = -1) (hbl:bl≠bm) (nbl:bl≠bs) (n5:bl∉v.ownBlock.toList)
  (X:MAt w bm {m with live:=.int .i64 0,since:=.int .i64 kk,rm:=.int .i64 kk,vers:=.int .i64 vv}) (Y:Blk w bs (st sp sk so (.int .i64 vv) v (.int .i64 tn)) 176) (P:Cz w lo v ps) :
  Calls prog 130 #[.pointer (some ⟨bl,0,none⟩),.pointer (some ⟨bs,0,none⟩),.agg (va ka kb 0 kd 0),.agg (va xa xb 0 xd 0)] w fun e' w'=>e'=.returned .nilIface/\∃v',Chg (bm::bs::v.ownBlock.toList) w w'/\MAt w' bm {m with live:=.int .i64 0,since:=.int .i64 (kk+1),rm:=.int .i64 (kk+1),vers:=.int .i64 (vv+1)}/\Blk w' bs (st sp sk so (.int .i64 (vv+1)) v' (.int .i64 (tn+1))) 176/\Cz w' lo v' (ps++[⟨ka,kb,kd,xa,xb,xd,tn+1⟩])/\(v'.ownBlock=v.ownBlock∨∃g,v'.ownBlock=some g/\w.heap.size<=g):=by
 obtain⟨po,cap,rfl⟩:=Af P
 obtain⟨L,hL⟩:∃L,L=ps.length:=⟨_,rfl⟩
 have HP:Hid (Cz w lo (.slice po ps.length cap) ps):=P
 clear P
 rw[←hL]at HP Y n5 ⊢
 have hl2:L<500:=hL▸hl
 have HPL:Hid (∀W,Cz W lo (.slice po L cap) ps->Calls prog 162 #[.agg (tbv (.slice po L cap) tn),.agg (va ka kb 0 kd 0)] W fun e' w'=>e'=.returned (.int .i64 (-1))/\Below W.heap.size W w'):=fun W h=>(Hu lo _ ps tn ka kb kd W hka hkv (by omega) h).mono fun e w' ⟨h1,h2⟩=>⟨h1.trans (Cr hpl),h2⟩
 have HK:Hid (∀W,Calls prog 206 #[.agg (va ka kb 0 kd 0)] W fun e' w'=>e'=.returned (.agg (vd ka kb 0 kd 0))/\Below W.heap.size W w'):=fun W=>Oo ka kb kd W hka hkv
 have HL:Hid (L=ps.length):=hL
 clear hL hka hkv hpl
 have HX:Hid (MAt w bm {m with live:=.int .i64 0,since:=.int .i64 kk,rm:=.int .i64 kk,vers:=.int .i64 vv}):=X
 have HY:Hid (Blk w bs (st sp sk so (.int .i64 vv) (.slice po L cap) (.int .i64 tn)) 176):=Y
 clear X Y
 have B2:∀o1 o2,Below w.heap.size w ((w.alloc o1).alloc o2):=fun _ _=>bl2 ((Below.refl _ _).alloc (Nat.le_refl _) _) ((Below.refl _ _).alloc (Nat.le_refl _) _)
 have HA:Hid (Blk ((w.alloc (.cells (va ka kb 0 kd 0) 52)).alloc (.cells (va xa xb 0 xd 0) 52)) w.heap.size (va ka kb 0 kd 0) 52):=(Blk.new w _ _).alloc _
 have HB:Hid (Blk ((w.alloc (.cells (va ka kb 0 kd 0) 52)).alloc (.cells (va xa xb 0 xd 0) 52)) (w.heap.size+1) (va xa xb 0 xd 0) 52):=Blk.new1 w _ _ _
 go_enter func130,ntmps130
 go_wp2_with fail
 refine(HK.out _).mono ?_
 rintro e w1 ⟨rfl,hw1⟩
 have b1:=bl2 (B2 _ _) hw1
 have A1:=HA.out.l hw1
 have V1:=HB.out.l hw1
 have ax:=fun o=>(A1.alloc o).cell
 go_wp2_with fail
 have K2:=Blk.new w1 (vd ka kb 0 kd 0) 216
 have A2:=A1.alloc (.cells (vd ka kb 0 kd 0) 216)
 have V2:=V1.alloc (.cells (vd ka kb 0 kd 0) 216)
 have b2:=bl2 b1 ((Below.refl _ _).alloc (Nat.le_refl _) (.cells (vd ka kb 0 kd 0) 216))
 clear ax A1 V1
 revert K2 A2 V2 b2
 obtain⟨W,hW⟩:∃z,z=w1.alloc (.cells (vd ka kb 0 kd 0) 216):=⟨_,rfl⟩
 rw[←hW]
 clear hW
 intro K2 A2 V2 b2
 have ys:=(HY.out.l b2.drew).cell
 have av:=(A2.l (Below.refl _ _).drew).cell
 have HP2:Hid (Cz W.drew lo (.slice po L cap) ps):=Ab (by rw[HL.out]at HP ⊢;exact HP.out) (b2.drew)
 go_region_held3 (fun W=>(∀o,W.cell? ⟨bs,o,none⟩=(#[sp,sk,so,.int .i64 vv,.slice po L cap,.int .i64 tn,.pointer none,.bool false,.int .i64 0,.slice none 0 0,.int .i64 0,.int .i64 0,.float .f64 0,.string ByteArray.empty,.int .i64 0]:Array Value)[o]?)/\(∀o,W.cell? ⟨w.heap.size,o,none⟩=(#[.int .i64 ka,.int .i64 kb,.float .f64 0,.string kd,.int .i64 0]:Array Value)[o]?)) (first|with_reducible exact⟨ys,av⟩|with_reducible exact⟨ys2,av2⟩) (first|(go_at_call 162;refine(HPL.out _ HP2.out).mono ?_;rintro e w2 ⟨rfl,hw2⟩;have b3:Below w.heap.size w w2:=bl2 b2.drew hw2;have ys2:=(HY.out.l b3).cell;have av2:=(A2.l (bl2 (Below.refl _ _).drew hw2)).cell))
 have b3:Below w.heap.size w w2:=bl2 b2.drew hw2
 have K3:=K2.l (bl2 (Below.refl _ _).drew hw2)
 have V3:=V2.l (bl2 (Below.refl _ _).drew hw2)
 clear ys av K2 V2 A2 hw2 HP2 HPL HK
 have vs:=V3.cell
 have hL5:¬(L:Int)=500:=by omega
 go_wp2_with fail
 refine(Uk bl bm {m with vers:=.int .i64 vv} kk n _ (cb h0 b3) (cb h7 b3) hk hn hm (HX.out.l b3)).mono ?_
 rintro e w4 ⟨rfl,C4,X4⟩
 have Y4:=(HY.out.l b3).chg C4 (by simpa using Aa HY.out HX.out (by decide))
 have K4:=K3.chg C4 (by simpa using Aa K3 (HX.out.l b3) (by decide))
 have V4:=V3.chg C4 (by simpa using Aa V3 (HX.out.l b3) (by decide))
 have P3:Cz w2 lo (.slice po L cap) ps:=Ab (by rw[HL.out]at HP ⊢;exact HP.out) b3
 have P4:Cz w4 lo (.slice po L cap) ps:=Ae P3 (fun k hk=>C4.block k (by simpa using Ba P3 (HX.out.l b3) (by decide) k hk) (P3.lt k hk).2)
 have HX4:Hid (MAt w4 bm {m with live:=.int .i64 0,since:=.int .i64 (kk+1),rm:=.int .i64 (kk+1),vers:=.int .i64 vv}):=X4
 have HC4:Hid (Chg [bm] w w4):=((Chg.refl _ _).below b3).trans C4 (fun _ h=>h)
 have l4:Hid (w4.cell? ⟨bl,0,none⟩=some (.pointer (some ⟨bm,0,none⟩))):=C4.cell (by simpa using hbl) (cb h0 b3)
 clear vs K3 V3 b3 C4 X4 P3 h0 h7
 go_wp2_with fail
 have hbs:∀{W:World},w4=W->True:=fun _=>trivial
 clear hbs
 have ys:=(Y4.l (Below.refl _ _).drew).cell
 have ks:=(K4.l (Below.refl _ _).drew).cell
 have vs:=(V4.l (Below.refl _ _).drew).cell
 have D4:Below w4.heap.size w4 w4.drew:=(Below.refl _ _).drew
 have HPUT:Hid (Calls prog 207 #[.agg (tbv (.slice po L cap) tn),.int .i64 (-1),.agg (va ka kb 0 kd 0),.agg (va xa xb 0 xd 0)] w4.drew fun e' w'=>∃v',e'=.returned (.agg (tbv v' (tn+1)))/\Cz w' lo v' (ps++[⟨ka,kb,kd,xa,xb,xd,tn+1⟩])/\Chg (Value.slice po L cap).ownBlock.toList w4.drew w'/\(v'.ownBlock=(Value.slice po L cap).ownBlock∨∃g,v'.ownBlock=some g/\w4.drew.heap.size<=g)):=
  A4c lo (.slice po L cap) ps tn ka kb xa xb kd xd w4.drew hl ht ht1 hxa (Nat.le_trans hlo HC4.out.size) (Ab P4 D4)
 have n1:bs∉(Value.slice po L cap).ownBlock.toList:=fun h=>Ba P4 Y4 (by decide) bs (by simpa using h) rfl
 have n2:w1.heap.size∉(Value.slice po L cap).ownBlock.toList:=fun h=>Ba P4 K4 (by decide) _ (by simpa using h) rfl
 have n3:w.heap.size+1∉(Value.slice po L cap).ownBlock.toList:=fun h=>Ba P4 V4 (by decide) _ (by simpa using h) rfl
 have n4:bm∉(Value.slice po L cap).ownBlock.toList:=fun h=>Ba P4 HX4.out (by decide) _ (by simpa using h) rfl
 have nbs:bs≠bm:=Aa Y4 HX4.out (by decide)
 go_region_with (first|(go_at_call 207;refine HPUT.out.mono ?_;rintro e w5 ⟨v',rfl,P5,C5,O5⟩;obtain⟨po',cap',rfl⟩:=Af P5;have Y5:=(Y4.l D4).chg C5 n1;have ys5:=Y5.cell;have yf5:=Y5.frozen))
 all_goals
  rw[show (ps++[(⟨ka,kb,kd,xa,xb,xd,tn+1⟩:Pr)]).length=ps.length+1 by simp]at P5 O5
  have X5:=(HX4.out.l D4).chg C5 n4
  have l5:=C5.cell n5 (cb l4.out D4)
  have C6:Chg [bs] w5 ((w5.setCell ⟨bs,4,none⟩ (.slice po' (ps.length+1) cap')).setCell ⟨bs,5,none⟩ (.int .i64 (tn+1))):=((Chg.refl _ _).set (by simp) _ _).set (by simp) _ _
  have Y6:=(Y5.set 4 (.slice po' (ps.length+1) cap')).set 5 (.int .i64 (tn+1))
  have X6:=X5.chg C6 (by simpa using Ne.symm nbs)
  have P6:Cz _ lo (.slice po' (ps.length+1) cap') (ps++[⟨ka,kb,kd,xa,xb,xd,tn+1⟩]):=Ae P5 (fun k hk=>C6.block k (by simpa using Ba P5 Y5 (by decide) k hk) (P5.lt k hk).2)
  have HC6:=((((HC4.out.mono (M:=bm::bs::(Value.slice po L cap).ownBlock.toList) (by simp)).below D4).trans C5 (fun b h=>by simp[h])).trans C6 (fun b h=>by simp at h;simp[h]))
  have l6:=C6.cell (b:=bl) (by simpa using nbl) l5
  have O6:(Value.slice po' (ps.length+1) cap').ownBlock=(Value.slice po L cap).ownBlock∨∃g,(Value.slice po' (ps.length+1) cap').ownBlock=some g/\w.heap.size<=g:=O5.imp id fun ⟨g,h1,h2⟩=>⟨g,h1,Nat.le_trans HC4.out.size h2⟩
  refine Kj (S:=fun W=>MAt W bm {m with live:=.int .i64 0,since:=.int .i64 (kk+1),rm:=.int .i64 (kk+1),vers:=.int .i64 vv}/\Blk W bs (st sp sk so (.int .i64 vv) (.slice po' (ps.length+1) cap') (.int .i64 (tn+1))) 176/\Cz W lo (.slice po' (ps.length+1) cap') (ps++[⟨ka,kb,kd,xa,xb,xd,tn+1⟩])/\Chg (bm::bs::(Value.slice po L cap).ownBlock.toList) w W/\W.cell? ⟨bl,0,none⟩=some (.pointer (some ⟨bm,0,none⟩))) ⟨X6,Y6,P6,HC6,l6⟩ (fun W hS=>?_)
  obtain⟨X7,Y7,P7,C7,l7⟩:=hS
  have HO:Hid ((Value.slice po' (ps.length+1) cap').ownBlock=(Value.slice po L cap).ownBlock∨∃g,(Value.slice po' (ps.length+1) cap').ownBlock=some g/\w.heap.size<=g):=O6
  have hq:¬((ps.length:Int)+1=L):=by have:=HL.out;omega
  clear O6 O5 P5 C5 Y5 ys5 yf5 X5 l5 C6 Y6 X6 P6 HC6 l6 ys ks vs HPUT
  have ys:=Y7.cell
  go_wp2_with fail
  refine(Jg bm bs {m with live:=.int .i64 0,since:=.int .i64 (kk+1),rm:=.int .i64 (kk+1)} vv _ _ _ _ _ _ _ _ _ _ _ _ _ _ _ _ hvv hvm (Ne.symm nbs) X7 Y7).mono ?_
  rintro e w8 ⟨rfl,C8,X8,Y8⟩
  go_wp2_with fail
  go_ret
  exact⟨rfl,_,C7.trans C8 (fun b h=>by simp at h;simp;omega),X8,Y8,Ae P7 (fun k hk=>C8.block k (by simpa using ⟨Ba P7 X7 (by decide) k hk,Ba P7 Y7 (by decide) k hk⟩) (P7.lt k hk).2),HO.out⟩
end Go.Proofs.YtbefeflgjipfhaaGreatDoor
