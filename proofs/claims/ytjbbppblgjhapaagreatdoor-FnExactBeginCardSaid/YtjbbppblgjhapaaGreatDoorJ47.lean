import Derived.Test.YtjbbppblgjhapaaGreatDoorJ46
set_option maxRecDepth 100000
set_option maxHeartbeats 8000000
namespace Go.Proofs.YtjbbppblgjhapaaGreatDoor
open Go.Deep Go.Proofs.Tryz Go.RowKit
attribute [local go_sem] Ac
abbrev cfL (v:Value):List Value:=[(1:Int),(),.pointer none,(),(),(),v,nS,false,false,(),nS,ByteArray.empty,(-1:Int)]
def Ig (w:World) (ro:Option Addr) (rs:List Rg):Prop:=∀i r,rs[i]?=some r->∃b off io ic,ro=some ⟨b,off,none⟩/\b<(w:Nat)/\Ae w b (off+i*8) (r.ins io ic).toList/\Ld w io ic r.list
def RgI (r:Rg):Prop:=RgC r/\Yj (r.v::r.list)/\r.list.length<=1048576
structure Gv (ty:TypeId) (z:Array Value) (B:Nat) (W0 W:World) (bo:Nat) (fr:List Value):Prop where
 below:Below B W0 W
 res:Blk W B z ty
 frm:Ae W bo 0 fr
 own:Own W bo ty z.size
 lo:B<bo
section
variable {ty:TypeId} {z:Array Value} {B:Nat} {W0 W W':World} {bo:Nat} {fr:List Value}
theorem Gv.l (h:Gv ty z B W0 W bo fr) (hb:Below W W W'):Gv ty z B W0 W' bo fr:=
 ⟨h.below.trans (hb.mono (Nat.le_of_lt h.res.lt)),h.res.l hb,h.frm.keep (lo:=0) (A7.o hb) (yE _) h.own.lt,h.own.l hb,h.lo⟩
theorem Gv.set (h:Gv ty z B W0 W bo fr) (i:Nat) (u:Value):Gv ty z B W0 (W.setCell (bo,i) u) bo (fr.set i u):=
 have hl:=h.lo
 ⟨h.below.setCell (by dsimp only;omega) _,h.res.setOther (p:=(bo,i)) (by dsimp only;omega) _,Ae.setAt h.frm i u,h.own.set i u,hl⟩
theorem Gv.grown {row:Option Nat} (h:Gv ty z B W0 W bo fr) (hg:W.grownBy W' row) (hr:∀k,row=some k->bo+1<=k):Gv ty z B W0 W' bo fr:=by
 have hn:∀b,b<bo+1->some b≠row:=fun b hb e=>by have:=hr b e.symm;omega
 have hl:=h.lo;exact⟨h.below.grown hg (Nat.le_of_lt h.res.lt) (fun k hk=>by have:=hr k hk;omega),Am h.res hg (hn _ (by omega)),fun i v hv=>(yX (a:=⟨bo,0+i,none⟩) (hg.block bo h.own.lt (hn bo (by omega)))).trans (h.frm i v hv),h.own.of_block (hg.block _ h.own.lt (hn _ (by omega))),hl⟩
theorem Gv.made (hb:Below B W0 W) (hr:Blk W B z ty) (ho:Blk W bo z ty) (hl:B<bo) (cs:List Value) (hc:cs.length=z.size):Gv ty z B W0 (W.setCells bo 0 cs) bo cs:=
 ⟨Below.sets _ _ hb (by omega),hr.setsFar (by omega) _,yS _ _ 0 _ (by rw[hc];exact ho.there),Own.sets _ _ ⟨_,ho,rfl⟩,hl⟩
theorem Gv.cell (h:Gv ty z B W0 W bo fr) {i:Nat} {v:Value} (hv:fr[i]?=some v):W.cell? (bo,i)=some v:=by
 have:=h.frm i v hv
 rwa [yM]at this
end
abbrev Xa (s:Nat):=Gv 231 frZ (s+1)
theorem Zr (bc bp:Nat) (ro:Option Addr) (n rc:Nat) (rs:List Rg) (w:World) (hn:n<=250) (hbc:bc<(w:Nat)) (hbp:bp<(w:Nat)) (HCF:Hid (Ae w bc 0 (cfL (.slice ro n rc)))) (HM:Hid (w.heap[bp]?=some Jy)) (HRS:Hid (Ig w ro rs)) (HLN:Hid (rs.length=n)) (HRI:Hid (∀r∈rs,RgI r)) :
  Calls prog 364 #[.pointer bc,plV bp] w fun e w'=>(∃vo vc,e=.returned (.agg (frL (.slice vo n vc)).toArray)/\Gr (w:Nat) w' vo vc rs)/\Below w w w':=by
 go_in;refine wk fun K HK=>?_;go_wp2_with fail;refine Ki (S:=fun W=>Below w w W/\Blk W (w:Nat) (plA bp) 351/\Blk W ((w:Nat)+1) frZ 231) ⟨((yA _ _).alloc (yB _) _).alloc (by simp) _,(Blk.new w _ _).alloc _,Blk.nh _ _ (by simp)⟩ (fun W0 hS=>HK.out _ _ ?_);clear HK K;obtain⟨B0,P0,R0⟩:=hS;have HB0:Hid (Below w w W0):=B0;have HR0:Hid (Blk W0 ((w:Nat)+1) frZ 231):=R0;have HSS:Hid (∀W,Below ((w:Nat)+1) W0 W->(∀i v,(cfL (.slice ro n rc))[i]?=some v->W.cell? ⟨bc,i,none⟩=some v)/\(∀o,W.cell? ⟨(w:Nat),o,none⟩=(plA bp)[o]?)/\W.heap[bp]?=some Jy):=fun W hb=>⟨fun i v hv=>(hb.cell (p:=⟨bc,i,none⟩) (by dsimp only;omega)).trans ((B0.cell (p:=⟨bc,i,none⟩) hbc).trans (by have:=HCF.out i v hv;rwa [yM]at this)),fun o=>(hb.cell (p:=⟨(w:Nat),o,none⟩) (by dsimp only;omega)).trans (P0.cell o),(hb.block bp (by omega)).trans ((B0.block bp hbp).trans HM.out)⟩;have hs0:(w:Nat)+1<(W0:Nat):=R0.lt;clear B0 P0 R0;refine wk fun K HK=>?_;go_cut [0,3,4,5] from 6 (fun v0 v3 v4 v5 wx=>∃bo:Nat,v0=.pointer bc/\v3=.pointer (w:Nat)/\v4=.pointer (some ⟨(w:Nat)+1,0,none⟩)/\v5=.pointer bo/\Hid (Xa (w:Nat) W0 wx bo (frH 1).toList));case first=>
  have HS1:Hid (∀W,Below ((w:Nat)+1) W0 W->W.cell? (bc,0)=some (.int .i64 1)/\(∀o,W.cell? ⟨(w:Nat),o,none⟩=(plA bp)[o]?)):=fun W hb=>⟨(HSS.out W hb).1 0 _ rfl,(HSS.out W hb).2.1⟩;refine rgN (fun W=>W.cell? (bc,0)=some (.int .i64 1)/\(∀o,W.cell? ⟨(w:Nat),o,none⟩=(plA bp)[o]?)) (HS1.out _ (yA _ _).drew) (fun hS=>?_);repeat (refine tkF (by kernel_rfl) (by rfl) hS ⟨?_,fun W hW=>?_,?_⟩;rotate_left;(focus (obtain⟨s0,s1⟩:=hW;go_simp;with_reducible rfl));try simp only[Act.put,yC,yJ,yK])
  refine rgD ?_;refine A56 5 6 rfl rfl (by kernel_rfl) (by rfl) (by rfl) (fun K2 hK2=>?_) (fun K2 hK2=>?_)
  ·go_wp2_with fail;refine(Nb 1 bp _).mono ?_;rintro e w1 ⟨rfl,hw1⟩;have b1:Below ((w:Nat)+1) W0 w1:=(yA _ _).drew.trans (hw1.mono (Nat.le_of_lt hs0));have b2:=b1.alloc (yI (Nat.le_of_lt hs0) hw1.size) (.cells frZ 231);have HC2:Hid (Xa (w:Nat) W0 _ _ _):=Gv.made b2 ((HR0.out.l ⟨hw1.os,hw1.tape,hw1.output,hw1.size,hw1.block⟩).alloc _) (Blk.new w1 frZ 231) (yF hs0 hw1.size) (frH 1).toList rfl;have HT2:Hid (World.there (w1.alloc (.cells frZ 231)) (w1:Nat) 0 18):=(Blk.new w1 frZ 231).there;go_wp2;refine hK2.out _ _ (HS1.out _ b1) (fun hS=>?_);clear hK2 K2;try simp only[Act.put,yC]
   refine doD 6 rfl (by kernel_rfl) (by rfl) (fun K2 hK2=>?_);go_wp2;refine hK2.out _ _ (HS1.out _ b2) (fun hS=>?_);clear hK2 K2;try simp only[Act.put,yC]
   refine doD 7 rfl (by kernel_rfl) (by rfl) (fun K2 hK2=>?_);refine wp_store_mid 231 (.tmp 5) (.tmp 15) rfl (w1:Nat) 0 (frH 1) (by simp[Act.eval]) (by simp[Act.eval];try rfl) HT2.out (by kernel_rfl) (by simp[Value.oneCell']) ?_;refine hK2.out _ _ (HS1.out _ HC2.out.below) (fun _=>Uw (by kernel_rfl) (NoPanic.normal ?_));clear hK2 K2;go_wp2;go_meet;case rel=>exact⟨_,rfl,rfl,rfl,rfl,HC2.out⟩
  ·have b1:=((yA ((w:Nat)+1) W0).alloc (Nat.le_of_lt hs0) (.cells frZ 231)).drew;go_wp2;refine hK2.out _ _ (HS1.out _ b1) (fun hS=>?_);clear hK2 K2;try simp only[Act.put,yC]
   refine doD 5 rfl (by kernel_rfl) (by rfl) (fun K2 hK2=>?_);go_wp2_with fail;refine(Nb 1 bp _).mono ?_;rintro e w1 ⟨rfl,hw1⟩;have b2:Below ((w:Nat)+1) W0 w1:=b1.trans (hw1.mono (by simp;omega));have X2:Blk w1 W0 frZ 231:=((Blk.new W0 frZ 231).l (yA _ _).drew).l hw1;have HC2:Hid (Xa (w:Nat) W0 _ _ _):=Gv.made b2 (((HR0.out.alloc (.cells frZ 231)).l (yA _ _).drew).l hw1) X2 hs0 (frH 1).toList rfl;have HT2:Hid (World.there w1 (W0:Nat) 0 18):=X2.there;go_wp2;refine hK2.out _ _ (HS1.out _ b2) (fun hS=>?_);clear hK2 K2;try simp only[Act.put,yC]
   refine doD 7 rfl (by kernel_rfl) (by rfl) (fun K2 hK2=>?_);refine wp_store_mid 231 (.tmp 5) (.tmp 15) rfl (W0:Nat) 0 (frH 1) (by simp[Act.eval]) (by simp[Act.eval];try rfl) HT2.out (by kernel_rfl) (by simp[Value.oneCell']) ?_;refine hK2.out _ _ (HS1.out _ HC2.out.below) (fun _=>Uw (by kernel_rfl) (NoPanic.normal ?_));clear hK2 K2;go_wp2;go_meet;case rel=>exact⟨_,rfl,rfl,rfl,rfl,HC2.out⟩
 obtain⟨bo,rfl,rfl,rfl,rfl,HF⟩:=hcut;refine HK.out _ _ ?_;clear HK K;refine wk fun K HK=>?_;have HS2:Hid (∀W,Below ((w:Nat)+1) W0 W->W.cell? (bc,1)=some (.int .i64 0)/\W.cell? (bc,2)=some (.pointer none)/\W.cell? (bc,3)=some (.int .i64 0)/\W.cell? (bc,4)=some (.int .i64 0)/\W.cell? (bc,5)=some (.int .i64 0)/\(∀o,W.cell? ⟨(w:Nat),o,none⟩=(plA bp)[o]?)/\(Instr.lookup 349 (.map (some bp)) (.pointer none) false).run prog W=.ok (-1:Int) W):=fun W hb=>have h:=HSS.out W hb;⟨h.1 1 _ rfl,h.1 2 _ rfl,h.1 3 _ rfl,h.1 4 _ rfl,h.1 5 _ rfl,h.2.1,Wm h.2.2⟩;refine rgN (fun W=>W.cell? (bc,1)=some (.int .i64 0)/\W.cell? (bc,2)=some (.pointer none)/\W.cell? (bc,3)=some (.int .i64 0)/\W.cell? (bc,4)=some (.int .i64 0)/\W.cell? (bc,5)=some (.int .i64 0)/\(∀o,W.cell? ⟨(w:Nat),o,none⟩=(plA bp)[o]?)/\(Instr.lookup 349 (.map (some bp)) (.pointer none) false).run prog W=.ok (-1:Int) W) (HS2.out _ HF.out.below.drew) (fun hS=>?_);iterate 24 (refine tkF (by kernel_rfl) (by rfl) hS ⟨?_,fun W hW=>?_,?_⟩;rotate_left;(focus (obtain⟨s0,s1,s2,s3,s4,s5,s6⟩:=hW;go_simp;with_reducible rfl));try simp only[Act.put,yC,yJ,yK])
 have F1:=HF.out;have F2:=F1.set 6 (-1:Int);have HF2:Hid (Xa (w:Nat) W0 (wc.setCell (bo,6) (-1:Int)).drew bo [(1:Int),(),(),false,nS,(),(-1:Int),(),(),(),nS,nS,false,false,(),nS,ByteArray.empty,()]):=F2.l (yA _ _).drew;have f5:wc.cell? (bo,5)=some (.int .i64 0):=F1.cell rfl;have f6:wc.cell? (bo,6)=some (.int .i64 0):=F1.cell rfl;have f7:(wc.setCell (bo,6) (-1:Int)).cell? (bo,7)=some (.int .i64 0):=F2.cell rfl;have f8:(wc.setCell (bo,6) (-1:Int)).cell? (bo,8)=some (.int .i64 0):=F2.cell rfl;have f9:(wc.setCell (bo,6) (-1:Int)).cell? (bo,9)=some (.int .i64 0):=F2.cell rfl;have g1:=F1.own.frozen;have g2:=F2.own.frozen;have hb1:=F1.below.drew;have hb2:=F2.below.drew;clear F1 F2;refine doN (by kernel_rfl) (by rfl) (fun K2 hK2=>?_);go_wp2_with fail;rw[Cg f5];refine hK2.out _ _ (HS2.out _ hb1) (fun hS=>?_);clear hK2 K2;refine tkF (by kernel_rfl) (by rfl) hS ⟨?_,fun W hW=>?_,?_⟩;rotate_left
 ·go_simp
  with_reducible rfl
 try simp only[Act.put,yC,yJ,yK]
 refine doN (by kernel_rfl) (by rfl) (fun K2 hK2=>?_);go_wp2;refine hK2.out _ _ (HS2.out _ hb2) (fun hS=>?_);clear hK2 K2;refine tkF (by kernel_rfl) (by rfl) hS ⟨?_,fun W hW=>?_,?_⟩;rotate_left
 ·go_simp
  with_reducible rfl
 try simp only[Act.put,yC,yJ,yK]
 refine doN (by kernel_rfl) (by rfl) (fun K2 hK2=>?_);go_wp2_with fail;rw[Cg f7];refine hK2.out _ _ (HS2.out _ hb2) (fun hS=>?_);clear hK2 K2;refine tkF (by kernel_rfl) (by rfl) hS ⟨?_,fun W hW=>?_,?_⟩;rotate_left
 ·go_simp
  with_reducible rfl
 try simp only[Act.put,yC,yJ,yK]
 refine doN (by kernel_rfl) (by rfl) (fun K2 hK2=>?_);go_wp2_with fail;rw[Cg f8];refine hK2.out _ _ (HS2.out _ hb2) (fun hS=>?_);clear hK2 K2;refine tkF (by kernel_rfl) (by rfl) hS ⟨?_,fun W hW=>?_,?_⟩;rotate_left
 ·go_simp
  with_reducible rfl
 try simp only[Act.put,yC,yJ,yK]
 refine doN (by kernel_rfl) (by rfl) (fun K2 hK2=>?_);go_wp2_with fail;rw[Cg f9];refine hK2.out _ _ (HS2.out _ hb2) (fun _=>enD (by kernel_rfl) (NoPanic.normal ?_));clear hK2 K2;refine Ki (S:=fun W=>Hid (Xa (w:Nat) W0 W bo [(1:Int),(),(),false,nS,(),(-1:Int),(),(),(),nS,nS,false,false,(),nS,ByteArray.empty,()])) HF2 (fun W HG=>HK.out _ _ ?_);clear HK K HF2 HF hb1 hb2 g1 g2 f5 f6 f7 f8 f9 HS2;refine wk fun K HK=>?_;have HS3:Hid (∀W,Below ((w:Nat)+1) W0 W->W.cell? (bc,8)=some (.bool false)/\W.cell? (bc,9)=some (.bool false)/\W.cell? (bc,10)=some (.int .i64 0)/\W.cell? (bc,11)=some (.slice none 0 0)/\W.cell? (bc,12)=some (.string ByteArray.empty)/\W.cell? (bc,13)=some (.int .i64 (-1))/\(∀o,W.cell? ⟨(w:Nat),o,none⟩=(plA bp)[o]?)):=fun W hb=>have h:=HSS.out W hb;⟨h.1 8 _ rfl,h.1 9 _ rfl,h.1 10 _ rfl,h.1 11 _ rfl,h.1 12 _ rfl,h.1 13 _ rfl,h.2.1⟩;refine rgN (fun W=>W.cell? (bc,8)=some (.bool false)/\W.cell? (bc,9)=some (.bool false)/\W.cell? (bc,10)=some (.int .i64 0)/\W.cell? (bc,11)=some (.slice none 0 0)/\W.cell? (bc,12)=some (.string ByteArray.empty)/\W.cell? (bc,13)=some (.int .i64 (-1))/\(∀o,W.cell? ⟨(w:Nat),o,none⟩=(plA bp)[o]?)) (HS3.out _ HG.out.below.drew) (fun hS=>?_);iterate 13 (refine tkF (by kernel_rfl) (by rfl) hS ⟨?_,fun W hW=>?_,?_⟩;rotate_left;(focus (obtain⟨s0,s1,s2,s3,s4,s5,s6⟩:=hW;go_simp;with_reducible rfl));try simp only[Act.put,yC,yJ,yK])
 refine rgD ?_;refine tkD 14 rfl (by kernel_rfl) (by rfl) hS ⟨?_,fun W hW=>?_,?_⟩;rotate_left
 ·obtain⟨s0,s1,s2,s3,s4,s5,s6⟩:=hW;go_simp
  with_reducible rfl
 try simp only[Act.put]
 refine tkD 15 rfl (by kernel_rfl) (by rfl) hS ⟨?_,fun W hW=>?_,?_⟩;rotate_left
 ·obtain⟨s0,s1,s2,s3,s4,s5,s6⟩:=hW;go_simp
  with_reducible rfl
 try simp only[Act.put]
 refine tkD 16 rfl (by kernel_rfl) (by rfl) hS ⟨?_,fun W hW=>?_,?_⟩;rotate_left
 ·obtain⟨s0,s1,s2,s3,s4,s5,s6⟩:=hW;go_simp
  with_reducible rfl
 try simp only[Act.put]
 refine tkD 17 rfl (by kernel_rfl) (by rfl) hS ⟨?_,fun W hW=>?_,?_⟩;rotate_left
 ·obtain⟨s0,s1,s2,s3,s4,s5,s6⟩:=hW;go_simp
  with_reducible rfl
 try simp only[Act.put]
 refine tkD 18 rfl (by kernel_rfl) (by rfl) hS ⟨?_,fun W hW=>?_,?_⟩;rotate_left
 ·obtain⟨s0,s1,s2,s3,s4,s5,s6⟩:=hW;go_simp
  with_reducible rfl
 try simp only[Act.put]
 refine doD 13 rfl (by kernel_rfl) (by rfl) (fun K2 hK2=>?_);go_wp2_with fail;refine(Nj bp _).mono ?_;rintro e w1 ⟨rfl,hw1⟩;have F1:=(HG.out.l (yA _ _).drew).l hw1;have f12:w1.cell? (bo,12)=some (.bool false):=F1.cell rfl;have f13:w1.cell? (bo,13)=some (.bool false):=F1.cell rfl;have f14:w1.cell? (bo,14)=some (.int .i64 0):=F1.cell rfl;have f15:w1.cell? (bo,15)=some (.slice none 0 0):=F1.cell rfl;have f16:w1.cell? (bo,16)=some (.string ByteArray.empty):=F1.cell rfl;have f17:w1.cell? (bo,17)=some (.int .i64 0):=F1.cell rfl;have g1:=F1.own.frozen;have hb1:=F1.below;have F2:=F1.set 17 (-1:Int);have HF2:Hid (Xa (w:Nat) W0 (w1.setCell (bo,17) (-1:Int)) bo (frL nS)):=F2;have hb2:=F2.below;clear F1 F2;go_wp2;refine hK2.out _ _ (HS3.out _ hb1) (fun hS=>?_);clear hK2 K2;refine doD 19 rfl (by kernel_rfl) (by rfl) (fun K2 hK2=>?_);go_wp2_with fail;rw[Cg f12];refine hK2.out _ _ (HS3.out _ hb1) (fun hS=>?_);clear hK2 K2;refine tkD 20 rfl (by kernel_rfl) (by rfl) hS ⟨?_,fun W hW=>?_,?_⟩;rotate_left
 ·go_simp
  with_reducible rfl
 try simp only[Act.put]
 refine doD 21 rfl (by kernel_rfl) (by rfl) (fun K2 hK2=>?_);go_wp2_with fail;rw[Cg f13];refine hK2.out _ _ (HS3.out _ hb1) (fun hS=>?_);clear hK2 K2;refine tkD 22 rfl (by kernel_rfl) (by rfl) hS ⟨?_,fun W hW=>?_,?_⟩;rotate_left
 ·go_simp
  with_reducible rfl
 try simp only[Act.put]
 refine doD 23 rfl (by kernel_rfl) (by rfl) (fun K2 hK2=>?_);go_wp2_with fail;rw[Cg f14,Cg f15,Cg f16];refine hK2.out _ _ (HS3.out _ hb1) (fun hS=>?_);clear hK2 K2;refine tkD 24 rfl (by kernel_rfl) (by rfl) hS ⟨?_,fun W hW=>?_,?_⟩;rotate_left
 ·go_simp
  with_reducible rfl
 try simp only[Act.put]
 refine doD 25 rfl (by kernel_rfl) (by rfl) (fun K2 hK2=>?_);go_wp2;refine hK2.out _ _ (HS3.out _ hb2) (fun _=>Uw (by kernel_rfl) (NoPanic.normal ?_));clear hK2 K2;refine Ki (S:=fun W=>Hid (Xa (w:Nat) W0 W bo (frL nS))) HF2 (fun W1 HF=>HK.out _ _ ?_);clear HK K HF2 HG hb1 hb2 g1 f12 f13 f14 f15 f16 f17 HS3 hw1;refine wk fun K9 HK9=>?_;have b6:W1.cell? (bc,6)=some (.slice ro n rc):=(HSS.out _ HF.out.below).1 6 _ rfl;go_wp2_with fail;clear b6;go_loopw [71] (fun y wr=>∃(k:Nat) (v:Value) (xs:List Value),k<=n/\y=k/\Hid (Xa (w:Nat) W0 wr bo (frL v))/\Hid (wr.ownsRow (bo+1) 327 8 v k xs)/\Hid (RgF (bo+1) wr v (rs.take k) xs)) (fun y _=>n-(intOf y).toNat);case atStart=>exact⟨0,nS,[],yE _,rfl,HF.out,yU _ _ _ _,fun i r h=>by simp at h⟩
 case round=>
  obtain⟨k,v,xs,hk,rfl,HFk,HOk,HGk⟩:=hrel;clear HF;obtain⟨vo,vc,rfl⟩:=Aa HOk.out;by_cases hkn:k<n
  ·obtain⟨r,hr⟩:=A8 (show k<rs.length by rw[HLN.out];exact hkn);obtain⟨b,off,io,ic,rfl,hb,hc,hli⟩:=HRS.out k r hr;have hBk:Below w w wr:=HB0.out.trans (HFk.out.below.mono (Nat.le_succ _));have HLI:Hid (Ld wr io ic r.list):=hli.l hBk;have hri:=HRI.out r (yH hr);have HTK:Hid (rs.take (k+1)=rs.take k++[r]):=by show _=_;rw[List.take_add_one,hr];rfl
   have HXL:Hid (xs.length=(rs.take k).length*8):=by show _=_;rw[List.length_take,HLN.out,Nat.min_eq_left hk];exact HOk.out.1
   have hkn2:(k:Int)<n:=by omega
   have hlo:=HFk.out.lo;have hlt:=HFk.out.own.lt;obtain⟨c0,c1,c2,c3,c4,c5,c6,c7⟩:=And.intro ((hBk.cell (p:=(b,off+k*8+0)) hb).trans (hc 0 _ rfl)) (And.intro ((hBk.cell (p:=(b,off+k*8+1)) hb).trans (hc 1 _ rfl)) (And.intro ((hBk.cell (p:=(b,off+k*8+2)) hb).trans (hc 2 _ rfl)) (And.intro ((hBk.cell (p:=(b,off+k*8+3)) hb).trans (hc 3 _ rfl)) (And.intro ((hBk.cell (p:=(b,off+k*8+4)) hb).trans (hc 4 _ rfl)) (And.intro ((hBk.cell (p:=(b,off+k*8+5)) hb).trans (hc 5 _ rfl)) (And.intro ((hBk.cell (p:=(b,off+k*8+6)) hb).trans (hc 6 _ rfl)) ((hBk.cell (p:=(b,off+k*8+7)) hb).trans (hc 7 _ rfl))))))));rw[Nat.add_zero]at c0;clear hc hli hr hBk;refine wk fun K HK=>?_;go_wp2;refine HK.out _ _ ?_;clear HK K;refine wk fun K HK=>?_;go_wp2;refine HK.out _ _ ?_;clear HK K;refine wk fun K1 HK1=>?_;refine wp_block ?_;refine wk fun K HK=>?_;go_wp2_with fail;refine Ki (S:=fun W=>Below wr wr W/\Blk W (wr:Nat) (r.ins io ic) 413) ⟨(yA _ _).alloc (yB _) _,Blk.new _ _ _⟩ (fun W hS=>HK.out _ _ ?_);clear HK K c0 c1 c2 c3 c4 c5 c6 c7;obtain⟨hBW,X0⟩:=hS;have HX:Hid (Blk W wr (r.ins io ic) 413):=X0;have HFW:Hid (Xa (w:Nat) W0 W bo (frL (.slice vo k vc))):=HFk.out.l hBW;have HOW:Hid (W.ownsRow (bo+1) 327 8 (.slice vo k vc) k xs):=Ai HOk.out hBW;have HGW:Hid (RgF (bo+1) W (.slice vo k vc) (rs.take k) xs):=RgF.l HGk.out (A7.o hBW);have HLW:Hid (Ld W io ic r.list):=HLI.out.l hBW;have hlW:=hBW.size;have hrow:∀q,(Value.slice vo k vc).ownBlock=some q->bo+1<=q/\q<(wr:Nat):=fun q hq=>HOk.out.lt q hq;clear hBW X0 HFk HOk HGk HLI;have HSE:Hid (∀W',Below W W W'->W'.cell? (bo,10)=some (.slice vo k vc)/\(∀o,W'.cell? ⟨(wr:Nat),o,none⟩=(r.ins io ic)[o]?)/\(∀o,W'.cell? ⟨(w:Nat),o,none⟩=(plA bp)[o]?)):=fun W' hb=>⟨(HFW.out.l hb).cell rfl,(HX.out.l hb).cell,(HSS.out _ (HFW.out.l hb).below).2.1⟩;refine rgE (fun W=>W.cell? (bo,10)=some (.slice vo k vc)/\(∀o,W.cell? ⟨(wr:Nat),o,none⟩=(r.ins io ic)[o]?)/\(∀o,W.cell? ⟨(w:Nat),o,none⟩=(plA bp)[o]?)) (HSE.out _ (yA _ _).drew) (fun hS=>?_);repeat (refine tkE (by kernel_rfl) (by rfl) hS ⟨?_,fun W hW=>?_,?_⟩;rotate_left;(focus (obtain⟨s0,s1,s2⟩:=hW;go_simp;with_reducible rfl));try simp only[Act.put,yC,yJ,yK])
   refine doE (by kernel_rfl) (by rfl) (fun K hK=>?_);go_wp2_with fail;refine(A46 bp r io ic _ hri.1 hri.2.1 (HLW.out.l (yA _ _).drew) hri.2.2).mono ?_;rintro e w1 ⟨jo,jc,rfl,hv,hw1⟩;have hb1:Below W W w1:=(yA _ W).drew.trans (hw1.mono (yB _));have hb2:=hb1.alloc hb1.size (.cells (r.cs jo jc).toArray 327);have HV:Hid (Ez (bo+1) w1 jo r.list):=hv.w (by simp;omega);have HN:Hid (r.list≠[]->∀a,jo=some a->(Value.slice vo k vc).ownBlock≠some a.block):=fun h a ha e=>by have h1:=(hv.vals.lt h ha).1;have h2:=(hrow _ e).2;simp at h1;omega
   clear hv hw1;go_wp2;refine hK.out _ _ (fun _=>HSE.out _ hb1) (fun _=>?_);clear hK K;refine doE (by kernel_rfl) (by rfl) (fun K hK=>?_);go_wp2;refine hK.out _ _ (fun _=>HSE.out _ hb2) (fun _=>?_);clear hK K;refine doE (by kernel_rfl) (by rfl) (fun K hK=>?_);refine Wx eltR rfl (.tmp 76) (.tmp 80) rfl (bo+1) (.slice vo k vc) k xs (r.cs jo jc) (w1:Nat) (by simp[Act.eval]) (Ai HOW.out hb2) (by simp[Act.eval]) ?cB rfl ?cU (by omega) (by decide) (yI (by omega) hb2.size) ?_;case cB=>exact fun i u hu=>by rw[yM];exact((Blk.new w1 (r.cs jo jc).toArray 327).cell i).trans (by rw[List.getElem?_toArray];exact hu)
   case cU=>intro u hu;simp[Rg.cs]at hu;rcases hu with rfl|rfl|rfl|rfl|rfl|rfl|rfl|rfl<;>rfl
   intro v' w2 H1 H2 H3;obtain⟨vo2,vc2,rfl⟩:=Aa H1;have F2:=(HFW.out.l hb2).grown H2 (fun q hq=>(hrow q hq).1);have g10:w2.cell? (bo,10)=some (.slice vo k vc):=F2.cell rfl;have gz:=F2.own.frozen;have hS2:w2.cell? (bo,10)=some (.slice vo k vc)/\(∀o,w2.cell? ⟨(wr:Nat),o,none⟩=(r.ins io ic)[o]?)/\(∀o,w2.cell? ⟨(w:Nat),o,none⟩=(plA bp)[o]?):=⟨g10,(Am (HX.out.l hb2) H2 (fun e=>by have:=(hrow _ e.symm).2;omega)).cell,(HSS.out _ F2.below).2.1⟩;have HF3:Hid (Xa (w:Nat) W0 (w2.setCell (bo,10) (.slice vo2 (k+1) vc2)) bo (frL (.slice vo2 (k+1) vc2))):=F2.set 10 (.slice vo2 (k+1) vc2);have HO3:Hid (World.ownsRow _ _ _ _ _ _ _):=Aj (w':=w2.setCell (bo,10) (.slice vo2 (k+1) vc2)) H1 (fun q hq=>yL _ _ _ _ (by have:=(H1.lt q hq).1;dsimp only;omega));have HG3:Hid (RgF _ _ _ _ _):=(((RgF.l HGW.out (A7.o hb2)).add (r:=r) (io:=jo) (ic:=jc) HXL.out (HV.out.l (A7.o ((yA _ w1).alloc (yB _) _))) HN.out H2 H3 (yB _)).l (Fz (g:=bo) (i:=10) (v:=.slice vo2 (k+1) vc2) (by omega)));clear H1 H2 H3 F2;refine hK.out _ _ (fun _=>hS2) (fun hS'=>?_);try simp only[Act.put,yC,yJ,yK]
   clear hK K hS';refine doE (by kernel_rfl) (by rfl) (fun K hK=>?_);go_wp2;refine hK.out _ _ (fun _=>hS2) (fun _=>?_);clear hK K;refine doE (by kernel_rfl) (by rfl) (fun K hK=>?_);go_wp2;refine hK.out _ _ (fun h=>absurd rfl h) (fun _=>enE (by kernel_rfl) (NoPanic.normal ?_));clear hK K hS2 g10 gz;go_wp2;refine HK1.out _ _ ?_;go_wp2;go_roundw;case rel=>exact⟨k+1,_,_,by omega,by go_num,HF3.out,HO3.out,by rw[HTK.out];exact HG3.out⟩
   case measure=>simp[intOf];omega
  ·obtain rfl:k=n:=by omega
   have b7:wr.cell? (bc,7)=some (.slice none 0 0):=(HSS.out _ HFk.out.below).1 7 _ rfl;have hkk:¬(k:Int)<k:=by omega
   have hlo:=HFk.out.lo;go_wp2;refine HK9.out _ _ ?_;clear HK9;refine wk fun K HK9=>?_;go_wp2;go_loopw [89] (fun y wq=>y=()/\wq=wr) (fun _ _=>0);case atStart=>exact⟨rfl,rfl⟩
   case round=>
    obtain⟨rfl,rfl⟩:=hrel;go_wp2;refine HK9.out _ _ ?_;clear HK9;refine wk fun K HK=>?_;have HT:Hid (World.there wr ((w:Nat)+1) 0 18):=HFk.out.res.there;refine rgL ?_;refine plF rfl ⟨_,Cv (p:=.pointer bo) (run_loadAt_mid wr bo 0 231 (frL (.slice vo k vc)) _ HFk.out.frm underlying231 rfl (by kernel_rfl)) rfl (by simp[Act.eval]),?_⟩;try simp only[Act.put,yC,yJ,yK]
    refine plS rfl ⟨_,Dk (b:=(w:Nat)+1) (o:=0) (cells:=(frL (.slice vo k vc)).toArray) (x:=.tmp 4) (y:=.tmp 102) HT.out (by kernel_rfl) (by simp[Value.oneCell']) rfl (by simp[Act.eval]) (by simp[Act.eval];try rfl),?_⟩;refine wpList_nil ?_;refine HK.out _ _ ?_;have HR:=yS wr ((w:Nat)+1) 0 (frL (.slice vo k vc)) HT.out;go_wp2_with fail;refine bodyPost_ret (Fv (b:=(w:Nat)+1) (cs:=frL (.slice vo k vc)) results364 rfl HR underlying231 rfl (by kernel_rfl)) rfl ⟨⟨vo,vc,rfl,?_⟩,Below.sets _ _ (HB0.out.trans (HFk.out.below.mono (Nat.le_succ _))) (by omega)⟩;have hG:=HGk.out;rw[List.take_of_length_le (by rw[HLN.out];omega)]at hG;exact(Gr.l (B:=bo+1) ⟨_,by rw[HLN.out];exact HOk.out,by rw[HLN.out];exact hG⟩ (Il (by omega))).w (by omega)
end Go.Proofs.YtjbbppblgjhapaaGreatDoor
