import Derived.Test.YtjbbppblgjhapaaGreatDoorJ47
set_option maxRecDepth 100000
set_option maxHeartbeats 8000000
namespace Go.Proofs.YtjbbppblgjhapaaGreatDoor
open Go.Deep Go.Proofs.Tryz Go.RowKit
variable{pr z:Array Value}{rs:List Rg}{vs:List Vd}{B g i j k n:Nat}{io ro:Option Addr}{t ty:TypeId}{W w:World}
attribute [local go_sem] Ac
theorem A95 (v:Value) (w:World):(method 599 237 v "loop.example/loom/impl.face").run prog w=.ok (364,v) w:=by kernel_rfl
theorem Ig.l{w':World} (h:Ig w ro rs) (hb:Below w w w'):Ig w' ro rs:=fun i r hr=>by
 obtain⟨b,off,io,ic,e,hl,hc,hi⟩:=h i r hr;exact⟨b,off,io,ic,e,yF hl hb.size,hc.keep (lo:=0) (A7.o hb) (yE _) hl,hi.l hb⟩
theorem Gv.new{W0:World} (cs:Array Value) (hb:Below B W0 W) (hr:Blk W B z ty) (hc:cs.size=z.size):Gv ty z B W0 (W.alloc (.cells cs ty)) (W:Nat) cs.toList:=
 ⟨hb.alloc (Nat.le_of_lt hr.lt) _,hr.alloc _,fun i v hv=>by rw[yM,(Blk.new _ _ _).cell];simpa using hv,⟨_,Blk.new _ _ _,hc⟩,hr.lt⟩
theorem A1m (bt bf bc bp:Nat) (ro:Option Addr) (n rc:Nat) (rs:List Rg) (w:World) (hn:n<=250) (hbt:bt<(w:Nat)) (hbf:bf<(w:Nat)) (hbc:bc<(w:Nat)) (hbp:bp<(w:Nat)) (HTK:Hid (Blk w bt (tkA bf 1) 241)) (hfr:w.cell? (bf,0)=some (.iface 237 (.pointer bc))) (HCF:Hid (Ae w bc 0 (cfL (.slice ro n rc)))) (HM:Hid (w.heap[bp]?=some Jy)) (HRS:Hid (Ig w ro rs)) (HLN:Hid (rs.length=n)) (HRI:Hid (∀r∈rs,RgI r)) :
  Calls prog 215 #[.pointer bt,plV bp] w fun e w'=>(∃b fc vo vc,e=.returned (.agg (tkL (.slice (some ⟨b,0,none⟩) 1 fc)).toArray)/\w'.ownsRow (w:Nat) 231 18 (.slice (some ⟨b,0,none⟩) 1 fc) 1 (frL (.slice vo n vc))/\Gr (w:Nat) w' vo vc rs)/\Below w w w':=by
 go_in;refine wk fun K HK=>?_;go_wp2_with fail;refine Ki (S:=fun W=>Below w w W/\Blk W (w:Nat) (plA bp) 351/\Blk W ((w:Nat)+1) tkZ 223) ⟨((yA _ _).alloc (yB _) _).alloc (by simp) _,(Blk.new w _ _).alloc _,Blk.nh _ _ (by simp)⟩ (fun W0 hS=>HK.out _ _ ?_);clear HK K;obtain⟨B0,P0,R0⟩:=hS;have HB0:Hid (Below w w W0):=B0;have HR0:Hid (Blk W0 ((w:Nat)+1) tkZ 223):=R0;have HSS:Hid (∀W,Below ((w:Nat)+1) W0 W->(∀o,W.cell? ⟨bt,o,none⟩=(tkA bf 1)[o]?)/\(∀o,W.cell? ⟨(w:Nat),o,none⟩=(plA bp)[o]?)):=fun W hb=>⟨fun o=>(hb.cell (p:=⟨bt,o,none⟩) (by dsimp only;omega)).trans ((B0.cell (p:=⟨bt,o,none⟩) hbt).trans (HTK.out.cell o)),fun o=>(hb.cell (p:=⟨(w:Nat),o,none⟩) (by dsimp only;omega)).trans (P0.cell o)⟩;have hs0:(w:Nat)+1<(W0:Nat):=R0.lt;obtain⟨hd,hp⟩:=HSS.out _ (yA _ _).drew;clear B0 P0 R0;refine wk fun K HK=>?_;go_cut [0,3,4,5] from 6 (fun v0 v3 v4 v5 wx=>∃bo:Nat,v0=.pointer bt/\v3=.pointer (w:Nat)/\v4=.pointer (some ⟨(w:Nat)+1,0,none⟩)/\v5=.pointer bo/\Hid (Gv 223 tkZ ((w:Nat)+1) W0 wx bo (tkL nS)));case first=>
  go_region_held3 (fun W=>(∀o,W.cell? ⟨bt,o,none⟩=(tkA bf 1)[o]?)/\(∀o,W.cell? ⟨(w:Nat),o,none⟩=(plA bp)[o]?)) (first|with_reducible exact⟨e1,e2⟩|with_reducible exact⟨d1,d2⟩|with_reducible exact⟨hd,hp⟩|with_reducible exact HSS.out _ (h2.alloc (yI (Nat.le_of_lt hs0) HB2.out.size) _)|with_reducible exact HSS.out _ (h1.alloc (yI (Nat.le_of_lt hs0) HB1.out.size) _)|with_reducible exact HSS.out _ ((yA _ _).alloc (Nat.le_of_lt hs0) _).drew|exact HSS.out _ S2.out.below)
   (first|(go_at_call 269;refine(Mf bp ⟨0,0,0,ByteArray.empty,0⟩ _ (by decide) (by decide)).mono ?_;rintro e w1 ⟨rfl,hw1⟩;have HB1:Hid (Below W0 W0 w1):=(by first|exact((yA _ W0).drew).trans (hw1.mono (yB _))|exact((yA _ W0).alloc (yB _) _).drew.trans (hw1.mono (by simp)));have h1:Below ((w:Nat)+1) W0 w1:=HB1.out.mono (Nat.le_of_lt hs0);obtain⟨d1,d2⟩:=HSS.out _ h1;try (have O1:Hid (Blk w1 W0 tkZ 223):=((Blk.new W0 tkZ 223).l (yA _ _).drew).l hw1))|(go_at_call 212;refine(Gb bp _).mono ?_;rintro e w2 ⟨rfl,hw2⟩;have HB2:Hid (Below W0 W0 w2):=(by first|exact HB1.out.trans (hw2.mono HB1.out.size)|exact(HB1.out.alloc HB1.out.size _).trans (hw2.mono (by have:=HB1.out.size;simp;omega)));have h2:Below ((w:Nat)+1) W0 w2:=HB2.out.mono (Nat.le_of_lt hs0);obtain⟨e1,e2⟩:=HSS.out _ h2;try (first|(have O2:Hid (Blk w2 w1 tkZ 223):=(Blk.new w1 tkZ 223).l hw2;have S2:Hid (Gv 223 tkZ ((w:Nat)+1) W0 (w2.setCells (w1:Nat) 0 (tkL nS)) (w1:Nat) (tkL nS)):=Gv.made h2 (HR0.out.l HB2.out) O2.out (yF hs0 HB1.out.size) _ rfl;have o_:=O2.out.cell;have of_:=O2.out.frozen)|(have O2:Hid (Blk w2 W0 tkZ 223):=O1.out.l hw2;have S2:Hid (Gv 223 tkZ ((w:Nat)+1) W0 (w2.setCells (W0:Nat) 0 (tkL nS)) (W0:Nat) (tkL nS)):=Gv.made h2 (HR0.out.l HB2.out) O2.out hs0 _ rfl;have o_:=O2.out.cell;have of_:=O2.out.frozen))))
  all_goals (go_wp2_with fail)
  all_goals go_meet
  case rel=>exact⟨_,rfl,rfl,rfl,rfl,Gv.new tkB h2 (HR0.out.l HB2.out) rfl⟩
  all_goals exact⟨_,rfl,rfl,rfl,rfl,S2.out⟩
 obtain⟨bo,rfl,rfl,rfl,rfl,HF⟩:=hcut;refine HK.out _ _ ?_;clear HK K hd hp;refine wk fun K9 HK9=>?_;obtain⟨b6,_⟩:=HSS.out _ HF.out.below;go_wp2_with fail;clear b6;go_loopw [38] (fun y wr=>(y=()/\Hid (Gv 223 tkZ ((w:Nat)+1) W0 wr bo (tkL nS)))∨(y=(1:Int)/\∃b fc vo vc,Hid (Gv 223 tkZ ((w:Nat)+1) W0 wr bo (tkL (.slice (some ⟨b,0,none⟩) 1 fc))/\wr.ownsRow (bo+1) 231 18 (.slice (some ⟨b,0,none⟩) 1 fc) 1 (frL (.slice vo n vc))/\Gr (bo+1) wr vo vc rs))) (fun y _=>1-(intOf y).toNat);case atStart=>exact .inl ⟨rfl,HF.out⟩
 case round=>
  have hbw:∀W,Below ((w:Nat)+1) W0 W->Below w w W:=fun W h=>HB0.out.trans (h.mono (Nat.le_succ _));rcases hrel with ⟨rfl,HFk⟩|⟨rfl,b,fc,vo,vc,HFk⟩
  ·clear HF;have hbk:=hbw _ HFk.out.below;have hi:wr.cell? (bf,0)=some (.iface 237 (.pointer bc)):=(hbk.cell (p:=(bf,0)) hbf).trans hfr;have hlo:=HFk.out.lo;have hlt:=HFk.out.own.lt;have hm:=A95;refine wk fun K HK=>?_;go_wp2;refine HK.out _ _ ?_;clear HK K;refine wk fun K HK=>?_;go_wp2;refine HK.out _ _ ?_;clear HK K;refine wk fun K1 HK1=>?_;refine wp_block ?_;refine wk fun K HK=>?_;go_wp2;refine HK.out _ _ ?_;clear HK K;clear hi hbk;have HSE:Hid (∀W,Below wr wr W->W.cell? (bo,6)=some (.slice none 0 0)/\(∀o,W.cell? ⟨(w:Nat),o,none⟩=(plA bp)[o]?)):=fun W hb=>⟨(HFk.out.l hb).cell rfl,(HSS.out _ (HFk.out.l hb).below).2⟩;refine rgE (fun W=>W.cell? (bo,6)=some (.slice none 0 0)/\(∀o,W.cell? ⟨(w:Nat),o,none⟩=(plA bp)[o]?)) (HSE.out _ (yA _ _).drew) (fun hS=>?_);repeat (refine tkE (by kernel_rfl) (by rfl) hS ⟨?_,fun W hW=>?_,?_⟩;rotate_left;(focus (obtain⟨s0,s1⟩:=hW;go_simp;with_reducible rfl));try simp only[Act.put,yC,yJ,yK])
   refine doE (by kernel_rfl) (by rfl) (fun K hK=>?_);go_wp2_with fail;have hbd:Below w w wr.drew:=(hbw _ HFk.out.below).drew;refine(Zr bc bp ro n rc rs _ hn (yF hbc hbd.size) (yF hbp hbd.size) (HCF.out.keep (lo:=0) (A7.o hbd) (yE _) hbc) ((hbd.block bp hbp).trans HM.out) (HRS.out.l hbd) HLN HRI).mono ?_;rintro e w1 ⟨⟨vo,vc,rfl,hR⟩,hw1⟩;have HR1:Hid (Gr (wr:Nat) w1 vo vc rs):=hR;have hb1:Below wr wr w1:=(yA _ wr).drew.trans (hw1.mono (yB _));have hb2:=hb1.alloc hb1.size (.cells (frL (.slice vo n vc)).toArray 231);clear hR hw1 hm;go_wp2;refine hK.out _ _ (fun _=>HSE.out _ hb1) (fun _=>?_);clear hK K;refine doE (by kernel_rfl) (by rfl) (fun K hK=>?_);go_wp2;refine hK.out _ _ (fun _=>HSE.out _ hb2) (fun _=>?_);clear hK K;refine doE (by kernel_rfl) (by rfl) (fun K hK=>?_);refine Wx eltF rfl (.tmp 43) (.tmp 47) rfl (bo+1) nS 0 [] (frL (.slice vo n vc)) (w1:Nat) (by simp[Act.eval]) (yU _ _ _ _) (by simp[Act.eval]) ?cB rfl (by simp[Value.oneCell']) (by omega) (by decide) (yI (by omega) hb2.size) ?_;case cB=>exact fun i u hu=>by rw[yM];exact((Blk.new w1 (frL (.slice vo n vc)).toArray 231).cell i).trans (by rw[List.getElem?_toArray];exact hu)
   intro v' w2 H1 H2 _;have hb3:Below wr wr w2:=hb2.grown H2 hb2.size (fun k hk=>by cases hk);have hk3:A7 (bo+1) w1 w2:=⟨yI (by simp) H2.size,fun k _ hk=>(H2.block k (by simp;omega) (fun e=>by cases e)).trans (((yA (w1:Nat) w1).alloc (yB _) _).block k hk)⟩;obtain⟨g1,k1,rfl,hge,_⟩:=(Br H1).resolve_left (fun h=>absurd h.2.1 (by decide));have F2:=HFk.out.l hb3;have g6:=F2.cell (i:=6) rfl;have gz:=F2.own.frozen;have HE:Hid (Gv 223 tkZ (w.heap.size+1) W0 (w2.setCell ⟨bo,6,none⟩ (.slice (some ⟨g1,0,none⟩) (0+1) k1)) bo (tkL (.slice (some ⟨g1,0,none⟩) 1 k1))/\(w2.setCell ⟨bo,6,none⟩ (.slice (some ⟨g1,0,none⟩) (0+1) k1)).ownsRow (bo+1) 231 18 (.slice (some ⟨g1,0,none⟩) 1 k1) 1 (frL (.slice vo n vc))/\Gr (bo+1) (w2.setCell ⟨bo,6,none⟩ (.slice (some ⟨g1,0,none⟩) (0+1) k1)) vo vc rs):=⟨F2.set 6 _,Ct H1 (Fz (by omega)),((HR1.out.w (by omega)).l hk3).l (Fz (by omega))⟩;have hS2:=HSE.out _ hb3;clear H1 H2 F2 hk3;refine hK.out _ _ (fun _=>hS2) (fun hS'=>?_);try simp only[Act.put,yC,yJ,yK]
   clear hK K hS';refine doE (by kernel_rfl) (by rfl) (fun K hK=>?_);go_wp2;refine hK.out _ _ (fun _=>hS2) (fun _=>?_);clear hK K;refine doE (by kernel_rfl) (by rfl) (fun K hK=>?_);go_wp2;refine hK.out _ _ (fun h=>absurd rfl h) (fun _=>enE (by kernel_rfl) (NoPanic.normal ?_));clear hK K hS2 g6 gz;go_wp2;refine HK1.out _ _ ?_;go_wp2;go_roundw;case rel=>exact .inr ⟨rfl,g1,k1,vo,vc,HE.out⟩
   case measure=>simp[intOf]
  ·obtain⟨hF,hc,hR⟩:=HFk.out;have HT:Hid (Blk wr ((w:Nat)+1) tkZ 223):=hF.res;have hlo:=hF.lo;have r_:=hF.res.cell;have rf_:=hF.res.frozen;obtain⟨q0,q1,q2,q3,q4,q5,q6,q7,q8,q9⟩:=And.intro (hF.cell (i:=0) rfl) (And.intro (hF.cell (i:=1) rfl) (And.intro (hF.cell (i:=2) rfl) (And.intro (hF.cell (i:=3) rfl) (And.intro (hF.cell (i:=4) rfl) (And.intro (hF.cell (i:=5) rfl) (And.intro (hF.cell (i:=6) rfl) (And.intro (hF.cell (i:=7) rfl) (And.intro (hF.cell (i:=8) rfl) (hF.cell (i:=9) rfl)))))))));have HE:Hid (wr.ownsRow (bo+1) 231 18 (.slice b 1 fc) 1 (frL (.slice vo n vc))/\Gr (bo+1) wr vo vc rs/\Below w w wr):=⟨hc,hR,hbw _ hF.below⟩;clear hF hc hR HFk;go_wp2;refine HK9.out _ _ ?_;go_wp2_with fail;have HR:=yS wr ((w:Nat)+1) 0 (tkL (.slice b 1 fc)) HT.out.there;have hks:=Il (lo:=bo+1) (g:=(w:Nat)+1) (cs:=tkL (.slice b 1 fc)) (W:=wr) (by omega);exact bodyPost_ret (w:=wr.setCells ((w:Nat)+1) 0 (tkL (.slice b 1 fc))) (Fv (b:=(w:Nat)+1) (cs:=tkL (.slice b 1 fc)) results215 rfl HR underlying223 rfl (by kernel_rfl)) rfl ⟨⟨b,fc,vo,vc,rfl,D8 (Ct HE.out.1 hks) (by omega),(HE.out.2.1.l hks).w (by omega)⟩,Below.sets _ _ HE.out.2.2 (by omega)⟩
theorem Xq:(prog.info? 413).map (fun i=>(i.zero,i.size,i.bytes))=some (some (.agg #[(),(),(),.float .f64 0,ByteArray.empty,(),.pointer none,nS]),8,88):=by kernel_rfl
abbrev rz:Array Value:=#[(),(),(),.float .f64 0,ByteArray.empty,(),.pointer none,nS]
theorem Abb (h:Blk w g (madeCells rz (n*8)) t) (hi:i<n):Ae w g (i*8) rz.toList:=fun c v hv=>by
 have hc:c<8:=(yD.1 hv).1;rw[h.cell,madeCells,Array.getElem?_map,Array.getElem?_eq_getElem (by simp;omega)]
 match c,hc,hv with
 | 0,_,hv=>simp at hv;simp[←hv]
 | 1,_,hv|2,_,hv|3,_,hv|4,_,hv|5,_,hv|6,_,hv|7,_,hv=>simp at hv;simp[←hv,Nat.add_mod]
structure Rm (w W:World) (n j:Nat) (vs:List Vd) (pr:Array Value):Prop where
 below:Below w w W
 proto:Blk W w pr 77
 own:Own W ((w:Nat)+1) 413 (n*8)
 rows:∀i,i<n->Ae W ((w:Nat)+1) (i*8) ((rgJ vs j i).ins none 0).toList
theorem Rm.l{W':World} (h:Rm w W n j vs pr) (hb:Below W W W'):Rm w W' n j vs pr:=
 ⟨h.below.trans (hb.mono h.below.size),h.proto.l hb,h.own.l hb,fun i hi=>(h.rows i hi).keep (A7.o (lo:=0) hb) (yE _) h.own.lt⟩
theorem Abu {us new old:List Value} (h:Ae W g k old) (ht:W.there g k us.length) (hu:∀c v,new[c]?=some v->us[c]?=some v∨(us.length<=c/\old[c]?=some v)):Ae (W.setCells g k us) g k new:=fun c v hv=>by
 rcases hu c v hv with h1|⟨h1,h2⟩
 ·exact yS W g k us ht c v h1
 ·rw[World.cell?_setCells_out _ _ _ _ _ (fun _ h=>by have e:(⟨g,k+c,none⟩:Addr).off=k+c:=rfl;omega)];exact h c v h2
theorem Rm.fill (h:Rm w W n j vs pr) (hj:j<n) (us:List Value) (hl:us.length<=8) (hu:∀c v,((rgJ vs (j+1) j).ins none 0).toList[c]?=some v->us[c]?=some v∨(us.length<=c/\rz.toList[c]?=some v)):Rm w (W.setCells ((w:Nat)+1) (j*8) us) n (j+1) vs pr:=by
 refine⟨Below.sets _ _ h.below (by omega),(((Chg.sets (L:=[(w:Nat)+1]) (yT.2 rfl) us (j*8) (Chg.refl _ W)).block _ (by simp) h.proto.lt).trans h.proto),Own.sets _ _ h.own,fun i hi=>?_⟩;by_cases e:i=j
 ·subst e;have h0:=h.rows i hi;rw[rgJ,if_neg (Nat.lt_irrefl _)]at h0;exact Abu h0 (h.own.there_at (by omega)) hu
 ·have:=World.rangeAt_setCells_apart (h.rows i hi) ((w:Nat)+1) (j*8) us (by simp;omega);have e2:rgJ vs (j+1) i=rgJ vs j i:=by unfold rgJ;by_cases hl:i<j;rw[if_pos hl,if_pos (by omega)];rw[if_neg hl,if_neg (by omega)]
  rw[e2];exact this
theorem Zc {f:Nat->Rg} (hg:g<(W:Nat)) (h:∀i,i<n->∃io ic,Ae W g (i*8) ((f i).ins io ic).toList/\Ld W io ic (f i).list):Ig W g ((List.range n).map f):=fun i r hr=>by
 rw[List.getElem?_map]at hr;obtain⟨k,hk,rfl⟩:=Option.map_eq_some_iff.1 hr;obtain⟨hi,e⟩:=yD.1 hk;simp at hi e;subst e;obtain⟨io,ic,h1,h2⟩:=h i hi;exact⟨g,0,io,ic,rfl,hg,by rw[yM];exact h1,h2⟩
theorem Wj (m:Nat) (vs:List Vd) (i:Nat):Fw m false vs i=rgJ vs m i:=by unfold Fw rgJ;by_cases hl:i<m;rw[if_pos hl,if_pos hl];rw[if_neg hl,if_neg hl,if_neg (by simp)]
theorem A47 (vs:List Vd) (m i:Nat):(rgJ vs m i).list=[]:=by unfold rgJ;split<;>rfl
theorem Aag (io:Option Addr) (ic:Nat) (l:List Vd) (w:World) (hn:l.length<=1048576) (h:Ld w io ic l):Calls prog 266 #[.slice io l.length ic] w fun e w'=>∃jo jc,e=.returned (.slice jo l.length jc)/\Ld w' jo jc l/\(∀a,jo=some a->(w:Nat)<=a.block)/\Below w w w':=by
 rcases h with ⟨rfl,rfl,rfl⟩|⟨b,o,rfl,h⟩
 ·refine(Uv w).mono ?_;rintro e w1 ⟨rfl,rfl⟩;exact⟨none,0,rfl,.inl ⟨rfl,rfl,rfl⟩,nofun,yA _ _⟩
 ·refine(Uu b o ic l w hn h).mono ?_;rintro e w1 ⟨v,rfl,ho,hw⟩;rcases Br ho with ⟨rfl,h0,_⟩|⟨g,c,rfl,hg,hog,_,hc⟩
  ·exact⟨none,0,by rw[h0],.inl ⟨rfl,rfl,List.eq_nil_of_length_eq_zero h0⟩,nofun,hw⟩
  ·exact⟨_,c,rfl,.inr ⟨g,0,rfl,Nw hc (yE _) (fun _=>hog.lt)⟩,fun a ha=>by cases ha;exact hg,hw⟩
abbrev rstL (io:Option Addr) (k ic:Nat):List Value:=[(3:Int),(),(),.float .f64 0,ByteArray.empty,(),.pointer none,.slice io k ic]
theorem Rm.rest{m ic:Nat} (h:Rm w W n m vs pr) (hm:m<n) (hk:(vs.drop m).length=k) (hv:Ld W io ic (vs.drop m)) (hio:∀a,io=some a->a.block≠(w:Nat)+1) :
  Below w.heap.size w (W.setCells (w.heap.size+1) (m*8) (rstL io k ic))/\Ig (W.setCells (w.heap.size+1) (m*8) (rstL io k ic)) (some ⟨w.heap.size+1,0,none⟩) ((List.range n).map (Fw m true vs))/\Blk (W.setCells (w.heap.size+1) (m*8) (rstL io k ic)) w.heap.size pr 77:=by
 subst hk;have G:Chg [(w:Nat)+1] W (W.setCells ((w:Nat)+1) (m*8) (rstL io (vs.drop m).length ic)):=Chg.sets (yT.2 rfl) _ _ (Chg.refl _ _);refine⟨Below.sets _ _ h.below (by omega),Zc (yF h.own.lt G.size) fun i hi=>?_,(G.block _ (by simp) h.proto.lt).trans h.proto⟩;by_cases e:i=m
 ·subst e;have hr:Fw i true vs i=⟨3,zV,0,vs.drop i⟩:=by unfold Fw;rw[if_neg (Nat.lt_irrefl _),if_pos ⟨rfl,rfl⟩]
  rw[hr];refine⟨io,ic,yS W ((w:Nat)+1) (i*8) _ (h.own.there_at (by simp;omega)),hv.imp id fun ⟨b,o,e1,hv⟩=>⟨b,o,e1,fun k x hx=>?_⟩⟩;obtain⟨b,o,e1,e2,e3,q0,q1,q2,q3,q4⟩:=hv k x hx;have hb:b∉[(w:Nat)+1]:=by simpa using hio _ e1
  exact⟨b,o,e1,e2,yF e3 G.size,G.cell hb q0,G.cell hb q1,G.cell hb q2,G.cell hb q3,G.cell hb q4⟩
 ·have hr:Fw m true vs i=rgJ vs m i:=by unfold Fw rgJ;by_cases hl:i<m;rw[if_pos hl,if_pos hl];rw[if_neg hl,if_neg hl,if_neg (by simp;exact e)]
  rw[hr];exact⟨none,0,World.rangeAt_setCells_apart (h.rows i hi) _ _ _ (by simp;omega),.inl ⟨rfl,rfl,A47 _ _ _⟩⟩
theorem A5g (n m:Nat) (re:Bool) (ao:Option Addr) (cap:Nat) (vs:List Vd) (nm:ByteArray) (ln:Int) (u0 k0 i0_ n0:Option Addr) (u1 u2 k1 k2 i1 i2 n1 n2:Nat) (w:World) (hn:n<=250) (hmn:m<=n) (hre:re=true->m<n) (has:vs.length<=1048576) (hcap:vs.length<=cap) (HA:Hid (Ld w ao cap vs)) :
  Calls prog 208 #[.agg #[nm,ln,(m:Int),.bool re,(n:Int),.slice u0 u1 u2,.slice k0 k1 k2,.slice i0_ i1 i2,.slice n0 n1 n2],.slice ao vs.length cap] w fun e w'=>∃ro rc,e=.returned (.slice ro n rc)/\Ig w' ro ((List.range n).map (Fw m re vs))/\Below w w w':=by
 have hmk:=Bj (P:=prog) 345 413 _ 8 88 underlying345 Xq .i64 .i64 n (by omega) (by omega);obtain⟨pr,hpr⟩:∃pr:Array Value,pr=#[.string nm,.int .i64 ln,.int .i64 (m:Int),.bool re,.int .i64 (n:Int),.slice u0 u1 u2,.slice k0 k1 k2,.slice i0_ i1 i2,.slice n0 n1 n2]:=⟨_,rfl⟩;have HPR:Hid (pr=_):=hpr;clear hpr;go_in;refine wk fun K HK=>?_;go_wp2;refine HK.out _ _ ?_;clear HK K;refine wk fun K HK=>?_;go_wp2_with fail;refine Ki (S:=fun W=>Rm w W n 0 vs pr) ⟨((yA _ _).alloc (yB _) _).alloc (by simp) _,by rw[HPR.out];exact(Blk.new w _ _).alloc _,⟨_,Blk.nh _ _ (by simp),size_madeCells _ _⟩,fun i hi=>by rw[rgJ,if_neg (Nat.not_lt_zero _)];exact Abb (Blk.nh _ _ (by simp)) hi⟩ (fun W hS=>HK.out _ _ ?_);clear HK K hmk;have HF:Hid _:=hS;have x0:∀o,W.cell? ⟨(w:Nat),o,none⟩=_:=hS.proto.cell;rw[HPR.out]at x0;clear hS;refine wk fun K HK=>?_;go_wp2_with fail;clear x0;go_loopw [12] (fun y wr=>∃j:Nat,j<=m/\y=j/\Hid (Rm w wr n j vs pr)) (fun y _=>m-(intOf y).toNat);case atStart=>exact⟨0,yE _,rfl,HF.out⟩
 case round=>
  obtain⟨j,hj,rfl,HJ⟩:=hrel;clear HF;by_cases hlt:j<m
  ·have hjn:j<n:=by omega
   have hji:(j:Int)<m:=by omega
   obtain⟨v0,e0⟩:=HJ.out.own.cell (i:=j*8) (by omega);obtain⟨v1,e1⟩:=HJ.out.own.cell (i:=j*8+1) (by omega);obtain⟨v2,e2⟩:=HJ.out.own.cell (i:=j*8+2) (by omega);obtain⟨v3,e3⟩:=HJ.out.own.cell (i:=j*8+3) (by omega);obtain⟨v4,e4⟩:=HJ.out.own.cell (i:=j*8+4) (by omega);obtain⟨v5,e5⟩:=HJ.out.own.cell (i:=j*8+5) (by omega);have fz:=HJ.out.own.frozen;by_cases hl2:j<vs.length
   ·obtain⟨u,hu⟩:=A8 hl2;have hl3:(j:Int)<vs.length:=by omega
    rcases HA.out with ⟨_,_,h0⟩|⟨ab,aof,rfl,hav⟩
    ·rw[h0]at hl2;exact absurd hl2 (Nat.not_lt_zero _)
    obtain⟨b',o',eb,_,hab,p0,p1,p2,p3,p4⟩:=hav j u hu;obtain⟨rfl,rfl⟩:ab=b'/\aof=o':=by injection eb with eb;injection eb with h1 h2;exact⟨h1,h2⟩
    obtain⟨a0,a1,a2,a3,a4⟩:=u;have HZ:Hid (Rm w (wr.setCells ((w:Nat)+1) (j*8) [(1:Int),a0,a1,.float .f64 a2,a3,a4]) n (j+1) vs pr):=HJ.out.fill hjn [(1:Int),a0,a1,.float .f64 a2,a3,a4] (by simp) (fun c v hv=>by
     have e:vs.getD j zV=⟨a0,a1,a2,a3,a4⟩:=by rw[yR,hu];rfl
     rw[rgJ,if_pos (by omega),e]at hv
     match c,hv with
     | 0,hv|1,hv|2,hv|3,hv|4,hv|5,hv=>exact .inl hv
     | c+6,hv=>exact .inr ⟨by simp,hv⟩)
    have HQ:∀v c x,w.cell? ⟨ab,c,none⟩=some x->(wr.setCell ((w:Nat)+1,j*8) v).cell? ⟨ab,c,none⟩=some x:=fun v c x h=>(yX (a:=⟨ab,c,none⟩) (yL _ _ _ _ (by dsimp only;omega))).trans ((HJ.out.below.cell (p:=⟨ab,c,none⟩) hab).trans h);have q0:=fun v=>HQ v _ _ p0;have q1:=fun v=>HQ v _ _ p1;have q2:=fun v=>HQ v _ _ p2;have q3:=fun v=>HQ v _ _ p3;have q4:=fun v=>HQ v _ _ p4;clear HQ p0 p1 p2 p3 p4 hav hu eb;go_wp2;go_roundw;case rel=>exact⟨j+1,by omega,by go_num,HZ.out⟩
    case measure=>simp[intOf];omega
   ·have hl3:¬(j:Int)<vs.length:=by omega
    have HZ:Hid (Rm w (wr.setCells ((w:Nat)+1) (j*8) [(1:Int)]) n (j+1) vs pr):=HJ.out.fill hjn [(1:Int)] (by simp) (fun c v hv=>by
     have e:vs.getD j zV=zV:=by rw[yR,List.getElem?_eq_none (by omega)];rfl
     rw[rgJ,if_pos (by omega),e]at hv
     match c,hv with
     | 0,hv=>exact .inl hv
     | c+1,hv=>exact .inr ⟨by simp,hv⟩)
    go_wp2;go_roundw;case rel=>exact⟨j+1,by omega,by go_num,HZ.out⟩
    case measure=>simp[intOf];omega
  ·obtain rfl:j=m:=by omega
   have hjj:¬(j:Int)<j:=by omega
   have x0:∀o,wr.cell? ⟨(w:Nat),o,none⟩=_:=HJ.out.proto.cell;rw[HPR.out]at x0;go_wp2;refine HK.out _ _ ?_;clear HK;cases re with
   | false=>
    go_wp2;go_ret;exact⟨_,_,rfl,Zc HJ.out.own.lt fun i hi=>⟨none,0,by rw[Wj];exact HJ.out.rows i hi,by rw[Wj];exact .inl ⟨rfl,rfl,A47 _ _ _⟩⟩,HJ.out.below⟩
   | true=>
    refine wk fun K HK=>?_;have hjn:=hre rfl;have HPC:Hid (∀W,Blk W (w:Nat) pr 77->∀o,W.cell? ⟨(w:Nat),o,none⟩=(#[nm,ln,(j:Int),true,(n:Int),.slice u0 u1 u2,.slice k0 k1 k2,.slice i0_ i1 i2,.slice n0 n1 n2]:Array Value)[o]?):=fun W h o=>by have:=h.cell o;rwa [HPR.out]at this
    have HCL:Hid (∀(io:Option Addr) (ic:Nat),Ld w io ic (vs.drop j)->∀W,Below wr wr W->Calls prog 266 #[.slice io (vs.length-j) ic] W fun e w'=>∃jo jc,e=.returned (.slice jo (vs.length-j) jc)/\Ld w' jo jc (vs.drop j)/\(∀a,jo=some a->W.heap.size<=a.block)/\Below W.heap.size W w'):=fun io ic h W hb=>by
     have:=Aag io ic (vs.drop j) W (by simp;omega) (h.l (HJ.out.below.trans (hb.mono HJ.out.below.size)))
     rwa [List.length_drop]at this
    have hl0:∀ab o ic,vs.length<=j->Ld w (some ⟨ab,o,none⟩) ic (vs.drop j):=fun ab o ic h=>.inr ⟨ab,o,rfl,by rw[List.drop_eq_nil_of_le h];intro i x hx;simp at hx⟩;have x1:∀o,wr.drew.cell? ⟨(w:Nat),o,none⟩=_:=x0;have hli2:(vs.length:Int)<=cap:=by omega
    have hli3:(0:Int)<=j:=by omega
    rcases HA.out with ⟨rfl,rfl,rfl⟩|⟨ab,aof,rfl,hav⟩;case' inl=>
     have HCP:=HCL.out none 0 (.inl ⟨rfl,rfl,by simp⟩);have hdl:(([]:List Vd).drop j).length=0:=by simp
     rw[show ([]:List Vd).length-j=0 by simp]at HCP;have HCQ:Hid _:=HCP;clear HCP;have hmin:min (j:Int) 0=0:=by omega
     clear HCL hl0
    case' inr=>
     obtain⟨lo,sv,hl1,hl2,hmin,hsv,HCQ⟩:∃(lo:Nat) (sv:Option Addr),(0:Int)<=lo/\(lo:Int)<=vs.length/\min (j:Int) vs.length=lo/\(if cap=lo then some ⟨ab,aof,none⟩ else some (⟨ab,aof+lo*5,none⟩:Addr))=sv/\Hid (∀W,Below wr wr W->Calls prog 266 #[.slice sv (vs.length-lo) (cap-lo)] W fun e w'=>∃jo jc,e=.returned (.slice jo (vs.length-j) jc)/\Ld w' jo jc (vs.drop j)/\(∀a,jo=some a->W.heap.size<=a.block)/\Below W.heap.size W w'):=by
      rcases Nat.lt_or_ge vs.length j with hlg|hlg
      ·refine⟨vs.length,_,by omega,by omega,by omega,rfl,?_⟩;rw[show vs.length-vs.length=vs.length-j by omega];split
       ·exact HCL.out _ _ (hl0 ab aof _ (by omega))
       ·exact HCL.out _ _ (hl0 ab _ _ (by omega))
      ·refine⟨j,_,by omega,by omega,by omega,rfl,?_⟩;split
       ·exact HCL.out _ _ (hl0 ab aof _ (by omega))
       ·exact HCL.out _ _ (.inr ⟨ab,_,rfl,hav.dropN j⟩)
     have hdl:(vs.drop j).length=vs.length-j:=List.length_drop;clear HCL hl0
    all_goals
     go_wp2_with fail;go_region_held3 (fun W=>∀o,W.cell? ⟨(w:Nat),o,none⟩=(#[nm,ln,(j:Int),true,(n:Int),.slice u0 u1 u2,.slice k0 k1 k2,.slice i0_ i1 i2,.slice n0 n1 n2]:Array Value)[o]?) (first|with_reducible exact x1|with_reducible exact x2|exact x3) (first|(go_at_call 266;refine(HCQ.out _ (yA _ _).drew).mono ?_;rintro e w1 ⟨jo,jc,rfl,hL,hN,hw1⟩;have HF1:Hid (Rm w w1 n j _ pr):=(HJ.out.l (yA _ _).drew).l hw1;have x2:=HPC.out _ HF1.out.proto;have hR:=HF1.out.rest hjn hdl hL (fun a ha e=>by have h1:=hN a ha;have h2:=HJ.out.own.lt;simp at h1;omega);have x3:=HPC.out _ hR.2.2;have HR:Hid _:=hR;obtain⟨v0,e0⟩:=HF1.out.own.cell (i:=j*8) (by omega);obtain⟨v1,e1⟩:=HF1.out.own.cell (i:=j*8+1) (by omega);obtain⟨v2,e2⟩:=HF1.out.own.cell (i:=j*8+2) (by omega);obtain⟨v3,e3⟩:=HF1.out.own.cell (i:=j*8+3) (by omega);obtain⟨v4,e4⟩:=HF1.out.own.cell (i:=j*8+4) (by omega);obtain⟨v5,e5⟩:=HF1.out.own.cell (i:=j*8+5) (by omega);obtain⟨v6,e6⟩:=HF1.out.own.cell (i:=j*8+6) (by omega);obtain⟨v7,e7⟩:=HF1.out.own.cell (i:=j*8+7) (by omega);have fz:=HF1.out.own.frozen;clear hL hN hw1 hR hdl))
    all_goals
     go_wp2;refine HK.out _ _ ?_;go_wp2;go_ret;exact⟨_,_,rfl,HR.out.2.1,HR.out.1⟩
end Go.Proofs.YtjbbppblgjhapaaGreatDoor
