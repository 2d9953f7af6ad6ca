import Derived.Test.YtbefeflgjipfhaaGreatDoorF06
set_option maxRecDepth 8000
set_option maxHeartbeats 2000000
namespace Go.Proofs.YtbefeflgjipfhaaGreatDoor
open Go.Deep Go.Proofs.Tryz Go.RowKit
attribute [local go_sem] A7 vi
theorem Xl (w:World):Calls prog 150 #[.agg (vi 1)] w fun e w'=>e=.returned (.float .f64 0x3FF0000000000000)/\Below w.heap.size w w':=by
 have B0:∀o,Below w.heap.size w (w.alloc o):=fun _=>(Below.refl _ _).alloc (Nat.le_refl _) _
 go_enter func150,ntmps150
 go_wp2_with fail
 go_ret
 exact⟨rfl,B0 _⟩
theorem A3x (w:World):Calls prog 149 #[.float .f64 0x3FF0000000000000] w fun e w'=>e=.returned (.bool false)/\w'=w:=by
 go_enter func149,ntmps149
 go_wp2_with fail
 go_ret
 exact⟨rfl,rfl⟩
end Go.Proofs.YtbefeflgjipfhaaGreatDoor
namespace Go.Proofs.YtbefeflgjipfhaaGreatDoor
open Go.Deep Go.Proofs.Tryz Go.RowKit
theorem J5 (P:Program) (w:World) (a:Addr) (m:Mode) (k:Fn) (x y:Array Value):(store a (.func k x y) m).run P w=stored P w a (.func k x y) m:=run_store P w a _ m rfl
attribute [local go_sem] A7 vi J5
theorem Di {f:FuncId} {fn:Func} {c:Code} (hf:prog.funcs[f]?=some fn) (hname:(fn.name== "runtime.NumGoroutine")=false) (hb:fn.body=some c):Hid (∀args w,(callFunc f args).run prog w=.ok (.enter f args) w):=by
 intro args w
 have h1:fn.name≠ "runtime.NumGoroutine" :=by simpa using hname
 simp[callFunc,hf,h1,hb]
end Go.Proofs.YtbefeflgjipfhaaGreatDoor
namespace Go.Proofs.YtbefeflgjipfhaaGreatDoor
open Go.Deep Go.Proofs.Tryz Go.RowKit
attribute [local go_sem] A7 vi
@[go_sem] theorem A7q (v:Value) (w:World):(Instr.typeAssert (.iface 107 v) 117 119 true).run prog w=.ok (.tuple #[.pointer none,.bool false]) w:=by kernel_rfl
@[go_sem] theorem A7l (v:Value) (w:World):(Instr.typeAssert (.iface 107 v) 117 121 true).run prog w=.ok (.tuple #[.pointer none,.bool false]) w:=by kernel_rfl
@[go_sem] theorem A7p (v:Value) (w:World):(Instr.typeAssert (.iface 107 v) 117 107 true).run prog w=.ok (.tuple #[v,.bool true]) w:=by kernel_rfl
theorem A9r (v:Value) (w:World):Calls prog 246 #[.nilIface,v] w fun e w'=>e=.returned (.bool false)/\w'=w:=by
 go_enter func246,ntmps246
 go_wp2_with fail
 go_ret
 exact⟨rfl,rfl⟩
theorem Je (bl:Nat) (w:World):Calls prog 182 #[.pointer (some ⟨bl,0,none⟩),.nilIface] w fun e w'=>e=.returned (.tuple #[])/\Below w.heap.size w w':=by
 have B0:∀o,Below w.heap.size w (w.alloc o):=fun _=>(Below.refl _ _).alloc (Nat.le_refl _) _
 go_enter func182,ntmps182
 go_wp2_with fail
 refine(A9r _ _).mono ?_
 rintro e w1 ⟨rfl,rfl⟩
 go_wp2_with fail
 refine bodyPost_ret (results_none rfl _ _ _) rfl ?_
 exact⟨rfl,B0 _⟩
theorem A0c (bl bc bm:Nat) (P:World->Prop) (w:World) (hl:w.cell? ⟨bl,0,none⟩=some (.pointer (some ⟨bm,0,none⟩))) (hh:w.cell? ⟨bm,12,none⟩=some (.bool false))
  (HD:Hid (Calls prog 186 #[.pointer (some ⟨bl,0,none⟩),.pointer (some ⟨bc,0,none⟩)] w fun e w'=>e=.returned .nilIface/\w'.cell? ⟨bl,0,none⟩=some (.pointer (some ⟨bm,0,none⟩))/\w'.cell? ⟨bm,12,none⟩=some (.bool false)/\P w')) :
  Calls prog 106 #[.pointer (some ⟨bl,0,none⟩),.pointer (some ⟨bc,0,none⟩)] w fun e w'=>e=.returned (.tuple #[])/\∃w1,P w1/\Below w1.heap.size w1 w':=by
 go_enter func106,ntmps106
 go_wp2_with fail
 refine HD.out.mono ?_
 rintro e w1 ⟨rfl,h1,h2,hP⟩
 clear hl hh
 go_wp2_with fail
 refine(Je bl _).mono ?_
 rintro e w2 ⟨rfl,hw2⟩
 have a1:=cb h1 hw2
 have a2:=cb h2 hw2
 clear h1 h2
 go_wp2_with fail
 refine bodyPost_ret (results_none rfl _ _ _) rfl ?_
 exact⟨rfl,w1,hP,hw2⟩
theorem K6 (bl bm bt bts bf bc fc:Nat) (m:Mc) (t:Tc) (P:World->Prop) (w:World) (hl:w.cell? ⟨bl,0,none⟩=some (.pointer (some ⟨bm,0,none⟩)))
  (X:MAt w bm {m with tasks:=.slice (some ⟨bts,0,none⟩) 1 1,cur:=.int .i64 0,wk:=.int .i64 0}) (h:w.cell? ⟨bts,0,none⟩=some (.pointer (some ⟨bt,0,none⟩)))
  (Y:TAt w bt {t with frames:=.slice (some ⟨bf,0,none⟩) 1 fc}) (hf:w.cell? ⟨bf,0,none⟩=some (.iface 107 (.pointer (some ⟨bc,0,none⟩)))) (hc:w.cell? ⟨bc,8,none⟩=some (.bool false))
  (HW:Hid (∀W,Below w.heap.size w W->Calls prog 106 #[.pointer (some ⟨bl,0,none⟩),.pointer (some ⟨bc,0,none⟩)] W fun e w'=>e=.returned (.tuple #[])/\P w')) :
  Calls prog 28 #[.pointer (some ⟨bl,0,none⟩)] w fun e w'=>e=.returned (.tuple #[])/\P w':=by
 go_enter func28,ntmps28
 go_wp2_with fail
 refine(Gl bm bt bts {m with wk:=.int .i64 0} _ X h).mono ?_
 rintro e w1 ⟨rfl,hw1⟩
 have Y1:=Y.l hw1
 have X1:=X.l hw1
 have ys:=Y1.cell
 have xs:=X1.cell
 have l1:=cb hl hw1
 go_wp2_with fail
 refine(I9 bt bf fc t _ _ Y1 (cb hf hw1)).mono ?_
 rintro e w2 ⟨rfl,hw2⟩
 have hw3:=bl2 hw1 hw2
 have c2:=cb hc hw3
 clear ys xs l1
 go_wp2_with fail
 refine(HW.out _ hw3).mono ?_
 rintro e w3 ⟨rfl,hP⟩
 go_wp2_with fail
 go_end0
 exact⟨rfl,hP⟩
theorem A1a (bl bm bt bts bf bc fc:Nat) (m:Mc) (t:Tc) (P:World->Prop) (w:World) (hl:w.cell? ⟨bl,0,none⟩=some (.pointer (some ⟨bm,0,none⟩)))
  (X:MAt w bm {m with tasks:=.slice (some ⟨bts,0,none⟩) 1 1,cur:=.int .i64 0,wk:=.int .i64 0}) (h:w.cell? ⟨bts,0,none⟩=some (.pointer (some ⟨bt,0,none⟩)))
  (Y:TAt w bt {t with frames:=.slice (some ⟨bf,0,none⟩) 1 fc}) (hf:w.cell? ⟨bf,0,none⟩=some (.iface 107 (.pointer (some ⟨bc,0,none⟩)))) (hc:w.cell? ⟨bc,8,none⟩=some (.bool true))
  (HW:Hid (∀W,Below w.heap.size w W->Calls prog 105 #[.pointer (some ⟨bl,0,none⟩),.pointer (some ⟨bt,0,none⟩),.pointer (some ⟨bc,0,none⟩)] W fun e w'=>e=.returned (.tuple #[])/\P w')) :
  Calls prog 28 #[.pointer (some ⟨bl,0,none⟩)] w fun e w'=>e=.returned (.tuple #[])/\P w':=by
 go_enter func28,ntmps28
 go_wp2_with fail
 refine(Gl bm bt bts {m with wk:=.int .i64 0} _ X h).mono ?_
 rintro e w1 ⟨rfl,hw1⟩
 have Y1:=Y.l hw1
 have X1:=X.l hw1
 have ys:=Y1.cell
 have xs:=X1.cell
 have l1:=cb hl hw1
 go_wp2_with fail
 refine(I9 bt bf fc t _ _ Y1 (cb hf hw1)).mono ?_
 rintro e w2 ⟨rfl,hw2⟩
 have hw3:=bl2 hw1 hw2
 have c2:=cb hc hw3
 clear ys xs l1
 go_wp2_with fail
 refine(HW.out _ hw3).mono ?_
 rintro e w3 ⟨rfl,hP⟩
 go_wp2_with fail
 go_end0
 exact⟨rfl,hP⟩
theorem Xy (bl bm bt bf bc fc cp pc:Nat) (pv:Int) (cc:Cc) (m:Mc) (t:Tc) (vo:Option Addr) (vl vc:Nat) (w:World) (hfc:1<=fc) (hl0:w.cell? ⟨bl,0,none⟩=some (.pointer (some ⟨bm,0,none⟩))) (BL:∃A,Blk w bl A 82) (hl1:w.cell? ⟨bl,1,none⟩=some (.slice (some ⟨cp,0,none⟩) 1 pc)) (hp:w.cell? ⟨cp,2,none⟩=some (.int .i64 pv))
  (C:CAt w bc {cc with proto:=.int .i64 0,self:=.pointer none,wk:=.int .i64 1,wv:=.slice vo vl vc})
  (X:MAt w bm m) (T:TAt w bt {t with frames:=.slice (some ⟨bf,0,none⟩) 1 fc}) :
  Calls prog 183 #[.pointer (some ⟨bl,0,none⟩),.pointer (some ⟨bt,0,none⟩),.pointer (some ⟨bc,0,none⟩)] w fun e w'=>e=.returned (.tuple #[])/\Chg [bc,bt,bm] w w'/\MAt w' bm {m with has:=.bool true,got:=.slice vo vl vc}/\TAt w' bt {t with frames:=.slice (some ⟨bf,0,none⟩) 0 fc}:=by
 obtain⟨A,BL⟩:=BL
 have hbc:bl∉[bc]:=by simpa using Aa BL C (by decide)
 have hbt:bl∉[bt]:=by simpa using Aa BL T (by decide)
 have htc:bt∉[bc]:=by simpa using Aa T C (by decide)
 have hct:bc∉[bt]:=by simpa using Aa C T (by decide)
 have hmc:bm∉[bc]:=by simpa using Aa X C (by decide)
 have hmt:bm∉[bt]:=by simpa using Aa X T (by decide)
 have htm:bt∉[bm]:=by simpa using Aa T X (by decide)
 have cs:=C.cell
 have cf:=C.frozen
 go_enter func183,ntmps183
 go_wp2_with fail
 go_region
 go_wp2_with fail
 obtain⟨W,hW⟩:∃z,z=((w.setCell ⟨bc,13,none⟩ (.int .i64 pv)).setCell ⟨bc,4,none⟩ (.int .i64 0)).drew:=⟨_,rfl⟩
 rw[←hW]
 have C0:Chg [bc] w W:=by rw[hW];exact(((Chg.refl _ _).set (by simp) _ _).set (by simp) _ _).below (Below.refl _ _).drew
 have C1:CAt W bc {cc with proto:=.int .i64 0,self:=.pointer none,wk:=.int .i64 1,wv:=.slice vo vl vc,limit:=.int .i64 pv,line:=.int .i64 0}:=by rw[hW];exact((C.set 13 _).set 4 _).l (Below.refl _ _).drew
 have l1:=C0.cell hbc hl0
 clear hW cs cf hl0 hl1
 refine(A8i bt bf fc t _ hfc (T.chg C0 htc)).mono ?_
 rintro e w1 ⟨rfl,C2,T2⟩
 have D1:=C1.chg C2 hct
 have l2:=C2.cell hbt l1
 have X2:=(X.chg C0 hmc).chg C2 hmt
 have ds:=D1.cell
 clear C1 l1 C
 go_wp2_with fail
 have ds:∀o,w1.drew.cell? ⟨bc,o,none⟩=(Cc.arr {cc with proto:=.int .i64 0,self:=.pointer none,wk:=.int .i64 1,wv:=.slice vo vl vc,limit:=.int .i64 pv,line:=.int .i64 0})[o]?:=D1.cell
 have l2:w1.drew.cell? ⟨bl,0,none⟩=some (.pointer (some ⟨bm,0,none⟩)):=l2
 go_region_held3 (fun W=>(∀o,W.cell? ⟨bc,o,none⟩=(Cc.arr {cc with proto:=.int .i64 0,self:=.pointer none,wk:=.int .i64 1,wv:=.slice vo vl vc,limit:=.int .i64 pv,line:=.int .i64 0})[o]?)/\W.cell? ⟨bl,0,none⟩=some (.pointer (some ⟨bm,0,none⟩))) (with_reducible exact⟨ds,l2⟩) (first|(go_at_call 102;refine(Nb bm m vo vl vc _ (X2.l (Below.refl _ _).drew)).mono ?_;rintro e w2 ⟨rfl,C3,X3⟩;have ds:=((D1.l (Below.refl _ _).drew).chg C3 (by simpa using Aa D1 X2 (by decide))).cell;have l2:w2.cell? ⟨bl,0,none⟩=some (.pointer (some ⟨bm,0,none⟩)):=C3.cell (by simpa using Aa BL X (by decide)) l2))
 go_wp2_with fail
 go_end0
 exact⟨rfl,((((Chg.refl [bc,bt,bm] w).trans C0 (by simp)).trans C2 (by simp)).below (Below.refl _ _).drew).trans C3 (by simp),X3,((T2.l (Below.refl _ _).drew).chg C3 htm)⟩
theorem A40 (bl bm bt bf bc fc cp pc:Nat) (pv sv:Int) (cc:Cc) (m:Mc) (t:Tc) (go vo:Option Addr) (gl gc vl vc:Nat) (w:World) (hfc:1<=fc) (hl0:w.cell? ⟨bl,0,none⟩=some (.pointer (some ⟨bm,0,none⟩))) (BL:∃A,Blk w bl A 82) (hl1:w.cell? ⟨bl,1,none⟩=some (.slice (some ⟨cp,0,none⟩) 1 pc)) (BP:∃A,Blk w cp A 63) (hp:w.cell? ⟨cp,2,none⟩=some (.int .i64 pv))
  (C:CAt w bc {cc with proto:=.int .i64 0,self:=.pointer none,wk:=.int .i64 1,wv:=.slice vo vl vc,saved:=.int .i64 sv,fences:=.slice none 0 0})
  (X:MAt w bm {m with got:=.slice go gl gc}) (T:TAt w bt {t with frames:=.slice (some ⟨bf,0,none⟩) 1 fc}) :
  Calls prog 105 #[.pointer (some ⟨bl,0,none⟩),.pointer (some ⟨bt,0,none⟩),.pointer (some ⟨bc,0,none⟩)] w fun e w'=>e=.returned (.tuple #[])/\Chg [bc,bt,bm] w w'/\MAt w' bm {m with has:=.bool true,got:=.slice vo vl vc}/\TAt w' bt {t with frames:=.slice (some ⟨bf,0,none⟩) 0 fc}:=by
 obtain⟨A,BL⟩:=BL
 obtain⟨B,BP⟩:=BP
 have hbc:bl∉[bc]:=by simpa using Aa BL C (by decide)
 have hbm:bl∉[bm]:=by simpa using Aa BL X (by decide)
 have hpc:cp∉[bc]:=by simpa using Aa BP C (by decide)
 have hpm:cp∉[bm]:=by simpa using Aa BP X (by decide)
 have hcm:bc∉[bm]:=by simpa using Aa C X (by decide)
 have hmc:bm∉[bc]:=by simpa using Aa X C (by decide)
 have htc:bt∉[bc]:=by simpa using Aa T C (by decide)
 have htm:bt∉[bm]:=by simpa using Aa T X (by decide)
 have ew:IntKind.i64.wrap (0-1) = -1:=by decide
 go_enter func105,ntmps105
 go_wp2_with fail
 refine(Nu bm m go gl gc _ X).mono ?_
 rintro e w1 ⟨rfl,C1,X1⟩
 have D1:=C.chg C1 hcm
 have cs:=D1.cell
 have cf:=D1.frozen
 go_wp2_with fail
 have C2:Chg [bc] w1 (w1.setCell ⟨bc,4,none⟩ (.int .i64 sv)):=(Chg.refl _ _).set (by simp) _ _
 refine(Xy bl bm bt bf bc fc cp pc pv {cc with saved:=.int .i64 sv,fences:=.slice none 0 0,line:=.int .i64 sv} {m with has:=.bool false,got:=.slice none 0 0} t vo vl vc _ hfc (C2.cell hbc (C1.cell hbm hl0)) ⟨_,(BL.chg C1 hbm).chg C2 hbc⟩ (C2.cell hbc (C1.cell hbm hl1)) (C2.cell hpc (C1.cell hpm hp)) (D1.set 4 _) (X1.chg C2 hmc) ((T.chg C1 htm).chg C2 htc)).mono ?_
 rintro e w2 ⟨rfl,C3,X3,T3⟩
 go_wp2_with fail
 go_end0
 exact⟨rfl,(((Chg.refl [bc,bt,bm] w).trans C1 (by simp)).trans C2 (by simp)).trans C3 (by simp),X3,T3⟩
end Go.Proofs.YtbefeflgjipfhaaGreatDoor
