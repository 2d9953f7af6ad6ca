import Derived.Test.YtbefeflgjipfhaaGreatDoorF02
set_option maxHeartbeats 400000
namespace Go.Proofs.YtbefeflgjipfhaaGreatDoor
open Go.Deep Go.Proofs.Tryz Go.RowKit
attribute [local go_sem] A7
theorem Bz {w:World} {base e size n:Nat} {v:Value} {xs:List Value} (h:w.ownsRow base e size v n xs):(v=.slice none 0 0/\n=0/\xs=[])∨∃g cap,v=.slice (some ⟨g,0,none⟩) n cap/\base<=g/\Own w g e (cap*size)/\n*size<=cap*size/\Ec w g 0 xs:=by
 obtain⟨h1,⟨rfl,rfl⟩|⟨g,cap,cur,rfl,h3,h4,h5,_,h6,h7⟩⟩:=h
 ·exact .inl ⟨rfl,rfl,by simpa using h1⟩
 ·refine .inr ⟨g,cap,rfl,h3,⟨cur,h4,h6⟩,Nat.mul_le_mul_right _ h5,fun i u hu=>?_⟩;rw[yM];have hi:i<n*size:=by have:=(yD.1 hu).1;omega
  rw[←h7,List.getElem?_take_of_lt hi,Array.getElem?_toList]at hu;simpa[World.cell?,h4]using hu
theorem Sm (w:World):Calls prog 189 #[.slice none 0 0] w fun e w'=>e=.returned (.slice none 0 0)/\w'=w:=by go_in;go_wp2;go_ret;exact⟨rfl,rfl⟩
theorem Blk.nh {W:World} {n:Nat} (arr:Array Value) (t:TypeId) (h:W.heap.size=n):Blk (W.alloc (.cells arr t)) n arr t:=h▸Blk.new W arr t
theorem Blk.there {w:World} {b:Nat} {arr:Array Value} {t:TypeId} (h:Blk w b arr t):w.there b 0 arr.size:=fun j hj=>⟨by rw[yM,h.cell];simp[hj],by rw[yM];exact h.frozen j⟩
theorem Ns {f:Func} {tmps:Array Value} {w:World} {k:Nat} {ty:TypeId} {b:Nat} {cs:List Value} {d:TypeDesc} (hf:f.results=#[.cell k ty]) (hk:tmps.getD k undef=.pointer (some ⟨b,0,none⟩)) (hc:w.rangeAt b 0 cs)
  (hu:prog.underlying ty=some d) (hd:d.isRow=true) (hi:(prog.info? ty).map (·.size)=some cs.length):(results f tmps).run prog w=.ok (.agg cs.toArray) w:=by
 unfold results;rw[hf];have h1:=run_loadVar_mid (P:=prog) w b 0 ty cs d hc hu hd hi;rw[show (#[ResultVar.cell k ty]:Array ResultVar)=[ResultVar.cell k ty].toArray from rfl];simp only[List.mapM_toArray,List.mapM_cons,List.mapM_nil,hk,asAddr];simp[h1]
section
variable {ops:Array Oper} {rest:List Oper} {Q:Exit→Act→World→Prop} {a:Act} {w:World} {oi:Oper}
theorem rgL {id:Nat} {l:List Oper} (h:wpList prog l.toArray Q l a w):(Code.region id l.toArray false).wp prog Q a w:=wp_region_list h
theorem plF (hgd:oi.guard=none) (h:∃v,(execOp a.eval oi).run prog w=.ok (.value v) w/\wpList prog ops Q rest (a.put oi.dst v) w):wpList prog ops Q (oi::rest) a w:=by obtain⟨v,h1,h2⟩:=h;refine wpList_plain hgd fun K hK=>?_;unfold Oper.wp;rw[h1];exact hK _ _ h2
theorem plS (hgd:oi.guard=none) (h:∃w',(execOp a.eval oi).run prog w=.ok .skip w'/\wpList prog ops Q rest (a.put oi.dst undef) w'):wpList prog ops Q (oi::rest) a w:=by obtain⟨w',h1,h2⟩:=h;refine wpList_plain hgd fun K hK=>?_;unfold Oper.wp;rw[h1];exact hK _ _ h2
end
theorem Ld {W:World} {op:Oper} {a:Act} {ty:TypeId} {x y:Operand} {b o:Nat} {cells:Array Value} (ht:W.there b o cells.size) (hi:(prog.info? ty).map (·.size)=some cells.size) (h1:cells.all (·.oneCell')=true) (ho:op.op=.store ty x y) (hx:a.eval x=.pointer (some ⟨b,o,none⟩)) (hy:a.eval y=.agg cells) :
  (execOp a.eval op).run prog W=.ok .skip (W.setCells b o cells.toList):=by
 unfold execOp;simp only[ho,hx,hy,Instr.storeAt,Instr.sureAddr,Sem.run_bind,Sem.run_pure,Result.andThen_ok,run_storeVar_mid W b o ty cells ht hi h1]
end Go.Proofs.YtbefeflgjipfhaaGreatDoor
namespace Go.Proofs.YtbefeflgjipfhaaGreatDoor
open Go.Deep Go.Proofs.Tryz Go.RowKit
theorem Ry (x r:Int) (w:World) :
  Kw 459 #[.int .i64 x,.int .i64 r] w (.bool (x==0)):=by
 (try unfold Kw);go_in;go_wp2;go_ret;exact⟨rfl,yA _ _⟩
theorem Rh (x lo hi r:Int) (w:World) :
  Kw 462 #[.agg #[.int .i64 x,.int .i64 lo,.int .i64 hi],.int .i64 r] w (.bool (inR x lo hi)):=by
 (try unfold Kw);go_in;go_wp2_with (go_at_call 30;refine(Bn _ _ _ _).mono ?_;rintro e w' ⟨rfl,rfl⟩);go_ret;exact⟨rfl,(yA _ _).alloc (yB _) _⟩
theorem Rx (x r:Int) (c:Nat) (hc:c<=1048576) (w:World) :
  Kw 461 #[.agg #[.int .i64 x,.int .i64 c],.int .i64 r] w (.bool (inR x 0 (c-1))):=by
 (try unfold Kw);go_in;go_wp2_with (go_at_call 30;refine(Bn _ _ _ _).mono ?_;rintro e w' ⟨rfl,rfl⟩);go_ret;exact⟨rfl,(yA _ _).alloc (yB _) _⟩
theorem Rk (x k t r:Int) (h1:0<=r) (h2:r<=250) (h3:0<=k) (h4:k<=3) (w:World) :
  Kw 460 #[.agg #[.int .i64 x,.int .i64 k,.int .i64 t],.int .i64 r] w (.bool (inR x 0 (r-k))):=by
 (try unfold Kw);go_in;go_wp2_with (go_at_call 30;refine(Bn _ _ _ _).mono ?_;rintro e w' ⟨rfl,rfl⟩);go_ret;exact⟨rfl,(yA _ _).alloc (yB _) _⟩
theorem Rs (x t r:Int) (h1:0<=r) (h2:r<=250) (w:World) :
  Kw 457 #[.agg #[.int .i64 x,.int .i64 t],.int .i64 r] w (.bool (inR x 0 (r-1))):=by
 (try unfold Kw);go_in;go_wp2_with (go_at_call 30;refine(Bn _ _ _ _).mono ?_;rintro e w' ⟨rfl,rfl⟩);go_ret;exact⟨rfl,(yA _ _).alloc (yB _) _⟩
theorem Q7 (x r:Int) (h1:0<=r) (h2:r<=250) (w:World) :
  Kw 458 #[.agg #[.int .i64 x],.int .i64 r] w (.bool (inR x 0 (r-2))):=by
 (try unfold Kw);go_in;go_wp2_with (go_at_call 30;refine(Bn _ _ _ _).mono ?_;rintro e w' ⟨rfl,rfl⟩);go_ret;exact⟨rfl,(yA _ _).alloc (yB _) _⟩
theorem Ig (x t:Int) (w:World) :
  Kw 203 #[.agg #[.int .i64 x,.int .i64 t]] w (.bool (decide (x<0))):=by
 (try unfold Kw);go_in;go_wp2;go_ret;exact⟨rfl,(yA _ _).alloc (yB _) _⟩
def Be (x:Int):Int:=if x<0 then -1-x else x
theorem Gx (x t:Int) (hx1 : -9223372036854775808<=x) (hx2:x<=9223372036854775807) (w:World) :
  Kw 202 #[.agg #[.int .i64 x,.int .i64 t]] w (.int .i64 (Be x)):=by
 have hb1:∀o,Below w.heap.size w (w.alloc o):=fun o=>(yA _ _).alloc (yB _) o;have X0:=Blk.new w #[.int .i64 x,.int .i64 t] 286;(try unfold Kw);go_in;go_wp2_with fail;refine(Ig x t _).mono ?_;rintro e w1 ⟨rfl,hw1⟩;have c1:=(X0.l hw1).cell;by_cases h:x<0
 ·go_wp2;go_ret;exact⟨Cr (by rw[Be,if_pos h]),(hb1 _).trans (hw1.mono (by simp))⟩
 ·go_wp2;go_ret;exact⟨Cr (by rw[Be,if_neg (by omega)]),(hb1 _).trans (hw1.mono (by simp))⟩
theorem Q8 (x t r:Int) (hx1 : -9223372036854775808<=x) (hx2:x<=9223372036854775807) (w:World) :
  Kw 441 #[.agg #[.int .i64 x,.int .i64 t],.int .i64 r] w (.bool (inR x (-r) (r-1))):=by
 have hb1:∀o,Below w.heap.size w (w.alloc o):=fun o=>(yA _ _).alloc (yB _) o;(try unfold Kw);go_in;go_wp2_with fail;refine(Gx x t hx1 hx2 _).mono ?_;rintro e w1 ⟨rfl,hw1⟩;have HE:Hid (decide (Be x<r)=inR x (-r) (r-1)):=by show _=_;rw[Bool.eq_iff_iff];unfold Be;split<;>simp[inR]<;>omega
 generalize Be x=q at *;go_wp2;go_ret;exact⟨Ac HE.out,(hb1 _).trans (hw1.mono (by simp))⟩
end Go.Proofs.YtbefeflgjipfhaaGreatDoor
namespace Go.Proofs.YtbefeflgjipfhaaGreatDoor
open Go.Deep Go.Proofs.Tryz Go.RowKit
attribute [local go_sem] A7
theorem wr {x:Int} (h1 : -9000000000000000000<=x) (h2:x<=9000000000000000000):IntKind.i64.wrap x=x:=by unfold IntKind.wrap;simp[IntKind.signed,IntKind.bits];omega
structure Mc where
 (pace due read births vers slots free caches hits misses tasks cur has got wk wv wt over live since moves rc rr rv re rt rk rm:Value)
abbrev Mc.arr (m:Mc):Array Value:=#[m.pace,m.due,m.read,m.births,m.vers,m.slots,m.free,m.caches,m.hits,m.misses,m.tasks,m.cur,m.has,m.got,m.wk,m.wv,m.wt,m.over,m.live,m.since,m.moves,m.rc,m.rr,m.rv,m.re,m.rt,m.rk,m.rm]
abbrev MAt (w:World) (b:Nat) (m:Mc):Prop:=Blk w b m.arr 88
structure Cc where
 (kind proto self at_ line saved regs fences leaving one wk wv wt limit:Value)
abbrev Cc.arr (c:Cc):Array Value:=#[c.kind,c.proto,c.self,c.at_,c.line,c.saved,c.regs,c.fences,c.leaving,c.one,c.wk,c.wv,c.wt,c.limit]
abbrev CAt (w:World) (b:Nat) (c:Cc):Prop:=Blk w b c.arr 131
structure Tc where
 (state fk fn ff fs fr frames waiter giving dropped:Value)
abbrev Tc.arr (t:Tc):Array Value:=#[t.state,t.fk,t.fn,t.ff,t.fs,t.fr,t.frames,t.waiter,t.giving,t.dropped]
abbrev TAt (w:World) (b:Nat) (t:Tc):Prop:=Blk w b t.arr 111
theorem Nb (bm:Nat) (m:Mc) (go:Option Addr) (gl gc:Nat) (w:World) (X:MAt w bm m) :
  Calls prog 102 #[.pointer (some ⟨bm,0,none⟩),.slice go gl gc] w fun e w'=>e=.returned (.tuple #[])/\Chg [bm] w w'/\MAt w' bm {m with has:=.bool true,got:=.slice go gl gc}:=by
 have x:=X.cell
 have f:=X.frozen
 go_enter func102,ntmps102
 go_wp2_with fail
 go_end0
 exact⟨rfl,((Chg.refl _ _).set (by simp) _ _).set (by simp) _ _,(X.set 12 _).set 13 _⟩
theorem Nu (bm:Nat) (m:Mc) (go:Option Addr) (gl gc:Nat) (w:World) (X:MAt w bm {m with got:=.slice go gl gc}) :
  Calls prog 104 #[.pointer (some ⟨bm,0,none⟩)] w fun e w'=>e=.returned (.slice go gl gc)/\Chg [bm] w w'/\MAt w' bm {m with has:=.bool false,got:=.slice none 0 0}:=by
 have x:=X.cell
 have f:=X.frozen
 go_enter func104,ntmps104
 go_wp2_with fail
 go_ret
 exact⟨rfl,((Chg.refl _ _).set (by simp) _ _).set (by simp) _ _,(X.set 12 _).set 13 _⟩
theorem Gl (bm bt bts:Nat) (m:Mc) (w:World) (X:MAt w bm {m with tasks:=.slice (some ⟨bts,0,none⟩) 1 1,cur:=.int .i64 0}) (h:w.cell? ⟨bts,0,none⟩=some (.pointer (some ⟨bt,0,none⟩))) :
  Calls prog 96 #[.pointer (some ⟨bm,0,none⟩)] w fun e w'=>e=.returned (.pointer (some ⟨bt,0,none⟩))/\Below w.heap.size w w':=by
 have x:=X.cell
 go_enter func96,ntmps96
 go_wp2_with fail
 go_region_held3 (fun W=>(∀o,W.cell? ⟨bm,o,none⟩=(Mc.arr {m with tasks:=.slice (some ⟨bts,0,none⟩) 1 1,cur:=.int .i64 0})[o]?)/\W.cell? ⟨bts,0,none⟩=some (.pointer (some ⟨bt,0,none⟩))) (exact⟨x,h⟩) (fail)
 go_wp2_with fail
 go_ret
 exact⟨rfl,(Below.refl _ _).drew⟩
theorem I9 (bt bf fc:Nat) (t:Tc) (v:Value) (w:World) (X:TAt w bt {t with frames:=.slice (some ⟨bf,0,none⟩) 1 fc}) (h:w.cell? ⟨bf,0,none⟩=some (.iface 107 v)) :
  Calls prog 99 #[.pointer (some ⟨bt,0,none⟩)] w fun e w'=>e=.returned (.iface 107 v)/\Below w.heap.size w w':=by
 have x:=X.cell
 go_enter func99,ntmps99
 go_wp2_with fail
 go_region
 go_wp2_with fail
 go_ret
 exact⟨rfl,(Below.refl _ _).drew⟩
theorem A8i (bt bf fc:Nat) (t:Tc) (w:World) (hc:1<=fc) (X:TAt w bt {t with frames:=.slice (some ⟨bf,0,none⟩) 1 fc}) :
  Calls prog 101 #[.pointer (some ⟨bt,0,none⟩)] w fun e w'=>e=.returned (.tuple #[])/\Chg [bt] w w'/\TAt w' bt {t with frames:=.slice (some ⟨bf,0,none⟩) 0 fc}:=by
 have x:=X.cell
 have f:=X.frozen
 go_enter func101,ntmps101
 go_wp2_with fail
 go_region
 go_wp2_with fail
 go_end0
 exact⟨rfl,((Chg.refl _ _).below (Below.refl _ _).drew).set (by simp) _ _,(X.l (Below.refl _ _).drew).set 6 _⟩
theorem A09 (bl bm:Nat) (m:Mc) (k n:Int) (w:World) (h0:w.cell? ⟨bl,0,none⟩=some (.pointer (some ⟨bm,0,none⟩))) (h5:w.cell? ⟨bl,5,none⟩=some (.int .i64 n)) (hk:0<=k) (hn:k<n) (hm:n<=5000) (X:MAt w bm {m with rk:=.int .i64 k}) :
  Calls prog 119 #[.pointer (some ⟨bl,0,none⟩)] w fun e w'=>e=.returned (.tuple #[])/\Chg [bm] w w'/\MAt w' bm {m with rk:=.int .i64 (k+1)}:=by
 have x:=X.cell
 have f:=X.frozen
 go_enter func119,ntmps119
 go_wp2_with fail
 go_region_held3 (fun W=>(∀o,W.cell? ⟨bm,o,none⟩=(Mc.arr {m with rk:=.int .i64 k})[o]?)/\W.cell? ⟨bl,0,none⟩=some (.pointer (some ⟨bm,0,none⟩))/\W.cell? ⟨bl,5,none⟩=some (.int .i64 n)) (exact⟨x,h0,h5⟩) (fail)
 go_wp2_with fail
 go_end0
 exact⟨rfl,((Chg.refl _ _).below (Below.refl _ _).drew).set (by simp) _ _,(X.l (Below.refl _ _).drew).set 26 _⟩
theorem Jg (bm bs:Nat) (m:Mc) (v:Int) (p k b:Value) (s3 s4 s5 s6 s7 s8 s9 s10 s11 s12 s13 s14:Value) (w:World) (hv:0<=v) (hm:v<=1000000) (hne:bm≠bs) (X:MAt w bm {m with vers:=.int .i64 v}) (Y:Blk w bs #[p,k,b,s3,s4,s5,s6,s7,s8,s9,s10,s11,s12,s13,s14] 176) :
  Calls prog 205 #[.pointer (some ⟨bm,0,none⟩),.pointer (some ⟨bs,0,none⟩)] w fun e w'=>e=.returned (.tuple #[])/\Chg [bm,bs] w w'/\MAt w' bm {m with vers:=.int .i64 (v+1)}/\Blk w' bs #[p,k,b,.int .i64 (v+1),s4,s5,s6,s7,s8,s9,s10,s11,s12,s13,s14] 176:=by
 have x:=X.cell
 have f:=X.frozen
 have y:=Y.cell
 have g:=Y.frozen
 go_enter func205,ntmps205
 go_wp2_with fail
 go_end0
 exact⟨rfl,((Chg.refl _ _).set (by simp) _ _).set (by simp) _ _,(X.set 4 _).setOther hne _,(Y.setOther (Ne.symm hne) _).set 3 _⟩
theorem Uk (bl bm:Nat) (m:Mc) (k n:Int) (w:World) (h0:w.cell? ⟨bl,0,none⟩=some (.pointer (some ⟨bm,0,none⟩))) (h7:w.cell? ⟨bl,7,none⟩=some (.int .i64 n)) (hk:0<=k) (hn:k<n) (hm:n<=20000) (X:MAt w bm {m with live:=.int .i64 0,since:=.int .i64 k,rm:=.int .i64 k}) :
  Calls prog 125 #[.pointer (some ⟨bl,0,none⟩),.int .i64 1] w fun e w'=>e=.returned .nilIface/\Chg [bm] w w'/\MAt w' bm {m with live:=.int .i64 0,since:=.int .i64 (k+1),rm:=.int .i64 (k+1)}:=by
 have x:=X.cell
 have f:=X.frozen
 have w1:IntKind.i64.wrap k=k:=wr (by omega) (by omega)
 have w2:IntKind.i64.wrap (k+1)=k+1:=wr (by omega) (by omega)
 have hle:¬n<k+1:=by omega
 go_enter func125,ntmps125
 go_wp2_with fail
 go_region_held3 (fun W=>(∀o,W.cell? ⟨bm,o,none⟩=(Mc.arr {m with live:=.int .i64 0,since:=.int .i64 k,rm:=.int .i64 k})[o]?)/\W.cell? ⟨bl,0,none⟩=some (.pointer (some ⟨bm,0,none⟩))/\W.cell? ⟨bl,7,none⟩=some (.int .i64 n)) (exact⟨x,h0,h7⟩) (fail)
 go_wp2_with fail
 go_ret
 exact⟨rfl,(((Chg.refl _ _).below (Below.refl _ _).drew).set (by simp) _ _).set (by simp) _ _,((X.l (Below.refl _ _).drew).set 19 _).set 27 _⟩
theorem I8 (b o:Nat) (ho:Option Addr) (hl hc:Nat) (w:World) (h:w.cell? ⟨b,o,none⟩=some (.slice ho hl hc)) :
  Calls prog 267 #[.pointer (some ⟨b,o,none⟩)] w fun e w'=>e=.returned (.int .i64 hl)/\w'=w:=by
 go_enter func267,ntmps267
 go_wp2_with fail
 go_ret
 exact⟨rfl,rfl⟩
theorem A7b (bm:Nat) (m:Mc) (so ho:Option Addr) (sl sc hl hc:Nat) (w:World) (hs:hl<=sl) (hm:sl<=1000000) (X:MAt w bm {m with slots:=.slice so sl sc,free:=.slice ho hl hc}) :
  Calls prog 235 #[.pointer (some ⟨bm,0,none⟩)] w fun e w'=>e=.returned (.int .i64 ((sl:Int)-hl))/\Below w.heap.size w w':=by
 have x:=X.cell
 have w1:IntKind.i64.wrap ((sl:Int)-hl)=(sl:Int)-hl:=wr (by omega) (by omega)
 go_enter func235,ntmps235
 go_wp2_with fail
 go_region_held3 (fun W=>(∀o,W.cell? ⟨bm,o,none⟩=(Mc.arr {m with slots:=.slice so sl sc,free:=.slice ho hl hc})[o]?)) (exact x) (first|(go_at_call 267;refine(I8 bm 6 ho hl hc w.drew (x 6)).mono ?_;rintro e w1 ⟨rfl,rfl⟩))
 go_wp2_with fail
 go_ret
 exact⟨rfl,(Below.refl _ _).drew⟩
end Go.Proofs.YtbefeflgjipfhaaGreatDoor
namespace Go.Proofs.YtbefeflgjipfhaaGreatDoor
open Go.Deep Go.Proofs.Tryz Go.RowKit
attribute [local go_sem] A7
def fz (x:Nat):Bool:=FloatKind.f64.format.order x 0==some .eq
def Ee (v:Vd) (n f s r:Bool):Bool:=(n||v.num==0)&&(f||fz v.flt)&&(s||v.str.toList.isEmpty)&&(r||v.ref==0)
def Bl (v:Vd):Bool:=
 if v.kind=0 then Ee v false false false false
 else if v.kind=1 then Ee v true false false false&&(v.num==0||v.num==1)
 else if v.kind=2 then Ee v true false false false
 else if v.kind=3 then Ee v false true false false
 else if v.kind=4 then Ee v false false true false&&decide ((v.str.size:Int)<=4000)
 else if v.kind=5∨v.kind=6∨v.kind=7 then Ee v false false false true&&decide (0<=v.ref)
 else if v.kind=8 then Ee v true false false false&&(decide (0<=v.num)&&decide (v.num<15))
 else false
theorem A9m (k:Int):k=0∨k=1∨k=2∨k=3∨k=4∨k=5∨k=6∨k=7∨k=8∨(k≠0/\k≠1/\k≠2/\k≠3/\k≠4/\k≠5/\k≠6/\k≠7/\k≠8):=by omega
end Go.Proofs.YtbefeflgjipfhaaGreatDoor
