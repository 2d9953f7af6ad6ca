import Derived.Test.YtbefeflgjipfhaaGreatDoorF18
set_option maxRecDepth 20000
set_option maxHeartbeats 4000000
namespace Go.Proofs.YtbefeflgjipfhaaGreatDoor
open Go.Deep Go.Proofs.Tryz Go.RowKit
attribute [local go_sem] A7 J5 vi
def bltL:List Value:=[.func (.func 80) #[] #[],.func (.func 81) #[] #[],.func (.func 82) #[] #[],.func (.func 83) #[] #[],.func (.func 84) #[] #[],.func (.func 85) #[] #[],.func (.func 86) #[] #[],.func (.func 87) #[] #[],.func (.func 88) #[] #[],.func (.func 89) #[] #[],.func (.func 90) #[] #[],.func (.func 91) #[] #[],.func (.func 92) #[] #[],.func (.func 93) #[] #[],.func (.func 94) #[] #[]]
theorem V7 (w:World):Calls prog 25 #[] w fun e w'=>e=.returned (.agg bltL.toArray)/\Below w.heap.size w w':=by
 go_enter func25,ntmps25
 go_wp2_with fail
 exact bodyPost_ret (v:=.agg bltL.toArray) (by simp[results,results25,go_sem];rfl) rfl ⟨rfl,(Below.refl _ _).alloc (Nat.le_refl _) _⟩
theorem plE {ops:Array Oper} {rest:List Oper} {Q:Exit->Act->World->Prop} {a:Act} {w:World} {oi:Oper} (hgd:oi.guard=none) (h:∃v,(execOp a.eval oi).run prog w=.ok (.value v) w/\wpList prog ops Q rest (a.put oi.dst v) w):wpList prog ops Q (oi::rest) a w:=by
 obtain⟨v,h1,h2⟩:=h
 refine wpList_plain hgd fun K hK=>?_
 unfold Oper.wp
 rw[h1]
 exact hK _ _ h2
def M7:List Value:=[.nilFunc,.bool false,.func (.func 35) #[] #[],.bool true,.func (.func 36) #[] #[],.bool true,.func (.func 37) #[] #[],.bool true,.func (.func 38) #[] #[],.bool true,.func (.func 39) #[] #[],.bool true,.func (.func 40) #[] #[],.bool true,.func (.func 41) #[] #[],.bool true,.func (.func 42) #[] #[],.bool true,.func (.func 43) #[] #[],.bool true,.func (.func 44) #[] #[],.bool true,.func (.func 45) #[] #[],.bool true,.func (.func 46) #[] #[],.bool true,.func (.func 47) #[] #[],.bool true,.func (.func 48) #[] #[],.bool true,.func (.func 49) #[] #[],.bool false,.func (.func 50) #[] #[],.bool false,.func (.func 51) #[] #[],.bool false,.func (.func 52) #[] #[],.bool false,.func (.func 53) #[] #[],.bool false,.func (.func 54) #[] #[],.bool false,.func (.func 54) #[] #[],.bool false,.func (.func 55) #[] #[],.bool true,.func (.func 56) #[] #[],.bool true,.func (.func 57) #[] #[],.bool true,.func (.func 58) #[] #[],.bool true,.func (.func 59) #[] #[],.bool true,.func (.func 60) #[] #[],.bool true,.func (.func 61) #[] #[],.bool false,.func (.func 62) #[] #[],.bool false,.func (.func 63) #[] #[],.bool false,.func (.func 64) #[] #[],.bool true,.func (.func 65) #[] #[],.bool true,.func (.func 66) #[] #[],.bool true,.func (.func 67) #[] #[],.bool true,.func (.func 68) #[] #[],.bool true,.func (.func 69) #[] #[],.bool false,.func (.func 70) #[] #[],.bool true,.func (.func 71) #[] #[],.bool false,.func (.func 72) #[] #[],.bool false,.func (.func 73) #[] #[],.bool false,.func (.func 74) #[] #[],.bool false,.func (.func 75) #[] #[],.bool true,.func (.func 76) #[] #[],.bool false,.func (.func 77) #[] #[],.bool false,.func (.func 78) #[] #[],.bool false,.func (.func 79) #[] #[],.bool false]
theorem A56:M7.toArray.all (·.oneCell')=true:=by kernel_rfl
theorem Xj (w:World):Calls prog 24 #[] w fun e w'=>e=.returned (.agg M7.toArray)/\Below w.heap.size w w':=by
 have Z:=Blk.new w Tryz.zeroCells76 76
 go_enter func24,ntmps24
 refine wp_seq_k ?_
 intro K hK
 have HK:Hid _:=hK
 clear hK
 go_wp2_with fail
 refine HK.out _ _ ?_
 clear HK K
 refine wp_seq_k ?_
 intro K hK
 have HK:Hid _:=hK
 clear hK
 refine wp_region_list ?_
 iterate 46 (refine plE rfl ⟨?_,?_,?_⟩;rotate_left;(focus (go_simp;with_reducible rfl));simp only[Act.put,List.setIfInBounds_toArray,List.set_cons_succ,List.set_cons_zero])
 refine plE rfl ⟨.agg M7.toArray,?_,?_⟩
 ·go_simp
  rfl
 simp only[Act.put,List.setIfInBounds_toArray,List.set_cons_succ,List.set_cons_zero]
 have hth:(w.alloc (.cells Tryz.zeroCells76 76)).there w.heap.size 0 M7.toArray.size:=by
  have h:=Z.there
  have e:Tryz.zeroCells76.size=M7.toArray.size:=by kernel_rfl
  rw[e]at h
  exact h
 refine plS rfl ⟨_,Ld (cells:=M7.toArray) hth (by kernel_rfl) A56 rfl rfl rfl,?_⟩
 have hra:=World.rangeAt_setCells_same _ w.heap.size 0 M7 (by simpa using hth)
 have hB:Below w.heap.size w ((w.alloc (.cells Tryz.zeroCells76 76)).setCells w.heap.size 0 M7):=((Below.refl w.heap.size w).alloc (Nat.le_refl _) _).trans ((Chg.sets' (L:=[w.heap.size]) (List.mem_singleton.2 rfl) M7 0 (Chg.refl [w.heap.size] (w.alloc (.cells Tryz.zeroCells76 76)))).low (by rw[World.size_alloc];omega) (by simp))
 refine Pf (S:=fun W=>W.rangeAt w.heap.size 0 M7/\Below w.heap.size w W) ⟨hra,hB⟩ ?_
 intro W5 hW5
 have HR:Hid (W5.rangeAt w.heap.size 0 M7):=hW5.1
 have HB5:Hid (Below w.heap.size w W5):=hW5.2
 clear hW5 hra hB hth Z
 go_wp2_with fail
 refine HK.out _ _ ?_
 clear HK K
 go_wp2_with fail
 exact bodyPost_ret (Ns (cs:=M7) results24 rfl HR.out underlying76 rfl (by kernel_rfl)) rfl ⟨rfl,HB5.out⟩
end Go.Proofs.YtbefeflgjipfhaaGreatDoor
