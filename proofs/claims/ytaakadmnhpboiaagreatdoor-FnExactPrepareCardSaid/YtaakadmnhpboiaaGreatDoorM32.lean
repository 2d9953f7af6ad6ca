import Derived.Test.YtaakadmnhpboiaaGreatDoorM10
import Derived.Test.YtaakadmnhpboiaaGreatDoorM13
import Derived.Test.YtaakadmnhpboiaaGreatDoorM05
import Derived.Test.YtaakadmnhpboiaaGreatDoorM06
import Derived.Laws.EntriesVeiled
import Derived.Test.YtaakadmnhpboiaaGreatDoorM31
namespace Go.Proofs.YtaakadmnhpboiaaGreatDoor
open Go.RowKit Go.Deep
def firstP (g:Nat→Pd→Option Nat):Nat→List Pd→Option (Nat × Nat)
 | _,[]=>none
 | k,p::r=>match g k p with
  | some i=>some (k,i)
  | none=>firstP g (k+1) r
theorem firstP_drop {g:Nat→Pd→Option Nat} {l:List Pd} {k:Nat} {p:Pd} (h:l[k]?=some p):firstP g k (l.drop k)=match g k p with
  | some i=>some (k,i)
  | none=>firstP g (k+1) (l.drop (k+1)):=by
 rw [drop_some h];rfl
def headP (k:Nat) (p:Pd):Option Nat:=if headOk p k then none else some 0
def constP (_:Nat) (p:Pd):Option Nat:=firstBad constG 0 p.consts
def namedP (_:Nat) (p:Pd):Option Nat:=firstBad (namedB p) 0 p.named
def insP (np:Nat) (_:Nat) (p:Pd):Option Nat:=insBad np p
def shapeF (ps:List Pd):Int × Int × Int:=
 if sizeB ps then
  match firstP headP 0 ps with
  | some (p,i)=>(2,p,i)
  | none=>match firstP constP 0 ps with
   | some (p,i)=>(3,p,i)
   | none=>match firstP namedP 0 ps with
    | some (p,i)=>(4,p,i)
    | none=>match firstP (insP ps.length) 0 ps with
     | some (p,i)=>(5,p,i)
     | none=>mkFault ps
 else (1,0,0)
structure Fine (ps:List Pd):Prop where
 bulk:bulkPs ps≤1048576
 few:∀p ∈ ps,PFew p
 flts:∀p ∈ ps,Flts p.consts
 nds:∀p ∈ ps,∀n ∈ p.ins,NdW n
theorem firstP_none {g:Nat→Pd→Option Nat} : ∀{l:List Pd} {s:Nat},firstP g s l=none→∀k p,l[k]?=some p→g (s+k) p=none
 | [],_,_,k,p,h=>by simp at h
 | x::r,s,h,k,p,hk=>by
  unfold firstP at h
  cases hx:g s x with
  | some i=>rw [hx] at h;cases h
  | none=>
   rw [hx] at h
   cases k with
   | zero=>simp at hk;subst hk;exact hx
   | succ k=>
    simp at hk
    have:=firstP_none (g:=g) (l:=r) (s:=s+1) h k p hk
    rwa [show s+(k+1)=s+1+k by omega]
theorem regs_of_heads {ps:List Pd} (h:firstP headP 0 ps=none):∀p ∈ ps,0≤p.regs∧p.regs≤250:=by
 intro p hp
 obtain⟨k,hk⟩:=List.getElem?_of_mem hp
 have:=firstP_none h k p hk
 unfold headP at this
 split at this
 ·rename_i hh
  unfold headOk at hh
  simp [inR] at hh
  omega
 ·cases this
theorem firstBad_none {α:Type} {f:Nat→α→Bool} : ∀{l:List α} {s:Nat},firstBad f s l=none→∀k x,l[k]?=some x→f (s+k) x=true
 | [],_,_,k,p,h=>by simp at h
 | x::r,s,h,k,p,hk=>by
  unfold firstBad at h
  split at h
  ·cases k with
   | zero=>simp at hk;subst hk;assumption
   | succ k=>
    simp at hk
    have:=firstBad_none h k p hk
    rwa [show s+(k+1)=s+1+k by omega]
  ·cases h
theorem fns_of_ins {ps:List Pd} (h:firstP (insP ps.length) 0 ps=none):FnsOk ps:=by
 intro p hp n hn hop
 obtain⟨k,hk⟩:=List.getElem?_of_mem hp
 obtain⟨j,hj⟩:=List.getElem?_of_mem hn
 have h1:=firstP_none h k p hk
 unfold insP insBad at h1
 cases hb:firstBad (formsG ps.length p) 0 p.ins with
 | some i=>rw [hb] at h1;cases h1
 | none=>
  have h2:=firstBad_none hb j n hj
  unfold formsG formsB at h2
  rw [hop] at h2
  have h3:rolesOf (11:Int).toNat=[1,9,0,0]:=by decide
  rw [h3] at h2
  simp [Nd.fs,fitAll,fitsR,inR] at h2
  omega
set_option maxRecDepth 1000000 in
set_option maxHeartbeats 8000000 in
theorem stp_r9 (x6 x8 x9 m kN:Nat) (kb:Bool) (ao ago ko bo:Option Addr) (ac agc kc bc:Nat) (s:St) (tk:List Int) (w:World) (c0 c1 c2 c3 c4 c5 c7 c10 c11 c12 c13 c14 c15 c16 c17 c18 c19 c20 c21 c22 c23 c24 c25 c26 c27 c28 c29 c30 c31 c32 c33 c34 c35 c36 c37 c38 c39 c40 c41 c42 c43 c44 c45 c46 c47 c48 c49 c50 c51 c52 c53 c54 c55 c56 c57 c58 c59 c60 c61 c62 c63 c64 c65 c66 c67 c68 c69 c70 c71 c72 c73 c74 c75 c76 c77 c78 c79 c80 c81 c82 c83 c84 c85 c86 c87 c88 c89 c90 c91 c92 c93 c94 c95 c96 c97 c98 c99 c100:Value) (Q:Exit→Act→World→Prop)
  (hq:∀(u83 u84 u85 u86 u87 u88 u89 u90 u91 u92:Value) (wx:World),Below w.heap.size w wx→Q .normal ⟨List.toArray (c0::c1::c2::c3::c4::c5::.pointer (some ⟨x6,0,none⟩)::c7::.pointer (some ⟨x8,0,none⟩)::.pointer (some ⟨x9,0,none⟩)::c10::c11::c12::c13::c14::c15::c16::c17::c18::c19::c20::c21::c22::c23::c24::c25::c26::c27::c28::c29::c30::c31::c32::c33::c34::c35::c36::c37::c38::c39::c40::c41::c42::c43::c44::c45::c46::c47::c48::c49::c50::c51::c52::c53::c54::c55::c56::c57::c58::c59::c60::c61::c62::c63::c64::c65::c66::c67::c68::c69::c70::c71::c72::c73::c74::c75::c76::c77::c78::c79::c80::c81::c82::u83::u84::u85::u86::u87::u88::u89::u90::u91::u92::.bool (!kb)::c94::c95::c96::c97::c98::c99::c100::[]),[]⟩ wx)
  (hkb:∀W,Below w.heap.size w W→Calls Tryz.prog 120 #[.slice ago s.guards.length agc] W fun e w'=>e=.returned (.int .i64 kN)∧Below w.heap.size w w')
  (hks:∀W,Below w.heap.size w W→Calls Tryz.prog 119 #[.int .i64 kN,.slice ko tk.length kc,.slice ao m ac,.slice bo m bc] W fun e w'=>e=.returned (.bool kb)∧Below w.heap.size w w')
  (hS:∀w',Below w.heap.size w w'→w'.cell? ⟨x6,1,none⟩=some (.slice ao m ac)∧w'.cell? ⟨x6,2,none⟩=some (.slice ago s.guards.length agc)∧w'.cell? ⟨x8,2,none⟩=some (.slice ko tk.length kc)∧w'.cell? ⟨x9,1,none⟩=some (.slice bo m bc)) :
  Code.wp Tryz.prog pcS9 Q ⟨List.toArray (c0::c1::c2::c3::c4::c5::.pointer (some ⟨x6,0,none⟩)::c7::.pointer (some ⟨x8,0,none⟩)::.pointer (some ⟨x9,0,none⟩)::c10::c11::c12::c13::c14::c15::c16::c17::c18::c19::c20::c21::c22::c23::c24::c25::c26::c27::c28::c29::c30::c31::c32::c33::c34::c35::c36::c37::c38::c39::c40::c41::c42::c43::c44::c45::c46::c47::c48::c49::c50::c51::c52::c53::c54::c55::c56::c57::c58::c59::c60::c61::c62::c63::c64::c65::c66::c67::c68::c69::c70::c71::c72::c73::c74::c75::c76::c77::c78::c79::c80::c81::c82::c83::c84::c85::c86::c87::c88::c89::c90::c91::c92::c93::c94::c95::c96::c97::c98::c99::c100::[]),[]⟩ w:=by
 conv=>arg 2;whnf
 have HQ:Hid _:=hq
 have HKB:Hid _:=hkb
 have HKS:Hid _:=hks
 have HS:Hid _:=hS
 obtain⟨e0,e1,e2,e3⟩:=hS w (Below.refl _ _)
 clear hq hkb hks hS
 go_region_held3 (fun w'=>w'.cell? ⟨x6,1,none⟩=some (.slice ao m ac)∧w'.cell? ⟨x6,2,none⟩=some (.slice ago s.guards.length agc)∧w'.cell? ⟨x8,2,none⟩=some (.slice ko tk.length kc)∧w'.cell? ⟨x9,1,none⟩=some (.slice bo m bc)) (first | (refine HS.out _ ?_;(repeat (first | assumption | exact HB2.out | exact HB3.out | exact Below.refl _ _ | refine Below.drew ?_ | refine below_al ?_ _ | refine below_st ?_ (by dsimp only;omega) _))))
  (first
   | (go_at_call 120;refine (HKB.out _ (by (repeat (first | assumption | exact HB2.out | exact HB3.out | exact Below.refl _ _ | refine Below.drew ?_ | refine below_al ?_ _ | refine below_st ?_ (by dsimp only;omega) _)))).mono ?_;rintro e w2 ⟨rfl,hw2⟩;have HB2:Hid (Below w.heap.size w w2):=hw2)
   | (go_at_call 119;refine (HKS.out _ (by (repeat (first | assumption | exact HB2.out | exact HB3.out | exact Below.refl _ _ | refine Below.drew ?_ | refine below_al ?_ _ | refine below_st ?_ (by dsimp only;omega) _)))).mono ?_;rintro e w3 ⟨rfl,hw3⟩;have HB3:Hid (Below w.heap.size w w3):=hw3))
 exact HQ.out _ _ _ _ _ _ _ _ _ _ _ HB3.out
end Go.Proofs.YtaakadmnhpboiaaGreatDoor
