import Derived.Test.YtbefeflgjipfhaaGreatDoorF21
set_option maxRecDepth 8000
set_option maxHeartbeats 8000000
namespace Go.Proofs.YtbefeflgjipfhaaGreatDoor
open Go.Deep Go.Proofs.Tryz Go.RowKit
attribute [local go_sem] A7 vi
def tgA (n k:Int) (j:Nat):List I5:=List.take j [⟨12,4,0,0,0⟩,⟨4,5,0,0,0⟩,⟨4,6,1,0,0⟩,⟨13,4,-6,-7,0⟩,⟨4,7,2,0,0⟩,⟨4,0,3,0,0⟩,⟨4,1,(kIx ks4 (kI n)),0,0⟩,⟨4,2,3,0,0⟩,⟨37,0,0,0,0⟩,⟨38,0,0,0,0⟩,⟨3,0,0,0,0⟩,⟨4,8,(kIx (ks5 n) (kI k)),0,0⟩,⟨18,8,6,0,-9⟩,⟨4,9,(kIx (ks6 n k) (kI 0)),0,0⟩,⟨18,8,13,-9,-10⟩,⟨21,-9,0,0,0⟩,⟨5,8,0,0,0⟩,⟨5,9,0,0,0⟩,⟨13,4,-9,-10,0⟩,⟨5,8,0,0,0⟩,⟨4,9,2,0,0⟩,⟨13,4,-9,-10,0⟩]
theorem Dk (n k:Int) (j:Nat):(tgA n k j).length<=100:=by rw[tgA,List.length_take];exact Nat.le_trans (Nat.min_le_right _ _) (by simp)
def tgB (n k:Int) (j:Nat):List I5:=List.take j [⟨12,4,0,0,0⟩,⟨4,5,0,0,0⟩,⟨4,6,1,0,0⟩,⟨13,4,-6,-7,0⟩,⟨4,7,2,0,0⟩,⟨4,0,3,0,0⟩,⟨4,1,(kIx ks4 (kI n)),0,0⟩,⟨4,2,3,0,0⟩,⟨37,0,0,0,0⟩,⟨38,0,0,0,0⟩,⟨3,0,0,0,0⟩,⟨4,8,(kIx (ks5 n) (kI k)),0,0⟩,⟨18,8,6,0,-9⟩,⟨4,9,(kIx (ks6 n k) (kI 0)),0,0⟩,⟨18,8,13,-9,-10⟩,⟨21,-9,22,0,0⟩,⟨5,8,0,0,0⟩,⟨5,9,0,0,0⟩,⟨13,4,-9,-10,0⟩,⟨5,8,0,0,0⟩,⟨4,9,2,0,0⟩,⟨13,4,-9,-10,0⟩,⟨4,8,0,0,0⟩,⟨15,7,4,-9,0⟩,⟨39,0,9,0,0⟩]
theorem A1s (n k:Int) (j:Nat):(tgB n k j).length<=100:=by rw[tgB,List.length_take];exact Nat.le_trans (Nat.min_le_right _ _) (by simp)
def tgC (n k:Int) (j:Nat):List I5:=List.take j [⟨12,4,0,0,0⟩,⟨4,5,0,0,0⟩,⟨4,6,1,0,0⟩,⟨13,4,-6,-7,0⟩,⟨4,7,2,0,0⟩,⟨4,0,3,0,0⟩,⟨4,1,(kIx ks4 (kI n)),0,0⟩,⟨4,2,3,0,0⟩,⟨37,0,0,0,0⟩,⟨38,0,25,0,0⟩,⟨3,0,0,0,0⟩,⟨4,8,(kIx (ks5 n) (kI k)),0,0⟩,⟨18,8,6,0,-9⟩,⟨4,9,(kIx (ks6 n k) (kI 0)),0,0⟩,⟨18,8,13,-9,-10⟩,⟨21,-9,22,0,0⟩,⟨5,8,0,0,0⟩,⟨5,9,0,0,0⟩,⟨13,4,-9,-10,0⟩,⟨5,8,0,0,0⟩,⟨4,9,2,0,0⟩,⟨13,4,-9,-10,0⟩,⟨4,8,0,0,0⟩,⟨15,7,4,-9,0⟩,⟨39,0,9,0,0⟩]
theorem Aa3 (n k:Int) (w:World):Calls prog 5 #[.int .i64 n,.int .i64 k,.bool true] w fun e w'=>∃g b kv qv,e=.returned (.agg #[.slice (some ⟨g,0,none⟩) 1 1])/\Blk w' g (pr6 ⟨#[109,97,105,110]⟩ 0 14 (.slice none 0 0) kv qv (.slice none 0 0)) 63/\w.heap.size<=g/\w'.ownsRow b 52 5 kv (ks8 n k).length (kvs (ks8 n k))/\w'.ownsRow b 58 5 qv 32 (ivs (A11 n k true))/\w.heap.size<=b/\Below w.heap.size w w':=by
 have A0:Below w.heap.size w (w.alloc (.cells #[.slice none 0 0] 26)):=(Below.refl _ _).alloc (Nat.le_refl _) _
 go_enter func5,ntmps5
 go_wp2_with fail
 refine(pen0 14 rfl _).mono ?_
 rintro e w1 ⟨bp,rfl,N,B1⟩
 have BB:BN w w1:=(show Below (w.heap.size+1) (w.alloc (.cells #[.slice none 0 0] 26)) w1 by simpa using B1)
 have HN:PN w w1 bp [] []:=(show Dm w1 (w.heap.size+1) bp 14 [] [] by simpa using N)
 clear N B1
 have q9:(tgA n k 9).length=9:=rfl
 have q15:(tgA n k 15).length=15:=rfl
 go_wp2_with fail
 refine(Ua w1).mono ?_
 rintro e w2 ⟨rfl,B⟩
 replace BB:BN w w2:=BB.out.trans (B.mono (by have:=BB.out.size;simpa using this))
 replace HN:PN w w2 bp [] []:=HN.out.l B
 clear B
 go_wp2_with fail
 refine(Eg bp _ 14 _ _ kA w2 (by decide) (by decide) HN.out).mono ?_
 rintro e w3 ⟨rfl,N,B⟩
 replace BB:BN w w3:=BB.out.trans B
 replace HN:PN w w3 bp [kA] []:=N
 clear N B
 go_wp2_with fail
 refine(Am bp _ 14 _ _ 12 4 0 0 0 w3 (by simp) HN.out).mono ?_
 rintro e w4 ⟨rfl,N,B⟩
 replace BB:BN w w4:=BB.out.trans B
 replace HN:PN w w4 bp [kA] (tgA n k 1):=N
 clear N B
 go_wp2_with fail
 refine(Am bp _ 14 _ _ 4 5 0 0 0 w4 (Dk n k 1) HN.out).mono ?_
 rintro e w5 ⟨rfl,N,B⟩
 replace BB:BN w w5:=BB.out.trans B
 replace HN:PN w w5 bp [kA] (tgA n k 2):=N
 clear N B
 go_wp2_with fail
 refine(D9 7 w5).mono ?_
 rintro e w6 ⟨rfl,B⟩
 replace BB:BN w w6:=BB.out.trans (B.mono (by have:=BB.out.size;simpa using this))
 replace HN:PN w w6 bp [kA] (tgA n k 2):=HN.out.l B
 clear B
 go_wp2_with fail
 refine(Eg bp _ 14 _ _ k7 w6 (by decide) (by decide) HN.out).mono ?_
 rintro e w7 ⟨rfl,N,B⟩
 replace BB:BN w w7:=BB.out.trans B
 replace HN:PN w w7 bp [kA,k7] (tgA n k 2):=N
 clear N B
 go_wp2_with fail
 refine(Am bp _ 14 _ _ 4 6 1 0 0 w7 (Dk n k 2) HN.out).mono ?_
 rintro e w8 ⟨rfl,N,B⟩
 replace BB:BN w w8:=BB.out.trans B
 replace HN:PN w w8 bp [kA,k7] (tgA n k 3):=N
 clear N B
 go_wp2_with fail
 refine(Am bp _ 14 _ _ 13 4 (-6) (-7) 0 w8 (Dk n k 3) HN.out).mono ?_
 rintro e w9 ⟨rfl,N,B⟩
 replace BB:BN w w9:=BB.out.trans B
 replace HN:PN w w9 bp [kA,k7] (tgA n k 4):=N
 clear N B
 go_wp2_with fail
 refine(Eg bp _ 14 _ _ kZ w9 (by decide) (by decide) HN.out).mono ?_
 rintro e w10 ⟨rfl,N,B⟩
 replace BB:BN w w10:=BB.out.trans B
 replace HN:PN w w10 bp [kA,k7,kZ] (tgA n k 4):=N
 clear N B
 go_wp2_with fail
 refine(Am bp _ 14 _ _ 4 7 2 0 0 w10 (Dk n k 4) HN.out).mono ?_
 rintro e w11 ⟨rfl,N,B⟩
 replace BB:BN w w11:=BB.out.trans B
 replace HN:PN w w11 bp [kA,k7,kZ] (tgA n k 5):=N
 clear N B
 go_wp2_with fail
 refine(D9 1 w11).mono ?_
 rintro e w12 ⟨rfl,B⟩
 replace BB:BN w w12:=BB.out.trans (B.mono (by have:=BB.out.size;simpa using this))
 replace HN:PN w w12 bp [kA,k7,kZ] (tgA n k 5):=HN.out.l B
 clear B
 go_wp2_with fail
 refine(Eg bp _ 14 _ _ k1 w12 (by decide) (by decide) HN.out).mono ?_
 rintro e w13 ⟨rfl,N,B⟩
 replace BB:BN w w13:=BB.out.trans B
 replace HN:PN w w13 bp ks4 (tgA n k 5):=N
 clear N B
 go_wp2_with fail
 refine(Am bp _ 14 _ _ 4 0 3 0 0 w13 (Dk n k 5) HN.out).mono ?_
 rintro e w14 ⟨rfl,N,B⟩
 replace BB:BN w w14:=BB.out.trans B
 replace HN:PN w w14 bp ks4 (tgA n k 6):=N
 clear N B
 go_wp2_with fail
 refine(D9 n w14).mono ?_
 rintro e w15 ⟨rfl,B⟩
 replace BB:BN w w15:=BB.out.trans (B.mono (by have:=BB.out.size;simpa using this))
 replace HN:PN w w15 bp ks4 (tgA n k 6):=HN.out.l B
 clear B
 go_wp2_with fail
 refine(Iu bp _ 14 _ _ (kI n) w15 (by decide) A2d ⟨(show (2:Int)≠4 by decide),rfl⟩ HN.out).mono ?_
 rintro e w16 ⟨rfl,N,B⟩
 replace BB:BN w w16:=BB.out.trans B
 replace HN:PN w w16 bp (ks5 n) (tgA n k 6):=N
 clear N B
 go_wp2_with fail
 refine(Am bp _ 14 _ _ 4 1 ((kIx ks4 (kI n))) 0 0 w16 (Dk n k 6) HN.out).mono ?_
 rintro e w17 ⟨rfl,N,B⟩
 replace BB:BN w w17:=BB.out.trans B
 replace HN:PN w w17 bp (ks5 n) (tgA n k 7):=N
 clear N B
 go_wp2_with fail
 refine(D9 1 w17).mono ?_
 rintro e w18 ⟨rfl,B⟩
 replace BB:BN w w18:=BB.out.trans (B.mono (by have:=BB.out.size;simpa using this))
 replace HN:PN w w18 bp (ks5 n) (tgA n k 7):=HN.out.l B
 clear B
 go_wp2_with fail
 refine(Jz bp _ 14 3 _ _ k1 w18 (len5 n) (old4 n).1 (old4 n).2 HN.out).mono ?_
 rintro e w19 ⟨rfl,N,B⟩
 replace BB:BN w w19:=BB.out.trans B
 replace HN:PN w w19 bp (ks5 n) (tgA n k 7):=N
 clear N B
 go_wp2_with fail
 refine(Am bp _ 14 _ _ 4 2 3 0 0 w19 (Dk n k 7) HN.out).mono ?_
 rintro e w20 ⟨rfl,N,B⟩
 replace BB:BN w w20:=BB.out.trans B
 replace HN:PN w w20 bp (ks5 n) (tgA n k 8):=N
 clear N B
 go_wp2_with fail
 refine(Am bp _ 14 _ _ 37 0 0 0 0 w20 (Dk n k 8) HN.out).mono ?_
 rintro e w21 ⟨rfl,N,B⟩
 replace BB:BN w w21:=BB.out.trans B
 replace HN:PN w w21 bp (ks5 n) (tgA n k 9):=N
 clear N B
 go_wp2_with fail
 refine(Am bp _ 14 _ _ 38 0 0 0 0 w21 (Dk n k 9) HN.out).mono ?_
 rintro e w22 ⟨rfl,N,B⟩
 replace BB:BN w w22:=BB.out.trans B
 replace HN:PN w w22 bp (ks5 n) (tgA n k 10):=N
 clear N B
 go_wp2_with fail
 refine(Am bp _ 14 _ _ 3 0 0 0 0 w22 (Dk n k 10) HN.out).mono ?_
 rintro e w23 ⟨rfl,N,B⟩
 replace BB:BN w w23:=BB.out.trans B
 replace HN:PN w w23 bp (ks5 n) (tgA n k 11):=N
 clear N B
 go_wp2_with fail
 refine(D9 k w23).mono ?_
 rintro e w24 ⟨rfl,B⟩
 replace BB:BN w w24:=BB.out.trans (B.mono (by have:=BB.out.size;simpa using this))
 replace HN:PN w w24 bp (ks5 n) (tgA n k 11):=HN.out.l B
 clear B
 go_wp2_with fail
 refine(Iu bp _ 14 _ _ (kI k) w24 (len5 n) (A2e n) ⟨(show (2:Int)≠4 by decide),rfl⟩ HN.out).mono ?_
 rintro e w25 ⟨rfl,N,B⟩
 replace BB:BN w w25:=BB.out.trans B
 replace HN:PN w w25 bp (ks6 n k) (tgA n k 11):=N
 clear N B
 go_wp2_with fail
 refine(Am bp _ 14 _ _ 4 8 ((kIx (ks5 n) (kI k))) 0 0 w25 (Dk n k 11) HN.out).mono ?_
 rintro e w26 ⟨rfl,N,B⟩
 replace BB:BN w w26:=BB.out.trans B
 replace HN:PN w w26 bp (ks6 n k) (tgA n k 12):=N
 clear N B
 go_wp2_with fail
 refine(Am bp _ 14 _ _ 18 8 6 0 (-9) w26 (Dk n k 12) HN.out).mono ?_
 rintro e w27 ⟨rfl,N,B⟩
 replace BB:BN w w27:=BB.out.trans B
 replace HN:PN w w27 bp (ks6 n k) (tgA n k 13):=N
 clear N B
 go_wp2_with fail
 refine(D9 0 w27).mono ?_
 rintro e w28 ⟨rfl,B⟩
 replace BB:BN w w28:=BB.out.trans (B.mono (by have:=BB.out.size;simpa using this))
 replace HN:PN w w28 bp (ks6 n k) (tgA n k 13):=HN.out.l B
 clear B
 go_wp2_with fail
 refine(Iu bp _ 14 _ _ (kI 0) w28 (len6 n k) (A2f n k) ⟨(show (2:Int)≠4 by decide),rfl⟩ HN.out).mono ?_
 rintro e w29 ⟨rfl,N,B⟩
 replace BB:BN w w29:=BB.out.trans B
 replace HN:PN w w29 bp (ks7 n k) (tgA n k 13):=N
 clear N B
 go_wp2_with fail
 refine(Am bp _ 14 _ _ 4 9 ((kIx (ks6 n k) (kI 0))) 0 0 w29 (Dk n k 13) HN.out).mono ?_
 rintro e w30 ⟨rfl,N,B⟩
 replace BB:BN w w30:=BB.out.trans B
 replace HN:PN w w30 bp (ks7 n k) (tgA n k 14):=N
 clear N B
 go_wp2_with fail
 refine(Am bp _ 14 _ _ 18 8 13 (-9) (-10) w30 (Dk n k 14) HN.out).mono ?_
 rintro e w31 ⟨rfl,N,B⟩
 replace BB:BN w w31:=BB.out.trans B
 replace HN:PN w w31 bp (ks7 n k) (tgA n k 15):=N
 clear N B
 go_wp2_with fail
 refine(Am bp _ 14 _ _ 21 (-9) 0 0 0 w31 (Dk n k 15) HN.out).mono ?_
 rintro e w32 ⟨rfl,N,B⟩
 replace BB:BN w w32:=BB.out.trans B
 replace HN:PN w w32 bp (ks7 n k) (tgA n k 16):=N
 clear N B
 go_wp2_with fail
 refine(Am bp _ 14 _ _ 5 8 0 0 0 w32 (Dk n k 16) HN.out).mono ?_
 rintro e w33 ⟨rfl,N,B⟩
 replace BB:BN w w33:=BB.out.trans B
 replace HN:PN w w33 bp (ks7 n k) (tgA n k 17):=N
 clear N B
 go_wp2_with fail
 refine(Am bp _ 14 _ _ 5 9 0 0 0 w33 (Dk n k 17) HN.out).mono ?_
 rintro e w34 ⟨rfl,N,B⟩
 replace BB:BN w w34:=BB.out.trans B
 replace HN:PN w w34 bp (ks7 n k) (tgA n k 18):=N
 clear N B
 go_wp2_with fail
 refine(Am bp _ 14 _ _ 13 4 (-9) (-10) 0 w34 (Dk n k 18) HN.out).mono ?_
 rintro e w35 ⟨rfl,N,B⟩
 replace BB:BN w w35:=BB.out.trans B
 replace HN:PN w w35 bp (ks7 n k) (tgA n k 19):=N
 clear N B
 go_wp2_with fail
 refine(Am bp _ 14 _ _ 5 8 0 0 0 w35 (Dk n k 19) HN.out).mono ?_
 rintro e w36 ⟨rfl,N,B⟩
 replace BB:BN w w36:=BB.out.trans B
 replace HN:PN w w36 bp (ks7 n k) (tgA n k 20):=N
 clear N B
 go_wp2_with fail
 refine(Jz bp _ 14 2 _ _ kZ w36 (len7 n k) (old7 n k).1 (old7 n k).2 HN.out).mono ?_
 rintro e w37 ⟨rfl,N,B⟩
 replace BB:BN w w37:=BB.out.trans B
 replace HN:PN w w37 bp (ks7 n k) (tgA n k 20):=N
 clear N B
 go_wp2_with fail
 refine(Am bp _ 14 _ _ 4 9 2 0 0 w37 (Dk n k 20) HN.out).mono ?_
 rintro e w38 ⟨rfl,N,B⟩
 replace BB:BN w w38:=BB.out.trans B
 replace HN:PN w w38 bp (ks7 n k) (tgA n k 21):=N
 clear N B
 go_wp2_with fail
 refine(Am bp _ 14 _ _ 13 4 (-9) (-10) 0 w38 (Dk n k 21) HN.out).mono ?_
 rintro e w39 ⟨rfl,N,B⟩
 replace BB:BN w w39:=BB.out.trans B
 replace HN:PN w w39 bp (ks7 n k) (tgA n k 22):=N
 clear N B
 go_wp2_with fail
 obtain⟨⟨kv,qv,tv,hB,hK,hR⟩,hlb⟩:=HN.out
 rcases Aj hR with ⟨_,h⟩|⟨g,sc,rfl,hr⟩
 ·simp[tgA]at h
 have qL:(tgA n k 22).length=22:=rfl
 have hR':w39.ownsRow (w.heap.size+1) 58 5 (.slice (some ⟨g,0,none⟩) 22 sc) 22 (ivs (tgA n k 22)):=hR
 have hB':Blk w39 bp (pnA 14 kv (.slice (some ⟨g,0,none⟩) 22 sc) tv) 66:=hB
 have x0:=hB'.cell
 have x1:=hR'.frozenAt
 have x2:w39.cell? ⟨g,77,none⟩=some (.int .i64 0):=Ai hR' (j:=77) rfl
 have HR:Hid (w39.ownsRow (w.heap.size+1) 58 5 (.slice (some ⟨g,0,none⟩) 22 sc) 22 (ivs (tgA n k 22))):=hR'
 have HB:Hid (Blk w39 bp (pnA 14 kv (.slice (some ⟨g,0,none⟩) 22 sc) tv) 66):=hB'
 have HK:Hid (w39.ownsRow (w.heap.size+1) 52 5 kv ((ks7 n k)).length (kvs (ks7 n k))):=hK
 have hgb:g≠bp:=fun e=>Dh hR' hB' (by decide) (by simp[e,Value.ownBlock])
 have hbg:bp≠g:=fun e=>hgb e.symm
 have x7:w39.cell? ⟨bp,7,none⟩=some (.slice (some ⟨g,0,none⟩) 22 sc):=x0 7
 clear hR hB hR' hB' hK hr x0
 go_region_held3 (fun w'=>w'.cell? ⟨bp,7,none⟩=some (.slice (some ⟨g,0,none⟩) 22 sc)) (go_keep)
  (first|(go_at_call 15;refine(A2n bp _ 14 _ _ _ (HN.out.l (Below.refl _ _).drew)).mono ?_;rintro e w77 ⟨rfl,rfl⟩))
 have C4:Chg [g] w39 (w39.setCell ⟨g,77,none⟩ (.int .i64 22)).drew:=((Chg.refl _ _).set (by simp) _ _).below (Below.refl _ _).drew
 have Y4:=HB.out.chg C4 (by simpa using hbg)
 have R4:(w39.setCell ⟨g,77,none⟩ (.int .i64 22)).drew.ownsRow (w.heap.size+1) 58 5 (.slice (some ⟨g,0,none⟩) 22 sc) 22 (ivs (tgB n k 22)):=Ab (HR.out.stored 77 (.int .i64 22)).1 (Below.refl _ _).drew
 have K4:=Ae HK.out (fun k hk=>C4.block k (by intro e;simp at e;subst e;exact Ka HK.out HR.out (by decide) hk (by simp[Value.ownBlock])) (HK.out.lt k hk).2)
 have hg:=(HR.out.lt g (by simp[Value.ownBlock])).1
 have B4:Below (w.heap.size+1) (w.alloc (.cells #[.slice none 0 0] 26)) (w39.setCell ⟨g,77,none⟩ (.int .i64 22)).drew:=BB.out.trans (C4.low (by have:=BB.out.size;simpa using this) (fun q hq=>by simp at hq;omega))
 replace HN:PN w (w39.setCell ⟨g,77,none⟩ (.int .i64 22)).drew bp (ks7 n k) (tgB n k 22):=(show Dm _ _ _ _ _ _ from ⟨⟨kv,.slice (some ⟨g,0,none⟩) 22 sc,tv,Y4,K4,R4⟩,hlb⟩)
 replace BB:BN w (w39.setCell ⟨g,77,none⟩ (.int .i64 22)).drew:=B4
 clear C4 Y4 R4 K4 B4 HB HR HK x1 x2 x7 hg hgb hbg qL
 revert HN BB
 generalize (w39.setCell ⟨g,77,none⟩ (.int .i64 22)).drew=w40
 intro HN BB
 go_wp2_with fail
 refine(Am bp _ 14 _ _ 4 8 0 0 0 w40 (A1s n k 22) HN.out).mono ?_
 rintro e w41 ⟨rfl,N,B⟩
 replace BB:BN w w41:=BB.out.trans B
 replace HN:PN w w41 bp (ks7 n k) (tgB n k 23):=N
 clear N B
 go_wp2_with fail
 refine(Am bp _ 14 _ _ 15 7 4 (-9) 0 w41 (A1s n k 23) HN.out).mono ?_
 rintro e w42 ⟨rfl,N,B⟩
 replace BB:BN w w42:=BB.out.trans B
 replace HN:PN w w42 bp (ks7 n k) (tgB n k 24):=N
 clear N B
 go_wp2_with fail
 refine(Am bp _ 14 _ _ 39 0 9 0 0 w42 (A1s n k 24) HN.out).mono ?_
 rintro e w43 ⟨rfl,N,B⟩
 replace BB:BN w w43:=BB.out.trans B
 replace HN:PN w w43 bp (ks7 n k) (tgB n k 25):=N
 clear N B
 go_wp2_with fail
 obtain⟨⟨kv,qv,tv,hB,hK,hR⟩,hlb⟩:=HN.out
 rcases Aj hR with ⟨_,h⟩|⟨g,sc,rfl,hr⟩
 ·simp[tgB]at h
 have qL:(tgB n k 25).length=25:=rfl
 have hR':w43.ownsRow (w.heap.size+1) 58 5 (.slice (some ⟨g,0,none⟩) 25 sc) 25 (ivs (tgB n k 25)):=hR
 have hB':Blk w43 bp (pnA 14 kv (.slice (some ⟨g,0,none⟩) 25 sc) tv) 66:=hB
 have x0:=hB'.cell
 have x1:=hR'.frozenAt
 have x2:w43.cell? ⟨g,47,none⟩=some (.int .i64 0):=Ai hR' (j:=47) rfl
 have HR:Hid (w43.ownsRow (w.heap.size+1) 58 5 (.slice (some ⟨g,0,none⟩) 25 sc) 25 (ivs (tgB n k 25))):=hR'
 have HB:Hid (Blk w43 bp (pnA 14 kv (.slice (some ⟨g,0,none⟩) 25 sc) tv) 66):=hB'
 have HK:Hid (w43.ownsRow (w.heap.size+1) 52 5 kv ((ks7 n k)).length (kvs (ks7 n k))):=hK
 have hgb:g≠bp:=fun e=>Dh hR' hB' (by decide) (by simp[e,Value.ownBlock])
 have hbg:bp≠g:=fun e=>hgb e.symm
 have x7:w43.cell? ⟨bp,7,none⟩=some (.slice (some ⟨g,0,none⟩) 25 sc):=x0 7
 clear hR hB hR' hB' hK hr x0
 go_region_held3 (fun w'=>w'.cell? ⟨bp,7,none⟩=some (.slice (some ⟨g,0,none⟩) 25 sc)) (go_keep)
  (first|(go_at_call 15;refine(A2n bp _ 14 _ _ _ (HN.out.l (Below.refl _ _).drew)).mono ?_;rintro e w77 ⟨rfl,rfl⟩))
 have C4:Chg [g] w43 (w43.setCell ⟨g,47,none⟩ (.int .i64 25)).drew:=((Chg.refl _ _).set (by simp) _ _).below (Below.refl _ _).drew
 have Y4:=HB.out.chg C4 (by simpa using hbg)
 have R4:(w43.setCell ⟨g,47,none⟩ (.int .i64 25)).drew.ownsRow (w.heap.size+1) 58 5 (.slice (some ⟨g,0,none⟩) 25 sc) 25 (ivs (tgC n k 25)):=Ab (HR.out.stored 47 (.int .i64 25)).1 (Below.refl _ _).drew
 have K4:=Ae HK.out (fun k hk=>C4.block k (by intro e;simp at e;subst e;exact Ka HK.out HR.out (by decide) hk (by simp[Value.ownBlock])) (HK.out.lt k hk).2)
 have hg:=(HR.out.lt g (by simp[Value.ownBlock])).1
 have B4:Below (w.heap.size+1) (w.alloc (.cells #[.slice none 0 0] 26)) (w43.setCell ⟨g,47,none⟩ (.int .i64 25)).drew:=BB.out.trans (C4.low (by have:=BB.out.size;simpa using this) (fun q hq=>by simp at hq;omega))
 replace HN:PN w (w43.setCell ⟨g,47,none⟩ (.int .i64 25)).drew bp (ks7 n k) (tgC n k 25):=(show Dm _ _ _ _ _ _ from ⟨⟨kv,.slice (some ⟨g,0,none⟩) 25 sc,tv,Y4,K4,R4⟩,hlb⟩)
 replace BB:BN w (w43.setCell ⟨g,47,none⟩ (.int .i64 25)).drew:=B4
 clear C4 Y4 R4 K4 B4 HB HR HK x1 x2 x7 hg hgb hbg qL
 revert HN BB
 generalize (w43.setCell ⟨g,47,none⟩ (.int .i64 25)).drew=w44
 intro HN BB
 go_wp2_with fail
 refine(A2y bp _ 14 _ _ w44 (len7 n k) (A5m n k) (Nat.le_trans (List.length_take_le _ _) (by decide)) HN.out).mono ?_
 rintro e wA ⟨rfl,N,B⟩
 replace BB:BN w wA:=BB.out.trans B
 replace HN:PN w wA bp (ks8 n k) ((tgC n k 25)++[⟨4,8,(kIx (ks7 n k) kB:Nat),0,0⟩,⟨22,9,0,0,0⟩,⟨23,9,7,0,0⟩,⟨28,9,-9,-10,0⟩,⟨42,9,0,0,0⟩]):=N
 clear N B
 go_wp2_with fail
 refine(A2o bp _ 14 (ks8 n k) _ wA (by rw[List.length_append];exact Nat.le_trans (Nat.add_le_add_right (show ((tgC n k 25)).length<=40 from Nat.le_trans (List.length_take_le _ _) (by decide)) _) (by simp)) HN.out).mono ?_
 rintro e wB ⟨rfl,N,B⟩
 replace BB:BN w wB:=BB.out.trans B
 replace HN:PN w wB bp (ks8 n k) (A11 n k true):=N
 clear N B
 obtain⟨⟨kv,qv,tv,hB,hK,hR⟩,hlb⟩:=HN.out
 have x0:=hB.cell
 have HK:Hid (wB.ownsRow (w.heap.size+1) 52 5 kv (ks8 n k).length (kvs (ks8 n k))):=hK
 have HR:Hid (wB.ownsRow (w.heap.size+1) 58 5 qv 32 (ivs (A11 n k true))):=hR
 have Z:=(Blk.new w #[.slice none 0 0] 26).l (by simpa using BB.out)
 have Za:=fun o=>(Z.alloc o).cell
 have Zf:=fun o=>(Z.alloc o).frozen
 clear hB hK hR
 go_wp2_with fail
 have s17:=BB.out.size
 simp only[World.size_alloc]at s17
 have A1:Below wB.heap.size wB (wB.alloc (.cells (pr6 ⟨#[109,97,105,110]⟩ 0 14 (.slice none 0 0) kv qv (.slice none 0 0)) 63)):=(Below.refl _ _).alloc (Nat.le_refl _) _
 have C5:Chg [w.heap.size] (wB.alloc (.cells (pr6 ⟨#[109,97,105,110]⟩ 0 14 (.slice none 0 0) kv qv (.slice none 0 0)) 63)) ((wB.alloc (.cells (pr6 ⟨#[109,97,105,110]⟩ 0 14 (.slice none 0 0) kv qv (.slice none 0 0)) 63)).setCell ⟨w.heap.size,0,none⟩ (.slice (some ⟨wB.heap.size,0,none⟩) 1 1)):=(Chg.refl _ _).set (by simp) _ _
 have P:=(Blk.new wB (pr6 ⟨#[109,97,105,110]⟩ 0 14 (.slice none 0 0) kv qv (.slice none 0 0)) 63).chg C5 (by simp;omega)
 have K5:=Ae (Ab HK.out A1) (fun k hk=>C5.block k (by have:=(HK.out.lt k hk).1;simp;omega) ((Ab HK.out A1).lt k hk).2)
 have R5:=Ae (Ab HR.out A1) (fun k hk=>C5.block k (by have:=(HR.out.lt k hk).1;simp;omega) ((Ab HR.out A1).lt k hk).2)
 have F5:Below w.heap.size w ((wB.alloc (.cells (pr6 ⟨#[109,97,105,110]⟩ 0 14 (.slice none 0 0) kv qv (.slice none 0 0)) 63)).setCell ⟨w.heap.size,0,none⟩ (.slice (some ⟨wB.heap.size,0,none⟩) 1 1)):=((A0.trans ((BB.out.mono (Nat.le_succ _)).trans (A1.mono (by omega))))).trans (C5.low (by simp;omega) (fun q hq=>by simp at hq;omega))
 have Z5:=((Z.alloc (.cells (pr6 ⟨#[109,97,105,110]⟩ 0 14 (.slice none 0 0) kv qv (.slice none 0 0)) 63)).set 0 (.slice (some ⟨wB.heap.size,0,none⟩) 1 1)).cell
 generalize hW5:(wB.alloc (.cells #[.string ⟨#[109,97,105,110]⟩,.int .i64 0,.int .i64 0,.bool false,.int .i64 14,.slice none 0 0,kv,qv,.slice none 0 0] 63)).setCell ⟨w.heap.size,0,none⟩ (.slice (some ⟨wB.heap.size,0,none⟩) 1 1)=W5
 have e5:(wB.alloc (.cells (pr6 ⟨#[109,97,105,110]⟩ 0 14 (.slice none 0 0) kv qv (.slice none 0 0)) 63)).setCell ⟨w.heap.size,0,none⟩ (.slice (some ⟨wB.heap.size,0,none⟩) 1 1)=W5:=hW5
 rw[e5]at P K5 R5 F5 Z5
 clear C5 A1 Za Zf hW5 e5
 have z0:W5.cell? ⟨w.heap.size,0,none⟩=some (.slice (some ⟨wB.heap.size,0,none⟩) 1 1):=Z5 0
 refine bodyPost_ret (v:=.agg #[.slice (some ⟨wB.heap.size,0,none⟩) 1 1]) (by simp[results,results5,go_sem,z0]) rfl ?_
 exact⟨wB.heap.size,w.heap.size+1,kv,qv,rfl,P,by omega,K5,R5,by omega,F5⟩
end Go.Proofs.YtbefeflgjipfhaaGreatDoor
