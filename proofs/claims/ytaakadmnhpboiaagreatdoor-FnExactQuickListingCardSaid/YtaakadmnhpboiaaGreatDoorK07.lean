import Derived.Test.YtaakadmnhpboiaaGreatDoorK06
import Derived.Lib.Builder
import Derived.Lib.OthersKept
import Derived.Shelf.Lay
import Derived.Shelf.Strings.Builder1
import Derived.Shelf.Strings.BuilderF
import Derived.Shelf.Strings.BuilderK
import Derived.Shelf.LaysM
import Derived.Shelf.Strconv.Itoa3
import Derived.Deep.RegionHeld3
import Derived.Test.YtaakadmnhpboiaaGreatDoorK08
import Derived.Test.YtaakadmnhpboiaaGreatDoorCards
import Derived.Test.YtaakadmnhpboiaaGreatDoorTie
import Derived.WalkKit
import Derived.ProofKit
import Derived.OpenShut
import Derived.OpenVars
import Derived.Deep.DeepHandedRow
import Derived.Lib.LaidTab
namespace Go.Proofs.YtaakadmnhpboiaaGreatDoor
open Go.RowKit Go.Deep
theorem decB_size {x:Int} (h:I64 x):(decB x).size≤21:=by
 show (Lib.itoa x).toArray.size≤21
 simpa using itoa_few h
theorem nameB_size (k:Nat):(nameB k).size≤8:=by
 show (nameTab.getD k []).toArray.size≤8
 simpa using name_few k
theorem strOfNums_bytes (l:List UInt8):strOfNums (l.map fun b=>(b.toNat:Int))=⟨l.toArray⟩:=by
 refine bytes_ext ?_
 simp only [strOfNums,List.map_map]
 exact (List.map_congr_left (fun b _=>by simp)).trans (List.map_id l)
theorem conv_own {w:World} {base:Nat} {v:Value} {l:List UInt8} (h:w.ownsRow base 5 1 v l.length (Lib.byteCells l)):(convert 69 9 v).run Tryz.prog w=.ok (.string ⟨l.toArray⟩) w:=by
 have h0:=h
 obtain⟨h1,⟨rfl,h2⟩ | ⟨g,cap,cur,rfl,_⟩⟩:=h
 ·have hl:l=[]:=List.length_eq_zero_iff.1 h2
  subst hl
  exact run_convert_bytes_nil w 69 5 Tryz.underlying69 Tryz.underlying5 _ _ _ Tryz.underlying9
 ·have:=run_convert_bytes_arg w 69 5 Tryz.underlying69 Tryz.underlying5 g 0 l.length cap (l.map fun b=>(b.toNat:Int)) (by simp) (fun i hi=>by
   rw [Nat.zero_add,h0.cellAt i (by omega),Lib.byteCells,List.getElem?_map,List.getElem?_eq_getElem hi]
   simp [List.getD_eq_getElem?_getD,hi]) 9 Tryz.underlying9
  rw [strOfNums_bytes] at this
  exact this
theorem six_cells {q1 q2 q3 q4 q5 q6:Int} {j:Nat} : (#[.int .i64 q1,.int .i64 q2,.int .i64 q3,.int .i64 q4,.int .i64 q5,.int .i64 q6]:Array Value)[j]?=([q1,q2,q3,q4,q5,q6][j]?).map (Value.int .i64):=by
 rw [←List.getElem?_map]
 simp
set_option maxRecDepth 100000 in
set_option maxHeartbeats 8000000 in
theorem specListing_any (co:Option Addr) (cap:Nat) (ps:List Pd) (w:World) (hfi:Fine ps) (hv:ProtosAt 0 w co ps) :
  Calls Tryz.prog 18 #[.agg #[.slice co ps.length cap]] w fun e w'=>e=.returned (.string ⟨(listL (qOf ps) (qOf ps).length).toArray⟩)∧Below w.heap.size w w':=by
 have hl:ps.length≤1048576:=by have:=hfi.bulk;unfold bulkPs at this;omega
 have hql:=qOf_len hl
 have hqe:=qOf_each (fun p hp=>(hfi.few p hp).ins)
 have hqw:=qOf_w hfi
 have hln:=lnN_few hfi
 have HLL:Hid (∀k qs i,(qOf ps)[k]?=some qs→i≤qs.length→(listL (qOf ps) k ++ linesL k qs i).length+400≤70368744177664):=by
  intro k qs i hk hi
  have hkl:=(List.getElem?_eq_some_iff.1 hk).1
  have hmem:=List.mem_of_getElem? hk
  have h1:=listL_few hql hqe hqw k (by omega)
  have h2:=linesL_few (p:=k) (by omega) (hqe qs hmem) (hqw qs hmem) i hi
  have h3:=hln k (by omega)
  have h4:=hqe qs hmem
  rw [List.length_append]
  omega
 have C0:=Blk.new w #[.slice co ps.length cap] 31
 have B0:Below w.heap.size w (w.alloc (.cells #[.slice co ps.length cap] 31)):=(Below.refl _ _).alloc (Nat.le_refl _) _
 obtain⟨n,hnq⟩:∃n,n=(qOf ps).length:=⟨_,rfl⟩
 obtain⟨m,hmq⟩:∃m,m=cOf ps:=⟨_,rfl⟩
 have HSP:Hid (∀_:Unit,Calls Tryz.prog 12 #[.agg #[.slice co ps.length cap]] (w.alloc (.cells #[.slice co ps.length cap] 31)) fun e w'=>∃ao' cap',e=.returned (.agg #[.slice ao' n cap',.int .i64 m])∧QpsAt 0 w' ao' (qOf ps)∧Below (w.alloc (.cells #[.slice co ps.length cap] 31)).heap.size (w.alloc (.cells #[.slice co ps.length cap] 31)) w'):=fun _=>by
  have:=specPrep co cap ps (w.alloc (.cells #[.slice co ps.length cap] 31)) hfi (hv.later (Keeps.of_below B0));rw [←hnq,←hmq] at this;exact this
 have HN:Hid (n=(qOf ps).length):=hnq
 have HQE:Hid (∀qs ∈ qOf ps,qs.length≤1048576):=hqe
 have HQW:Hid (∀qs ∈ qOf ps,∀q ∈ qs,QW q):=hqw
 have hn1:n≤1048576:=by omega
 rw [←hnq]
 clear hnq hmq hfi hv hqe hqw hln hql hl
 generalize qOf ps=qss at *
 go_enter Tryz.func18,Tryz.ntmps18
 have c0:=C0.cell
 go_wp2_with fail
 refine (HSP.out ()).mono ?_
 rintro e w1 ⟨ao,cp,rfl,Q1,hw1⟩
 have B1:=B0.trans (hw1.mono B0.size)
 have S1:=Blk.new w1 #[.slice ao n cp,.int .i64 m] 38
 have A1:Below w1.heap.size w1 (w1.alloc (.cells #[.slice ao n cp,.int .i64 m] 38)):=(Below.refl _ _).alloc (Nat.le_refl _) _
 have B2:=B1.trans (A1.mono B1.size)
 have HQ2:Hid (QpsAt 0 (w1.alloc (.cells #[.slice ao n cp,.int .i64 m] 38)) ao qss):=Q1.later (Keeps.of_below A1)
 clear hw1 B0 B1 C0 c0 HSP Q1 A1
 have s1:=S1.cell
 go_wp2_with fail
 generalize hw2e:w1.alloc (.cells #[.slice ao n cp,.int .i64 m] 38)=w2 at *
 clear hw2e S1 s1
 go_loopw [17,4] (fun y v wr=>∃k:Nat,k≤n∧y=.int .i64 k∧Hid (wr.ownsRow w2.heap.size 5 1 v (listL qss k).length (Lib.byteCells (listL qss k)))∧Hid (Below w2.heap.size w2 wr)) (fun y _ _=>n - (intOf y).toNat)
 case atStart=>exact ⟨0,Nat.zero_le _,rfl,World.ownsRow_nil _ _ _ _,Below.refl _ _⟩
 case round=>
  obtain⟨k,hk,rfl,HO,HB⟩:=hrel
  obtain⟨wo,hwo⟩:∃wo,wo=wr:=⟨_,rfl⟩
  subst hwo
  by_cases hlt:k<n
  ·obtain⟨qs,hqs⟩:=some_of_lt (show k<qss.length by have:=HN.out;omega)
   obtain⟨b,off,e,_,hbl,io,ic,d0,hqi⟩:=HQ2.out k qs hqs
   subst e
   rw [Nat.mul_one] at d0
   replace d0:=(HB.out.cell (p:=⟨b,off+k,none⟩) hbl).trans d0
   have HQI:Hid (QisAt 0 w2 io qs):=hqi
   have HQS:Hid (qss[k]?=some qs):=hqs
   have hqsl:qs.length≤1048576:=HQE.out qs (List.mem_of_getElem? hqs)
   have hkl:(k:Int)<n:=by omega
   clear hqi hqs
   go_wp2_with fail
   clear d0
   have I0:Below wo.heap.size wo (wo.alloc (.cells #[.slice io qs.length ic] 65)):=(Below.refl _ _).alloc (Nat.le_refl _) _
   go_loopw [25,4] (fun y v wr=>∃i:Nat,i≤qs.length∧y=.int .i64 i∧Hid (wr.ownsRow w2.heap.size 5 1 v (listL qss k ++ linesL k qs i).length (Lib.byteCells (listL qss k ++ linesL k qs i)))∧Hid (Below w2.heap.size w2 wr)) (fun y _ _=>qs.length - (intOf y).toNat)
   case atStart=>
    refine⟨0,Nat.zero_le _,rfl,?_,HB.out.trans (I0.mono HB.out.size)⟩
    show World.ownsRow _ _ _ _ _ _ _
    simp only [linesL,List.append_nil]
    exact owns_below HO.out I0
   case round=>
    obtain⟨i,hi,rfl,HO2,HB2⟩:=hrel
    obtain⟨wi,hwi⟩:∃wi,wi=wr:=⟨_,rfl⟩
    subst hwi
    clear I0
    by_cases hil:i<qs.length
    ·obtain⟨q,hqi⟩:=some_of_lt hil
     have HQ:Hid (qs[i]?=some q):=hqi
     have hw:=HQW.out qs (List.mem_of_getElem? HQS.out) q (List.mem_of_getElem? hqi)
     obtain⟨b',off',e,_,hbl',r0,r1,r2,r3,r4,r5,r6⟩:=HQI.out.later (Keeps.of_below HB2.out) i q hqi
     subst e
     obtain⟨q0,q1,q2,q3,q4,q5,q6⟩:=q
     obtain⟨⟨ho1,ho2⟩,hsix⟩:=hw
     dsimp only [Qd.six] at *
     obtain⟨oN,rfl⟩:∃oN:Nat,q0=oN:=⟨q0.toNat,by omega⟩
     have hoN:oN<47:=by omega
     have hik:(i:Int)<qs.length:=by omega
     have hk64:I64 (k:Int):=⟨by omega,by omega⟩
     have hi64:I64 (i:Int):=⟨by omega,by omega⟩
     have z1:=decB_size hk64
     have z2:=decB_size hi64
     have z3:=nameB_size oN
     have HD1:Hid (∀W,Calls Tryz.prog 34 #[.int .i64 k] W fun e w'=>e=.returned (.string (decB k))∧Below W.heap.size W w'):=fun W=>l1decimal_any k W hk64.1 hk64.2
     have HD2:Hid (∀W,Calls Tryz.prog 34 #[.int .i64 i] W fun e w'=>e=.returned (.string (decB i))∧Below W.heap.size W w'):=fun W=>l1decimal_any i W hi64.1 hi64.2
     have HNM:Hid (∀W,Calls Tryz.prog 35 #[.int .i64 oN] W fun e w'=>e=.returned (.string (nameB oN))∧Below W.heap.size W w'):=fun W=>l6name_any oN W hoN
     have HQ0:Hid (Blk (wi.alloc (.cells #[.int .i64 (oN:Int),.int .i64 q1,.int .i64 q2,.int .i64 q3,.int .i64 q4,.int .i64 q5,.int .i64 q6] 60)).drew wi.heap.size #[.int .i64 (oN:Int),.int .i64 q1,.int .i64 q2,.int .i64 q3,.int .i64 q4,.int .i64 q5,.int .i64 q6] 60):=Blk.new wi #[.int .i64 (oN:Int),.int .i64 q1,.int .i64 q2,.int .i64 q3,.int .i64 q4,.int .i64 q5,.int .i64 q6] 60
     have HSX:Hid (∀x ∈ [q1,q2,q3,q4,q5,q6],I64 x):=hsix
     have a1:∀W,(Op.stringOp .add (decB (k:Int)) ⟨#[58]⟩).run Tryz.prog W=.ok (.string (decB (k:Int) ++ ⟨#[58]⟩)) W:=fun W=>run_string_add_sum W _ _ (by show (decB (k:Int)).size+1≤_;omega)
     have y1:(decB (k:Int) ++ ⟨#[58]⟩).size≤22:=by rw [ByteArray.size_append];show (decB (k:Int)).size+1≤22;omega
     have a2:∀W,(Op.stringOp .add (decB (k:Int) ++ ⟨#[58]⟩) (decB (i:Int))).run Tryz.prog W=.ok (.string (decB (k:Int) ++ ⟨#[58]⟩ ++ decB (i:Int))) W:=fun W=>run_string_add_sum W _ _ (by omega)
     have y2:(decB (k:Int) ++ ⟨#[58]⟩ ++ decB (i:Int)).size≤43:=by rw [ByteArray.size_append];omega
     have a3:∀W,(Op.stringOp .add (decB (k:Int) ++ ⟨#[58]⟩ ++ decB (i:Int)) ⟨#[32]⟩).run Tryz.prog W=.ok (.string (decB (k:Int) ++ ⟨#[58]⟩ ++ decB (i:Int) ++ ⟨#[32]⟩)) W:=fun W=>run_string_add_sum W _ _ (by show (decB (k:Int) ++ ⟨#[58]⟩ ++ decB (i:Int)).size+1≤_;omega)
     have y3:(decB (k:Int) ++ ⟨#[58]⟩ ++ decB (i:Int) ++ ⟨#[32]⟩).size≤44:=by rw [ByteArray.size_append];show (decB (k:Int) ++ ⟨#[58]⟩ ++ decB (i:Int)).size+1≤44;omega
     have a4:∀W,(Op.stringOp .add (decB (k:Int) ++ ⟨#[58]⟩ ++ decB (i:Int) ++ ⟨#[32]⟩) (nameB oN)).run Tryz.prog W=.ok (.string (decB (k:Int) ++ ⟨#[58]⟩ ++ decB (i:Int) ++ ⟨#[32]⟩ ++ nameB oN)) W:=fun W=>run_string_add_sum W _ _ (by omega)
     have HZ:Hid ((decB (k:Int) ++ ⟨#[58]⟩ ++ decB (i:Int) ++ ⟨#[32]⟩ ++ nameB oN).size≤52):=by show _≤_;rw [ByteArray.size_append];omega
     clear hqi hsix ho1 ho2 hk64 hi64 y1 y2 y3 z1 z2 z3
     go_wp2_with fail
     have e0:=HQ0.out.cell
     go_region_held3 (fun W=>∀o,W.cell? ⟨wi.heap.size,o,none⟩=(#[.int .i64 (oN:Int),.int .i64 q1,.int .i64 q2,.int .i64 q3,.int .i64 q4,.int .i64 q5,.int .i64 q6]:Array Value)[o]?) (first | with_reducible exact e0 | with_reducible exact f0 | with_reducible exact g0 | with_reducible exact h0)
      (first
       | (go_at_call_of 34 (Value.int IntKind.i64 (k:Int));refine (HD1.out _).mono ?_;rintro e w3 ⟨rfl,hw3⟩;have H3:=HQ0.out.later hw3;have f0:=H3.cell)
       | (go_at_call_of 34 (Value.int IntKind.i64 (i:Int));refine (HD2.out _).mono ?_;rintro e w4 ⟨rfl,hw4⟩;have H4:=H3.later hw4;have g0:=H4.cell)
       | (go_at_call 35;refine (HNM.out _).mono ?_;rintro e w5 ⟨rfl,hw5⟩;have H5:=H4.later hw5;have h0:=H5.cell))
     have BW:Below wi.heap.size wi w5:=((((Below.refl _ _).alloc (Nat.le_refl _) (.cells #[.int .i64 (oN:Int),.int .i64 q1,.int .i64 q2,.int .i64 q3,.int .i64 q4,.int .i64 q5,.int .i64 q6] 60)).drew.trans (hw3.mono (by simp))).trans (hw4.mono (Nat.le_trans (by simp) hw3.size))).trans (hw5.mono (Nat.le_trans (Nat.le_trans (by simp) hw3.size) hw4.size))
     have HO5:Hid (w5.ownsRow w2.heap.size 5 1 u4 (listL qss k ++ linesL k qs i).length (Lib.byteCells (listL qss k ++ linesL k qs i))):=owns_below HO2.out BW
     have HB5:Hid (Below w2.heap.size w2 w5):=HB2.out.trans (BW.mono HB2.out.size)
     have HHD:Hid ((decB (k:Int) ++ ⟨#[58]⟩ ++ decB (i:Int) ++ ⟨#[32]⟩ ++ nameB oN).data.toList=headL k i ⟨oN,q1,q2,q3,q4,q5,q6⟩):=by
      show _=_
      simp [headL,decB,nameB,ByteArray.data_append]
     have hz5:=HZ.out
     generalize decB (k:Int) ++ ⟨#[58]⟩ ++ decB (i:Int) ++ ⟨#[32]⟩ ++ nameB oN=hd at *
     have HHZ:Hid (hd.size≤52):=hz5
     clear BW hw3 hw4 hw5 H3 H4 H5 e0 f0 g0 HQ0 HZ r0 r1 r2 r3 r4 r5 r6 a1 a2 a3 a4 HO2 HB2 HNM HD1 HD2
     go_wp2_with fail
     clear h0
     have S0:=Blk.new w5 #[.int .i64 q1,.int .i64 q2,.int .i64 q3,.int .i64 q4,.int .i64 q5,.int .i64 q6] 3
     have L0:Below w5.heap.size w5 (w5.alloc (.cells #[.int .i64 q1,.int .i64 q2,.int .i64 q3,.int .i64 q4,.int .i64 q5,.int .i64 q6] 3)):=(Below.refl _ _).alloc (Nat.le_refl _) _
     go_loopw [55,9] (fun y z wr=>∃(j:Nat) (st:ByteArray),j≤6∧y=.int .i64 j∧z=.string st∧st.size≤52+j*22∧Hid (st.data.toList=headL k i ⟨oN,q1,q2,q3,q4,q5,q6⟩ ++ fieldsL ([q1,q2,q3,q4,q5,q6].take j))∧Hid (Below w5.heap.size w5 wr)∧Blk wr w5.heap.size #[.int .i64 q1,.int .i64 q2,.int .i64 q3,.int .i64 q4,.int .i64 q5,.int .i64 q6] 3) (fun y _ _=>6 - (intOf y).toNat)
     case atStart=>exact ⟨0,hd,Nat.zero_le _,rfl,rfl,by have:=HHZ.out;omega,by show _=_;rw [HHD.out];simp [fieldsL],L0,S0⟩
     case round=>
      obtain⟨j,st,hj,rfl,rfl,hst,HST,HBL,S1⟩:=hrel
      clear S0 L0
      have s1:=S1.cell
      by_cases hj6:j<6
      ·obtain⟨x,hx⟩:=some_of_lt (show j < [q1,q2,q3,q4,q5,q6].length from hj6)
       have hc:wr.cell? ⟨w5.heap.size,j,none⟩=some (.int .i64 x):=(S1.cell j).trans (by rw [six_cells,hx];rfl)
       have hx64:=HSX.out x (List.mem_of_getElem? hx)
       have zx:=decB_size hx64
       have HD3:Hid (∀W,Calls Tryz.prog 34 #[.int .i64 x] W fun e w'=>e=.returned (.string (decB x))∧Below W.heap.size W w'):=fun W=>l1decimal_any x W hx64.1 hx64.2
       have HTK:Hid ([q1,q2,q3,q4,q5,q6].take (j+1)=[q1,q2,q3,q4,q5,q6].take j ++ [x]):=by
        show _=_
        rw [List.take_add_one,hx];rfl
       have k6:(j:Int)<6:=by omega
       clear hx s1
       go_wp2_with fail
       refine (HD3.out _).mono ?_
       rintro e w6 ⟨rfl,hw6⟩
       have S2:=S1.later hw6
       have HBL2:Hid (Below w5.heap.size w5 w6):=HBL.out.trans (hw6.mono HBL.out.size)
       have HNS:Hid ((st ++ (⟨#[32]⟩ ++ decB x)).data.toList=headL k i ⟨oN,q1,q2,q3,q4,q5,q6⟩ ++ fieldsL ([q1,q2,q3,q4,q5,q6].take (j+1))):=by
        show _=_
        rw [ByteArray.data_append,Array.toList_append,HST.out,HTK.out,fieldsL_append,List.append_assoc]
        simp [fieldsL,decB,ByteArray.data_append]
       have hns:(st ++ (⟨#[32]⟩ ++ decB x)).size≤52+(j+1)*22:=by
        rw [ByteArray.size_append,ByteArray.size_append]
        show st.size+(1+(decB x).size)≤_
        omega
       clear hw6 hc S1
       go_wp2_with fail
       go_roundw
       case rel=>exact ⟨j+1,_,by omega,by go_num,rfl,hns,HNS.out,HBL2.out,S2⟩
       case measure=>simp [intOf];omega
      ·obtain rfl:j=6:=by omega
       have HLN:Hid (st.data.toList ++ [10]=lineL k i ⟨oN,q1,q2,q3,q4,q5,q6⟩):=by
        show _=_
        rw [HST.out]
        rfl
       have HOW:Hid (wr.ownsRow w2.heap.size 5 1 u4 (listL qss k ++ linesL k qs i).length (Lib.byteCells (listL qss k ++ linesL k qs i))):=owns_below HO5.out HBL.out
       have HBW:Hid (Below w2.heap.size w2 wr):=HB5.out.trans (HBL.out.mono HB5.out.size)
       have hll:=HLL.out k qs i HQS.out (Nat.le_of_lt hil)
       have HSS:Hid (linesL k qs (i+1)=linesL k qs i ++ lineL k i ⟨oN,q1,q2,q3,q4,q5,q6⟩):=linesL_step HQ.out
       clear s1 S1 HBL HST HO5 HB5
       generalize hLL:listL qss k ++ linesL k qs i=LL at *
       obtain⟨l1,hl1⟩:∃l1,l1=LL ++ st.data.toList:=⟨_,rfl⟩
       obtain⟨l2,hl2⟩:∃l2,l2=l1 ++ [10]:=⟨_,rfl⟩
       have HL1:Hid (l1=LL ++ st.data.toList):=hl1
       have HL2:Hid (l2=l1 ++ [10]):=hl2
       have HEQ:Hid (listL qss k ++ linesL k qs i=LL):=hLL
       have hlen:l1.length≤70368744177664:=by
        rw [hl1,List.length_append]
        have:st.data.toList.length=st.size:=Array.length_toList
        omega
       clear hl1 hl2 hLL
       go_wp2_with (at_builtin;refine app_str rfl _ _ rfl w2.heap.size u4 LL st l1 HL1.out rfl HOW.out rfl ?_ ?_ ?_)
       ·omega
       ·exact HBW.out.size
       intro v1 w7 H1 G1
       have HB7:Hid (Below w2.heap.size w2 w7):=HBW.out.trans (below_of_grown G1 HBW.out.size (fun b hb=>(HOW.out.lt b hb).1))
       clear HOW HBW G1
       go_wp2_with (at_builtin;refine app_b rfl _ _ rfl w2.heap.size v1 l1 w7.heap.size l2 HL2.out rfl ?_ rfl (Blk.new _ _ _) hlen ?_ ?_)
       ·exact owns_below H1 ((Below.refl _ _).alloc (Nat.le_refl _) _)
       ·exact Nat.le_trans HB7.out.size (by simp)
       intro v2 w8 H2 G2
       have HB8:Hid (Below w2.heap.size w2 w8):=by
        have h1:=HB7.out.trans (((Below.refl w7.heap.size w7).alloc (Nat.le_refl _) (.cells #[.int .u8 10] 5)).mono HB7.out.size)
        exact h1.trans (below_of_grown G2 h1.size (fun b hb=>(H1.lt b hb).1))
       have HO8:Hid (w8.ownsRow w2.heap.size 5 1 v2 (listL qss k ++ linesL k qs (i+1)).length (Lib.byteCells (listL qss k ++ linesL k qs (i+1)))):=by
        have h1:listL qss k ++ linesL k qs (i+1)=l2:=by rw [HL2.out,HL1.out,←HEQ.out,HSS.out,←HLN.out];simp
        rw [h1];exact H2
       have hi1:i+1≤qs.length:=hil
       clear H1 H2 G2
       go_wp2_with fail
       go_roundw
       case rel=>exact ⟨i+1,hi1,by go_num,HO8.out,HB8.out⟩
       case measure=>simp [intOf];omega
    ·obtain rfl:i=qs.length:=Nat.le_antisymm hi (Nat.le_of_not_lt hil)
     have HO8:Hid (wi.ownsRow w2.heap.size 5 1 u4 (listL qss (k+1)).length (Lib.byteCells (listL qss (k+1)))):=by
      rw [listL_step HQS.out];exact HO2.out
     have hk1:k+1≤n:=hlt
     clear hil
     go_wp2_with fail
     go_roundw
     case rel=>exact ⟨k+1,hk1,by go_num,HO8.out,HB2.out⟩
     case measure=>simp [intOf];omega
  ·obtain rfl:k=n:=Nat.le_antisymm hk (Nat.le_of_not_lt hlt)
   have hcv:=conv_own HO.out
   have HBF:=B2.trans (HB.out.mono B2.size)
   go_wp2_with fail
   go_ret
   exact⟨rfl,HBF⟩
theorem OthersKept.setB (e:TypeId) (b i:Nat) (x:Value) (w:World):Lib.OthersKept e (some b) w (w.setCell ⟨b,i,none⟩ x):=fun k o hk hb _=>
 (Below.heap_setCell _ _ _ _ (fun h=>hb (by rw [h]))).trans hk
theorem OthersKept.grownB {e:TypeId} {b:Nat} {w w':World} {row:Option Nat} (hg:w.grownBy w' row) (hr:∀k,row=some k→∃c fz,w.heap[k]?=some (.cells c e fz)):Lib.OthersKept e (some b) w w':=fun k o hk _ ho=>by
 refine (hg.block k (Array.getElem?_eq_some_iff.1 hk).1 (fun h=>?_)).trans hk
 obtain⟨c,fz,hc⟩:=hr k h.symm
 exact ho c fz (Option.some.inj (hk.symm.trans hc))
theorem OthersKept.below {e:TypeId} {b:Option Nat} {w w':World} (h:Below w.heap.size w w'):Lib.OthersKept e b w w':=fun k _ hk _ _=>(h.block k (Array.getElem?_eq_some_iff.1 hk).1).trans hk
theorem owns_row {w:World} {B e n:Nat} {v:Value} {xs:List Value} (h:w.ownsRow B e 1 v n xs):∀k,v.ownBlock=some k→∃c fz,w.heap[k]?=some (.cells c e fz):=by
 intro k hk
 obtain⟨_,⟨rfl,_⟩ | ⟨g,cap,cur,rfl,_,hc,_⟩⟩:=h
 ·cases hk
 ·obtain rfl:g=k:=Option.some.inj hk
  exact⟨cur,_,hc⟩
theorem Tryz.size_Builder:(Tryz.prog.info? 75).map (·.size)=some 2:=by kernel_rfl
theorem Tryz.lies_Builder:liesAt Tryz.prog Tryz.prog.depth 75 (2 / Tryz.prog.cellsOf 75) 0 75 1=true:=by kernel_rfl
set_option maxRecDepth 100000 in
set_option maxHeartbeats 400000 in
theorem copyCheck_own (B b:Nat) (bs:List Value) (w:World) (h:Lib.IsBuilder 75 5 B b bs w) :
  Calls Tryz.prog 84 #[.pointer (some ⟨b,0,none⟩)] w fun e w'=>e=.returned (.tuple #[])∧Lib.BuilderAt 75 5 B b (.pointer (some ⟨b,0,none⟩)) bs w'∧Below B w w'∧Lib.OthersKept 5 (some b) w w':=by
 obtain⟨jj,hj,hjs⟩:=Option.map_eq_some_iff.1 Tryz.size_Builder
 rcases h with h | h
 ·have hto:=fun W (hW:W=w)=>(show (convert 73 202 (.pointer (some ⟨b,0,none⟩))).run Tryz.prog W=.ok (.pointer (some ⟨b,0,none⟩)) W by subst hW;exact Lib.run_to_unsafe W ⟨b,0,none⟩ Tryz.underlying73 Tryz.underlying202 hj (by rw [hjs];decide) h.shape (Nat.zero_lt_succ 1))
  have hfr:=fun W (hW:W=w)=>(show (convert 202 73 (.pointer (some ⟨b,0,none⟩))).run Tryz.prog W=.ok (.pointer (some ⟨b,0,none⟩)) W by subst hW;exact Lib.run_from_unsafe W ⟨b,0,none⟩ Tryz.underlying202 Tryz.underlying73 hj h.shape Tryz.lies_Builder)
  replace hto:=hto w rfl
  replace hfr:=hfr w rfl
  have hU:=h.used (.pointer (some ⟨b,0,none⟩))
  obtain⟨hB,v,hb,ho,hn⟩:=h
  have X:Blk w b #[.pointer none,v] 75:=hb
  have c0:=X.cell
  have f0:=X.frozen
  have hne:∀(x:Value) (W:World),(callFunc 132 #[x]).run Tryz.prog W=.ok (.value x) W:=fun x W=>by
   rw [run_callFunc_extern Tryz.func132 (by kernel_rfl) (by kernel_rfl) (by kernel_rfl) (e:=Extern.AbiNoEscape.same) (by kernel_rfl),Lib.run_noEscape]
   rfl
  go_enter Tryz.func84,Tryz.ntmps84
  go_wp2_with fail
  go_end0
  exact⟨rfl,hU,(Below.refl B w).setCell (p:=⟨b,0,none⟩) hB _,OthersKept.setB _ _ _ _ _⟩
 ·have hnq:=Lib.run_neq_ptr_same w ⟨b,0,none⟩ Tryz.underlying73 hj
  have hh:=h
  obtain⟨hB,v,hb,ho,hn⟩:=h
  have X:Blk w b #[.pointer (some ⟨b,0,none⟩),v] 75:=hb
  have c0:=X.cell
  go_enter Tryz.func84,Tryz.ntmps84
  go_wp2_with fail
  go_end0
  exact⟨rfl,hh,Below.refl _ _,Lib.OthersKept.refl _ _ _⟩
set_option maxRecDepth 100000 in
set_option maxHeartbeats 800000 in
theorem WriteString_own (B b:Nat) (l l':List UInt8) (s:ByteArray) (w:World) (h:Lib.IsBuilder 75 5 B b (Lib.byteCells l) w) (hlen:l.length+s.size≤70368744177664) (hBw:B≤w.heap.size) (hl':l'=l ++ s.data.toList) :
  Calls Tryz.prog 36 #[.pointer (some ⟨b,0,none⟩),.string s] w fun e w'=>e=.returned (.tuple #[.int .i64 s.size,.nilIface])∧Lib.IsBuilder 75 5 B b (Lib.byteCells l') w'∧Below B w w'∧Lib.OthersKept 5 (some b) w w':=by
 have HL:Hid (l'=l ++ s.data.toList):=hl'
 clear hl'
 have HC:Hid (∀_:Unit,_):=fun _=>copyCheck_own B b (Lib.byteCells l) w h
 clear h
 go_enter Tryz.func36,Tryz.ntmps36
 go_wp2_with fail
 refine (HC.out ()).mono ?_
 rintro e w1 ⟨rfl,⟨hB,v,hb,ho,hn⟩,hB1,hO1⟩
 rw [Lib.byteCells_length] at ho
 have HO:Hid (w1.ownsRow B 5 1 v l.length (Lib.byteCells l)):=ho
 have HN:Hid (v.ownBlock≠some b):=hn
 have HO1:Hid (Lib.OthersKept 5 (some b) w w1):=hO1
 have X:Blk w1 b #[.pointer (some ⟨b,0,none⟩),v] 75:=hb
 clear ho hn hO1 hb HC
 obtain⟨ao,cap,rfl⟩:=owns_slice HO.out
 have c0:=X.cell
 have hBs:B≤w1.heap.size:=Nat.le_trans hBw hB1.size
 go_wp2_with (at_builtin;refine app_str rfl _ _ rfl B (.slice ao l.length cap) l s l' HL.out rfl HO.out rfl hlen hBs ?_)
 intro v2 w2 H2 G2
 have X2:Blk w2 b #[.pointer (some ⟨b,0,none⟩),.slice ao l.length cap] 75:=blk_grown X G2 (fun h=>HN.out h.symm)
 have HG:Hid (Below B w1 w2):=below_of_grown G2 hBs (fun k hk=>(HO.out.lt k hk).1)
 have HO2:Hid (Lib.OthersKept 5 (some b) w1 w2):=OthersKept.grownB G2 (owns_row HO.out)
 have HNB:Hid (v2.ownBlock≠some b):=by
  intro hc
  obtain⟨c,fz,hcc⟩:=owns_row H2 b hc
  have:=Option.some.inj (hcc.symm.trans X2)
  simp at this
 have HW:Hid (w2.ownsRow B 5 1 v2 l'.length (Lib.byteCells l')):=H2
 obtain⟨ao2,cap2,rfl⟩:=owns_slice H2
 clear H2 G2 X c0
 have c2:=X2.cell
 have f2:=X2.frozen
 go_wp2_with fail
 refine bodyPost_ret (v:=.tuple #[.int .i64 s.size,.nilIface]) (by simp [results,Tryz.results36,go_sem]) rfl ⟨rfl,.inr ⟨hB,_,?_,?_,HNB.out⟩,?_,?_⟩
 ·exact X2.set 1 _
 ·rw [Lib.byteCells_length]
  exact owns_setOther (b:=b) HW.out (fun k hk he=>HNB.out (hk.trans (by rw [he]))) 1 _
 ·exact (hB1.trans HG.out).setCell (p:=⟨b,1,none⟩) hB _
 ·exact (HO1.out.trans HO2.out).trans (OthersKept.setB _ _ _ _ _)
set_option maxRecDepth 100000 in
set_option maxHeartbeats 800000 in
theorem WriteByte_own (B b:Nat) (l l':List UInt8) (x:UInt8) (w:World) (h:Lib.IsBuilder 75 5 B b (Lib.byteCells l) w) (hlen:l.length+1≤70368744177664) (hBw:B≤w.heap.size) (hl':l'=l ++ [x]) :
  Calls Tryz.prog 39 #[.pointer (some ⟨b,0,none⟩),.int .u8 (x.toNat:Int)] w fun e w'=>e=.returned .nilIface∧Lib.IsBuilder 75 5 B b (Lib.byteCells l') w'∧Below B w w'∧Lib.OthersKept 5 (some b) w w':=by
 have HL:Hid (l'=l ++ [x]):=hl'
 clear hl'
 have HC:Hid (∀_:Unit,_):=fun _=>copyCheck_own B b (Lib.byteCells l) w h
 clear h
 go_enter Tryz.func39,Tryz.ntmps39
 go_wp2_with fail
 refine (HC.out ()).mono ?_
 rintro e w1 ⟨rfl,⟨hB,v,hb,ho,hn⟩,hB1,hO1⟩
 rw [Lib.byteCells_length] at ho
 have HO:Hid (w1.ownsRow B 5 1 v l.length (Lib.byteCells l)):=ho
 have HN:Hid (v.ownBlock≠some b):=hn
 have HO1:Hid (Lib.OthersKept 5 (some b) w w1):=hO1
 have X:Blk w1 b #[.pointer (some ⟨b,0,none⟩),v] 75:=hb
 clear ho hn hO1 hb HC
 obtain⟨ao,cap,rfl⟩:=owns_slice HO.out
 have c0:=X.cell
 have hBs:B≤w1.heap.size:=Nat.le_trans hBw hB1.size
 go_wp2_with (at_builtin;refine app_by rfl _ _ rfl B (.slice ao l.length cap) l x w1.heap.size l' HL.out rfl (owns_below HO.out ((Below.refl _ _).alloc (Nat.le_refl _) _)) rfl (Blk.new _ _ _) (by omega) (Nat.le_trans hBs (by simp)) ?_)
 intro v2 w2 H2 G2
 have X2:Blk w2 b #[.pointer (some ⟨b,0,none⟩),.slice ao l.length cap] 75:=blk_grown (X.alloc _) G2 (fun h=>HN.out h.symm)
 have HA:Below B w1 (w1.alloc (.cells #[.int .u8 (x.toNat:Int)] 5)):=((Below.refl w1.heap.size w1).alloc (Nat.le_refl _) _).mono hBs
 have HG:Hid (Below B w1 w2):=HA.trans (below_of_grown G2 (Nat.le_trans hBs HA.size) (fun k hk=>(HO.out.lt k hk).1))
 have HO2:Hid (Lib.OthersKept 5 (some b) w1 w2):=Lib.OthersKept.trans (OthersKept.below ((Below.refl w1.heap.size w1).alloc (Nat.le_refl _) _)) (OthersKept.grownB G2 (owns_row (owns_below HO.out ((Below.refl _ _).alloc (Nat.le_refl _) _))))
 have HNB:Hid (v2.ownBlock≠some b):=by
  intro hc
  obtain⟨c,fz,hcc⟩:=owns_row H2 b hc
  have:=Option.some.inj (hcc.symm.trans X2)
  simp at this
 have HW:Hid (w2.ownsRow B 5 1 v2 l'.length (Lib.byteCells l')):=H2
 obtain⟨ao2,cap2,rfl⟩:=owns_slice H2
 clear H2 G2 X c0
 have c2:=X2.cell
 have f2:=X2.frozen
 go_wp2_with fail
 refine bodyPost_ret (v:=.nilIface) (by simp [results,Tryz.results39,go_sem]) rfl ⟨rfl,.inr ⟨hB,_,?_,?_,HNB.out⟩,?_,?_⟩
 ·exact X2.set 1 _
 ·rw [Lib.byteCells_length]
  exact owns_setOther (b:=b) HW.out (fun k hk he=>HNB.out (hk.trans (by rw [he]))) 1 _
 ·exact (hB1.trans HG.out).setCell (p:=⟨b,1,none⟩) hB _
 ·exact (HO1.out.trans HO2.out).trans (OthersKept.setB _ _ _ _ _)
end Go.Proofs.YtaakadmnhpboiaaGreatDoor
namespace Go.Proofs.YtaakadmnhpboiaaGreatDoor
open Go.RowKit Go.Deep Go.Shelf
shelf_lay Lays.n169 Nm 169 at Tryz as lays169
theorem builder_Extra:Builder.Extra Tryz.prog lays169_ren where
 sizeBuilder:=by kernel_rfl
 liesBuilder:=by kernel_rfl
 t5:=Tryz.underlying5
 a5:=Tryz.isAgg5
 z5:=Tryz.sizeOf5
 v5:=Tryz.zeroValue5
 infoByte:=by kernel_rfl
 cellsByte:=by kernel_rfl
 sizeByte:=by kernel_rfl
 neB5:=by decide
theorem String_own (B b:Nat) (l:List UInt8) (w:World) (h:Lib.IsBuilder 75 5 B b (Lib.byteCells l) w) (hBw:B≤w.heap.size) :
  Calls Tryz.prog 40 #[.pointer (some ⟨b,0,none⟩)] w fun e w'=>e=.returned (.string ⟨l.toArray⟩)∧Below B w w':=
 (Any.Builder_String_any_k lays169 builder_Extra B b l w (Lib.IsBuilderF.of h) hBw).mono fun _ _ ⟨h1,_,h2,_⟩=>⟨h1,h2⟩
shelf_lay LaysM.n171 Nm 171 at Tryz as laysM171
theorem gPow : Tryz.prog.globalNamed "internal/strconv.uint64pow10" = some 3 := by kernel_rfl
def Pows (w : World) : Prop := Lib.TabIs Tryz.prog w "internal/strconv.uint64pow10" .u64 Lib.pow10Tab
theorem Pows.of_block {w w':World} (h:Pows w) (e:w'.heap[3]?=w.heap[3]?):Pows w':=by
 unfold Pows Lib.TabIs World.var? at *
 rw [gPow] at *
 simp only [Option.bind_some] at *
 rw [e]
 exact h
theorem grow_below (w:World) (k:Nat) (os:Array Obj):Below w.heap.size w (Sort.grow (w.drewN k) os):=by
 refine⟨rfl,rfl,rfl,by show _≤(w.heap ++ os).size;simp,fun b hb=>?_⟩
 show (w.heap ++ os)[b]?=_
 rw [Array.getElem?_append_left hb]
theorem Itoa_any (x:Int) (w:World) (hx:I64 x) (hp:Pows w):Calls Tryz.prog 37 #[.int .i64 x] w fun e w'=>e=.returned (.string (decB x))∧Below w.heap.size w w':=
 (Any.strconv_Itoa laysM171 x hx.1 hx.2 w hp).mono fun _ _ ⟨h1,k,os,h2⟩=>⟨h1,h2▸grow_below w k os⟩
theorem OthersKept.blk {b k:Nat} {w w':World} {arr:Array Value} {t:TypeId} (h:Lib.OthersKept 5 (some b) w w') (hb:Blk w k arr t) (hn:k≠b) (ht:t≠5):Blk w' k arr t:=
 h k _ hb (fun e=>hn (Option.some.inj e)) (fun c fz e=>ht (by injection e))
theorem builder_below {B b:Nat} {bs:List Value} {w w':World} (h:Lib.IsBuilder 75 5 B b bs w) (hb:Below w.heap.size w w'):Lib.IsBuilder 75 5 B b bs w':=by
 have k:∀p,Lib.BuilderAt 75 5 B b p bs w→Lib.BuilderAt 75 5 B b p bs w':=fun p ⟨h1,v,h2,h3,h4⟩=>
  ⟨h1,v,(hb.block b (Array.getElem?_eq_some_iff.1 h2).1).trans h2,owns_below h3 hb,h4⟩
 exact h.elim (fun x=>.inl (k _ x)) (fun x=>.inr (k _ x))
set_option maxRecDepth 100000 in
set_option maxHeartbeats 2000000 in
theorem writeFields_any (B b fb:Nat) (l l':List UInt8) (q1 q2 q3 q4 q5 q6:Int) (w:World) (h:Lib.IsBuilder 75 5 B b (Lib.byteCells l) w) (hfb:Blk w fb #[.int .i64 q1,.int .i64 q2,.int .i64 q3,.int .i64 q4,.int .i64 q5,.int .i64 q6] 3) (hfn:fb≠b) (hlen:l.length+200≤70368744177664) (hBw:B≤w.heap.size) (hG:3<B) (hp:Pows w) (hx:∀x ∈ [q1,q2,q3,q4,q5,q6],I64 x) (hl':l'=l ++ fieldsL [q1,q2,q3,q4,q5,q6]) :
  Calls Tryz.prog 38 #[.pointer (some ⟨b,0,none⟩),.slice (some ⟨fb,0,none⟩) 6 6] w fun e w'=>e=.returned (.tuple #[])∧Lib.IsBuilder 75 5 B b (Lib.byteCells l') w'∧Below B w w'∧Lib.OthersKept 5 (some b) w w':=by
 have HL:Hid (l'=l ++ fieldsL [q1,q2,q3,q4,q5,q6]):=hl'
 have HSX:Hid (∀x ∈ [q1,q2,q3,q4,q5,q6],I64 x):=hx
 have HP:Hid (Pows w):=hp
 have HI:Hid (Lib.IsBuilder 75 5 B b (Lib.byteCells l) w):=h
 clear hl' hx hp h
 go_enter Tryz.func38,Tryz.ntmps38
 go_wp2_with fail
 go_loopw [8] (fun y wr=>∃(j:Nat) (lj:List UInt8),j≤6∧y=.int .i64 j∧lj.length≤l.length+j*22∧Hid (lj=l ++ fieldsL ([q1,q2,q3,q4,q5,q6].take j))∧Hid (Lib.IsBuilder 75 5 B b (Lib.byteCells lj) wr)∧Below B w wr∧Hid (Lib.OthersKept 5 (some b) w wr)) (fun y _=>6 - (intOf y).toNat)
 case atStart=>exact ⟨0,l,Nat.zero_le _,rfl,by omega,by show _=_;simp [fieldsL],HI.out,Below.refl _ _,Lib.OthersKept.refl _ _ _⟩
 case round=>
  obtain⟨j,lj,hj,rfl,hlj,HLJ,HB,hb,HO⟩:=hrel
  by_cases hj6:j<6
  ·have S1:=OthersKept.blk HO.out hfb hfn (by decide)
   obtain⟨x,hx⟩:=some_of_lt (show j < [q1,q2,q3,q4,q5,q6].length from hj6)
   have hc:wr.cell? ⟨fb,j,none⟩=some (.int .i64 x):=(S1.cell j).trans (by rw [six_cells,hx];rfl)
   have hx64:=HSX.out x (List.mem_of_getElem? hx)
   have zx:=decB_size hx64
   have HTK:Hid ([q1,q2,q3,q4,q5,q6].take (j+1)=[q1,q2,q3,q4,q5,q6].take j ++ [x]):=by
    show _=_
    rw [List.take_add_one,hx];rfl
   have k6:(j:Int)<6:=by omega
   have hz1:B≤wr.heap.size:=Nat.le_trans hBw hb.size
   obtain⟨la,hla⟩:∃la,la=lj ++ [(32:UInt8)]:=⟨_,rfl⟩
   obtain⟨lb,hlb⟩:∃lb,lb=la ++ (decB x).data.toList:=⟨_,rfl⟩
   have HWB:Hid (∀_:Unit,_):=fun _=>WriteByte_own B b lj la 32 wr HB.out (by omega) hz1 hla
   have hlal:la.length=lj.length+1:=by rw [hla];simp
   have hlbl:lb.length=la.length+(decB x).size:=by rw [hlb,List.length_append];congr 1
   have HLB:Hid (lb=la ++ (decB x).data.toList):=hlb
   have HLN:Hid (lb=l ++ fieldsL ([q1,q2,q3,q4,q5,q6].take (j+1))):=by
    show _=_
    rw [hlb,hla,HLJ.out,HTK.out,fieldsL_append]
    simp [fieldsL,decB]
   clear hla hlb hx S1
   go_wp2_with fail
   refine (HWB.out ()).mono ?_
   rintro e w1 ⟨rfl,I1,b1,o1⟩
   have hb1:=hb.trans b1
   have HI1:Hid _:=I1
   have HO1:Hid (Lib.OthersKept 5 (some b) w w1):=HO.out.trans o1
   have HP1:Hid (Pows w1):=HP.out.of_block (hb1.block _ hG)
   clear I1 o1 b1 hb HB HO HWB hc
   go_wp2_with fail
   refine (Itoa_any x w1 hx64 HP1.out).mono ?_
   rintro e w2 ⟨rfl,hw2⟩
   have hz1b:B≤w1.heap.size:=Nat.le_trans hBw hb1.size
   have hb2:=hb1.trans (hw2.mono hz1b)
   have hz2:B≤w2.heap.size:=Nat.le_trans hBw hb2.size
   have HI2:Hid (Lib.IsBuilder 75 5 B b (Lib.byteCells la) w2):=builder_below HI1.out hw2
   have HO2:Hid (Lib.OthersKept 5 (some b) w w2):=HO1.out.trans (OthersKept.below hw2)
   clear hw2 HI1 HO1 HP1 hb1
   go_wp2_with fail
   refine (WriteString_own B b la lb (decB x) w2 HI2.out (by omega) hz2 HLB.out).mono ?_
   rintro e w3 ⟨rfl,I3,b3,o3⟩
   have hb3:=hb2.trans b3
   have HI3:Hid _:=I3
   have HO3:Hid (Lib.OthersKept 5 (some b) w w3):=HO2.out.trans o3
   clear I3 b3 o3 hb2 HI2 HO2
   go_wp2_with fail
   go_roundw
   case rel=>exact ⟨j+1,lb,by omega,by go_num,by omega,HLN.out,HI3.out,hb3,HO3.out⟩
   case measure=>simp [intOf];omega
  ·obtain rfl:j=6:=by omega
   have HE:Hid (lj=l'):=HLJ.out.trans HL.out.symm
   go_wp2_with fail
   go_end0
   exact⟨rfl,HE.out▸HB.out,hb,HO.out⟩
structure Names (w:World):Prop where
 lt:0<w.heap.size
 at_:∀op:Nat,op<47→w.cell? ⟨0,op,none⟩=some (.string (nameB op))
theorem Names.below {N:Nat} {w w':World} (h:Names w) (hb:Below N w w') (hN:0<N):Names w':=
 ⟨Nat.lt_of_lt_of_le h.lt hb.size,fun op ho=>(hb.cell (p:=⟨0,op,none⟩) hN).trans (h.at_ op ho)⟩
theorem QOwn.kept {g b:Nat} {gs:Nat→Nat} {w w':World} {qss:List (List Qd)} (h1:QOwn w g gs qss) (hk:Lib.OthersKept 5 (some b) w w') (hb:b<g):QOwn w' g gs qss:=by
 have ko:∀{c t n},Own w c t n→c≠b→t≠5→w'.heap[c]?=w.heap[c]?:=fun {c t n} ho hc ht=>by
  obtain⟨arr,ha,_⟩:=ho
  rw [ha]
  exact hk c _ ha (fun e=>hc (Option.some.inj e)) (fun x fz e=>ht (by injection e))
 have hg:=ko h1.own (by omega) (by decide)
 refine⟨h1.own.of_block hg,fun j qs hj=>(World.cell?_of_block (a:=⟨g,j,none⟩) hg).trans (h1.hdr j qs hj),h1.up,h1.apart,fun j qs hj=>?_⟩
 have hup:=h1.up j (List.getElem?_eq_some_iff.1 hj).1
 obtain⟨r1,r2⟩:=h1.row j qs hj
 have hr:=ko r1 (by omega) (by decide)
 exact⟨r1.of_block hr,fun i y hi hy a v hv=>(World.cell?_of_block (a:=⟨gs j,i*7+a,none⟩) hr).trans (r2 i y hi hy a v hv)⟩
theorem field_quick (a:Option Addr) (n c:Nat) (m:Int) (W:World):(Instr.field 38 (.agg #[.slice a n c,.int .i64 m]) 0).run Tryz.prog W=.ok (.slice a n c) W:=by kernel_rfl
set_option maxRecDepth 100000 in
set_option maxHeartbeats 8000000 in
theorem implListing_any (cg cap:Nat) (ps:List Pd) (w:World) (hfi:Fine ps) (hF:Forms w) (hnm:Names w) (hpw:Pows w) (hpl:3<w.heap.size) (hv:ProtosAt 0 w (some ⟨cg,0,none⟩) ps) (hcap:CapP w cg ps ps.length) (hcg:cg<w.heap.size) :
  Calls Tryz.prog 19 #[.agg #[.slice (some ⟨cg,0,none⟩) ps.length cap]] w fun e w'=>e=.returned (.string ⟨(listL (qOf ps) (qOf ps).length).toArray⟩)∧Below w.heap.size w w':=by
 have hl:ps.length≤1048576:=by have:=hfi.bulk;unfold bulkPs at this;omega
 have hql:=qOf_len hl
 have hqe:=qOf_each (fun p hp=>(hfi.few p hp).ins)
 have hqw:=qOf_w hfi
 have hln:=lnN_few hfi
 have HLL:Hid (∀k qs i,(qOf ps)[k]?=some qs→i≤qs.length→(listL (qOf ps) k ++ linesL k qs i).length+400≤70368744177664):=by
  intro k qs i hk hi
  have hkl:=(List.getElem?_eq_some_iff.1 hk).1
  have hmem:=List.mem_of_getElem? hk
  have h1:=listL_few hql hqe hqw k (by omega)
  have h2:=linesL_few (p:=k) (by omega) (hqe qs hmem) (hqw qs hmem) i hi
  have h3:=hln k (by omega)
  have h4:=hqe qs hmem
  rw [List.length_append]
  omega
 have C0:=(Blk.new w #[.slice (some ⟨cg,0,none⟩) ps.length cap] 31).alloc (.cells #[.pointer none,.slice none 0 0] 75)
 have D0:=Blk.newIn (W:=w.alloc (.cells #[.slice (some ⟨cg,0,none⟩) ps.length cap] 31)) (n:=w.heap.size+1) #[.pointer none,.slice none 0 0] 75 (by simp)
 have B0:Below w.heap.size w ((w.alloc (.cells #[.slice (some ⟨cg,0,none⟩) ps.length cap] 31)).alloc (.cells #[.pointer none,.slice none 0 0] 75)):=((Below.refl _ _).alloc (Nat.le_refl _) _).alloc (by simp) _
 obtain⟨n,hnq⟩:∃n,n=(qOf ps).length:=⟨_,rfl⟩
 obtain⟨m,hmq⟩:∃m,m=cOf ps:=⟨_,rfl⟩
 have HIM:Hid (∀W,Below w.heap.size w W→Calls Tryz.prog 13 #[.agg #[.slice (some ⟨cg,0,none⟩) ps.length cap]] W fun e w'=>∃ao' cap',e=.returned (.agg #[.slice ao' n cap',.int .i64 m])∧QAns W.heap.size w'.heap.size w' ao' (qOf ps)∧Below W.heap.size W w'):=fun W hb=>by
  have:=implPrep cg cap ps W hfi (hF.later hb) (hv.later (Keeps.of_below hb)) (hcap.later hb hcg);rw [←hnq,←hmq] at this;exact this
 have HN:Hid (n=(qOf ps).length):=hnq
 have HQE:Hid (∀qs ∈ qOf ps,qs.length≤1048576):=hqe
 have HQW:Hid (∀qs ∈ qOf ps,∀q ∈ qs,QW q):=hqw
 have hn1:n≤1048576:=by omega
 have HNM:Hid (Names w):=hnm
 have HPW:Hid (Pows w):=hpw
 have hnl:=hnm.lt
 rw [←hnq]
 clear hnq hmq hfi hv hqe hqw hln hql hl hF hcap hnm hpw
 generalize qOf ps=qss at *
 have hfq:=field_quick
 go_enter Tryz.func19,Tryz.ntmps19
 have c0:=C0.cell
 go_wp2_with fail
 refine (HIM.out _ B0).mono ?_
 rintro e w1 ⟨ao,cp,rfl,Q1,hw1⟩
 have B1:=B0.trans (hw1.mono B0.size)
 have D1:=D0.later hw1
 have hs1:w.heap.size+1<w1.heap.size:=D1.lt
 have hsz:((w.alloc (.cells #[.slice (some ⟨cg,0,none⟩) ps.length cap] 31)).alloc (.cells #[.pointer none,.slice none 0 0] 75)).heap.size=w.heap.size+1+1:=by simp
 rw [hsz] at Q1
 have HQ1:Hid (QAns (w.heap.size+1+1) w1.heap.size w1 ao qss):=Q1
 have HI1:Hid (Lib.IsBuilder 75 5 (w.heap.size+1) (w.heap.size+1) (Lib.byteCells (listL qss 0)) w1):=.inl ⟨Nat.le_refl _,_,D1,by simp [listL,Lib.byteCells];exact World.ownsRow_nil _ _ _ _,by simp [Value.ownBlock]⟩
 clear hw1 B0 C0 c0 HIM Q1 D0 D1
 go_wp2_with fail
 go_loopw [12] (fun y wr=>∃k:Nat,k≤n∧y=.int .i64 k∧Hid (Lib.IsBuilder 75 5 (w.heap.size+1) (w.heap.size+1) (Lib.byteCells (listL qss k)) wr)∧Hid (Below (w.heap.size+1) w1 wr)∧Hid (Lib.OthersKept 5 (some (w.heap.size+1)) w1 wr)) (fun y _=>n - (intOf y).toNat)
 case atStart=>exact ⟨0,Nat.zero_le _,rfl,HI1.out,Below.refl _ _,Lib.OthersKept.refl _ _ _⟩
 case round=>
  obtain⟨k,hk,rfl,HI,HB,HO⟩:=hrel
  obtain⟨wo,hwo⟩:∃wo,wo=wr:=⟨_,rfl⟩
  subst hwo
  by_cases hlt:k<n
  ·obtain⟨qs,hqs⟩:=some_of_lt (show k<qss.length by have:=HN.out;omega)
   obtain⟨g,gs,rfl,HQO,hgg,hgk⟩:∃g gs,ao=some ⟨g,0,none⟩∧Hid (∀W,Lib.OthersKept 5 (some (w.heap.size+1)) w1 W→QOwn W g gs qss)∧w.heap.size+1<g∧g<gs k:=by
    rcases HQ1.out with ⟨_,h⟩ | ⟨g,gs,h,h1,h2,_⟩
    ·rw [h] at hqs;simp at hqs
    ·exact⟨g,gs,h,fun W hW=>h1.kept hW (by omega),by omega,h1.up k (List.getElem?_eq_some_iff.1 hqs).1⟩
   have d0:=(HQO.out wo HO.out).hdr k qs hqs
   have HQS:Hid (qss[k]?=some qs):=hqs
   have hqsl:qs.length≤1048576:=HQE.out qs (List.mem_of_getElem? hqs)
   have hkl:(k:Int)<n:=by omega
   clear hqs
   go_wp2_with fail
   clear d0
   have I0:Below wo.heap.size wo (wo.alloc (.cells #[.slice (some ⟨gs k,0,none⟩) qs.length qs.length] 65)):=(Below.refl _ _).alloc (Nat.le_refl _) _
   have hsw:w.heap.size+1≤wo.heap.size:=Nat.le_trans (Nat.le_of_lt hs1) HB.out.size
   go_loopw [20] (fun y wr=>∃i:Nat,i≤qs.length∧y=.int .i64 i∧Hid (Lib.IsBuilder 75 5 (w.heap.size+1) (w.heap.size+1) (Lib.byteCells (listL qss k ++ linesL k qs i)) wr)∧Hid (Below (w.heap.size+1) w1 wr)∧Hid (Lib.OthersKept 5 (some (w.heap.size+1)) w1 wr)) (fun y _=>qs.length - (intOf y).toNat)
   case atStart=>
    refine⟨0,Nat.zero_le _,rfl,?_,HB.out.trans (I0.mono hsw),HO.out.trans (OthersKept.below I0)⟩
    have:=builder_below HI.out I0
    show Lib.IsBuilder 75 5 (w.heap.size+1) (w.heap.size+1) _ _
    simp only [linesL,List.append_nil]
    exact this
   case round=>
    obtain⟨i,hi,rfl,HI2,HB2,HO2⟩:=hrel
    obtain⟨wi,hwi⟩:∃wi,wi=wr:=⟨_,rfl⟩
    subst hwi
    clear I0
    by_cases hil:i<qs.length
    ·obtain⟨q,hqi⟩:=some_of_lt hil
     have HQ:Hid (qs[i]?=some q):=hqi
     have hw:=HQW.out qs (List.mem_of_getElem? HQS.out) q (List.mem_of_getElem? hqi)
     have hrow:=((HQO.out wi HO2.out).row k qs HQS.out).2 i q hil hqi
     have r0:=hrow 0 _ rfl
     have r1:=hrow 1 _ rfl
     have r2:=hrow 2 _ rfl
     have r3:=hrow 3 _ rfl
     have r4:=hrow 4 _ rfl
     have r5:=hrow 5 _ rfl
     have r6:=hrow 6 _ rfl
     rw [Nat.add_zero] at r0
     clear hrow
     obtain⟨q0,q1,q2,q3,q4,q5,q6⟩:=q
     obtain⟨⟨ho1,ho2⟩,hsix⟩:=hw
     dsimp only [Qd.six] at *
     obtain⟨oN,rfl⟩:∃oN:Nat,q0=oN:=⟨q0.toNat,by omega⟩
     have hoN:oN<47:=by omega
     have hoI:(oN:Int)<47:=by omega
     have hik:(i:Int)<qs.length:=by omega
     have hk64:I64 (k:Int):=⟨by omega,by omega⟩
     have hi64:I64 (i:Int):=⟨by omega,by omega⟩
     have z1:=decB_size hk64
     have z2:=decB_size hi64
     have z3:=nameB_size oN
     have hwi:w.heap.size+1<wi.heap.size:=Nat.lt_of_lt_of_le hs1 HB2.out.size
     have BWI:Below w.heap.size w wi:=B1.trans (HB2.out.mono (Nat.le_succ _))
     have HD1:Hid (∀W,Below w.heap.size w W→Calls Tryz.prog 37 #[.int .i64 k] W fun e w'=>e=.returned (.string (decB k))∧Below W.heap.size W w'):=fun W hb=>Itoa_any k W hk64 (HPW.out.of_block (hb.block _ hpl))
     have HD2:Hid (∀W,Below w.heap.size w W→Calls Tryz.prog 37 #[.int .i64 i] W fun e w'=>e=.returned (.string (decB i))∧Below W.heap.size W w'):=fun W hb=>Itoa_any i W hi64 (HPW.out.of_block (hb.block _ hpl))
     have HNA:Hid (∀W,Below w.heap.size w W→W.cell? ⟨0,oN,none⟩=some (.string (nameB oN))):=fun W hb=>(HNM.out.below hb hnl).at_ oN hoN
     have HQ0:Hid (Blk (wi.alloc (.cells #[.int .i64 (oN:Int),.int .i64 q1,.int .i64 q2,.int .i64 q3,.int .i64 q4,.int .i64 q5,.int .i64 q6] 60)).drew wi.heap.size #[.int .i64 (oN:Int),.int .i64 q1,.int .i64 q2,.int .i64 q3,.int .i64 q4,.int .i64 q5,.int .i64 q6] 60):=Blk.new wi #[.int .i64 (oN:Int),.int .i64 q1,.int .i64 q2,.int .i64 q3,.int .i64 q4,.int .i64 q5,.int .i64 q6] 60
     have BZ0:Below wi.heap.size wi (wi.alloc (.cells #[.int .i64 (oN:Int),.int .i64 q1,.int .i64 q2,.int .i64 q3,.int .i64 q4,.int .i64 q5,.int .i64 q6] 60)).drew:=((Below.refl _ _).alloc (Nat.le_refl _) _).drew
     have HSX:Hid (∀x ∈ [q1,q2,q3,q4,q5,q6],I64 x):=hsix
     have HI3:=builder_below HI2.out BZ0
     have BZW:=BWI.trans (BZ0.mono BWI.size)
     have a1:∀W,(Op.stringOp .add (decB (k:Int)) ⟨#[58]⟩).run Tryz.prog W=.ok (.string (decB (k:Int) ++ ⟨#[58]⟩)) W:=fun W=>run_string_add_sum W _ _ (by show (decB (k:Int)).size+1≤_;omega)
     have y1:(decB (k:Int) ++ ⟨#[58]⟩).size≤22:=by rw [ByteArray.size_append];show (decB (k:Int)).size+1≤22;omega
     have a2:∀W,(Op.stringOp .add (decB (k:Int) ++ ⟨#[58]⟩) (decB (i:Int))).run Tryz.prog W=.ok (.string (decB (k:Int) ++ ⟨#[58]⟩ ++ decB (i:Int))) W:=fun W=>run_string_add_sum W _ _ (by omega)
     have y2:(decB (k:Int) ++ ⟨#[58]⟩ ++ decB (i:Int)).size≤43:=by rw [ByteArray.size_append];omega
     have a3:∀W,(Op.stringOp .add (decB (k:Int) ++ ⟨#[58]⟩ ++ decB (i:Int)) ⟨#[32]⟩).run Tryz.prog W=.ok (.string (decB (k:Int) ++ ⟨#[58]⟩ ++ decB (i:Int) ++ ⟨#[32]⟩)) W:=fun W=>run_string_add_sum W _ _ (by show (decB (k:Int) ++ ⟨#[58]⟩ ++ decB (i:Int)).size+1≤_;omega)
     have y3:(decB (k:Int) ++ ⟨#[58]⟩ ++ decB (i:Int) ++ ⟨#[32]⟩).size≤44:=by rw [ByteArray.size_append];show (decB (k:Int) ++ ⟨#[58]⟩ ++ decB (i:Int)).size+1≤44;omega
     have a4:∀W,(Op.stringOp .add (decB (k:Int) ++ ⟨#[58]⟩ ++ decB (i:Int) ++ ⟨#[32]⟩) (nameB oN)).run Tryz.prog W=.ok (.string (decB (k:Int) ++ ⟨#[58]⟩ ++ decB (i:Int) ++ ⟨#[32]⟩ ++ nameB oN)) W:=fun W=>run_string_add_sum W _ _ (by omega)
     have HHZ:Hid ((decB (k:Int) ++ ⟨#[58]⟩ ++ decB (i:Int) ++ ⟨#[32]⟩ ++ nameB oN).size≤52):=by show _≤_;rw [ByteArray.size_append];omega
     have HHD:Hid ((decB (k:Int) ++ ⟨#[58]⟩ ++ decB (i:Int) ++ ⟨#[32]⟩ ++ nameB oN).data.toList=headL k i ⟨oN,q1,q2,q3,q4,q5,q6⟩):=by
      show _=_
      simp [headL,decB,nameB,ByteArray.data_append]
     have hll:=HLL.out k qs i HQS.out (Nat.le_of_lt hil)
     obtain⟨l0,hl0⟩:∃l0,l0=listL qss k ++ linesL k qs i:=⟨_,rfl⟩
     obtain⟨l1,hl1⟩:∃l1,l1=l0 ++ (decB (k:Int) ++ ⟨#[58]⟩ ++ decB (i:Int) ++ ⟨#[32]⟩ ++ nameB oN).data.toList:=⟨_,rfl⟩
     obtain⟨l2,hl2⟩:∃l2,l2=l1 ++ fieldsL [q1,q2,q3,q4,q5,q6]:=⟨_,rfl⟩
     obtain⟨l3,hl3⟩:∃l3,l3=l2 ++ [(10:UInt8)]:=⟨_,rfl⟩
     have HEQ:Hid (l3=listL qss k ++ linesL k qs (i+1)):=by
      show _=_
      rw [linesL_step HQ.out,hl3,hl2,hl1,hl0,HHD.out]
      simp [lineL,Qd.six]
     have hz0:l0.length+400≤70368744177664:=by rw [hl0];exact hll
     have hz1:l1.length≤l0.length+52:=by
      rw [hl1,List.length_append]
      have h1:(decB (k:Int) ++ ⟨#[58]⟩ ++ decB (i:Int) ++ ⟨#[32]⟩ ++ nameB oN).data.toList.length=(decB (k:Int) ++ ⟨#[58]⟩ ++ decB (i:Int) ++ ⟨#[32]⟩ ++ nameB oN).size:=Array.length_toList
      have:=HHZ.out
      omega
     have hz2:l2.length≤l1.length+132:=by
      rw [hl2,List.length_append]
      have:=fieldsL_few hsix
      simp at this
      omega
     rw [←hl0] at HI3
     have HI4:Hid (Lib.IsBuilder 75 5 (w.heap.size+1) (w.heap.size+1) (Lib.byteCells l0) (wi.alloc (.cells #[.int .i64 (oN:Int),.int .i64 q1,.int .i64 q2,.int .i64 q3,.int .i64 q4,.int .i64 q5,.int .i64 q6] 60)).drew):=HI3
     have HWS:Hid (∀W,Lib.IsBuilder 75 5 (w.heap.size+1) (w.heap.size+1) (Lib.byteCells l0) W→w.heap.size+1≤W.heap.size→Calls Tryz.prog 36 #[.pointer (some ⟨w.heap.size+1,0,none⟩),.string (decB (k:Int) ++ ⟨#[58]⟩ ++ decB (i:Int) ++ ⟨#[32]⟩ ++ nameB oN)] W fun e w'=>e=.returned (.tuple #[.int .i64 (decB (k:Int) ++ ⟨#[58]⟩ ++ decB (i:Int) ++ ⟨#[32]⟩ ++ nameB oN).size,.nilIface])∧Lib.IsBuilder 75 5 (w.heap.size+1) (w.heap.size+1) (Lib.byteCells l1) w'∧Below (w.heap.size+1) W w'∧Lib.OthersKept 5 (some (w.heap.size+1)) W w'):=fun W hI hW=>WriteString_own (w.heap.size+1) (w.heap.size+1) l0 l1 _ W hI (by have:=HHZ.out;omega) hW hl1
     have HWF:Hid (∀W fb,Lib.IsBuilder 75 5 (w.heap.size+1) (w.heap.size+1) (Lib.byteCells l1) W→Blk W fb #[.int .i64 q1,.int .i64 q2,.int .i64 q3,.int .i64 q4,.int .i64 q5,.int .i64 q6] 3→fb≠w.heap.size+1→w.heap.size+1≤W.heap.size→Below w.heap.size w W→Calls Tryz.prog 38 #[.pointer (some ⟨w.heap.size+1,0,none⟩),.slice (some ⟨fb,0,none⟩) 6 6] W fun e w'=>e=.returned (.tuple #[])∧Lib.IsBuilder 75 5 (w.heap.size+1) (w.heap.size+1) (Lib.byteCells l2) w'∧Below (w.heap.size+1) W w'∧Lib.OthersKept 5 (some (w.heap.size+1)) W w'):=fun W fb hI hfb hfn hW hB=>writeFields_any (w.heap.size+1) (w.heap.size+1) fb l1 l2 q1 q2 q3 q4 q5 q6 W hI hfb hfn (by omega) hW (by omega) (HPW.out.of_block (hB.block _ hpl)) HSX.out hl2
     have HWB:Hid (∀W,Lib.IsBuilder 75 5 (w.heap.size+1) (w.heap.size+1) (Lib.byteCells l2) W→w.heap.size+1≤W.heap.size→Calls Tryz.prog 39 #[.pointer (some ⟨w.heap.size+1,0,none⟩),.int .u8 10] W fun e w'=>e=.returned .nilIface∧Lib.IsBuilder 75 5 (w.heap.size+1) (w.heap.size+1) (Lib.byteCells l3) w'∧Below (w.heap.size+1) W w'∧Lib.OthersKept 5 (some (w.heap.size+1)) W w'):=fun W hI hW=>WriteByte_own (w.heap.size+1) (w.heap.size+1) l2 l3 10 W hI (by omega) hW hl3
     clear hqi hsix ho1 ho2 hk64 hi64 y1 y2 y3 z1 z2 z3 hl0 hl1 hl2 hl3 hz0 hz1 hz2 hll HI3
     go_wp2_with fail
     have e0:=HQ0.out.cell
     have e1:=HNA.out _ BZW
     have hbz:=BZ0.size
     go_region_held3 (fun W=>(∀o,W.cell? ⟨wi.heap.size,o,none⟩=(#[.int .i64 (oN:Int),.int .i64 q1,.int .i64 q2,.int .i64 q3,.int .i64 q4,.int .i64 q5,.int .i64 q6]:Array Value)[o]?)∧W.cell? ⟨0,oN,none⟩=some (.string (nameB oN))) (first | with_reducible exact ⟨e0,e1⟩ | with_reducible exact ⟨f0,f1⟩ | with_reducible exact ⟨g0,g1⟩ | with_reducible exact ⟨h0,h1⟩)
      (first | (go_at_call_of 37 (Value.int IntKind.i64 (k:Int));refine (HD1.out _ BZW).mono ?_;rintro e w3 ⟨rfl,hw3⟩;have H3:=HQ0.out.later hw3;have B3:=BZW.trans (hw3.mono BZW.size);have f0:=H3.cell;have f1:=HNA.out _ B3) | (go_at_call_of 37 (Value.int IntKind.i64 (i:Int));refine (HD2.out _ B3).mono ?_;rintro e w4 ⟨rfl,hw4⟩;have H4:=H3.later hw4;have B4:=B3.trans (hw4.mono B3.size);have g0:=H4.cell;have g1:=HNA.out _ B4;have hz4:=Nat.le_trans hw3.size hw4.size) | (go_at_call 36;refine (HWS.out _ (builder_below (builder_below HI4.out hw3) hw4) (Nat.le_trans (Nat.le_of_lt hwi) (Nat.le_trans hbz hz4))).mono ?_;rintro e w5 ⟨rfl,I5,b5,o5⟩;have H5:=OthersKept.blk o5 H4 (Nat.ne_of_gt hwi) (by decide);have B5:=B4.trans (b5.mono (Nat.le_succ _));have h0:=H5.cell;have h1:=HNA.out _ B5))
     have HI5:Hid (Lib.IsBuilder 75 5 (w.heap.size+1) (w.heap.size+1) (Lib.byteCells l1) w5):=I5
     have O5:Lib.OthersKept 5 (some (w.heap.size+1)) w1 w5:=((HO2.out.trans (OthersKept.below BZ0)).trans (OthersKept.below (hw3.trans (hw4.mono hw3.size)))).trans o5
     have HO5:Hid (Lib.OthersKept 5 (some (w.heap.size+1)) w1 w5):=O5
     have hz5:w.heap.size+1<w5.heap.size:=Nat.lt_of_lt_of_le hwi (Nat.le_trans hbz (Nat.le_trans hz4 b5.size))
     have BB5:Below (w.heap.size+1) w1 w5:=(((HB2.out.trans (BZ0.mono (Nat.le_of_lt hwi))).trans (hw3.mono (Nat.le_trans (Nat.le_of_lt hwi) hbz))).trans (hw4.mono (Nat.le_trans (Nat.le_trans (Nat.le_of_lt hwi) hbz) hw3.size))).trans b5
     have HBB5:Hid (Below (w.heap.size+1) w1 w5):=BB5
     clear a1 a2 a3 a4 e0 e1 f0 f1 g0 g1 h1 hw3 hw4 H3 H4 H5 I5 o5 b5 BZ0 BZW B3 B4 O5 BB5 HI4 HQ0 HWS HNA HD1 HD2 r0 r1 r2 r3 r4 r5 r6 hbz hz4 HHZ HHD
     go_wp2_with fail
     clear h0
     have A5:Below w5.heap.size w5 (w5.alloc (.cells #[.int .i64 q1,.int .i64 q2,.int .i64 q3,.int .i64 q4,.int .i64 q5,.int .i64 q6] 3)):=(Below.refl _ _).alloc (Nat.le_refl _) _
     refine (HWF.out _ w5.heap.size (builder_below HI5.out A5) (Blk.new _ _ _) (Nat.ne_of_gt hz5) (Nat.le_trans (Nat.le_of_lt hz5) A5.size) (B5.trans (A5.mono B5.size))).mono ?_
     rintro e w6 ⟨rfl,I6,b6,o6⟩
     have HI6:Hid (Lib.IsBuilder 75 5 (w.heap.size+1) (w.heap.size+1) (Lib.byteCells l2) w6):=I6
     have hz6:w.heap.size+1≤w6.heap.size:=Nat.le_trans (Nat.le_trans (Nat.le_of_lt hz5) A5.size) b6.size
     have HO6:Hid (Lib.OthersKept 5 (some (w.heap.size+1)) w1 w6):=(HO5.out.trans (OthersKept.below A5)).trans o6
     have HBB6:Hid (Below (w.heap.size+1) w1 w6):=(HBB5.out.trans (A5.mono (Nat.le_of_lt hz5))).trans b6
     clear I6 b6 o6 A5 HI5 HO5 HBB5 B5 HWF
     go_wp2_with fail
     refine (HWB.out w6 HI6.out hz6).mono ?_
     rintro e w7 ⟨rfl,I7,b7,o7⟩
     have HI7:Hid (Lib.IsBuilder 75 5 (w.heap.size+1) (w.heap.size+1) (Lib.byteCells (listL qss k ++ linesL k qs (i+1))) w7):=HEQ.out▸I7
     have HO7:Hid (Lib.OthersKept 5 (some (w.heap.size+1)) w1 w7):=HO6.out.trans o7
     have HBB7:Hid (Below (w.heap.size+1) w1 w7):=HBB6.out.trans b7
     have hi1:i+1≤qs.length:=hil
     clear I7 b7 o7 HI6 HO6 HBB6 HWB
     go_wp2_with fail
     go_roundw
     case rel=>exact ⟨i+1,hi1,by go_num,HI7.out,HBB7.out,HO7.out⟩
     case measure=>simp [intOf];omega
    ·obtain rfl:i=qs.length:=Nat.le_antisymm hi (Nat.le_of_not_lt hil)
     have HI8:Hid (Lib.IsBuilder 75 5 (w.heap.size+1) (w.heap.size+1) (Lib.byteCells (listL qss (k+1))) wi):=by
      show Lib.IsBuilder 75 5 (w.heap.size+1) (w.heap.size+1) _ _
      rw [listL_step HQS.out];exact HI2.out
     have hk1:k+1≤n:=hlt
     clear hil
     go_wp2_with fail
     go_roundw
     case rel=>exact ⟨k+1,hk1,by go_num,HI8.out,HB2.out,HO2.out⟩
     case measure=>simp [intOf];omega
  ·obtain rfl:k=n:=Nat.le_antisymm hk (Nat.le_of_not_lt hlt)
   have hsw:w.heap.size+1≤wo.heap.size:=Nat.le_trans (Nat.le_of_lt hs1) HB.out.size
   have HF:Hid (Below w.heap.size w wo):=B1.trans (HB.out.mono (Nat.le_succ _))
   go_wp2_with fail
   refine (String_own _ _ (listL qss k) wo HI.out hsw).mono ?_
   rintro e w9 ⟨rfl,b9⟩
   go_wp2_with fail
   go_ret
   exact⟨rfl,HF.out.trans (b9.mono (Nat.le_succ _))⟩
set_option maxRecDepth 100000 in
set_option maxHeartbeats 8000000 in
theorem listLaw_any (ao:Option Addr) (cap:Nat) (ps:List Pd) (w:World) (hm:ps.length≤9223372036854775807) (hg:∀p ∈ ps,PdIn p) (hF:Forms w) (hnm:Names w) (hpw:Pows w) (hpl:3<w.heap.size) (hv:ProtosAt 0 w ao ps) :
  Calls Tryz.prog 5 #[.agg #[.slice ao ps.length cap]] w fun e w'=>e=.returned (.bool true)∧Below w.heap.size w w':=by
 have C0:=Blk.new w #[.slice ao ps.length cap] 24
 have B0:=below_al (Below.refl w.heap.size w) (.cells #[.slice ao ps.length cap] 24)
 have hsz:=szCode_any ao cap ps 1048576 (w.alloc (.cells #[.slice ao ps.length cap] 24)) (by omega) (by omega) hm (fun p hp=>(hg p hp).sz) (hv.later (Keeps.of_below B0))
 by_cases hn:bulkPs ps≤1048576
 ·have FI:=fineOf hn hg
  have hps:ps.length≤1048576:=by unfold bulkPs at hn;omega
  rw [szN_pos (by omega)] at hsz
  obtain⟨q,hq⟩:∃q:Nat,(q:Int)=1048576 - (bulkPs ps:Int):=⟨(1048576 - bulkPs ps),by omega⟩
  rw [←hq] at hsz
  have HSZ:Hid (∀_:Unit,_):=fun _=>hsz
  obtain⟨R,hR⟩:∃R:ByteArray,R=⟨(listL (qOf ps) (qOf ps).length).toArray⟩:=⟨_,rfl⟩
  have HTO:Hid (∀W,Below w.heap.size w W→Calls Tryz.prog 8 #[.agg #[.slice ao ps.length cap]] W fun e w'=>∃g,e=.returned (.agg #[.slice (some ⟨g,0,none⟩) ps.length ps.length])∧W.heap.size≤g∧ProtosOwn w' g ps∧CapP w' g ps ps.length∧Below W.heap.size W w'):=fun W hb=>toCode_cap ao cap ps W hps FI.few (hv.later (Keeps.of_below hb))
  have HSP:Hid (∀g W,ProtosAt 0 W (some ⟨g,0,none⟩) ps→Calls Tryz.prog 18 #[.agg #[.slice (some ⟨g,0,none⟩) ps.length ps.length]] W fun e w'=>e=.returned (.string R)∧Below W.heap.size W w'):=fun g W hp=>by have:=specListing_any (some ⟨g,0,none⟩) ps.length ps W FI hp;rw [←hR] at this;exact this
  have HIM:Hid (∀g W,Below w.heap.size w W→ProtosAt 0 W (some ⟨g,0,none⟩) ps→CapP W g ps ps.length→g<W.heap.size→Calls Tryz.prog 19 #[.agg #[.slice (some ⟨g,0,none⟩) ps.length ps.length]] W fun e w'=>e=.returned (.string R)∧Below W.heap.size W w'):=fun g W hb hp hc hgl=>by
   have:=implListing_any g ps.length ps W FI (hF.later hb) (hnm.below hb hnm.lt) (hpw.of_block (hb.block _ hpl)) (Nat.lt_of_lt_of_le hpl hb.size) hp hc hgl;rw [←hR] at this;exact this
  have HEC:Hid (∀g k W,ProtosAt 0 W (some ⟨g,0,none⟩) ps→ProtosAt 0 W (some ⟨k,0,none⟩) ps→Calls Tryz.prog 11 #[.agg #[.slice (some ⟨g,0,none⟩) ps.length ps.length],.agg #[.slice (some ⟨k,0,none⟩) ps.length ps.length]] W fun e w'=>e=.returned (.bool true)∧Below W.heap.size W w'):=fun g k W h1 h2=>eqCode_any (some ⟨g,0,none⟩) (some ⟨k,0,none⟩) ps.length ps.length ps W hps FI.few FI.flts h1 h2
  have q0:¬(q:Int)<0:=by omega
  clear hsz hn hg hF hv FI hm hq hnm hpw hR
  go_enter Tryz.func5,Tryz.ntmps5
  have c0:=C0.cell
  go_wp2_with fail
  refine (HSZ.out ()).mono ?_
  rintro e w1 ⟨rfl,hw1⟩
  have B1:=B0.trans (hw1.mono B0.size)
  have C1:=C0.later hw1
  clear hw1 B0 C0 c0 HSZ
  have c1:=C1.cell
  go_wp2_with fail
  refine (HTO.out w1 B1).mono ?_
  rintro e w2 ⟨g2,rfl,_,P2,_,hw2⟩
  have B2:=B1.trans (hw2.mono B1.size)
  have C2:=C1.later hw2
  clear hw2 B1 C1 c1
  go_wp2_with fail
  refine (HSP.out g2 w2 (P2.at (Nat.zero_le _))).mono ?_
  rintro e w3 ⟨rfl,hw3⟩
  have B3:=B2.trans (hw3.mono B2.size)
  have C3:=C2.later hw3
  clear hw3 B2 C2 P2 HSP
  have c3_:=C3.cell
  go_wp2_with fail
  refine (HTO.out w3 B3).mono ?_
  rintro e w4 ⟨gx,rfl,hgx,P4,K4,hw4⟩
  have A4:=below_al (Below.refl w4.heap.size w4) (.cells #[.slice (some ⟨gx,0,none⟩) ps.length ps.length] 31)
  have B4:=(B3.trans (hw4.mono B3.size)).trans (A4.mono (Nat.le_trans B3.size hw4.size))
  have C4:=(C3.later hw4).later A4
  have S4:=Blk.new w4 #[.slice (some ⟨gx,0,none⟩) ps.length ps.length] 31
  have HP4:Hid (ProtosAt 0 (w4.alloc (.cells #[.slice (some ⟨gx,0,none⟩) ps.length ps.length] 31)) (some ⟨gx,0,none⟩) ps):=(P4.at (Nat.zero_le _)).later (Keeps.of_below A4)
  have HK4:Hid (CapP (w4.alloc (.cells #[.slice (some ⟨gx,0,none⟩) ps.length ps.length] 31)) gx ps ps.length):=K4.later A4 P4.1.lt
  have hgl:gx<(w4.alloc (.cells #[.slice (some ⟨gx,0,none⟩) ps.length ps.length] 31)).heap.size:=Nat.lt_of_lt_of_le P4.1.lt A4.size
  clear hw4 A4 P4 K4 c3_ C3 B3
  have s4:=S4.cell
  go_wp2_with fail
  generalize w4.alloc (.cells #[.slice (some ⟨gx,0,none⟩) ps.length ps.length] 31)=w4a at *
  clear s4
  refine (HIM.out gx w4a B4 HP4.out HK4.out hgl).mono ?_
  rintro e w5 ⟨rfl,hw5⟩
  have C5:=C4.later hw5
  have S5:=S4.later hw5
  have B5:=B4.trans (hw5.mono B4.size)
  have HP5:Hid (ProtosAt 0 w5 (some ⟨gx,0,none⟩) ps):=ProtosAt.later HP4.out (Keeps.of_below hw5)
  clear hw5 C4 S4 B4 HP4 HK4 HIM
  have c5:=C5.cell
  have s5:=S5.cell
  go_wp2_with fail
  have Dd:Below w5.heap.size w5 w5.drew:=(Below.refl _ _).drew
  have Cd:=C5.later Dd
  have Kd:=S5.later Dd
  have HPd:Hid (ProtosAt 0 w5.drew (some ⟨gx,0,none⟩) ps):=ProtosAt.later HP5.out (Keeps.of_below Dd)
  go_region_held3 (fun w'=>w'.cell? ⟨w.heap.size,0,none⟩=some (.slice ao ps.length cap)∧w'.cell? ⟨w4.heap.size,0,none⟩=some (.slice (some ⟨gx,0,none⟩) ps.length ps.length)) (go_keep)
   (first
    | (go_at_call 8;refine (HTO.out w5.drew B5.drew).mono ?_;rintro e wa ⟨ga,rfl,_,Pa,_,hwa⟩;have ca:=(Cd.later hwa).cell 0;have ka:=(Kd.later hwa).cell 0;have HPa:Hid (ProtosAt 0 wa (some ⟨ga,0,none⟩) ps):=Pa.at (Nat.zero_le _))
    | (go_at_call 11;refine (HEC.out gx ga wa (ProtosAt.later HPd.out (Keeps.of_below hwa)) HPa.out).mono ?_;rintro e wb ⟨rfl,hwb⟩;have cb:=((Cd.later hwa).later hwb).cell 0;have kb:=((Kd.later hwa).later hwb).cell 0))
  go_wp2_with fail
  go_ret
  exact⟨rfl,(B5.drew.trans (hwa.mono B5.drew.size)).trans (hwb.mono (Nat.le_trans B5.drew.size hwa.size))⟩
 ·rw [szN_neg (by omega)] at hsz
  have HSZ:Hid (∀_:Unit,_):=fun _=>hsz
  clear hsz hn hg hF hv hm
  go_enter Tryz.func5,Tryz.ntmps5
  have c0:=C0.cell 0
  go_wp2_with fail
  refine (HSZ.out ()).mono ?_
  rintro e w1 ⟨rfl,hw1⟩
  have B1:=B0.trans (hw1.mono B0.size)
  clear c0 C0
  go_wp2_with fail
  go_ret
  exact⟨rfl,B1⟩
end Go.Proofs.YtaakadmnhpboiaaGreatDoor
namespace Go.Proofs.YtaakadmnhpboiaaGreatDoor
open Go.ChangeShapes Go.WideShapes Go.ChangeAt Go.RowKit
theorem Tryz.own:ownKnob Tryz.prog.godebug=none:=by kernel_rfl
theorem Tryz.laidOut:laidOutB Tryz.prog=true:=all_laid
theorem gForms : Tryz.prog.globalNamed "loop.example/loom/impl.forms" = some 1 := by kernel_rfl
theorem gFormsType:(Tryz.prog.globals[1]?).map (·.type)=some 221:=by kernel_rfl
theorem cells1_role:Tryz.prog.cellsOf 218=1:=by kernel_rfl
theorem cells_form:Tryz.prog.cellsOf 220=4:=by kernel_rfl
theorem cells_forms:Tryz.prog.cellsOf 221=172:=by kernel_rfl
theorem cells1_protos:Tryz.prog.cellsOf 22=1:=by kernel_rfl
theorem cells_code:Tryz.prog.cellsOf 24=1:=by kernel_rfl
def rowD {H:Type} (r:List Nat):DataW H:=.agg (r.map fun (z:Nat)=>.lit (.int .i64 z))
theorem laid_rows {H:Type} : (Rows.laid_loop_example_loom_impl_forms:DataW H)=.agg (formTab.map rowD):=by kernel_rfl
set_option maxRecDepth 100000 in
theorem forms_of {W:World} {fuel:Nat} {cs:List Value} {p:List MemPlace} (h:DataW.trod (fun _=>()) Tryz.prog W 0 (fun _=>true) false fuel 221 cs=some (Rows.laid_loop_example_loom_impl_forms,p)) (op j r:Nat) (hr:(formOf op)[j]?=some r) :
  cs[op*4+j]?=some (.int .i64 r):=by
 rw [laid_rows] at h
 cases fuel with
 | zero=>simp [DataW.trod] at h
 | succ fuel=>
  simp only [DataW.trod,Tryz.underlying221,cells_form,cells_forms] at h
  split at h
  ·obtain⟨xs,hm,hx⟩:=Option.map_eq_some_iff.1 h
   have hxs:xs.map (·.1)=formTab.map rowD:=by
    have h1:=congrArg Prod.fst hx
    exact DataW.agg.inj h1
   have hop:op<43:=by
    apply Classical.byContradiction
    intro hc
    have hlen:formTab.length=43:=rfl
    have h0:formOf op=[]:=by unfold formOf;rw [List.getD_eq_getElem?_getD,List.getElem?_eq_none (by omega)];rfl
    rw [h0] at hr
    simp at hr
   obtain⟨b,hb,hf⟩:=Lib.mapM_at hm op op (by simp [hop])
   have hft:formTab[op]?=some (formOf op):=by
    unfold formOf
    have hlen:formTab.length=43:=rfl
    rw [List.getD_eq_getElem?_getD,List.getElem?_eq_getElem (by omega)]
    rfl
   have h2:b.1=rowD (formOf op):=by
    have h1:(xs.map (·.1))[op]?=some b.1:=by rw [List.getElem?_map,hb];rfl
    rw [hxs,List.getElem?_map,hft] at h1
    exact (Option.some.inj h1).symm
   obtain⟨r0,r1,r2,r3,hfo,_⟩:=form_four (n:=op) (by omega)
   obtain⟨ys,n,_,hy,_,hyl,hfld⟩:=DataW.trod_struct Tryz.underlying220 hf
   have h3:ys.map (·.1)=[r0,r1,r2,r3].map fun (z:Nat)=>(DataW.lit (.int .i64 z):DataW Unit):=by
    rw [hy,hfo] at h2
    exact DataW.agg.inj h2
   simp only [List.size_toArray,List.length_cons,List.length_nil] at hyl
   have f0:=hfld 0 _ rfl
   simp [cells1_role] at f0
   rw [List.getElem?_eq_getElem (by omega)] at f0
   obtain⟨z0,e0,y0,_⟩:=DataW.trod_int Tryz.underlying218 f0
   have k0:cs[op*4+0]?=some (.int .i64 z0):=by
    have h5:=congrArg (·[0]?) e0
    simpa [List.getElem?_take,List.getElem?_drop] using h5
   have l0:(ys.map (·.1))[0]?=some (.lit (.int .i64 z0)):=by
    rw [List.getElem?_map,List.getElem?_eq_getElem (by omega),y0];rfl
   rw [h3] at l0
   simp only [List.map_cons,List.map_nil,List.getElem?_cons_zero,Option.some.injEq,DataW.lit.injEq,Lit.int.injEq,true_and] at l0
   have f1:=hfld 1 _ rfl
   simp [cells1_role] at f1
   rw [List.getElem?_eq_getElem (by omega)] at f1
   obtain⟨z1,e1,y1,_⟩:=DataW.trod_int Tryz.underlying218 f1
   have k1:cs[op*4+1]?=some (.int .i64 z1):=by
    have h5:=congrArg (·[0]?) e1
    simpa [List.getElem?_take,List.getElem?_drop] using h5
   have l1:(ys.map (·.1))[1]?=some (.lit (.int .i64 z1)):=by
    rw [List.getElem?_map,List.getElem?_eq_getElem (by omega),y1];rfl
   rw [h3] at l1
   simp only [List.map_cons,List.map_nil,List.getElem?_cons_zero,List.getElem?_cons_succ,Option.some.injEq,DataW.lit.injEq,Lit.int.injEq,true_and] at l1
   have f2:=hfld 2 _ rfl
   simp [cells1_role] at f2
   rw [List.getElem?_eq_getElem (by omega)] at f2
   obtain⟨z2,e2,y2,_⟩:=DataW.trod_int Tryz.underlying218 f2
   have k2:cs[op*4+2]?=some (.int .i64 z2):=by
    have h5:=congrArg (·[0]?) e2
    simpa [List.getElem?_take,List.getElem?_drop] using h5
   have l2:(ys.map (·.1))[2]?=some (.lit (.int .i64 z2)):=by
    rw [List.getElem?_map,List.getElem?_eq_getElem (by omega),y2];rfl
   rw [h3] at l2
   simp only [List.map_cons,List.map_nil,List.getElem?_cons_zero,List.getElem?_cons_succ,Option.some.injEq,DataW.lit.injEq,Lit.int.injEq,true_and] at l2
   have f3:=hfld 3 _ rfl
   simp [cells1_role] at f3
   rw [List.getElem?_eq_getElem (by omega)] at f3
   obtain⟨z3,e3,y3,_⟩:=DataW.trod_int Tryz.underlying218 f3
   have k3:cs[op*4+3]?=some (.int .i64 z3):=by
    have h5:=congrArg (·[0]?) e3
    simpa [List.getElem?_take,List.getElem?_drop] using h5
   have l3:(ys.map (·.1))[3]?=some (.lit (.int .i64 z3)):=by
    rw [List.getElem?_map,List.getElem?_eq_getElem (by omega),y3];rfl
   rw [h3] at l3
   simp only [List.map_cons,List.map_nil,List.getElem?_cons_zero,List.getElem?_cons_succ,Option.some.injEq,DataW.lit.injEq,Lit.int.injEq,true_and] at l3
   rw [hfo] at hr
   match j,hr with
   | 0,hr=>simp at hr;rw [k0,←l0,hr]
   | 1,hr=>simp at hr;rw [k1,←l1,hr]
   | 2,hr=>simp at hr;rw [k2,←l2,hr]
   | 3,hr=>simp at hr;rw [k3,←l3,hr]
   | j+4,hr=>simp at hr
  ·cases h
theorem gNames : Tryz.prog.globalNamed "loop.example/loom/impl.quickNames" = some 0 := by kernel_rfl
theorem gNamesType:(Tryz.prog.globals[0]?).map (·.type)=some 80:=by kernel_rfl
theorem gPowType:(Tryz.prog.globals[3]?).map (·.type)=some 261:=by kernel_rfl
theorem cells_str:Tryz.prog.cellsOf 9=1:=by kernel_rfl
theorem cells_u64:Tryz.prog.cellsOf 240=1:=by kernel_rfl
theorem cells_names:Tryz.prog.cellsOf 80=47:=by kernel_rfl
theorem cells_pow:Tryz.prog.cellsOf 261=20:=by kernel_rfl
theorem laid_names {H:Type} : (Rows.laid_loop_example_loom_impl_quickNames:DataW H)=.agg (nameTab.map fun l=>.lit (.string l)):=by kernel_rfl
theorem laid_pows {H:Type} : (Rows.laid_internal_strconv_uint64pow10:DataW H)=Lib.tabData .u64 Lib.pow10Tab:=by kernel_rfl
set_option maxRecDepth 100000 in
theorem names_of {W:World} {fuel:Nat} {cs:List Value} {p:List MemPlace} (h:DataW.trod (fun _=>()) Tryz.prog W 0 (fun _=>true) false fuel 80 cs=some (Rows.laid_loop_example_loom_impl_quickNames,p)) (op:Nat) (hop:op<47) :
  cs[op]?=some (.string (nameB op)):=by
 rw [laid_names] at h
 cases fuel with
 | zero=>simp [DataW.trod] at h
 | succ fuel=>
  simp only [DataW.trod,Tryz.underlying80,cells_str,cells_names] at h
  split at h
  ·obtain⟨xs,hm,hx⟩:=Option.map_eq_some_iff.1 h
   have hxs:xs.map (·.1)=nameTab.map fun l=>(DataW.lit (.string l):DataW Unit):=DataW.agg.inj (congrArg Prod.fst hx)
   obtain⟨b,hb,hf⟩:=Lib.mapM_at hm op op (by simp [hop])
   obtain⟨s,e,hbs,_⟩:=DataW.trod_string Tryz.underlying9 hf
   have hn:nameTab[op]?=some (nameTab.getD op []):=by
    have hlen:nameTab.length=47:=rfl
    rw [List.getD_eq_getElem?_getD,List.getElem?_eq_getElem (by omega)]
    rfl
   have h1:(xs.map (·.1))[op]?=some b.1:=by rw [List.getElem?_map,hb];rfl
   rw [hxs,List.getElem?_map,hn,hbs] at h1
   simp only [Option.map_some,Option.some.injEq,DataW.lit.injEq,Lit.string.injEq] at h1
   have h2:s=nameB op:=bytes_ext h1.symm
   have h5:=congrArg (·[0]?) e
   rw [←h2]
   simpa [List.getElem?_take,List.getElem?_drop] using h5
  ·cases h
theorem laid_all {W:World} (h:laidMetH Tryz.prog Rows.fnExactQuickListingRow.laid W):Forms W∧Names W∧Pows W∧3<W.heap.size:=by
 have h1 : laidMet Tryz.prog [("math/bits.deBruijn32tab", Rows.laid_math_bits_deBruijn32tab), ("math/bits.deBruijn64tab", Rows.laid_math_bits_deBruijn64tab), ("internal/strconv.uint64pow10", Rows.laid_internal_strconv_uint64pow10), ("loop.example/loom/impl.forms", Rows.laid_loop_example_loom_impl_forms), ("loop.example/loom/impl.quickNames", Rows.laid_loop_example_loom_impl_quickNames)] W := h
 obtain⟨_,⟨_,_,_,_,_,_,_,_,_,_,⟨_,_,_,_,_,_,_,_,_,_,⟨g3,t3,cs3,f3,p3,q3,hg3,ht3,hv3,hd3,⟨g,t,cs,fuel,p,q,hg,ht,hvar,htr,⟨g5,t5,cs5,f5,p5,q5,hg5,ht5,hv5,hd5,_⟩,_⟩,_⟩,_⟩,_⟩,_⟩:=h1
 obtain rfl:g=1:=(Option.some.inj (gForms.symm.trans hg)).symm
 obtain rfl:t=221:=(Option.some.inj (gFormsType.symm.trans ht)).symm
 obtain rfl:g5=0:=(Option.some.inj (gNames.symm.trans hg5)).symm
 obtain rfl:t5=80:=(Option.some.inj (gNamesType.symm.trans ht5)).symm
 obtain rfl:g3=3:=(Option.some.inj (gPow.symm.trans hg3)).symm
 obtain rfl:t3=261:=(Option.some.inj (gPowType.symm.trans ht3)).symm
 have hc:∀(op j r:Nat),(formOf op)[j]?=some r→W.cell? ⟨1,op*4+j,none⟩=some (.int .i64 r):=fun op j r hr=>by
  rw [World.var?_cell gForms hvar,←Array.getElem?_toList]
  exact forms_of htr op j r hr
 have hn:∀op:Nat,op<47→W.cell? ⟨0,op,none⟩=some (.string (nameB op)):=fun op ho=>by
  rw [World.var?_cell gNames hv5,←Array.getElem?_toList]
  exact names_of hd5 op ho
 rw [laid_pows] at hd3
 have hp:Pows W:=by
  unfold Pows Lib.TabIs
  rw [hv3,←Lib.cells_of_tab Tryz.underlying261 Tryz.underlying240 cells_u64 cells_pow hd3]
 exact⟨⟨World.block_lt_of_cell? _ _ (hc 0 0 0 rfl),hc⟩,⟨World.block_lt_of_cell? _ _ (hn 0 (by omega)),hn⟩,hp,World.block_lt_of_cell? _ _ (Lib.TabIs.cell hp gPow 0 (by decide))⟩
theorem array1 {α:Type} {cs:Array α} (h:cs.size=1):∃c0,cs=#[c0]:=by
 obtain⟨l⟩:=cs
 match l,h with
 | [c0],_=>exact ⟨c0,rfl⟩
set_option maxRecDepth 100000 in
theorem listContract (H:Type) (enc:TypeId × Value→H) (W:World) (base:Nat) (args:Array Value) (ds gs:List (DataW H)) (before:List MemPlace)
  (hval0:∀(j:Nat) t v,Tryz.f5.params[j]?=some t→args[j]?=some v→Value.okWide Tryz.prog W .any base t v)
  (hW:DataW.Whole enc Tryz.prog Tryz.f5.params.toList Rows.fnExactQuickListingSpec.vars false W args.toList ds gs before) (hL:laidMetH Tryz.prog Rows.fnExactQuickListingRow.laid W) :
  Calls Tryz.prog 5 args W fun e W'=>∃v,e=.returned v∧Rows.fnExactQuickListingSpec.post enc Tryz.prog Tryz.f5 false true false false W args v W':=by
 have hval:=hval0
 have hW':=hW
 obtain⟨p,q,hA0,hV,rfl,hfz,hnd⟩:=hW
 have hA:DataW.TrodAll enc Tryz.prog W 0 (fun _=>true) true Tryz.f5.params.toList args.toList ds p:=hA0
 rw [Tryz.params5] at hA hval
 obtain⟨v0,d0,rfl,rfl,h0⟩:=trodAll_one hA
 have hV1 : DataW.TrodVars enc Tryz.prog W (fun _ => true) ["loop.example/loom/impl.quickNames", "loop.example/loom/impl.forms"] gs q := hV
 obtain⟨_,_,_,_,dv,_,_,_,_,_,dw,_,rfl,_,_,_,_,_,_,_,_,_⟩:=trodVars_two hV1
 obtain⟨cs,rfl,hsz⟩:=okWide_struct Tryz.underlying24 (hval 0 24 v0 rfl rfl)
 obtain⟨x0,rfl⟩:=array1 (hsz.trans cells_code)
 have h0k:=h0
 obtain⟨fuel,hf⟩:=h0
 obtain⟨xs,n,_,hx,_,hlen,hfld⟩:=DataW.trod_struct Tryz.underlying24 hf
 clear hA0 hval0 hval
 have hlt:∀x ∈ p,x.block<W.heap.size:=fun x hx=>by simpa using hW'.lt x (List.mem_append_left _ hx)
 have f0:=hfld 0 _ rfl
 simp [Value.cells,cells1_protos] at f0
 simp only [List.size_toArray,List.length_cons,List.length_nil] at hlen
 rw [List.getElem?_eq_getElem (by omega)] at f0
 obtain⟨ao,cap,ps,rfl,hm,hg,hv⟩:=code_of f0
 clear hfld hf hx f0
 refine (listLaw_any ao cap ps W hm hg (laid_all hL).1 (laid_all hL).2.1 (laid_all hL).2.2.1 (laid_all hL).2.2.2 hv).mono fun e W' ⟨he,hb⟩=>?_
 subst he
 refine⟨_,rfl,_,_,_,[],p,q,hW',?_,?_,?_,hb.frame _,fun h=>by cases h⟩
 ·exact trodAll_mk1 (shut_bool Tryz.underlying4 true)
 ·exact trodAll_mk1 (Below.trod Tryz.laidOut (by kernel_rfl) (of_decide_eq_true (by kernel_rfl)) h0k hb hlt)
 ·exact Below.trodVars Tryz.laidOut hb (by kernel_rfl) hV
end Go.Proofs.YtaakadmnhpboiaaGreatDoor
namespace Go.Proofs.YtaakadmnhpboiaaGreatDoor
open Go.ChangeShapes Go.WideShapes Go.ChangeAt Go.RowKit
def litV:DataW Unit→Value
 | .lit (.int k z)=>.int k z
 | .lit (.string s)=>.string ⟨s.toArray⟩
 | _=>.bool false
def rowV:DataW Unit→Array Value
 | .agg l=>(l.map litV).toArray
 | _=>#[]
def putV (h:Array Obj) (g:Nat) (vs:Array Value):Array Obj:=h.modify g fun
 | .cells _ t frozen=>.cells vs t frozen
 | o=>o
noncomputable def laidWorld (os:Os):World:=
 {World.holding Tryz.prog os ⟨#[],#[],[]⟩ with heap:=putV (putV (putV (putV (putV (World.holding Tryz.prog os ⟨#[],#[],[]⟩).heap 1 (formTab.flatMap fun r=>r.map fun (z:Nat)=>Value.int .i64 z).toArray) 0 (rowV Rows.laid_loop_example_loom_impl_quickNames)) 3 (rowV Rows.laid_internal_strconv_uint64pow10)) 4 (rowV Rows.laid_math_bits_deBruijn32tab)) 5 (rowV Rows.laid_math_bits_deBruijn64tab)}
theorem laid_met (os:Os):laidMet Tryz.prog Rows.fnExactQuickListingRow.laid ((laidWorld os).forCall (fun _ _=>0) ⟨#[],#[.agg #[.slice none 0 0]],[]⟩).memory:=
 laidMet_of_run' 8 (by kernel_rfl) (by kernel_rfl)
theorem reads (os:Os) {H:Type} (enc:TypeId × Value→H):∃places,DataW.whole enc Tryz.prog ((laidWorld os).forCall (fun _ _=>0) ⟨#[],#[.agg #[.slice none 0 0]],[]⟩).memory Tryz.f5.params.toList Rows.fnExactQuickListingSpec.vars false #[Value.agg #[.slice none 0 0]].toList 8=some ([.agg [.nil]],[Rows.laid_loop_example_loom_impl_quickNames,Rows.laid_loop_example_loom_impl_forms],places):=
 ⟨MemPlace.row ⟨0,0,none⟩ 47 ++ MemPlace.row ⟨1,0,none⟩ 172,by kernel_rfl⟩
set_option maxRecDepth 100000 in
theorem listLifted (os:Os) (started:os.Started) (H:Type) (enc:TypeId × Value→H) (F:Stop.Interp) :
  ReturnsInHanded {} Tryz.checked os 5 .any ((OpenSpec.ofChange Rows.fnExactQuickListingSpec).preRow enc Tryz.prog Tryz.f5 Rows.fnExactQuickListingRow.domain false Rows.fnExactQuickListingRow.laid) (((OpenSpec.ofChange Rows.fnExactQuickListingSpec).at F).post enc Tryz.prog Tryz.f5 false true false false):=by
 obtain⟨places,hx⟩:=reads os enc
 refine returnsInHanded_of_row (C:=Tryz.checked) (s:=OpenSpec.ofChange Rows.fnExactQuickListingSpec) Tryz.own started (by kernel_rfl) Tryz.func5
  (witness_row_at (enc:=enc) (C:=Tryz.checked) false (laidWorld os) #[.agg #[.slice none 0 0]] rfl (by kernel_rfl) (by kernel_rfl) (by kernel_rfl)
   (OpenSpec.preRow_of_cond 8 hx (by kernel_rfl) (fun k hk=>by cases hk) (by kernel_rfl) (laid_met os))) ?_
 intro W base args ds gs before hval hW _ _ _ hL _ _
 exact listContract H enc W base args ds gs before hval hW hL
theorem listFacts:joinedFacts Tryz.pinned.checked.prog 5 Tryz.f5 (OpenSpec.ofChange Rows.fnExactQuickListingSpec).bare Rows.fnExactQuickListingRow=true:=by
 unfold joinedFacts
 rw [all_laid,all_maps,all_heard,all_enter,list_place,list_unf,list_rec,list_named]
 kernel_rfl
theorem listSaid:Rows.FnExactQuickListingSaid:=
 OpenClaim.holds_of_cond 5 Tryz.f5 rfl rfl rfl rfl rfl rfl rfl ⟨rfl,rfl,rfl,rfl,rfl⟩ rfl rfl rfl rfl rfl (by kernel_rfl) Tryz.func5 listFacts
  (of_decide_eq_true (by kernel_rfl)) (by unfold Func.isWrapper;first | (rw [if_pos (by decide +kernel)];kernel_rfl) | (rw [if_neg (by decide +kernel)];exact ⟨rfl,rfl⟩))
  (fun os started H enc _ F=>by rw [OpenClaim.pre_eq_preRow];exact listLifted os started H enc F)
theorem listPlain (f : FuncId) (fn : Func) (hf : Tryz.pinned.checked.prog.funcNamed "loop.example/loom/laws.FnExactQuickListing" = some f) (hfn : Tryz.pinned.checked.prog.funcs[f]? = some fn) :
  true=Tryz.pinned.checked.prog.looks []∧∀(j:Nat) t,fn.params[j]?=some t→Tryz.pinned.checked.prog.wantsStandIn t=false:=by
 obtain rfl : f = 5 := Option.some.inj ((show Tryz.prog.funcNamed "loop.example/loom/laws.FnExactQuickListing" = some 5 by kernel_rfl).symm.trans hf) |>.symm
 obtain rfl:fn=Tryz.f5:=(Option.some.inj (Tryz.func5.symm.trans hfn)).symm
 refine⟨by kernel_rfl,fun j t ht=>?_⟩
 rw [Tryz.params5] at ht
 obtain rfl:t=24:=by simpa using Array.mem_of_getElem? ht
 exact (show Tryz.prog.wantsStandIn 24=false by kernel_rfl)
theorem quickListing_holds:Rows.FnExactQuickListingCardSaid:=
 Claim7.holds_tied_plain_at .later [] _ _ _ _ listSaid (fun _ h=>by cases h) (by kernel_rfl) (fun _ h=>by cases h) fnExactQuickListing_row_tie rfl ⟨rfl,rfl⟩ (by kernel_rfl) rfl listPlain (by kernel_rfl)
#print axioms quickListing_holds
end Go.Proofs.YtaakadmnhpboiaaGreatDoor
