import Derived.Test.YtjbbppblgjhapaaGreatDoorJ26
set_option maxRecDepth 100000
set_option maxHeartbeats 2000000
namespace Go.Proofs.YtjbbppblgjhapaaGreatDoor
open Go.Deep Go.Proofs.Tryz Go.RowKit
variable{b:Nat}{o:Option Qd}{v:Value}{w:World}
def Ack:Qd:=⟨0,0,0,0,0,0,0⟩
def A1r:Option Qd->Value
  | none=>.tuple #[Ack.val,false]
  | some q=>.tuple #[q.val,true]
theorem Rl (h:o=none):Ending.returned (.tuple #[.agg #[(),(),(),(),(),(),()],false])=.returned (A1r o):=by rw[h];rfl
theorem Nq {a b c d e f g:Int} (h:o=some ⟨a,b,c,d,e,f,g⟩):Ending.returned (.tuple #[.agg #[a,b,c,d,e,f,g],true])=.returned (A1r o):=by rw[h];rfl
theorem Mt{o:Nat} (hb:b<(w:Nat)) (h:w.cell? (b,o)=some v) (o1 o2 o3:Obj):(((w.alloc o1).alloc o2).alloc o3).cell? (b,o)=some v:=
  (Below.cell (p:=(b,o)) ((((yA (w:Nat) w).alloc (yB _) o1).alloc (by simp) o2).alloc (by simp;omega) o3) hb).trans h
theorem Aad{o:Nat} (hb:b<(w:Nat)) (h:w.cell? (b,o)=some v) (o1 o2 o3 o4:Obj):((((w.alloc o1).alloc o2).alloc o3).alloc o4).cell? (b,o)=some v:=
  (Below.cell (p:=(b,o)) (((((yA (w:Nat) w).alloc (yB _) o1).alloc (by simp) o2).alloc (by simp;omega) o3).alloc (by simp;omega) o4) hb).trans h
theorem A8z (p:Pd) (h:Ph) (i cache:Nat) (n:Nd) (w:World) (hz:p.ins.length<=1048576) (hin:Ck 0 w h.io p.ins) (hcs:Ba 0 w h.co p.consts) (hi:p.ins[i]?=some n) (hq:QFit p n) :
    Kw 109 #[.agg (p.cells h),i,cache] w (A1r (Oa p.consts cache (p.ins.drop i))):=by
  have hil:=(yD.1 hi).1
  obtain⟨nm,ln,pa,re,rg,us,cs,is,ms⟩:=p
  obtain⟨uo,uc,co,cc,io,ic,no,nc⟩:=h
  dsimp only[Pd.cells]at *
  by_cases hlt:i+1<is.length
  rotate_left
  · have HT:Hid (Oa cs cache (is.drop i)=none):=A9q (by omega)
    have k0:¬(i:Int)+1<is.length:=by omega
    clear hin hcs hi hq
    unfold Kw;go_in
    go_wp2_with fail
    refine bodyPost_ret (v:=.tuple #[.agg #[(),(),(),(),(),(),()],false]) (by simp[results,results109,go_sem]) rfl ⟨Rl HT.out,?_⟩
    repeat (first|exact yA _ _|refine Below.alloc ?_ (by simp;try omega) _|refine yP ?_ (by simp;try omega) _)
  obtain⟨x,hx⟩:=A8 hlt
  obtain⟨b,off,rfl,_,hbl,q0,q1,q2,q3,q4⟩:=hin i n hi
  obtain⟨b',off',e',_,hbl',r0,r1,r2,r3,r4⟩:=hin (i+1) x hx
  simp only[Option.some.injEq,Addr.mk.injEq,and_true]at e'
  obtain⟨rfl,rfl⟩:=e'
  replace r0:=Mt hbl r0
  replace r1:=Mt hbl r1
  replace r2:=Mt hbl r2
  replace r3:=Mt hbl r3
  replace r4:=Mt hbl r4
  have HT:Hid (Oa cs cache (is.drop i)=Kk cs cache n x):=A9p hi hx
  obtain⟨n0,n1,n2,n3,n4⟩:=n
  obtain⟨x0,x1,x2,x3,x4⟩:=x
  obtain⟨lo,hi42,hdr,hcst,hbin⟩:=hq
  dsimp only at *
  clear hdr hi hx hin
  have k0:(i:Int)+1<is.length:=by omega
  by_cases h18:n0=18
  · subst h18
    obtain⟨ha1,ha2⟩:=hbin rfl
    clear hbin hcst hcs
    have HT2:Hid (Kk cs cache ⟨18,n1,n2,n3,n4⟩ ⟨x0,x1,x2,x3,x4⟩=if 13<=n2/\(x0=20∨x0=21)/\x1 = -1-n1 then some ⟨43,n1,n2,n3,n4,x2,if x0=20 then 1 else 0⟩ else none):=by
      show _=_
      simp only[Kk,true_and]
      split<;>simp
    unfold Kw;go_in
    go_wp2_with fail
    all_goals first
      | (refine bodyPost_ret (v:=.tuple #[.agg #[(43:Int),n1,n2,n3,n4,x2,(1:Int)],true]) ?_ rfl ⟨Nq ?_,?_⟩
         · simp[results,results109,go_sem];done
         · show _=_
           rw[HT.out,HT2.out]
           clear HT HT2 r0 r1 r2 r3 r4 q0 q1 q2 q3 q4
           grind
         · repeat (first|exact yA _ _|refine Below.alloc ?_ (by simp;try omega) _|refine yP ?_ (by simp;try omega) _))
      | (refine bodyPost_ret (v:=.tuple #[.agg #[(43:Int),n1,n2,n3,n4,x2,()],true]) ?_ rfl ⟨Nq ?_,?_⟩
         · simp[results,results109,go_sem];done
         · show _=_
           rw[HT.out,HT2.out]
           clear HT HT2 r0 r1 r2 r3 r4 q0 q1 q2 q3 q4
           grind
         · repeat (first|exact yA _ _|refine Below.alloc ?_ (by simp;try omega) _|refine yP ?_ (by simp;try omega) _))
      | (refine bodyPost_ret (v:=.tuple #[.agg #[(),(),(),(),(),(),()],false]) ?_ rfl ⟨Rl ?_,?_⟩
         · simp[results,results109,go_sem];done
         · show _=_
           rw[HT.out,HT2.out]
           clear HT HT2 r0 r1 r2 r3 r4 q0 q1 q2 q3 q4
           grind
         · repeat (first|exact yA _ _|refine Below.alloc ?_ (by simp;try omega) _|refine yP ?_ (by simp;try omega) _))
  · have g18:(n0==18)=false:=by simpa using h18
    by_cases h4:n0=4
    rotate_left
    · have g4:(n0 !=4)=true:=by simpa using h4
      have HT2:Hid (Kk cs cache ⟨n0,n1,n2,n3,n4⟩ ⟨x0,x1,x2,x3,x4⟩=none):=by
        show _=_
        simp[Kk,h18,h4]
      clear hbin hcst hcs h18 h4
      unfold Kw;go_in
      go_wp2_with fail
      refine bodyPost_ret (v:=.tuple #[.agg #[(),(),(),(),(),(),()],false]) (by simp[results,results109,go_sem]) rfl ⟨Rl (HT.out.trans HT2.out),?_⟩
      repeat (first|exact yA _ _|refine Below.alloc ?_ (by simp;try omega) _|refine yP ?_ (by simp;try omega) _)
    · subst h4
      obtain⟨⟨ha1,ha2⟩,hb1,hb2⟩:=hcst rfl
      clear hbin hcst h18 g18
      obtain⟨m,rfl⟩:∃m:Nat,n2=m:=⟨n2.toNat,by omega⟩
      obtain⟨v,hv⟩:=A8 (show m<cs.length by omega)
      have hkind:Nc cs (m:Int)=v.kind:=by simp[Nc,hv]
      obtain⟨bc,oc,rfl,_,hbc,w0,_⟩:=hcs m v hv
      replace w0:=Aad hbc w0
      obtain⟨kd,num,flt,str,rf⟩:=v
      dsimp only at *
      have HT2:Hid (Kk cs cache ⟨4,n1,m,n3,n4⟩ ⟨x0,x1,x2,x3,x4⟩=if x0=18/\x3 = -1-n1/\x4≠n1/\x4≠-1-n1 then some ⟨44,x1,x2,x4,m,1,n1⟩
  else if x0=18/\x4 = -1-n1/\x3≠n1/\x3≠-1-n1 then some ⟨44,x1,x2,x3,m,0,n1⟩
  else if x0=15/\x3 = -1-n1/\x2≠n1/\x2≠-1-n1/\kd=4 then some ⟨45,x1,x2,m,cache,0,n1⟩ else none):=by
        show _=_
        simp[Kk,hkind]
      clear hcs hkind hv
      have k1:(m:Int)<cs.length:=hb2
      unfold Kw;go_in
      go_wp2_with fail
      all_goals first
      | (refine bodyPost_ret (v:=.tuple #[.agg #[(44:Int),x1,x2,x4,m,(1:Int),n1],true]) ?_ rfl ⟨Nq ?_,?_⟩
         · simp[results,results109,go_sem];done
         · show _=_
           rw[HT.out,HT2.out]
           clear HT HT2 r0 r1 r2 r3 r4 q0 q1 q2 q3 q4
           grind
         · repeat (first|exact yA _ _|refine Below.alloc ?_ (by simp;try omega) _|refine yP ?_ (by simp;try omega) _))
      | (refine bodyPost_ret (v:=.tuple #[.agg #[(44:Int),x1,x2,x3,m,(),n1],true]) ?_ rfl ⟨Nq ?_,?_⟩
         · simp[results,results109,go_sem];done
         · show _=_
           rw[HT.out,HT2.out]
           clear HT HT2 r0 r1 r2 r3 r4 q0 q1 q2 q3 q4
           grind
         · repeat (first|exact yA _ _|refine Below.alloc ?_ (by simp;try omega) _|refine yP ?_ (by simp;try omega) _))
      | (refine bodyPost_ret (v:=.tuple #[.agg #[(45:Int),x1,x2,m,cache,(),n1],true]) ?_ rfl ⟨Nq ?_,?_⟩
         · simp[results,results109,go_sem];done
         · show _=_
           rw[HT.out,HT2.out]
           clear HT HT2 r0 r1 r2 r3 r4 q0 q1 q2 q3 q4
           grind
         · repeat (first|exact yA _ _|refine Below.alloc ?_ (by simp;try omega) _|refine yP ?_ (by simp;try omega) _))
      | (refine bodyPost_ret (v:=.tuple #[.agg #[(),(),(),(),(),(),()],false]) ?_ rfl ⟨Rl ?_,?_⟩
         · simp[results,results109,go_sem];done
         · show _=_
           rw[HT.out,HT2.out]
           clear HT HT2 r0 r1 r2 r3 r4 q0 q1 q2 q3 q4
           grind
         · repeat (first|exact yA _ _|refine Below.alloc ?_ (by simp;try omega) _|refine yP ?_ (by simp;try omega) _))
end Go.Proofs.YtjbbppblgjhapaaGreatDoor
