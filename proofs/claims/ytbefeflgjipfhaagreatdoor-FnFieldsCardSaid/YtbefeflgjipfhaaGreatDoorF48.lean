import Derived.Test.YtbefeflgjipfhaaGreatDoorF22
import Derived.Test.YtbefeflgjipfhaaGreatDoorF47
set_option maxRecDepth 100000
set_option maxHeartbeats 8000000
namespace Go.Proofs.YtbefeflgjipfhaaGreatDoor
open Go.Deep Go.Proofs.Tryz Go.RowKit
abbrev KV.vd (x:KV):Vd:=⟨x.a,x.b,0,x.d,0⟩
abbrev I5.nd (x:I5):Nd:=⟨x.o,x.a,x.b,x.c,x.d⟩
def Jm (kN kK k0 kb:Nat):Bool->List I5
 | true=>[⟨12,4,0,0,0⟩,⟨4,5,0,0,0⟩,⟨4,6,1,0,0⟩,⟨13,4,-6,-7,0⟩,⟨4,7,2,0,0⟩,⟨4,0,3,0,0⟩,⟨4,1,kN,0,0⟩,⟨4,2,3,0,0⟩,⟨37,0,0,0,0⟩,⟨38,0,25,0,0⟩,⟨3,0,0,0,0⟩,⟨4,8,kK,0,0⟩,⟨18,8,6,0,-9⟩,⟨4,9,k0,0,0⟩,⟨18,8,13,-9,-10⟩,⟨21,-9,22,0,0⟩,⟨5,8,0,0,0⟩,⟨5,9,0,0,0⟩,⟨13,4,-9,-10,0⟩,⟨5,8,0,0,0⟩,⟨4,9,2,0,0⟩,⟨13,4,-9,-10,0⟩,⟨4,8,0,0,0⟩,⟨15,7,4,-9,0⟩,⟨39,0,9,0,0⟩,⟨4,8,kb,0,0⟩,⟨22,9,0,0,0⟩,⟨23,9,7,0,0⟩,⟨28,9,-9,-10,0⟩,⟨42,9,0,0,0⟩,⟨22,8,0,0,0⟩,⟨29,-9,0,0,0⟩]
 | false=>[⟨12,4,0,0,0⟩,⟨4,5,0,0,0⟩,⟨4,6,1,0,0⟩,⟨13,4,-6,-7,0⟩,⟨4,7,2,0,0⟩,⟨4,0,3,0,0⟩,⟨4,1,kN,0,0⟩,⟨4,2,3,0,0⟩,⟨37,0,0,0,0⟩,⟨38,0,22,0,0⟩,⟨3,0,0,0,0⟩,⟨4,8,kK,0,0⟩,⟨18,8,6,0,-9⟩,⟨4,9,k0,0,0⟩,⟨18,8,13,-9,-10⟩,⟨21,-9,19,0,0⟩,⟨5,8,0,0,0⟩,⟨5,9,0,0,0⟩,⟨13,4,-9,-10,0⟩,⟨4,8,0,0,0⟩,⟨15,7,4,-9,0⟩,⟨39,0,9,0,0⟩,⟨4,8,kb,0,0⟩,⟨22,9,0,0,0⟩,⟨23,9,7,0,0⟩,⟨28,9,-9,-10,0⟩,⟨42,9,0,0,0⟩,⟨22,8,0,0,0⟩,⟨29,-9,0,0,0⟩]
def qdS (kN kK k0 kb:Nat):Bool->List Qd
 | true=>[⟨12,4,0,0,0,0,0⟩,⟨4,5,0,0,0,0,0⟩,⟨4,6,1,0,0,0,0⟩,⟨13,4,-6,-7,0,0,0⟩,⟨4,7,2,0,0,0,0⟩,⟨4,0,3,0,0,0,0⟩,⟨4,1,kN,0,0,0,0⟩,⟨4,2,3,0,0,0,0⟩,⟨37,0,0,0,0,0,0⟩,⟨38,0,25,0,0,0,0⟩,⟨3,0,0,0,0,0,0⟩,⟨44,8,6,0,kK,0,8⟩,⟨18,8,6,0,-9,0,0⟩,⟨44,8,13,-9,k0,0,9⟩,⟨43,8,13,-9,-10,22,0⟩,⟨21,-9,22,0,0,0,0⟩,⟨5,8,0,0,0,0,0⟩,⟨5,9,0,0,0,0,0⟩,⟨13,4,-9,-10,0,0,0⟩,⟨5,8,0,0,0,0,0⟩,⟨4,9,2,0,0,0,0⟩,⟨13,4,-9,-10,0,0,0⟩,⟨45,7,4,0,0,0,8⟩,⟨15,7,4,-9,0,0,0⟩,⟨39,0,9,0,0,0,0⟩,⟨4,8,kb,0,0,0,0⟩,⟨22,9,0,0,0,0,0⟩,⟨23,9,7,0,0,0,0⟩,⟨28,9,-9,-10,0,0,0⟩,⟨42,9,0,0,0,0,0⟩,⟨22,8,0,0,0,0,0⟩,⟨29,-9,0,0,0,0,0⟩]
 | false=>[⟨12,4,0,0,0,0,0⟩,⟨4,5,0,0,0,0,0⟩,⟨4,6,1,0,0,0,0⟩,⟨13,4,-6,-7,0,0,0⟩,⟨4,7,2,0,0,0,0⟩,⟨4,0,3,0,0,0,0⟩,⟨4,1,kN,0,0,0,0⟩,⟨4,2,3,0,0,0,0⟩,⟨37,0,0,0,0,0,0⟩,⟨38,0,22,0,0,0,0⟩,⟨3,0,0,0,0,0,0⟩,⟨44,8,6,0,kK,0,8⟩,⟨18,8,6,0,-9,0,0⟩,⟨44,8,13,-9,k0,0,9⟩,⟨43,8,13,-9,-10,19,0⟩,⟨21,-9,19,0,0,0,0⟩,⟨5,8,0,0,0,0,0⟩,⟨5,9,0,0,0,0,0⟩,⟨13,4,-9,-10,0,0,0⟩,⟨45,7,4,0,0,0,8⟩,⟨15,7,4,-9,0,0,0⟩,⟨39,0,9,0,0,0,0⟩,⟨4,8,kb,0,0,0,0⟩,⟨22,9,0,0,0,0,0⟩,⟨23,9,7,0,0,0,0⟩,⟨28,9,-9,-10,0,0,0⟩,⟨42,9,0,0,0,0,0⟩,⟨22,8,0,0,0,0,0⟩,⟨29,-9,0,0,0,0,0⟩]
theorem A5r (n k:Int) (g:Bool):A11 n k g=Jm (kIx ks4 (kI n)) (kIx (ks5 n) (kI k)) (kIx (ks6 n k) (kI 0)) (kIx (ks7 n k) kB) g:=by cases g<;>rfl
abbrev pdF (ks:List KV) (ns:List I5):Pd:=⟨⟨#[109,97,105,110]⟩,0,0,false,14,[],ks.map KV.vd,ns.map I5.nd,[]⟩
abbrev kb6:List KV:=[kA,k7,kZ,k1,kI 0,kB]
abbrev kb7 (x:Int):List KV:=[kA,k7,kZ,k1,kI x,kI 0,kB]
abbrev kb8 (x y:Int):List KV:=[kA,k7,kZ,k1,kI x,kI y,kI 0,kB]
def A9k {α β:Type} : Except α β->Bool
 | .ok _=>true
 | .error _=>false
structure Gs (ks:List KV) (a b c d:Nat) (g:Bool):Prop where
 s:(Ce [pdF ks (Jm a b c d g)]).1=0
 w:A9k (Ej [pdF ks (Jm a b c d g)] (pdF ks (Jm a b c d g)) (2*(pdF ks (Jm a b c d g)).ins.length+2) (Ch (pdF ks (Jm a b c d g))))=true
 q:Zu [pdF ks (Jm a b c d g)]=[qdS a b c d g]
 cc:Dn [pdF ks (Jm a b c d g)] 1=1
 f:Nat.ble (Jf [pdF ks (Jm a b c d g)]) 1048576=true
theorem sh0t:Gs kb6 3 3 4 5 true:=⟨by kernel_rfl,by kernel_rfl,by kernel_rfl,by kernel_rfl,by kernel_rfl⟩
theorem sh0f:Gs kb6 3 3 4 5 false:=⟨by kernel_rfl,by kernel_rfl,by kernel_rfl,by kernel_rfl,by kernel_rfl⟩
theorem sh1t:Gs kb6 3 1 4 5 true:=⟨by kernel_rfl,by kernel_rfl,by kernel_rfl,by kernel_rfl,by kernel_rfl⟩
theorem sh1f:Gs kb6 3 1 4 5 false:=⟨by kernel_rfl,by kernel_rfl,by kernel_rfl,by kernel_rfl,by kernel_rfl⟩
theorem sh2t (k:Int):Gs (kb7 k) 3 4 5 6 true:=⟨by kernel_rfl,by kernel_rfl,by kernel_rfl,by kernel_rfl,by kernel_rfl⟩
theorem sh2f (k:Int):Gs (kb7 k) 3 4 5 6 false:=⟨by kernel_rfl,by kernel_rfl,by kernel_rfl,by kernel_rfl,by kernel_rfl⟩
theorem sh3t:Gs kb6 1 3 4 5 true:=⟨by kernel_rfl,by kernel_rfl,by kernel_rfl,by kernel_rfl,by kernel_rfl⟩
theorem sh3f:Gs kb6 1 3 4 5 false:=⟨by kernel_rfl,by kernel_rfl,by kernel_rfl,by kernel_rfl,by kernel_rfl⟩
theorem sh4t:Gs kb6 1 1 4 5 true:=⟨by kernel_rfl,by kernel_rfl,by kernel_rfl,by kernel_rfl,by kernel_rfl⟩
theorem sh4f:Gs kb6 1 1 4 5 false:=⟨by kernel_rfl,by kernel_rfl,by kernel_rfl,by kernel_rfl,by kernel_rfl⟩
theorem sh5t (k:Int):Gs (kb7 k) 1 4 5 6 true:=⟨by kernel_rfl,by kernel_rfl,by kernel_rfl,by kernel_rfl,by kernel_rfl⟩
theorem sh5f (k:Int):Gs (kb7 k) 1 4 5 6 false:=⟨by kernel_rfl,by kernel_rfl,by kernel_rfl,by kernel_rfl,by kernel_rfl⟩
theorem sh6t (n:Int):Gs (kb7 n) 4 3 5 6 true:=⟨by kernel_rfl,by kernel_rfl,by kernel_rfl,by kernel_rfl,by kernel_rfl⟩
theorem sh6f (n:Int):Gs (kb7 n) 4 3 5 6 false:=⟨by kernel_rfl,by kernel_rfl,by kernel_rfl,by kernel_rfl,by kernel_rfl⟩
theorem sh7t (n:Int):Gs (kb7 n) 4 1 5 6 true:=⟨by kernel_rfl,by kernel_rfl,by kernel_rfl,by kernel_rfl,by kernel_rfl⟩
theorem sh7f (n:Int):Gs (kb7 n) 4 1 5 6 false:=⟨by kernel_rfl,by kernel_rfl,by kernel_rfl,by kernel_rfl,by kernel_rfl⟩
theorem sh8t (n:Int):Gs (kb7 n) 4 4 5 6 true:=⟨by kernel_rfl,by kernel_rfl,by kernel_rfl,by kernel_rfl,by kernel_rfl⟩
theorem sh8f (n:Int):Gs (kb7 n) 4 4 5 6 false:=⟨by kernel_rfl,by kernel_rfl,by kernel_rfl,by kernel_rfl,by kernel_rfl⟩
theorem sh9t (n k:Int):Gs (kb8 n k) 4 5 6 7 true:=⟨by kernel_rfl,by kernel_rfl,by kernel_rfl,by kernel_rfl,by kernel_rfl⟩
theorem sh9f (n k:Int):Gs (kb8 n k) 4 5 6 7 false:=⟨by kernel_rfl,by kernel_rfl,by kernel_rfl,by kernel_rfl,by kernel_rfl⟩
structure Sx (n k:Int) (ks:List KV) (a b c d:Nat):Prop where
 e:ks8 n k=ks
 sn:kIx ks4 (kI n)=a
 sk:kIx (ks5 n) (kI k)=b
 z:kIx (ks6 n k) (kI 0)=c
 b:kIx (ks7 n k) kB=d
theorem Yr {ks:List KV} {x:KV} (h:ks.findIdx? (dfb x)=none):Fh ks x=ks++[x]/\kIx ks x=ks.length:=by unfold Fh kIx;rw[h];exact⟨rfl,rfl⟩
theorem Om {ks:List KV} {x:KV} {p:Nat} (h:ks.findIdx? (dfb x)=some p):Fh ks x=ks/\kIx ks x=p:=by unfold Fh kIx;rw[h];exact⟨rfl,rfl⟩
theorem Ku {n k:Int} {l5 l6:List KV} {a b:Nat} (h5:Fh ks4 (kI n)=l5/\kIx ks4 (kI n)=a) (h6:Fh l5 (kI k)=l6/\kIx l5 (kI k)=b) (h7:l6.findIdx? (dfb (kI 0))=none) (h8:(l6++[kI 0]).findIdx? (dfb kB)=none):Sx n k (l6++[kI 0]++[kB]) a b l6.length (l6.length+1):=by
 have e5:ks5 n=l5:=h5.1
 have e6:ks6 n k=l6:=by show Fh (ks5 n) (kI k)=l6;rw[e5];exact h6.1
 have e7:ks7 n k=l6++[kI 0]:=by show Fh (ks6 n k) (kI 0)=_;rw[e6];exact(Yr h7).1
 refine⟨by show Fh (ks7 n k) kB=_;rw[e7];exact(Yr h8).1,h5.2,by rw[e5];exact h6.2,by rw[e6];exact(Yr h7).2,by rw[e7];rw[(Yr h8).2];simp⟩
theorem A9g (n k:Int) (g:Bool) (hn:1<=n) (hk:1<=k):Gs (ks8 n k) (kIx ks4 (kI n)) (kIx (ks5 n) (kI k)) (kIx (ks6 n k) (kI 0)) (kIx (ks7 n k) kB) g:=by
 have go:∀{ks:List KV} {a b c d:Nat},Sx n k ks a b c d->Gs ks a b c d true->Gs ks a b c d false->Gs (ks8 n k) (kIx ks4 (kI n)) (kIx (ks5 n) (kI k)) (kIx (ks6 n k) (kI 0)) (kIx (ks7 n k) kB) g:=fun S h1 h2=>by
  rw[S.e,S.sn,S.sk,S.z,S.b]
  cases g
  ·exact h2
  ·exact h1
 by_cases n1:n=1
 ·subst n1
  by_cases k1:k=1
  ·subst k1;exact go (Ku (Om (p:=3) rfl) (Om (p:=3) rfl) rfl rfl) sh0t sh0f
  by_cases k7:k=7
  ·subst k7;exact go (Ku (Om (p:=3) rfl) (Om (p:=1) rfl) rfl rfl) sh1t sh1f
  ·exact go (Ku (Om (p:=3) rfl) (Yr (by simp[dfb,Ne.symm k1,Ne.symm k7])) (by simp[dfb];omega) (by simp[dfb])) (sh2t k) (sh2f k)
 by_cases n7:n=7
 ·subst n7
  by_cases k1:k=1
  ·subst k1;exact go (Ku (Om (p:=1) rfl) (Om (p:=3) rfl) rfl rfl) sh3t sh3f
  by_cases k7:k=7
  ·subst k7;exact go (Ku (Om (p:=1) rfl) (Om (p:=1) rfl) rfl rfl) sh4t sh4f
  ·exact go (Ku (Om (p:=1) rfl) (Yr (by simp[dfb,Ne.symm k1,Ne.symm k7])) (by simp[dfb];omega) (by simp[dfb])) (sh5t k) (sh5f k)
 have hN:Fh ks4 (kI n)=ks4++[kI n]/\kIx ks4 (kI n)=4:=Yr (by simp[dfb,Ne.symm n1,Ne.symm n7])
 by_cases k1:k=1
 ·subst k1;exact go (Ku hN (Om (p:=3) rfl) (by simp[dfb];omega) (by simp[dfb])) (sh6t n) (sh6f n)
 by_cases k7:k=7
 ·subst k7;exact go (Ku hN (Om (p:=1) rfl) (by simp[dfb];omega) (by simp[dfb])) (sh7t n) (sh7f n)
 by_cases kn:k=n
 ·subst kn;exact go (Ku hN (Om (p:=4) (by simp[dfb,List.findIdx?_cons,Ne.symm k1,Ne.symm k7])) (by simp[dfb];omega) (by simp[dfb])) (sh8t k) (sh8f k)
 ·exact go (Ku hN (Yr (by simp[dfb,Ne.symm k1,Ne.symm k7,Ne.symm kn])) (by simp[dfb];omega) (by simp[dfb])) (sh9t n k) (sh9f n k)
def rkT:Bool->List Nat
 | true=>[100,99,98,97,96,95,94,93,92,40,0,69,68,67,66,65,64,63,62,61,60,59,58,57,56,30,29,28,27,26,25,24]
 | false=>[100,99,98,97,96,95,94,93,92,40,0,69,68,67,66,65,64,63,62,61,60,59,30,29,28,27,26,25,24]
theorem Qy (a b c d:Nat) (g:Bool):(Jm a b c d g).length=if g then 32 else 29:=by cases g<;>rfl
theorem sil_t {ks:List KV} {kN kK k0 kb a b:Nat} (h:Sil (pdF ks (Jm kN kK k0 kb true)).ins a b):(rkT true).getD b 0<(rkT true).getD a 0:=by
 obtain⟨n,h1,h2⟩:=h
 have hl:a<32:=(List.getElem?_eq_some_iff.1 h1).1
 rcases (by omega:a=0∨a=1∨a=2∨a=3∨a=4∨a=5∨a=6∨a=7∨a=8∨a=9∨a=10∨a=11∨a=12∨a=13∨a=14∨a=15∨a=16∨a=17∨a=18∨a=19∨a=20∨a=21∨a=22∨a=23∨a=24∨a=25∨a=26∨a=27∨a=28∨a=29∨a=30∨a=31) with rfl|rfl|rfl|rfl|rfl|rfl|rfl|rfl|rfl|rfl|rfl|rfl|rfl|rfl|rfl|rfl|rfl|rfl|rfl|rfl|rfl|rfl|rfl|rfl|rfl|rfl|rfl|rfl|rfl|rfl|rfl|rfl<;>(obtain rfl:=(Option.some.inj h1).symm;simp[Tp]at h2<;>first|(rcases h2 with rfl|rfl<;>decide)|(subst h2;decide))
theorem sil_f {ks:List KV} {kN kK k0 kb a b:Nat} (h:Sil (pdF ks (Jm kN kK k0 kb false)).ins a b):(rkT false).getD b 0<(rkT false).getD a 0:=by
 obtain⟨n,h1,h2⟩:=h
 have hl:a<29:=(List.getElem?_eq_some_iff.1 h1).1
 rcases (by omega:a=0∨a=1∨a=2∨a=3∨a=4∨a=5∨a=6∨a=7∨a=8∨a=9∨a=10∨a=11∨a=12∨a=13∨a=14∨a=15∨a=16∨a=17∨a=18∨a=19∨a=20∨a=21∨a=22∨a=23∨a=24∨a=25∨a=26∨a=27∨a=28) with rfl|rfl|rfl|rfl|rfl|rfl|rfl|rfl|rfl|rfl|rfl|rfl|rfl|rfl|rfl|rfl|rfl|rfl|rfl|rfl|rfl|rfl|rfl|rfl|rfl|rfl|rfl|rfl|rfl<;>(obtain rfl:=(Option.some.inj h1).symm;simp[Tp]at h2<;>first|(rcases h2 with rfl|rfl<;>decide)|(subst h2;decide))
theorem Aae {ks:List KV} {kN kK k0 kb a b:Nat} {g:Bool} (h:Sil (pdF ks (Jm kN kK k0 kb g)).ins a b):(rkT g).getD b 0<(rkT g).getD a 0:=by
 cases g
 ·exact sil_f h
 ·exact sil_t h
theorem A5a {ks:List KV} {ns:List I5} (g:Bool) (hr:∀{a b:Nat},Sil (pdF ks ns).ins a b->(rkT g).getD b 0<(rkT g).getD a 0) (hs:(Ce [pdF ks ns]).1=0) (hw:A9k (Ej [pdF ks ns] (pdF ks ns) (2*(pdF ks ns).ins.length+2) (Ch (pdF ks ns)))=true):(F8 [pdF ks ns]).1=0:=by
 have hv:J7 [pdF ks ns] (pdF ks ns) 0=(0,0,0):=by
  cases hc:Ej [pdF ks ns] (pdF ks ns) (2*(pdF ks ns).ins.length+2) (Ch (pdF ks ns)) with
  | error e=>rw[hc]at hw;cases hw
  | ok c=>
   have hp:∀{a b:Nat},Pth (c.E (pdF ks ns)) a b->(rkT g).getD b 0<=(rkT g).getD a 0:=fun {a b} h=>by
    induction h with
    | refl=>exact Nat.le_refl _
    | step h _ ih=>exact Nat.le_trans ih (Nat.le_of_lt (hr h.2))
   exact Un hc ⟨.inl rfl,fun i _ ⟨b,h1,h2⟩=>absurd (hr h1.2) (by have:=hp h2;omega)⟩
 unfold F8
 rw[if_pos hs]
 show (if (J7 [pdF ks ns] (pdF ks ns) 0).1=0 then P8 [pdF ks ns] 1 [] else _).1=0
 rw[hv]
 rfl
def MdF (w:World) (ks:List KV) (ns:List I5) (g:Nat):Prop:=∃b kv qv,Blk w g (pr6 ⟨#[109,97,105,110]⟩ 0 14 (.slice none 0 0) kv qv (.slice none 0 0)) 63/\w.ownsRow b 52 5 kv ks.length (kvs ks)/\w.ownsRow b 58 5 qv ns.length (ivs ns)
theorem MdF.l {w w':World} {ks:List KV} {ns:List I5} {g:Nat} (h:MdF w ks ns g) (hb:Below w.heap.size w w'):MdF w' ks ns g:=
 let ⟨b,kv,qv,h1,h2,h3⟩:=h
 ⟨b,kv,qv,h1.l hb,Ab h2 hb,Ab h3 hb⟩
theorem A9l {ns:List I5} {k:Nat} {y:I5} (h:ns[k]?=some y):∀j,j<5->(ivs ns)[k*5+j]?=y.vals[j]?:=by
 induction ns generalizing k with
 | nil=>simp at h
 | cons a t ih=>
  intro j hj
  cases k with
  | zero=>simp at h;subst h;rw[Nat.zero_mul,Nat.zero_add];match j,hj with|0,_=>rfl|1,_=>rfl|2,_=>rfl|3,_=>rfl|4,_=>rfl
  | succ k=>
   rw[show (k+1)*5+j=k*5+j+1+1+1+1+1 by omega]
   exact ih (k:=k) (by simpa using h) j hj
theorem A42 {w:World} {ks:List KV} {ns:List I5} {g:Nat} (hk0:0<ks.length) (hn0:0<ns.length) (h:MdF w ks ns g):Az 0 w (some ⟨g,0,none⟩) [pdF ks ns]/\CapQ w g [pdF ks ns] 1:=by
 obtain⟨b,kv,qv,hB,hK,hR⟩:=h
 have x:=hB.cell
 rcases Aj hK with ⟨_,h⟩|⟨gk,sk,rfl,hk⟩
 ·omega
 rcases Aj hR with ⟨_,h⟩|⟨gr,sr,rfl,hr⟩
 ·omega
 have hs:ns.length<=sr:=by rcases hR.2 with ⟨h',_⟩|⟨g',cap',cur,h',_,_,hnc,_⟩<;>simp at h';omega
 refine⟨fun i p hp=>?_,fun j p hj hp=>?_⟩
 ·cases i with
  | succ i=>simp at hp
  | zero=>
   obtain rfl:=Option.some.inj hp
   refine⟨g,0,rfl,Nat.zero_le _,hB.lt,⟨none,0,some ⟨gk,0,none⟩,sk,some ⟨gr,0,none⟩,sr,none,0⟩,⟨x 0,x 1,x 2,x 3,x 4,x 5,?_,?_,x 8⟩,⟨fun i u hu=>by simp at hu,fun i u hu=>?_,fun i u hu=>?_,fun i u hu=>by simp at hu⟩⟩
   ·have:=x 6;simpa using this
   ·have:=x 7;simpa using this
   ·rw[List.getElem?_map]at hu
    obtain⟨y,hy,rfl⟩:=Option.map_eq_some_iff.1 hu
    obtain⟨h0,h1,h2,h3,h4⟩:=A2i hy
    exact⟨gk,0,rfl,Nat.zero_le _,(hK.lt gk rfl).2,by rw[Nat.zero_add];exact Ai hK h0,by rw[Nat.zero_add];exact Ai hK h1,by rw[Nat.zero_add];exact Ai hK h2,by rw[Nat.zero_add];exact Ai hK h3,by rw[Nat.zero_add];exact Ai hK h4⟩
   ·rw[List.getElem?_map]at hu
    obtain⟨y,hy,rfl⟩:=Option.map_eq_some_iff.1 hu
    have z:=A9l hy
    exact⟨gr,0,rfl,Nat.zero_le _,(hR.lt gr rfl).2,by rw[Nat.zero_add];exact Ai hR (z 0 (by decide)),by rw[Nat.zero_add];exact Ai hR (z 1 (by decide)),by rw[Nat.zero_add];exact Ai hR (z 2 (by decide)),by rw[Nat.zero_add];exact Ai hR (z 3 (by decide)),by rw[Nat.zero_add];exact Ai hR (z 4 (by decide))⟩
 ·obtain rfl:j=0:=by omega
  obtain rfl:=Option.some.inj hp
  exact⟨some ⟨gr,0,none⟩,sr,by have:=x 7;simpa using this,by simpa using hs⟩
abbrev mkK (n k:Int) (g:Bool):Fk:=⟨g,n,k,kIx ks4 (kI n),kIx (ks5 n) (kI k),kIx (ks6 n k) (kI 0),kIx (ks7 n k) kB⟩
abbrev Qx (n k:Int) (g:Bool):List I5:=Jm (kIx ks4 (kI n)) (kIx (ks5 n) (kI k)) (kIx (ks6 n k) (kI 0)) (kIx (ks7 n k) kB) g
theorem Vx (ks:List KV) (x:KV):kIx ks x<=ks.length:=by
 rcases Fy ks x with ⟨p,h,_,e⟩|⟨_,_,e⟩<;>rw[e]
 ·rw[List.findIdx?_eq_some_iff_getElem]at h;exact Nat.le_of_lt h.1
 ·exact Nat.le_refl _
theorem nd_t (a b c d:Nat) (ha:a<=20) (hb:b<=20) (hc:c<=20) (hd:d<=20) (g:Bool):∀x∈Jm a b c d g,NdW x.nd:=by
 intro x hx
 cases g
 ·simp only[Jm,List.mem_cons,List.not_mem_nil,or_false]at hx
  rcases hx with rfl|rfl|rfl|rfl|rfl|rfl|rfl|rfl|rfl|rfl|rfl|rfl|rfl|rfl|rfl|rfl|rfl|rfl|rfl|rfl|rfl|rfl|rfl|rfl|rfl|rfl|rfl|rfl|rfl<;>constructor<;>simp[I64]<;>omega
 ·simp only[Jm,List.mem_cons,List.not_mem_nil,or_false]at hx
  rcases hx with rfl|rfl|rfl|rfl|rfl|rfl|rfl|rfl|rfl|rfl|rfl|rfl|rfl|rfl|rfl|rfl|rfl|rfl|rfl|rfl|rfl|rfl|rfl|rfl|rfl|rfl|rfl|rfl|rfl|rfl|rfl|rfl<;>constructor<;>simp[I64]<;>omega
section
variable (n k:Int)
theorem l8:4<=(ks8 n k).length/\(ks8 n k).length<=8:=by
 have h:(ks7 n k).length<=(ks8 n k).length/\(ks8 n k).length<=(ks7 n k).length+1:=lenA (ks7 n k) kB
 have:=l7 n k
 omega
theorem fineK (g:Bool) (hn:1<=n) (hk:1<=k):Pm [pdF (ks8 n k) (Qx n k g)]:=by
 have h8:=l8 n k
 have hl:(Qx n k g).length=if g then 32 else 29:=Qy _ _ _ _ _
 refine⟨Nat.le_of_ble_eq_true (A9g n k g hn hk).f,?_,?_,?_⟩
 ·intro p hp
  obtain rfl:=List.mem_singleton.1 hp
  exact⟨by simp,by simp only[List.length_map];omega,by simp only[List.length_map];rw[hl];split<;>omega,by simp⟩
 ·intro p hp u hu
  obtain rfl:=List.mem_singleton.1 hp
  obtain⟨x,_,rfl⟩:=List.mem_map.1 hu
  exact(by decide:(0:Nat)<18446744073709551616)
 ·intro p hp u hu
  obtain rfl:=List.mem_singleton.1 hp
  obtain⟨x,hx,rfl⟩:=List.mem_map.1 hu
  have a1:=Vx ks4 (kI n)
  have a2:=Vx (ks5 n) (kI k)
  have a3:=Vx (ks6 n k) (kI 0)
  have a4:=Vx (ks7 n k) kB
  have b2:=l5 n
  have b3:=l6 n k
  have b4:=l7 n k
  simp only[List.length_cons,List.length_nil]at a1
  exact nd_t _ _ _ _ (by omega) (by omega) (by omega) (by omega) g x hx
theorem Aa9 {A2:Array Value} {g:Bool} (h:∀a y,(qdS (kIx ks4 (kI n)) (kIx (ks5 n) (kI k)) (kIx (ks6 n k) (kI 0)) (kIx (ks7 n k) kB) g)[a]?=some y->∀j,j<7->A2[a*7+j]?=(Qd.vals y)[j]?):∀x,Lq (mkK n k g) x=true->∀j,j<7->A2[pos (mkK n k g) x*7+j]?=(Ng (mkK n k g) x)[j]?:=by
 intro x hx j hj
 unfold Lq at hx
 simp only[Bool.and_eq_true,Bool.or_eq_true,decide_eq_true_eq,bne_iff_ne,ne_eq]at hx
 obtain⟨⟨⟨⟨h1,h2⟩,h3⟩,h4⟩,h5⟩:=hx
 cases g
 ·simp only[Bool.false_eq_true,false_or]at h5
  rcases (by omega:x=0∨x=1∨x=2∨x=3∨x=4∨x=5∨x=6∨x=7∨x=8∨x=9∨x=10∨x=11∨x=13∨x=15∨x=16∨x=17∨x=18∨x=22∨x=24∨x=25∨x=26∨x=27∨x=28∨x=29∨x=30∨x=31) with rfl|rfl|rfl|rfl|rfl|rfl|rfl|rfl|rfl|rfl|rfl|rfl|rfl|rfl|rfl|rfl|rfl|rfl|rfl|rfl|rfl|rfl|rfl|rfl|rfl|rfl<;>exact(h _ _ rfl j hj).trans (List.getElem?_toArray (xs:=[_,_,_,_,_,_,_])).symm
 ·rcases (by omega:x=0∨x=1∨x=2∨x=3∨x=4∨x=5∨x=6∨x=7∨x=8∨x=9∨x=10∨x=11∨x=13∨x=15∨x=16∨x=17∨x=18∨x=19∨x=20∨x=21∨x=22∨x=24∨x=25∨x=26∨x=27∨x=28∨x=29∨x=30∨x=31) with rfl|rfl|rfl|rfl|rfl|rfl|rfl|rfl|rfl|rfl|rfl|rfl|rfl|rfl|rfl|rfl|rfl|rfl|rfl|rfl|rfl|rfl|rfl|rfl|rfl|rfl|rfl|rfl|rfl<;>exact(h _ _ rfl j hj).trans (List.getElem?_toArray (xs:=[_,_,_,_,_,_,_])).symm
theorem A6h (g:Bool) (cg:Nat) (w:World) (hn:1<=n) (hk:1<=k) (h:MdF w (ks8 n k) (Qx n k g) cg) (hF:Ep w):Calls prog 32 #[.agg #[.slice (some ⟨cg,0,none⟩) 1 1]] w fun e w'=>∃g' q:Nat,e=.returned (.agg #[.slice (some ⟨g',0,none⟩) 1 1,.int .i64 q])/\q=1/\QkF (mkK n k g) w' g'/\Below w.heap.size w w':=by
 have K:=A9g n k g hn hk
 have h8:=l8 n k
 have hl:(Qx n k g).length=if g then 32 else 29:=Qy _ _ _ _ _
 have hp:=A42 (by omega) (by rw[hl];split<;>omega) h
 refine(Ol cg 1 [pdF (ks8 n k) (Qx n k g)] w (fineK n k g hn hk) hF hp.1 hp.2 (A5a g (fun h=>Aae h) K.s K.w)).mono ?_
 rintro e w' ⟨g',gs,rfl,hq,hg,hb⟩
 rw[K.q]at hq
 obtain⟨A,hA,hA1⟩:=hq.own
 obtain⟨⟨A2,hA2,_⟩,hL⟩:=hq.row 0 _ rfl
 have h0:=hq.hdr 0 _ rfl
 have hql:(qdS (kIx ks4 (kI n)) (kIx (ks5 n) (kI k)) (kIx (ks6 n k) (kI 0)) (kIx (ks7 n k) kB) g).length=nq (mkK n k g):=by cases g<;>rfl
 refine⟨g',Dn [pdF (ks8 n k) (Qx n k g)] 1,rfl,K.cc,⟨gs 0,nq (mkK n k g),A,A2,hA,?_,hA2,Aa9 n k fun a y hy j hj=>?_⟩,hb⟩
 ·have:w'.cell? ⟨g',0,none⟩=A[0]?:=Blk.cell (t:=166) hA 0
  rw[←this,←hql];exact h0
 ·have e:w'.cell? ⟨gs 0,a*7+j,none⟩=A2[a*7+j]?:=Blk.cell (t:=161) hA2 (a*7+j)
  rw[←e,List.getElem?_eq_getElem (by simpa[Qd.vals]using hj)]
  exact hL a y (List.getElem?_eq_some_iff.1 hy).1 hy j _ (List.getElem?_eq_getElem (by simpa[Qd.vals]using hj))
end
theorem A6c {w:World} {lo e size n g cap:Nat} {xs:List Value} (h:w.ownsRow lo e size (.slice (some ⟨g,0,none⟩) n cap) n xs):∃A,Blk w g A e/\∀(j:Nat) (v:Value),xs[j]?=some v->A[j]?=some v:=by
 rcases Bz h with ⟨e,_,_⟩|⟨g',c,e,_,⟨A,hA,_⟩,_,hC⟩
 ·cases e
 ·injection e with e _ _
  injection e with e
  injection e with e _ _
  subst e
  have hB:Blk w g A _:=hA
  exact⟨A,hB,fun j v hj=>by rw[←hB.cell];simpa using hC j v hj⟩
theorem atX {ks:List KV} {x:KV} (hg:S9 ks) (hx:x.a≠4/\x.d=ByteArray.empty):(Fh ks x)[kIx ks x]?=some x:=by
 rcases Fy ks x with ⟨p,h,e1,e2⟩|⟨h,e1,e2⟩<;>rw[e1,e2]
 ·rw[List.findIdx?_eq_some_iff_getElem]at h
  obtain⟨hp,h1,h2⟩:=h
  unfold dfb at h1
  simp only[Bool.and_eq_true,decide_eq_true_eq]at h1
  have h3:=hg _ (List.getElem_mem hp) (by rw[h1.1];exact hx.1)
  rw[List.getElem?_eq_getElem hp]
  congr 1
  cases hk:ks[p] with
  | mk a b d=>
   rw[hk]at h1 h3
   cases x
   simp only at h1 h3 hx
   rw[h1.1,h1.2,h3,hx.2]
 ·simp
theorem lift {ks:List KV} (x:KV) {j:Nat} {y:KV} (h:ks[j]?=some y):(Fh ks x)[j]?=some y:=(atA x (List.getElem?_eq_some_iff.1 h).1).trans h
theorem kF_at (n k:Int) (g:Bool):∀e∈kF (mkK n k g),∃v:KV,(ks8 n k)[e.1]?=some v/\e.2=kvv v:=by
 intro e he
 simp only[kF,List.mem_cons,List.not_mem_nil,or_false]at he
 have up:∀{j:Nat} {y:KV},(ks7 n k)[j]?=some y->(ks8 n k)[j]?=some y:=fun h=>lift kB h
 have u6:∀{j:Nat} {y:KV},(ks6 n k)[j]?=some y->(ks8 n k)[j]?=some y:=fun h=>up (lift (kI 0) h)
 have u5:∀{j:Nat} {y:KV},(ks5 n)[j]?=some y->(ks8 n k)[j]?=some y:=fun h=>u6 (lift (kI k) h)
 have ix:∀x:Int,(kI x).a≠4/\(kI x).d=ByteArray.empty:=fun x=>⟨(show (2:Int)≠4 by decide),rfl⟩
 rcases he with rfl|rfl|rfl|rfl|rfl|rfl|rfl|rfl
 ·exact⟨kA,up (at7 n k (by decide)),rfl⟩
 ·exact⟨k7,up (at7 n k (by decide)),rfl⟩
 ·exact⟨kZ,up (at7 n k (by decide)),rfl⟩
 ·exact⟨k1,up (at7 n k (by decide)),rfl⟩
 ·exact⟨kI n,u5 (atX A2d (ix n)),rfl⟩
 ·exact⟨kI k,u6 (atX (A2e n) (ix k)),rfl⟩
 ·exact⟨kI 0,up (atX (A2f n k) (ix 0)),rfl⟩
 ·exact⟨kB,atX (A5m n k) ⟨by decide,rfl⟩,rfl⟩
theorem A8c (n k:Int) (g:Bool) (cg:Nat) (w:World) (hn:1<=n) (hk:1<=k) (h:MdF w (ks8 n k) (Qx n k g) cg) (hF:∀W,Below w.heap.size w W->Ep W) (HI:∀W,Calls prog 31 #[.agg in0] W fun e w'=>e=.returned (.bool true)/\Below W.heap.size W w'):Us (mkK n k g) cg 1 w:=by
 obtain⟨b,kv,qv,hB,hK,hR⟩:=h
 have h8:=l8 n k
 have hl:(Qx n k g).length=nq (mkK n k g):=by rw[show (Qx n k g).length=if g then 32 else 29 from Qy _ _ _ _ _];cases g<;>rfl
 rcases Aj hK with ⟨_,h⟩|⟨gk,sk,rfl,_⟩
 ·omega
 rcases Aj hR with ⟨_,h⟩|⟨gr,sr,rfl,_⟩
 ·rw[hl]at h;unfold nq at h;split at h<;>omega
 obtain⟨ka,ka1,ka2⟩:=A6c hK
 obtain⟨ia,ia1,ia2⟩:=A6c hR
 have hB':=hB
 rw[hl]at hB'
 refine Aa7 (mkK n k g) cg gk gr 1 _ sk sr _ _ none none 0 0 0 0 ka ia w hB' ka1 (fun e he=>?_) ia1 (fun x hx j hj=>?_) (fun W _=>HI W) (fun W hW=>A6h n k g cg W hn hk (MdF.l ⟨b,_,_,hB,hK,hR⟩ hW) (hF W hW))
 ·obtain⟨v,hv,e2⟩:=kF_at n k g e he
  refine⟨(List.getElem?_eq_some_iff.1 hv).1,fun j hj=>?_⟩
  obtain⟨h0,h1,h2,h3,h4⟩:=A2i hv
  rw[e2]
  match j,hj with
  | 0,_=>exact ka2 _ _ h0
  | 1,_=>exact ka2 _ _ h1
  | 2,_=>exact ka2 _ _ h2
  | 3,_=>exact ka2 _ _ h3
  | 4,_=>exact ka2 _ _ h4
 ·have key:∀(a:Nat) (y:I5),(Qx n k g)[a]?=some y->ia[a*5+j]?=y.vals[j]?:=fun a y hy=>by
   have hz:=A9l hy j hj
   rw[hz.symm]
   have hs:j<y.vals.length:=by simpa using hj
   rw[List.getElem?_eq_getElem hs]at hz
   rw[hz]
   exact ia2 _ _ hz
  cases g
  ·rcases hx with rfl|rfl|rfl|rfl<;>exact(key _ _ rfl).trans (List.getElem?_toArray (xs:=[_,_,_,_,_])).symm
  ·rcases hx with rfl|rfl|rfl|rfl<;>exact(key _ _ rfl).trans (List.getElem?_toArray (xs:=[_,_,_,_,_])).symm
end Go.Proofs.YtbefeflgjipfhaaGreatDoor
namespace Go.Proofs.YtbefeflgjipfhaaGreatDoor
open Go.Deep Go.Proofs.Tryz Go.RowKit
attribute [local go_sem] A7 vi
def Kh (w:World) (ao:Option Addr) (n:Nat):Prop:=n=0∨∃b o,ao=some ⟨b,o,none⟩/\∀i,i<n->∃x:Int,0<=x/\x<=255/\w.cell? ⟨b,o+i,none⟩=some (.int .u8 x)
theorem Kh.l {w w':World} {ao:Option Addr} {n:Nat} (h:Kh w ao n) (hb:Below w.heap.size w w'):Kh w' ao n:=by
 rcases h with h|⟨b,o,h1,h2⟩
 ·exact .inl h
 ·exact .inr ⟨b,o,h1,fun i hi=>let ⟨x,x0,x1,x2⟩:=h2 i hi;⟨x,x0,x1,cb x2 hb⟩⟩
theorem Ij (ao:Option Addr) (n cap i:Nat) (w:World) (hn:n<=1048576) (hi:i<=3) (H:Kh w ao n):Calls prog 4 #[.slice ao n cap,.int .i64 i] w fun e w'=>∃x:Int,e=.returned (.int .i64 x)/\0<=x/\x<=255/\w'=w:=by
 by_cases h0:n=0
 ·subst h0
  go_enter func4,ntmps4
  go_wp2_with fail
  go_ret
  exact⟨0,rfl,by omega,by omega,rfl⟩
 ·obtain⟨b,o,rfl,G⟩:=H.resolve_left h0
  have hm:i%n<n:=Nat.mod_lt _ (by omega)
  obtain⟨x,x0,x1,x2⟩:=G (i%n) hm
  have g0:¬(n:Int)=0:=by omega
  have e1:(i:Int).tmod n=((i%n:Nat):Int):=by rw[Int.tmod_eq_emod_of_nonneg (by omega)];omega
  have e2:IntKind.i64.wrap ((i:Int).tmod n)=((i%n:Nat):Int):=by rw[e1];exact wq (by omega) (by omega)
  have ew:IntKind.i64.wrap x=x:=wq (by omega) (by omega)
  generalize i%n=j at *
  have hm':(j:Int)<n:=by omega
  clear H G
  go_enter func4,ntmps4
  go_wp2_with fail
  go_ret
  exact⟨x,rfl,x0,x1,rfl⟩
theorem Um (w:World):Calls prog 114 #[.slice none 0 0] w fun e w'=>e=.returned (.bool true)/\Below w.heap.size w w':=by
 go_enter func114,ntmps114
 go_wp2_with fail
 refine wp_loop_rounds 1 ?_
 rw[rounds_succ]
 go_wp2_with fail
 go_ret
 exact⟨rfl,Below.refl _ _⟩
theorem Xh (x a b:Int) (w:World) (h1:a<=x) (h2:x<=b):Calls prog 30 #[.int .i64 x,.int .i64 a,.int .i64 b] w fun e w'=>e=.returned (.bool true)/\Below w.heap.size w w':=by
 go_enter func30,ntmps30
 go_wp2_with fail
 go_ret
 exact⟨rfl,Below.refl _ _⟩
theorem A5q (w:World):Calls prog 31 #[.agg in0] w fun e w'=>e=.returned (.bool true)/\Below w.heap.size w w':=by
 have X:=Blk.new w in0 30
 have B0:Below w.heap.size w (w.alloc (.cells in0 30)):=(Below.refl _ _).alloc (Nat.le_refl _) _
 have x:=X.cell
 go_enter func31,ntmps31
 go_wp2_with fail
 refine(Um _).mono ?_
 rintro e w1 ⟨rfl,B1⟩
 have X1:=X.l B1
 have x1:=X1.cell
 clear x X
 go_wp2_with fail
 refine(Um _).mono ?_
 rintro e w2 ⟨rfl,B2⟩
 have X2:=X1.l B2
 have x2:=X2.cell
 clear x1 X1
 go_wp2_with fail
 refine(Xh 1000 0 5000 _ (by decide) (by decide)).mono ?_
 rintro e w3 ⟨rfl,B3⟩
 have X3:=X2.l B3
 have x3:=X3.cell
 clear x2 X2
 go_wp2_with fail
 refine(Xh 1 1 60 _ (by decide) (by decide)).mono ?_
 rintro e w4 ⟨rfl,B4⟩
 have X4:=X3.l B4
 have x4:=X4.cell
 clear x3 X3
 go_wp2_with fail
 refine(Xh 1000 0 20000 _ (by decide) (by decide)).mono ?_
 rintro e w5 ⟨rfl,B5⟩
 clear x4 X4
 go_wp2_with fail
 go_ret
 exact⟨rfl,bl2 (bl2 (bl2 (bl2 (bl2 B0 B1) B2) B3) B4) B5⟩
theorem Uo (g c:Nat) (tk sn:Int) (w:World) (h:Ec w g 0 rcL) :
  Calls prog 9 #[.agg (rpA (.slice (some ⟨g,0,none⟩) 1 c) tk sn)] w fun e w'=>∃b q,e=.returned (.slice (some ⟨b,0,none⟩) 1 q)/\w'.cell? ⟨b,0,none⟩=some (.string s7)/\Below w.heap.size w w':=by
 have B0:Below w.heap.size w (w.alloc (.cells (rpA (.slice (some ⟨g,0,none⟩) 1 c) tk sn) 40)):=(Below.refl _ _).alloc (Nat.le_refl _) _
 have X0:=Blk.new w (rpA (.slice (some ⟨g,0,none⟩) 1 c) tk sn) 40
 have x0:=X0.cell
 have c0:w.cell? ⟨g,0,none⟩=some (.int .i64 6):=by simpa using h 0 _ rfl
 have c1:w.cell? ⟨g,1,none⟩=some (.int .i64 0):=by simpa using h 1 _ rfl
 have c2:w.cell? ⟨g,2,none⟩=some (.int .i64 0):=by simpa using h 2 _ rfl
 have c3:w.cell? ⟨g,3,none⟩=some (.int .i64 0):=by simpa using h 3 _ rfl
 have c4:w.cell? ⟨g,4,none⟩=some (.string s7):=by simpa using h 4 _ rfl
 have d0:=cb c0 B0
 have d1:=cb c1 B0
 have d2:=cb c2 B0
 have d3:=cb c3 B0
 have d4:=cb c4 B0
 have e1:IntKind.i64.wrap 1=1:=by decide
 clear h c0 c1 c2 c3 c4
 go_enter func9,ntmps9
 go_wp2_with fail
 revert B0
 generalize w.alloc (.cells (rpA (.slice (some ⟨g,0,none⟩) 1 c) tk sn) 40)=V at *
 intro B0
 have A1:=(Below.refl _ V).alloc (Nat.le_refl _) (.cells (rca 6 0 0 0 s7) 92)
 have Y1:=Blk.new V (rca 6 0 0 0 s7) 92
 have y1:=Y1.cell
 refine wp_loop_rounds 2 ?_
 rw[rounds_succ]
 go_wp2_with fail
 generalize (Question.appendCap 1 0 9).cut (V.tape V.drawn (Question.appendCap 1 0 9))=q at *
 refine Pf (S:=fun U=>Below V.heap.size V U/\U.cell? ⟨V.heap.size+1+1,0,none⟩=some (.string s7)) ⟨?_,?_⟩ (fun U hU=>?_)
 ·repeat (first|exact Below.refl _ _|refine Below.alloc ?_ (by simp;try omega) _|refine Below.drew ?_)
 ·have Z:Blk (((V.alloc (.cells (rca 6 0 0 0 s7) 92)).alloc (.cells #[.string s7] 9)).alloc (.cells (#[.string s7]++Builtin.zeroCells #[.string ⟨#[]⟩] (q-1)) 9)) (V.heap.size+1+1) (#[.string s7]++Builtin.zeroCells #[.string ⟨#[]⟩] (q-1)) 9:=Blk.nh _ _ (by simp)
  have z0:(#[.string s7]++Builtin.zeroCells #[.string ⟨#[]⟩] (q-1):Array Value)[0]?=some (.string s7):=by rw[Array.getElem?_append_left (by simp)];rfl
  exact(Z.cell 0).trans z0
 ·have HU:Hid (Below V.heap.size V U/\U.cell? ⟨V.heap.size+1+1,0,none⟩=some (.string s7)):=hU
  clear hU y1 Y1 A1
  rw[rounds_succ]
  go_wp2_with fail
  go_ret
  exact⟨_,_,rfl,HU.out.2,bl2 B0 HU.out.1⟩
theorem A0b (a b qa' qb':Nat) (w:World) (ha:w.cell? ⟨a,0,none⟩=some (.string s7)) (hb:w.cell? ⟨b,0,none⟩=some (.string s7)) :
  Calls prog 8 #[.slice (some ⟨a,0,none⟩) 1 qa',.slice (some ⟨b,0,none⟩) 1 qb'] w fun e w'=>e=.returned (.bool true)/\Below w.heap.size w w':=by
 have e1:IntKind.i64.wrap 1=1:=by decide
 go_enter func8,ntmps8
 go_wp2_with fail
 refine wp_loop_rounds 2 ?_
 rw[rounds_succ]
 go_wp2_with fail
 go_region
 go_wp2_with fail
 rw[rounds_succ]
 go_wp2_with fail
 go_ret
 exact⟨rfl,(Below.refl _ _).drew⟩
structure MV (K:Fk) (b:Nat) (W:World):Prop where
 o:W.cell? ⟨b,16,none⟩=some (.bool true)
 c:W.cell? ⟨b,20,none⟩=some (.int .i64 0)
 m:W.cell? ⟨b,8,none⟩=some (.int .i64 (miss K.k K.n))
 h:W.cell? ⟨b,7,none⟩=some (.int .i64 (K.n-miss K.k K.n))
 r:∃g c tk sn,W.cell? ⟨b,21,none⟩=some (.slice (some ⟨g,0,none⟩) 1 c)/\W.cell? ⟨b,22,none⟩=some (.slice none 0 0)/\W.cell? ⟨b,23,none⟩=some (.string ByteArray.empty)/\W.cell? ⟨b,24,none⟩=some (.string ByteArray.empty)/\W.cell? ⟨b,25,none⟩=some (.int .i64 tk)/\W.cell? ⟨b,26,none⟩=some (.int .i64 sn)/\Ec W g 0 rcL
theorem A65 {K:Fk} {pc hi mi mv tk sn:Int} {g c b:Nat} {W:World} (hr:W.rangeAt b 0 (foA pc hi mi mv tk sn g c).toList) (h1:mi=miss K.k K.n) (h2:hi=K.n-miss K.k K.n) (hc:Ec W g 0 rcL):MV K b W:=by
 have z:∀(j:Nat) (v:Value),(foA pc hi mi mv tk sn g c).toList[j]?=some v->W.cell? ⟨b,j,none⟩=some v:=fun j v hj=>by simpa using hr j v hj
 subst h1 h2
 exact⟨z 16 _ rfl,z 20 _ rfl,z 8 _ rfl,z 7 _ rfl,g,c,tk,sn,z 21 _ rfl,z 22 _ rfl,z 23 _ rfl,z 24 _ rfl,z 25 _ rfl,z 26 _ rfl,hc⟩
theorem A60 (n k:Int) (g:Bool) (w:World):Calls prog 5 #[.int .i64 n,.int .i64 k,.bool g] w fun e w'=>∃cg,e=.returned (.agg #[.slice (some ⟨cg,0,none⟩) 1 1])/\MdF w' (ks8 n k) (Qx n k g) cg/\Below w.heap.size w w':=by
 cases g
 ·refine(Aa4 n k w).mono ?_
  rintro e w' ⟨cg,b,kv,qv,rfl,hB,_,hK,hR,_,B⟩
  rw[A5r]at hR
  exact⟨cg,rfl,⟨b,kv,qv,hB,hK,hR⟩,B⟩
 ·refine(Aa3 n k w).mono ?_
  rintro e w' ⟨cg,b,kv,qv,rfl,hB,_,hK,hR,_,B⟩
  rw[A5r]at hR
  exact⟨cg,rfl,⟨b,kv,qv,hB,hK,hR⟩,B⟩
theorem Sr (ao:Option Addr) (m cap:Nat) (w:World) (hF:Ep w) (H:Kh w ao m):Calls prog 3 #[.slice ao m cap] w fun e w'=>e=.returned (.bool true)/\Below w.heap.size w w':=by
 by_cases hm:(1048576:Int)<m
 ·go_enter func3,ntmps3
  go_wp2_with fail
  go_ret
  exact⟨rfl,Below.refl _ _⟩
 have hm':m<=1048576:=by omega
 have HF:Hid (Ep w):=hF
 have HH:Hid (Kh w ao m):=H
 clear hF H
 go_enter func3,ntmps3
 go_wp2_with fail
 refine(Ij ao m cap 0 w hm' (by omega) HH.out).mono ?_
 rintro e w' ⟨x,rfl,x0,x1,rfl⟩
 obtain⟨r,hr⟩:∃r,x.tmod 100=r:=⟨_,rfl⟩
 have hr':=hr
 rw[Int.tmod_eq_emod_of_nonneg (by omega)]at hr'
 have r0:0<=r:=by omega
 have r1:r<100:=by omega
 have e3:IntKind.i64.wrap r=r:=wq (by omega) (by omega)
 have e4:IntKind.i64.wrap (1+r)=1+r:=wq (by omega) (by omega)
 clear hr'
 go_wp2_with fail
 refine(Ij ao m cap 1 w' hm' (by omega) HH.out).mono ?_
 rintro e w'' ⟨y,rfl,y0,y1,rfl⟩
 obtain⟨s,hs⟩:∃s,y.tmod 20=s:=⟨_,rfl⟩
 have hs':=hs
 rw[Int.tmod_eq_emod_of_nonneg (by omega)]at hs'
 have s0:0<=s:=by omega
 have s1:s<20:=by omega
 have e5:IntKind.i64.wrap s=s:=wq (by omega) (by omega)
 have e6:IntKind.i64.wrap (1+s)=1+s:=wq (by omega) (by omega)
 clear hs'
 go_wp2_with fail
 refine(Ij ao m cap 2 w'' hm' (by omega) HH.out).mono ?_
 rintro e w3 ⟨z,rfl,z0,z1,rfl⟩
 obtain⟨q,hq⟩:∃q,z.tmod 2=q:=⟨_,rfl⟩
 have hq':=hq
 rw[Int.tmod_eq_emod_of_nonneg (by omega)]at hq'
 have e7:IntKind.i64.wrap q=q:=wq (by omega) (by omega)
 clear hq'
 go_wp2_with fail
 obtain⟨n,hn⟩:∃n,1+r=n:=⟨_,rfl⟩
 obtain⟨k,hk⟩:∃k,1+s=k:=⟨_,rfl⟩
 have n1:1<=n:=by omega
 have n2:n<=100:=by omega
 have k1:1<=k:=by omega
 have k2:k<=20:=by omega
 rw[hn,hk]
 generalize (q==0)=gn
 clear e3 e4 e5 e6 e7 hn hk r0 r1 s0 s1 hr hs hq
 have HKk:Hid (Kk (mkK n k gn)):=⟨n1,n2,k1,k2⟩
 obtain⟨T,hT⟩:∃T,TOk (mkK n k gn) T:=by
  obtain⟨T,t1,t2,t3⟩:=ex_T HKk.out
  exact⟨T,HKk.out,t1,t2,t3⟩
 have HT:Hid (TOk (mkK n k gn) T):=hT
 clear hT
 refine(A60 n k gn w3).mono ?_
 rintro e w4 ⟨cg,rfl,hM,B4⟩
 have HN4:Hid (∀W,Below w4.heap.size w4 W->Us (mkK n k gn) cg 1 W):=fun W hW=>(A8c n k gn cg w4 n1 k1 hM (fun W h=>HF.out.l (bl2 B4 h)) A5q).l hW
 have A5:Below w4.heap.size w4 ((w4.alloc (.cells #[.slice (some ⟨cg,0,none⟩) 1 1] 26)).alloc (.cells in0 30)):=bl2 ((Below.refl _ _).alloc (Nat.le_refl _) _) ((Below.refl _ _).alloc (Nat.le_refl _) _)
 have XC:Blk ((w4.alloc (.cells #[.slice (some ⟨cg,0,none⟩) 1 1] 26)).alloc (.cells in0 30)) w4.heap.size #[.slice (some ⟨cg,0,none⟩) 1 1] 26:=(Blk.new w4 _ _).alloc _
 have XI:Blk ((w4.alloc (.cells #[.slice (some ⟨cg,0,none⟩) 1 1] 26)).alloc (.cells in0 30)) (w4.heap.size+1) in0 30:=Blk.nh _ _ (by simp)
 clear hM
 go_wp2_with fail
 revert A5 XC XI
 generalize (w4.alloc (.cells #[.slice (some ⟨cg,0,none⟩) 1 1] 26)).alloc (.cells in0 30)=W5
 intro A5 XC XI
 refine(A43 cg 1 W5 HT.out (HN4.out W5 A5)).mono ?_
 rintro e w6 ⟨rfl,B6⟩
 have XC6:=XC.l B6
 have XI6:=XI.l B6
 have A6:=bl2 A5 B6
 have HH6:Hid (Kh w6 ao m):=(HH.out.l B4).l A6
 have BW:Below w3.heap.size w3 w6:=bl2 B4 A6
 clear XC XI A5 B6
 go_wp2_with fail
 have HSt:Hid (∀(W:World) (pc:Int),0<=pc->pc<=1000->Below w4.heap.size w4 W->Calls prog 7 #[.agg #[.slice (some ⟨cg,0,none⟩) 1 1],.agg in0,.int .i64 pc,.int .i64 ((T:Int)+1)] W fun e w'=>∃v,e=.returned v/\A9e (mkK n k gn) pc W.heap.size v w'/\Below W.heap.size W w'):=fun W pc h0 h1 hW=>by
  rw[show (T:Int)+1=((T+1:Nat):Int) by omega]
  exact A4o cg 1 pc W h0 h1 HT.out (HN4.out W hW)
 have hsz:=XI6.lt
 have hs3:=B4.size
 refine Js (fun a W=>∃b8 y3 p v,a=tmA (#[.slice ao m cap,undef,.bool false,.int .i64 n,.int .i64 k,.pointer (some ⟨w4.heap.size,0,none⟩),.pointer (some ⟨w4.heap.size+1,0,none⟩),.int .i64 (T+1),.pointer (some ⟨b8,0,none⟩),undef,.slice ao m cap,.int .i64 m,.bool false,.slice ao m cap,.int .i64 x,.int .i64 r,.int .i64 n,.slice ao m cap,.int .i64 y,.int .i64 s,.int .i64 k,.int .i64 n,.int .i64 k,.slice ao m cap,.int .i64 z,.int .i64 q,.bool gn,.agg #[.slice (some ⟨cg,0,none⟩) 1 1],.agg #[.slice none 0 0,.slice none 0 0,.int .i64 1000,.int .i64 1,.int .i64 1000],.agg #[.slice (some ⟨cg,0,none⟩) 1 1],.agg #[.slice none 0 0,.slice none 0 0,.int .i64 1000,.int .i64 1,.int .i64 1000],.int .i64 (T+1),.agg #[.slice (some ⟨cg,0,none⟩) 1 1],.agg #[.slice none 0 0,.slice none 0 0,.int .i64 1000,.int .i64 1,.int .i64 1000],.slice ao m cap,.int .i64 y3,.int .i64 p,.int .i64 (1+p),.int .i64 (T+1),v,undef,undef,undef,undef,undef,undef,undef,undef,undef,undef,undef,undef,undef,undef,undef,undef,undef,undef,undef,undef,undef,undef,undef,undef,undef,undef,undef,undef,undef,undef,undef,undef,undef,undef,undef,undef])/\MV (mkK n k gn) b8 W/\Below w3.heap.size w3 W) ?_ ?_
 ·refine rgM (fun W=>Blk W w4.heap.size #[.slice (some ⟨cg,0,none⟩) 1 1] 26/\Blk W (w4.heap.size+1) in0 30) ⟨XC6.l (Below.refl _ _).drew,XI6.l (Below.refl _ _).drew⟩ (fun hS=>?_)
  have hV:w4.heap.size+1<w6.drew.heap.size:=(XI6.l (Below.refl _ _).drew).lt
  have AV:=bl2 A6 (Below.refl _ w6).drew
  have BV:=bl2 BW (Below.refl _ w6).drew
  have HV:Hid (Kh w6.drew ao m):=HH6.out.l (Below.refl _ w6).drew
  clear XC6 XI6 A6 BW HH6 hsz
  revert hS hV AV BV HV
  generalize w6.drew=V
  intro hS hV AV BV HV
  have HS:Hid (Blk V w4.heap.size #[.slice (some ⟨cg,0,none⟩) 1 1] 26/\Blk V (w4.heap.size+1) in0 30):=hS
  (refine tkM rfl (by kernel_rfl) (by rfl) hS ⟨?_,fun W hW=>?_,?_⟩;rotate_left;(focus (have h1:=hW.1.cell;have h2:=hW.2.cell;go_simp;with_reducible rfl));simp only[Act.put,List.getElem_toArray,List.getElem_cons_zero,List.setIfInBounds_toArray,List.set_cons_succ,List.set_cons_zero])
  (refine tkM rfl (by kernel_rfl) (by rfl) hS ⟨?_,fun W hW=>?_,?_⟩;rotate_left;(focus (have h1:=hW.1.cell;have h2:=hW.2.cell;go_simp;with_reducible rfl));simp only[Act.put,List.getElem_toArray,List.getElem_cons_zero,List.getElem_cons_succ,List.setIfInBounds_toArray,List.set_cons_succ,List.set_cons_zero])
  (refine tkM rfl (by kernel_rfl) (by rfl) hS ⟨?_,fun W hW=>?_,?_⟩;rotate_left;(focus (have h1:=hW.1.cell;have h2:=hW.2.cell;go_simp;with_reducible rfl));simp only[Act.put,List.getElem_toArray,List.getElem_cons_zero,List.getElem_cons_succ,List.setIfInBounds_toArray,List.set_cons_succ,List.set_cons_zero])
  refine He [6,3,8,4,5,7,9] (by kernel_rfl) ?_
  (refine tkM rfl (by kernel_rfl) (by rfl) hS ⟨?_,fun W hW=>?_,?_⟩;rotate_left;(focus (have h1:=hW.1.cell;have h2:=hW.2.cell;go_simp;with_reducible rfl));simp only[Act.put,List.getElem_toArray,List.getElem_cons_zero,List.getElem_cons_succ,List.setIfInBounds_toArray,List.set_cons_succ,List.set_cons_zero])
  clear hS
  refine Sn rfl rfl (by kernel_rfl) (by rfl) (by rfl) (fun K2 hK2=>?_) (fun K2 hK2=>?_)
  ·go_wp2_with fail
   refine(Ij ao m cap 3 V hm' (by omega) HV.out).mono ?_
   rintro e w7 ⟨y3,rfl,y30,y31,hw7⟩
   rw[hw7]
   clear hw7 w7
   obtain⟨p,hp⟩:∃p,y3.tmod 9=p:=⟨_,rfl⟩
   have hp':=hp
   rw[Int.tmod_eq_emod_of_nonneg (by omega)]at hp'
   have p0:0<=1+p:=by omega
   have p1:1+p<=1000:=by omega
   have e8:IntKind.i64.wrap p=p:=wq (by omega) (by omega)
   have e9:IntKind.i64.wrap (1+p)=1+p:=wq (by omega) (by omega)
   clear hp'
   refine hK2.out _ _ HS.out (fun hS=>?_)
   clear hK2 K2
   try simp only[Act.put,List.getElem_toArray,List.getElem_cons_zero,List.getElem_cons_succ,List.setIfInBounds_toArray,List.set_cons_succ,List.set_cons_zero]
   refine He [4,5,8,7,9] (by kernel_rfl) ?_
   (refine tkM rfl (by kernel_rfl) (by rfl) hS ⟨?_,fun W hW=>?_,?_⟩;rotate_left;(focus (have h1:=hW.1.cell;have h2:=hW.2.cell;go_simp;with_reducible rfl));simp only[Act.put,List.getElem_toArray,List.getElem_cons_zero,List.getElem_cons_succ,List.setIfInBounds_toArray,List.set_cons_succ,List.set_cons_zero])
   (refine tkM rfl (by kernel_rfl) (by rfl) hS ⟨?_,fun W hW=>?_,?_⟩;rotate_left;(focus (have h1:=hW.1.cell;have h2:=hW.2.cell;go_simp;with_reducible rfl));simp only[Act.put,List.getElem_toArray,List.getElem_cons_zero,List.getElem_cons_succ,List.setIfInBounds_toArray,List.set_cons_succ,List.set_cons_zero])
   clear hS
   refine Sn rfl rfl (by kernel_rfl) (by rfl) (by rfl) (fun K2 hK2=>?_) (fun K2 hK2=>?_)
   ·go_wp2_with fail
    have A3:=(Below.refl _ V).alloc (Nat.le_refl _) (.cells mzA 42)
    have D3:=Blk.new V mzA 42
    have HS3:Hid (Blk (V.alloc (.cells mzA 42)) w4.heap.size #[.slice (some ⟨cg,0,none⟩) 1 1] 26/\Blk (V.alloc (.cells mzA 42)) (w4.heap.size+1) in0 30):=⟨HS.out.1.l A3,HS.out.2.l A3⟩
    refine hK2.out _ _ HS3.out (fun hS=>?_)
    clear hK2 K2
    try simp only[Act.put,List.getElem_toArray,List.getElem_cons_zero,List.getElem_cons_succ,List.setIfInBounds_toArray,List.set_cons_succ,List.set_cons_zero]
    clear hS
    have hU:V.heap.size<(V.alloc (.cells mzA 42)).heap.size:=D3.lt
    revert HS3 A3 D3 hU
    generalize V.alloc (.cells mzA 42)=U
    intro A3 D3 HS3 hU
    refine doM rfl (by kernel_rfl) (by rfl) (fun K2 hK2=>?_)
    go_wp2_with fail
    refine(HSt.out U (1+p) p0 p1 (bl2 AV A3)).mono ?_
    rintro e w8 ⟨v,rfl,⟨hi,mi,mv,tk,sn,g,c,rfl,i1,i2,O8⟩,B8⟩
    have H12:Hid (mi=miss (mkK n k gn).k (mkK n k gn).n/\hi=(mkK n k gn).n-miss (mkK n k gn).k (mkK n k gn).n):=⟨i1,i2⟩
    clear i1 i2
    have HS8:Hid (Blk w8 w4.heap.size #[.slice (some ⟨cg,0,none⟩) 1 1] 26/\Blk w8 (w4.heap.size+1) in0 30):=⟨HS3.out.1.l B8,HS3.out.2.l B8⟩
    refine hK2.out _ _ HS8.out (fun hS=>?_)
    clear hK2 K2
    try simp only[Act.put,List.getElem_toArray,List.getElem_cons_zero,List.getElem_cons_succ,List.setIfInBounds_toArray,List.set_cons_succ,List.set_cons_zero]
    have DD:=D3.l B8
    have CW:Ec w8 g 0 rcL:=Ec.ofOwn O8
    have BX:Below w3.heap.size w3 w8:=bl2 (bl2 BV A3) B8
    have hg:=(O8.lt g (by simp[Value.ownBlock])).1;have bz:=BV.size
    refine doM rfl (by kernel_rfl) (by rfl) (fun K2 hK2=>?_)
    refine wp_store_mid 42 (.tmp 8) (.tmp 39) rfl (V.heap.size) 0 (foA (1+p) hi mi mv tk sn g c) (by simp[Act.eval]) (by simp[Act.eval];try rfl) DD.there (by kernel_rfl) (by simp[Value.oneCell',foA]) ?_
    have C9:Chg [V.heap.size] w8 (w8.setCells (V.heap.size) 0 (foA (1+p) hi mi mv tk sn g c).toList):=Chg.sets' (L:=[V.heap.size]) (List.mem_singleton.2 rfl) _ 0 (Chg.refl _ _)
    have HR:=World.rangeAt_setCells_same w8 (V.heap.size) 0 (foA (1+p) hi mi mv tk sn g c).toList DD.there
    refine hK2.out _ _ ⟨HS8.out.1.chg C9 (by simp only[List.mem_singleton];omega),HS8.out.2.chg C9 (by simp only[List.mem_singleton];omega)⟩ (fun hS=>?_)
    clear hK2 K2
    try simp only[Act.put,List.getElem_toArray,List.getElem_cons_zero,List.getElem_cons_succ]
    exact enM (by kernel_rfl) ⟨rfl,V.heap.size,y3,p,_,rfl,A65 HR H12.out.1 H12.out.2 (CW.chg C9 (by simp only[List.mem_singleton];omega)),BX.trans (C9.low (lo:=w3.heap.size) BX.size (by simp only[List.mem_singleton];rintro _ rfl;omega))⟩
   ·go_wp2_with fail
    refine(HSt.out V (1+p) p0 p1 AV).mono ?_
    rintro e w8 ⟨v,rfl,⟨hi,mi,mv,tk,sn,g,c,rfl,i1,i2,O8⟩,B8⟩
    have H12:Hid (mi=miss (mkK n k gn).k (mkK n k gn).n/\hi=(mkK n k gn).n-miss (mkK n k gn).k (mkK n k gn).n):=⟨i1,i2⟩
    clear i1 i2
    have HS8:Hid (Blk w8 w4.heap.size #[.slice (some ⟨cg,0,none⟩) 1 1] 26/\Blk w8 (w4.heap.size+1) in0 30):=⟨HS.out.1.l B8,HS.out.2.l B8⟩
    refine hK2.out _ _ HS8.out (fun hS=>?_)
    clear hK2 K2
    try simp only[Act.put,List.getElem_toArray,List.getElem_cons_zero,List.getElem_cons_succ,List.setIfInBounds_toArray,List.set_cons_succ,List.set_cons_zero]
    clear hS HS
    have HS:=HS8
    refine doM rfl (by kernel_rfl) (by rfl) (fun K2 hK2=>?_)
    go_wp2_with fail
    have A3:=(Below.refl _ w8).alloc (Nat.le_refl _) (.cells mzA 42)
    have D3:=Blk.new w8 mzA 42
    have HS3:Hid (Blk (w8.alloc (.cells mzA 42)) w4.heap.size #[.slice (some ⟨cg,0,none⟩) 1 1] 26/\Blk (w8.alloc (.cells mzA 42)) (w4.heap.size+1) in0 30):=⟨HS.out.1.l A3,HS.out.2.l A3⟩
    refine hK2.out _ _ HS3.out (fun hS=>?_)
    clear hK2 K2
    try simp only[Act.put,List.getElem_toArray,List.getElem_cons_zero,List.getElem_cons_succ,List.setIfInBounds_toArray,List.set_cons_succ,List.set_cons_zero]
    clear hS
    have CC:Ec (w8.alloc (.cells mzA 42)) g 0 rcL:=fun j v hj=>cb (Ec.ofOwn O8 j v hj) A3
    revert HS3 A3 D3 CC
    generalize w8.alloc (.cells mzA 42)=U
    intro A3 D3 HS3 CC
    have DD:=D3
    have CW:Ec U g 0 rcL:=CC
    have BX:Below w3.heap.size w3 U:=bl2 (bl2 BV B8) A3
    have hg:=(O8.lt g (by simp[Value.ownBlock])).2;have bz:=BV.size;have b8:=B8.size
    refine doM rfl (by kernel_rfl) (by rfl) (fun K2 hK2=>?_)
    refine wp_store_mid 42 (.tmp 8) (.tmp 39) rfl (w8.heap.size) 0 (foA (1+p) hi mi mv tk sn g c) (by simp[Act.eval]) (by simp[Act.eval];try rfl) DD.there (by kernel_rfl) (by simp[Value.oneCell',foA]) ?_
    have C9:Chg [w8.heap.size] U (U.setCells (w8.heap.size) 0 (foA (1+p) hi mi mv tk sn g c).toList):=Chg.sets' (L:=[w8.heap.size]) (List.mem_singleton.2 rfl) _ 0 (Chg.refl _ _)
    have HR:=World.rangeAt_setCells_same U (w8.heap.size) 0 (foA (1+p) hi mi mv tk sn g c).toList DD.there
    refine hK2.out _ _ ⟨HS3.out.1.chg C9 (by simp only[List.mem_singleton];omega),HS3.out.2.chg C9 (by simp only[List.mem_singleton];omega)⟩ (fun hS=>?_)
    clear hK2 K2
    try simp only[Act.put,List.getElem_toArray,List.getElem_cons_zero,List.getElem_cons_succ]
    exact enM (by kernel_rfl) ⟨rfl,w8.heap.size,y3,p,_,rfl,A65 HR H12.out.1 H12.out.2 (CW.chg C9 (by simp only[List.mem_singleton];omega)),BX.trans (C9.low (lo:=w3.heap.size) BX.size (by simp only[List.mem_singleton];rintro _ rfl;omega))⟩
  ·go_wp2_with fail
   have A3:=(Below.refl _ V).alloc (Nat.le_refl _) (.cells mzA 42)
   have D3:=Blk.new V mzA 42
   have HS3:Hid (Blk (V.alloc (.cells mzA 42)) w4.heap.size #[.slice (some ⟨cg,0,none⟩) 1 1] 26/\Blk (V.alloc (.cells mzA 42)) (w4.heap.size+1) in0 30):=⟨HS.out.1.l A3,HS.out.2.l A3⟩
   refine hK2.out _ _ HS3.out (fun hS=>?_)
   clear hK2 K2
   try simp only[Act.put,List.getElem_toArray,List.getElem_cons_zero,List.getElem_cons_succ,List.setIfInBounds_toArray,List.set_cons_succ,List.set_cons_zero]
   clear hS HS
   have HU:Hid (Kh (V.alloc (.cells mzA 42)) ao m):=HV.out.l A3
   have hU:V.heap.size<(V.alloc (.cells mzA 42)).heap.size:=D3.lt
   revert HS3 A3 D3 hU HU
   generalize V.alloc (.cells mzA 42)=U
   intro A3 D3 HS3 HU hU
   have HS:=HS3
   refine doM rfl (by kernel_rfl) (by rfl) (fun K2 hK2=>?_)
   go_wp2_with fail
   refine(Ij ao m cap 3 U hm' (by omega) HU.out).mono ?_
   rintro e w7 ⟨y3,rfl,y30,y31,hw7⟩
   rw[hw7]
   clear hw7 w7
   obtain⟨p,hp⟩:∃p,y3.tmod 9=p:=⟨_,rfl⟩
   have hp':=hp
   rw[Int.tmod_eq_emod_of_nonneg (by omega)]at hp'
   have p0:0<=1+p:=by omega
   have p1:1+p<=1000:=by omega
   have e8:IntKind.i64.wrap p=p:=wq (by omega) (by omega)
   have e9:IntKind.i64.wrap (1+p)=1+p:=wq (by omega) (by omega)
   clear hp'
   refine hK2.out _ _ HS.out (fun hS=>?_)
   clear hK2 K2
   try simp only[Act.put,List.getElem_toArray,List.getElem_cons_zero,List.getElem_cons_succ,List.setIfInBounds_toArray,List.set_cons_succ,List.set_cons_zero]
   (refine tkM rfl (by kernel_rfl) (by rfl) hS ⟨?_,fun W hW=>?_,?_⟩;rotate_left;(focus (have h1:=hW.1.cell;have h2:=hW.2.cell;go_simp;with_reducible rfl));simp only[Act.put,List.getElem_toArray,List.getElem_cons_zero,List.getElem_cons_succ,List.setIfInBounds_toArray,List.set_cons_succ,List.set_cons_zero])
   (refine tkM rfl (by kernel_rfl) (by rfl) hS ⟨?_,fun W hW=>?_,?_⟩;rotate_left;(focus (have h1:=hW.1.cell;have h2:=hW.2.cell;go_simp;with_reducible rfl));simp only[Act.put,List.getElem_toArray,List.getElem_cons_zero,List.getElem_cons_succ,List.setIfInBounds_toArray,List.set_cons_succ,List.set_cons_zero])
   clear hS
   refine doM rfl (by kernel_rfl) (by rfl) (fun K2 hK2=>?_)
   go_wp2_with fail
   refine(HSt.out U (1+p) p0 p1 (bl2 AV A3)).mono ?_
   rintro e w8 ⟨v,rfl,⟨hi,mi,mv,tk,sn,g,c,rfl,i1,i2,O8⟩,B8⟩
   have H12:Hid (mi=miss (mkK n k gn).k (mkK n k gn).n/\hi=(mkK n k gn).n-miss (mkK n k gn).k (mkK n k gn).n):=⟨i1,i2⟩
   clear i1 i2
   have HS8:Hid (Blk w8 w4.heap.size #[.slice (some ⟨cg,0,none⟩) 1 1] 26/\Blk w8 (w4.heap.size+1) in0 30):=⟨HS3.out.1.l B8,HS3.out.2.l B8⟩
   refine hK2.out _ _ HS8.out (fun hS=>?_)
   clear hK2 K2
   try simp only[Act.put,List.getElem_toArray,List.getElem_cons_zero,List.getElem_cons_succ,List.setIfInBounds_toArray,List.set_cons_succ,List.set_cons_zero]
   have DD:=D3.l B8
   have CW:Ec w8 g 0 rcL:=Ec.ofOwn O8
   have BX:Below w3.heap.size w3 w8:=bl2 (bl2 BV A3) B8
   have hg:=(O8.lt g (by simp[Value.ownBlock])).1;have bz:=BV.size
   refine doM rfl (by kernel_rfl) (by rfl) (fun K2 hK2=>?_)
   refine wp_store_mid 42 (.tmp 8) (.tmp 39) rfl (V.heap.size) 0 (foA (1+p) hi mi mv tk sn g c) (by simp[Act.eval]) (by simp[Act.eval];try rfl) DD.there (by kernel_rfl) (by simp[Value.oneCell',foA]) ?_
   have C9:Chg [V.heap.size] w8 (w8.setCells (V.heap.size) 0 (foA (1+p) hi mi mv tk sn g c).toList):=Chg.sets' (L:=[V.heap.size]) (List.mem_singleton.2 rfl) _ 0 (Chg.refl _ _)
   have HR:=World.rangeAt_setCells_same w8 (V.heap.size) 0 (foA (1+p) hi mi mv tk sn g c).toList DD.there
   refine hK2.out _ _ ⟨HS8.out.1.chg C9 (by simp only[List.mem_singleton];omega),HS8.out.2.chg C9 (by simp only[List.mem_singleton];omega)⟩ (fun hS=>?_)
   clear hK2 K2
   try simp only[Act.put,List.getElem_toArray,List.getElem_cons_zero,List.getElem_cons_succ]
   exact enM (by kernel_rfl) ⟨rfl,V.heap.size,y3,p,_,rfl,A65 HR H12.out.1 H12.out.2 (CW.chg C9 (by simp only[List.mem_singleton];omega)),BX.trans (C9.low (lo:=w3.heap.size) BX.size (by simp only[List.mem_singleton];rintro _ rfl;omega))⟩
 ·rintro a W ⟨b8,y3,p,v,rfl,M8,BW8⟩
  dsimp only[tmA]
  clear HSt hsz hs3 HN4 HT HH6 BW A6 XC6 XI6 HKk
  obtain⟨g,c,tk,sn,o21,o22,o23,o24,o25,o26,hC⟩:=M8.r
  have HC:Hid (Ec W g 0 rcL):=hC
  have o16:=M8.o
  have o20:=M8.c
  have o8:W.cell? ⟨b8,8,none⟩=some (.int .i64 (miss k n)):=M8.m
  have o7:W.cell? ⟨b8,7,none⟩=some (.int .i64 (n-miss k n)):=M8.h
  clear hC M8
  have g0:¬k=0:=by omega
  have et:n.tdiv k=n / k:=Int.tdiv_eq_ediv_of_nonneg (by omega)
  have d0:0<=n / k:=Int.ediv_nonneg (by omega) (by omega)
  have d1:n / k<=n:=Int.ediv_le_self k (by omega)
  have e10:IntKind.i64.wrap (n / k)=n / k:=wq (by omega) (by omega)
  by_cases hk:1<k
  ·have em:miss k n=n / k+1:=by unfold miss;rw[if_pos ⟨hk,n1⟩]
   rw[em]at o8 o7
   have e11:IntKind.i64.wrap (n / k+1)=n / k+1:=wq (by omega) (by omega)
   have e12:IntKind.i64.wrap (n-(n / k+1))=n-(n / k+1):=wq (by omega) (by omega)
   clear em
   generalize n / k=dd at *
   go_wp2_with fail
   refine(Uo g c tk sn W HC.out).mono ?_
   rintro e w9 ⟨b,q9,rfl,h9,B9⟩
   have A9:=(Below.refl _ w9).alloc (Nat.le_refl _) (.cells #[.string s7] 9)
   have HG:Hid ((w9.alloc (.cells #[.string s7] 9)).cell? ⟨b,0,none⟩=some (.string s7)/\(w9.alloc (.cells #[.string s7] 9)).cell? ⟨w9.heap.size,0,none⟩=some (.string s7)):=⟨cb h9 A9,(Blk.new w9 #[.string s7] 9).cell 0⟩
   have HB9:Hid (Below w3.heap.size w3 (w9.alloc (.cells #[.string s7] 9))):=bl2 (bl2 BW8 B9) A9
   clear A9 h9 o16 o20 o8 o7 o21 o22 o23 o24 o25 o26
   go_wp2_with fail
   refine(A0b b w9.heap.size q9 1 _ HG.out.1 HG.out.2).mono ?_
   rintro e w10 ⟨rfl,B10⟩
   go_wp2_with fail
   go_ret
   exact⟨rfl,bl2 HB9.out B10⟩
  ·have em:miss k n=n / k:=by unfold miss;rw[if_neg (fun h=>hk h.1)];omega
   rw[em]at o8 o7
   have e12:IntKind.i64.wrap (n-n / k)=n-n / k:=wq (by omega) (by omega)
   clear em
   generalize n / k=dd at *
   go_wp2_with fail
   refine(Uo g c tk sn W HC.out).mono ?_
   rintro e w9 ⟨b,q9,rfl,h9,B9⟩
   have A9:=(Below.refl _ w9).alloc (Nat.le_refl _) (.cells #[.string s7] 9)
   have HG:Hid ((w9.alloc (.cells #[.string s7] 9)).cell? ⟨b,0,none⟩=some (.string s7)/\(w9.alloc (.cells #[.string s7] 9)).cell? ⟨w9.heap.size,0,none⟩=some (.string s7)):=⟨cb h9 A9,(Blk.new w9 #[.string s7] 9).cell 0⟩
   have HB9:Hid (Below w3.heap.size w3 (w9.alloc (.cells #[.string s7] 9))):=bl2 (bl2 BW8 B9) A9
   clear A9 h9 o16 o20 o8 o7 o21 o22 o23 o24 o25 o26
   go_wp2_with fail
   refine(A0b b w9.heap.size q9 1 _ HG.out.1 HG.out.2).mono ?_
   rintro e w10 ⟨rfl,B10⟩
   go_wp2_with fail
   go_ret
   exact⟨rfl,bl2 HB9.out B10⟩
end Go.Proofs.YtbefeflgjipfhaaGreatDoor
