import Derived.Test.YtbefeflgjipfhaaGreatDoorRows
import Derived.JoinedCond
import Derived.KernelRfl
import GoSem.ClaimSeven
import Derived.Test.YtbefeflgjipfhaaGreatDoorF01
namespace Go.Proofs.YtbefeflgjipfhaaGreatDoor
open Go.Proofs.Tryz
theorem A45:Tryz.pinned.checked.prog.funcs.any Func.goes=false:=by kernel_rfl
theorem A3t {P:Program} (h:P.funcs.any Func.goes=false) (f:FuncId):P.goes f=false:=by
 have k:∀g:Nat,(P.funcs[g]?).any Func.goes=false:=fun g=>by
  cases e:P.funcs[g]? with
  | none=>rfl
  | some fn=>
   rw[Array.any_eq_false]at h
   obtain⟨hi,rfl⟩:=Array.getElem?_eq_some_iff.1 e
   simpa using h g hi
 unfold Program.goes
 simp[k,h]
theorem Yl {P:Program} (c:OpenClaim) (h:P.funcs.any Func.goes=false):false=c.goesBy P:=by
 have k:=A3t h
 unfold OpenClaim.goesBy Program.goesAt Program.goesFrom
 have a:(P.funcNamed c.func).any P.goes=false:=by
  cases P.funcNamed c.func with
  | none=>rfl
  | some f=>exact k f
 have b:P.inits.toList.any P.goes=false:=List.any_eq_false.2 fun f _=>by rw[k f];exact Bool.false_ne_true
 rw[a,b]
 cases c.start<;>rfl
theorem A76:false=Rows.fnFieldsRow.goesBy Tryz.pinned.checked.prog:=Yl _ A45
end Go.Proofs.YtbefeflgjipfhaaGreatDoor
