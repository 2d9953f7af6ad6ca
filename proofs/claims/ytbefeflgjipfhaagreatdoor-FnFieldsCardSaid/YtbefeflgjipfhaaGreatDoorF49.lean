import Derived.Test.YtbefeflgjipfhaaGreatDoorRows
import Derived.JoinedCond
import Derived.KernelRfl
import Derived.Test.YtbefeflgjipfhaaGreatDoorF01
namespace Go.Proofs.YtbefeflgjipfhaaGreatDoor
open Go.Proofs.Tryz
theorem Xk:laidOutB Tryz.pinned.checked.prog=true:=by kernel_rfl
theorem A57:mapsRowed Tryz.pinned.checked.prog=true:=by kernel_rfl
theorem A38:Tryz.pinned.checked.prog.stopsHeard=true:=by kernel_rfl
theorem A37:Tryz.pinned.checked.prog.mayEnter=true:=by kernel_rfl
theorem A4t:(Rows.fnFieldsRow.inPlace==Tryz.pinned.checked.prog.inPlace 3)=true:=by kernel_rfl
theorem A93:(Rows.fnFieldsRow.unfollowed==Tryz.pinned.checked.prog.unfollowed 3)=true:=by kernel_rfl
theorem A92:(Rows.fnFieldsRow.recurses==Tryz.pinned.checked.prog.recurses 3)=true:=by kernel_rfl
theorem A4s:(Rows.fnFieldsRow.named==Tryz.pinned.checked.prog.varsNamed 3)=true:=by kernel_rfl
end Go.Proofs.YtbefeflgjipfhaaGreatDoor
