import Derived.Test.YtjbbppblgjhapaaGreatDoorRows
import Derived.JoinedCond
import Derived.KernelRfl
import Derived.Test.YtjbbppblgjhapaaGreatDoorJ01
namespace Go.Proofs.YtjbbppblgjhapaaGreatDoor
open Go.Proofs.Tryz
theorem A22:laidOutB Tryz.pinned.checked.prog=true:=by kernel_rfl
theorem Aa4:mapsRowed Tryz.pinned.checked.prog=true:=by kernel_rfl
theorem A84:Tryz.pinned.checked.prog.stopsHeard=true:=by kernel_rfl
theorem A83:Tryz.pinned.checked.prog.mayEnter=true:=by kernel_rfl
theorem A8c:(Rows.fnExactBeginRow.inPlace==Tryz.pinned.checked.prog.inPlace 6)=true:=by kernel_rfl
theorem Acr:(Rows.fnExactBeginRow.unfollowed==Tryz.pinned.checked.prog.unfollowed 6)=true:=by kernel_rfl
theorem Acp:(Rows.fnExactBeginRow.recurses==Tryz.pinned.checked.prog.recurses 6)=true:=by kernel_rfl
theorem A8b:(Rows.fnExactBeginRow.named==Tryz.pinned.checked.prog.varsNamed 6)=true:=by kernel_rfl
end Go.Proofs.YtjbbppblgjhapaaGreatDoor
