import Derived.Test.YtaakadmnhpboiaaGreatDoorRows
import Derived.JoinedCond
import Derived.KernelRfl
namespace Go.Proofs.YtaakadmnhpboiaaGreatDoor
theorem check_place:(Rows.fnExactCheckCodeRow.inPlace == Tryz.pinned.checked.prog.inPlace 3)=true:=by kernel_rfl
theorem check_unf:(Rows.fnExactCheckCodeRow.unfollowed == Tryz.pinned.checked.prog.unfollowed 3)=true:=by kernel_rfl
theorem check_rec:(Rows.fnExactCheckCodeRow.recurses == Tryz.pinned.checked.prog.recurses 3)=true:=by kernel_rfl
theorem check_named:(Rows.fnExactCheckCodeRow.named == Tryz.pinned.checked.prog.varsNamed 3)=true:=by kernel_rfl
end Go.Proofs.YtaakadmnhpboiaaGreatDoor
