import Derived.Test.YtaakadmnhpboiaaGreatDoorRows
import Derived.JoinedCond
import Derived.KernelRfl
namespace Go.Proofs.YtaakadmnhpboiaaGreatDoor
theorem all_laid:laidOutB Tryz.pinned.checked.prog=true:=by kernel_rfl
theorem all_maps:mapsRowed Tryz.pinned.checked.prog=true:=by kernel_rfl
theorem all_heard:Tryz.pinned.checked.prog.stopsHeard=true:=by kernel_rfl
theorem all_enter:Tryz.pinned.checked.prog.mayEnter=true:=by kernel_rfl
end Go.Proofs.YtaakadmnhpboiaaGreatDoor
namespace Go.Proofs.YtaakadmnhpboiaaGreatDoor
theorem prep_place:(Rows.fnExactPrepareRow.inPlace == Tryz.pinned.checked.prog.inPlace 4)=true:=by kernel_rfl
theorem prep_unf:(Rows.fnExactPrepareRow.unfollowed == Tryz.pinned.checked.prog.unfollowed 4)=true:=by kernel_rfl
theorem prep_rec:(Rows.fnExactPrepareRow.recurses == Tryz.pinned.checked.prog.recurses 4)=true:=by kernel_rfl
theorem prep_named:(Rows.fnExactPrepareRow.named == Tryz.pinned.checked.prog.varsNamed 4)=true:=by kernel_rfl
end Go.Proofs.YtaakadmnhpboiaaGreatDoor
