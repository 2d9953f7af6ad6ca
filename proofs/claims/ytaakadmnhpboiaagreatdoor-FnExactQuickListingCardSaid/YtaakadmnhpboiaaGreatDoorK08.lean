import Derived.Test.YtaakadmnhpboiaaGreatDoorRows
import Derived.JoinedCond
import Derived.KernelRfl
namespace Go.Proofs.YtaakadmnhpboiaaGreatDoor
theorem all_laid:laidOutB Tryz.pinned.checked.prog=true:=by kernel_rfl
theorem all_maps:mapsRowed Tryz.pinned.checked.prog=true:=by kernel_rfl
theorem all_heard:Tryz.pinned.checked.prog.stopsHeard=true:=by kernel_rfl
theorem all_enter:Tryz.pinned.checked.prog.mayEnter=true:=by kernel_rfl
end Go.Proofs.YtaakadmnhpboiaaGreatDoor
namespace Go.Proofs.YtaakadmnhpboiaaGreatDoor
theorem list_place:(Rows.fnExactQuickListingRow.inPlace == Tryz.pinned.checked.prog.inPlace 5)=true:=by kernel_rfl
theorem list_unf:(Rows.fnExactQuickListingRow.unfollowed == Tryz.pinned.checked.prog.unfollowed 5)=true:=by kernel_rfl
theorem list_rec:(Rows.fnExactQuickListingRow.recurses == Tryz.pinned.checked.prog.recurses 5)=true:=by kernel_rfl
theorem list_named:(Rows.fnExactQuickListingRow.named == Tryz.pinned.checked.prog.varsNamed 5)=true:=by kernel_rfl
end Go.Proofs.YtaakadmnhpboiaaGreatDoor
