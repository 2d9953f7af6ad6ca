import Derived.Test.YtaakadmnhpboiaaGreatDoorRows
import Derived.JoinedCond
import Derived.KernelRfl
namespace Go.Proofs.YtaakadmnhpboiaaGreatDoor
theorem all_laid:laidOutB Tryz.pinned.checked.prog=true:=by kernel_rfl
theorem all_maps:mapsRowed Tryz.pinned.checked.prog=true:=by kernel_rfl
theorem all_heard:Tryz.pinned.checked.prog.stopsHeard=true:=by kernel_rfl
theorem all_enter:Tryz.pinned.checked.prog.mayEnter=true:=by kernel_rfl
end Go.Proofs.YtaakadmnhpboiaaGreatDoor
