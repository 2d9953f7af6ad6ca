import Derived.Test.YtgopdffmnikhdaaGreatDoorRows
import Derived.JoinedCond
import Derived.KernelRfl
namespace Go.Proofs.YtgopdffmnikhdaaGreatDoor
theorem all_laid:laidOutB Tryz.pinned.checked.prog=true:=by kernel_rfl
theorem all_maps:mapsRowed Tryz.pinned.checked.prog=true:=by kernel_rfl
theorem all_heard:Tryz.pinned.checked.prog.stopsHeard=true:=by kernel_rfl
theorem all_enter:Tryz.pinned.checked.prog.mayEnter=true:=by kernel_rfl
end Go.Proofs.YtgopdffmnikhdaaGreatDoor
namespace Go.Proofs.YtgopdffmnikhdaaGreatDoor
theorem tab_place:(Rows.fnTablesRow.inPlace == Tryz.pinned.checked.prog.inPlace 3)=true:=by kernel_rfl
theorem tab_unf:(Rows.fnTablesRow.unfollowed == Tryz.pinned.checked.prog.unfollowed 3)=true:=by kernel_rfl
theorem tab_rec:(Rows.fnTablesRow.recurses == Tryz.pinned.checked.prog.recurses 3)=true:=by kernel_rfl
theorem tab_named:(Rows.fnTablesRow.named == Tryz.pinned.checked.prog.varsNamed 3)=true:=by kernel_rfl
end Go.Proofs.YtgopdffmnikhdaaGreatDoor
