import Derived.Test.YtgopdffmnikhdaaGreatDoorRows
import Derived.JoinedCond
import Derived.KernelRfl
import GoSem.ClaimSeven
namespace Go.Proofs.YtgopdffmnikhdaaGreatDoor
theorem tab_goes:false=Rows.fnTablesRow.goesBy Tryz.pinned.checked.prog:=by kernel_rfl
end Go.Proofs.YtgopdffmnikhdaaGreatDoor
