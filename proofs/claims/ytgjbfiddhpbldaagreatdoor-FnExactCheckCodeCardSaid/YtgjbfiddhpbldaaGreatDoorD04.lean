import Derived.Test.YtgjbfiddhpbldaaGreatDoorRows
import Derived.JoinedCond
import Derived.KernelRfl
namespace Go.Proofs.YtgjbfiddhpbldaaGreatDoor

/-! What the row's cells say -/
theorem check_place : (Rows.fnExactCheckCodeRow.inPlace == Tryz.pinned.checked.prog.inPlace 4) = true := by kernel_rfl
theorem check_unf : (Rows.fnExactCheckCodeRow.unfollowed == Tryz.pinned.checked.prog.unfollowed 4) = true := by kernel_rfl
theorem check_rec : (Rows.fnExactCheckCodeRow.recurses == Tryz.pinned.checked.prog.recurses 4) = true := by kernel_rfl
theorem check_named : (Rows.fnExactCheckCodeRow.named == Tryz.pinned.checked.prog.varsNamed 4) = true := by kernel_rfl
end Go.Proofs.YtgjbfiddhpbldaaGreatDoor
