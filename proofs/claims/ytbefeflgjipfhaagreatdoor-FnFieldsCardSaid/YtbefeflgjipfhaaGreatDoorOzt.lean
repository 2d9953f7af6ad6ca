import Derived.Test.YtbefeflgjipfhaaGreatDoorRows
import Derived.LaidByTextLater
import Derived.SevenTiedAt
namespace Go.Proofs.YtbefeflgjipfhaaGreatDoor
open Go
def laidT : List (String × DataW Unit) := [("loop.example/loom/impl.forms", Rows.laid_loop_example_loom_impl_forms), ("loop.example/loom/impl.handlerNames", Rows.laid_loop_example_loom_impl_handlerNames), ("internal/strconv.uint64pow10", Rows.laid_internal_strconv_uint64pow10), ("math/bits.deBruijn32tab", Rows.laid_math_bits_deBruijn32tab), ("math/bits.deBruijn64tab", Rows.laid_math_bits_deBruijn64tab), ("loop.example/loom/impl.typeNames", Rows.laid_loop_example_loom_impl_typeNames), ("loop.example/loom/impl.statusNames", Rows.laid_loop_example_loom_impl_statusNames), ("errors.errorType", Rows.laid_errors_errorType)]
theorem t_hw : Tryz.prog.worded (varsWordLater true) = true := by kernel_rfl
theorem t_hw2 : Tryz.prog.worded (varsWordLater !true) = false := by kernel_rfl
theorem t_hroot : Tryz.prog.worded rootWordLater = true := by kernel_rfl
theorem t_hk : laidT.map (fun x => Tryz.prog.kindOfLater x.1) = ([.data, .data, .data, .data, .data, .data, .data, .handle] : List LaidKind).map some := by kernel_rfl
theorem t_hg : (Tryz.prog.funcNamed "gosem.cut.vars").isSome = true := by kernel_rfl
theorem t_hn : varsNamedLaterB Tryz.prog (varsId Tryz.prog) laidT = true := by kernel_rfl
theorem t_hd : ∀ os tape, varsDone Tryz.prog 400 (varsId Tryz.prog) os tape = true := fun _ _ => by kernel_rfl
theorem t_h1 : ∀ os tape, (DataW.laidRun Tryz.prog (varsWorld Tryz.prog 400 (varsId Tryz.prog) os tape).memory 8 ((laidT.filter fun x => x.2.handleName?.isNone).map (·.1))).map (·.1) = some (laidT.filter fun x => x.2.handleName?.isNone) := fun _ _ => by kernel_rfl
theorem t_h2 : ∀ os tape, (DataW.laidRun Tryz.prog (varsWorld Tryz.prog 400 (varsId Tryz.prog) os tape).memory 8 ((laidT.filter fun x => x.2.handleName?.isNone).map (·.1))).map (fun x => decide x.2.Nodup && laidRowsB Tryz.prog (varsWorld Tryz.prog 400 (varsId Tryz.prog) os tape).memory x.2) = some true := fun _ _ => by kernel_rfl
theorem t_h3 : ∀ os tape, (laidT.filter fun x => x.2.handleName?.isSome).all (handleAtB Tryz.prog (varsWorld Tryz.prog 400 (varsId Tryz.prog) os tape).memory) = true := fun _ _ => by kernel_rfl
theorem tieT : Tryz.prog.laidByTextLater laidT [.data, .data, .data, .data, .data, .data, .data, .handle] true := Program.laidByTextLater_by_run_h 400 8 t_hw t_hw2 t_hroot t_hk t_hg t_hn t_hd t_h1 t_h2 t_h3
theorem noOwnT : Tryz.pinned.checked.prog.headLifts.contains "ownunsafe" = false := by kernel_rfl
theorem row_tieT : Rows.fnFieldsRow.laidByTextAt .later Tryz.pinned [.data, .data, .data, .data, .data, .data, .data, .handle] true := OpenClaim.laidByTextAt_later rfl rfl tieT noOwnT
end Go.Proofs.YtbefeflgjipfhaaGreatDoor
