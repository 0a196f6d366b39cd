/-
  DERIVED. GIVEN WITH THE SEED: THE PROGRAM's TIES (one call each: nine closed facts by the kernel) AND EACH ROW's TIE, after the 31st guide's Derived/Test/Toyas{Tie, Card}.lean. No idea stands in it: it is a product of the set-up. Laid BY PROGRAM, IN A SANDBOX (cutbox-door.mjs). By AI agents, Wed Nov 11 2026. No macro, syntax, notation, axiom, sorry.
-/
import Derived.Test.YtokkhhekekeokaaGreatDoorRows
import Derived.LaidByTextLater
import Derived.SevenTiedAt
import Derived.LaidSub
import Derived.LaidOnce
namespace Go.Proofs.YtokkhhekekeokaaGreatDoor
open Go
set_option maxRecDepth 100000
theorem seatTie1 : Tryz.prog.laidByTextLater [("errors.errorType", Rows.laid_errors_errorType), ("errand/lang.ErrLong", Rows.laid_errand_lang_ErrLong), ("errand/lang.ErrText", Rows.laid_errand_lang_ErrText), ("errand/lang.ErrNest", Rows.laid_errand_lang_ErrNest), ("errand/lang.ErrCount", Rows.laid_errand_lang_ErrCount), ("errand/lang.ErrName", Rows.laid_errand_lang_ErrName), ("errand/lang.ErrType", Rows.laid_errand_lang_ErrType), ("errand/lang.ops", Rows.laid_errand_lang_ops), ("errand/machine.ErrCode", Rows.laid_errand_machine_ErrCode), ("errand/machine.errFails", Rows.laid_errand_machine_errFails), ("errand/machine.errWaits", Rows.laid_errand_machine_errWaits), ("errand/machine.errAgain", Rows.laid_errand_machine_errAgain), ("errand/machine.errStuck", Rows.laid_errand_machine_errStuck), ("errand/machine.kindOf", Rows.laid_errand_machine_kindOf), ("errand/journal.ErrOther", Rows.laid_errand_journal_ErrOther), ("errand/journal.ErrFull", Rows.laid_errand_journal_ErrFull)] [.handle, .sentinel, .sentinel, .sentinel, .sentinel, .sentinel, .sentinel, .data, .sentinel, .sentinel, .sentinel, .sentinel, .sentinel, .data, .sentinel, .sentinel] true :=
  Program.laidByTextLater_by_one 280 8 29 (by kernel_rfl) (by kernel_rfl) (by kernel_rfl) (by kernel_rfl) (by kernel_rfl) (by kernel_rfl) (fun _ _ => by kernel_rfl)
theorem noOwnUnsafe : Tryz.pinned.checked.prog.headLifts.contains "ownunsafe" = false := by kernel_rfl
theorem tie : Tryz.prog.laidByTextLater [("errors.errorType", Rows.laid_errors_errorType), ("errand/lang.ErrLong", Rows.laid_errand_lang_ErrLong), ("errand/lang.ErrText", Rows.laid_errand_lang_ErrText), ("errand/lang.ErrNest", Rows.laid_errand_lang_ErrNest), ("errand/lang.ErrCount", Rows.laid_errand_lang_ErrCount), ("errand/lang.ErrName", Rows.laid_errand_lang_ErrName), ("errand/lang.ErrType", Rows.laid_errand_lang_ErrType), ("errand/lang.ops", Rows.laid_errand_lang_ops), ("errand/machine.ErrCode", Rows.laid_errand_machine_ErrCode), ("errand/machine.errFails", Rows.laid_errand_machine_errFails), ("errand/machine.errWaits", Rows.laid_errand_machine_errWaits), ("errand/machine.errAgain", Rows.laid_errand_machine_errAgain), ("errand/machine.errStuck", Rows.laid_errand_machine_errStuck), ("errand/machine.kindOf", Rows.laid_errand_machine_kindOf), ("errand/journal.ErrOther", Rows.laid_errand_journal_ErrOther), ("errand/journal.ErrFull", Rows.laid_errand_journal_ErrFull)] [.handle, .sentinel, .sentinel, .sentinel, .sentinel, .sentinel, .sentinel, .data, .sentinel, .sentinel, .sentinel, .sentinel, .sentinel, .data, .sentinel, .sentinel] true :=
  Program.laidByTextLater.sub seatTie1 ["errors.errorType", "errand/lang.ErrLong", "errand/lang.ErrText", "errand/lang.ErrNest", "errand/lang.ErrCount", "errand/lang.ErrName", "errand/lang.ErrType", "errand/lang.ops", "errand/machine.ErrCode", "errand/machine.errFails", "errand/machine.errWaits", "errand/machine.errAgain", "errand/machine.errStuck", "errand/machine.kindOf", "errand/journal.ErrOther", "errand/journal.ErrFull"] (by kernel_rfl) (by kernel_rfl)
theorem codes_row_tie : Rows.codesRow.laidByTextAt .later Tryz.pinned [.handle, .sentinel, .sentinel, .sentinel, .sentinel, .sentinel, .sentinel, .data, .sentinel, .sentinel, .sentinel, .sentinel, .sentinel, .data, .sentinel, .sentinel] true :=
  OpenClaim.laidByTextAt_later rfl rfl tie noOwnUnsafe
theorem hostile_row_tie : Rows.hostileRow.laidByTextAt .later Tryz.pinned [.handle, .sentinel, .sentinel, .sentinel, .sentinel, .sentinel, .sentinel, .data, .sentinel, .sentinel, .sentinel, .sentinel, .sentinel, .data, .sentinel, .sentinel] true :=
  OpenClaim.laidByTextAt_later rfl rfl tie noOwnUnsafe
theorem codesUpto_row_tie : Rows.codesUptoRow.laidByTextAt .later Tryz.pinned [.handle, .sentinel, .sentinel, .sentinel, .sentinel, .sentinel, .sentinel, .data, .sentinel, .sentinel, .sentinel, .sentinel, .sentinel, .data, .sentinel, .sentinel] true :=
  OpenClaim.laidByTextAt_later rfl rfl tie noOwnUnsafe
theorem hostileUpto_row_tie : Rows.hostileUptoRow.laidByTextAt .later Tryz.pinned [.handle, .sentinel, .sentinel, .sentinel, .sentinel, .sentinel, .sentinel, .data, .sentinel, .sentinel, .sentinel, .sentinel, .sentinel, .data, .sentinel, .sentinel] true :=
  OpenClaim.laidByTextAt_later rfl rfl tie noOwnUnsafe
end Go.Proofs.YtokkhhekekeokaaGreatDoor
