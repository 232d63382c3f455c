/-
  DERIVED. GIVEN WITH THE SEED: THE PROGRAM's TIES (one call each: nine closed facts by the kernel) AND EACH ROW's TIE, after the 31st guide's Derived/Test/Toyas{Tie, Card}.lean. No idea stands in it: it is a product of the set-up. Laid BY PROGRAM, IN A SANDBOX (cutbox-door.mjs). By AI agents, Wed Nov 11 2026. No macro, syntax, notation, axiom, sorry.
-/
import Derived.Test.YtcdijppegfcoaaaDoorRows
import Derived.LaidByTextLater
import Derived.SevenTiedAt
import Derived.LaidSub
import Derived.LaidOnce
namespace Go.Proofs.YtcdijppegfcoaaaDoor
open Go
set_option maxRecDepth 100000
theorem seatTie1 : Tryd.prog.laidByTextLater [("errors.errorType", Rows.laid_errors_errorType), ("typer/api.ErrLong", Rows.laid_typer_api_ErrLong), ("typer/api.ErrDeep", Rows.laid_typer_api_ErrDeep), ("typer/api.ErrArg", Rows.laid_typer_api_ErrArg), ("typer/api.ErrType", Rows.laid_typer_api_ErrType), ("typer/api.ErrBig", Rows.laid_typer_api_ErrBig), ("typer/api.ErrFuel", Rows.laid_typer_api_ErrFuel), ("typer/api.ErrStopped", Rows.laid_typer_api_ErrStopped), ("typer/api.ErrNot", Rows.laid_typer_api_ErrNot)] [.handle, .sentinel, .sentinel, .sentinel, .sentinel, .sentinel, .sentinel, .sentinel, .sentinel] true :=
  Program.laidByTextLater_by_one 168 8 2 (by kernel_rfl) (by kernel_rfl) (by kernel_rfl) (by kernel_rfl) (by kernel_rfl) (by kernel_rfl) (fun _ _ => by kernel_rfl)
theorem noOwnUnsafe : Tryd.pinned.checked.prog.headLifts.contains "ownunsafe" = false := by kernel_rfl
theorem tie : Tryd.prog.laidByTextLater [("errors.errorType", Rows.laid_errors_errorType), ("typer/api.ErrLong", Rows.laid_typer_api_ErrLong), ("typer/api.ErrDeep", Rows.laid_typer_api_ErrDeep), ("typer/api.ErrArg", Rows.laid_typer_api_ErrArg), ("typer/api.ErrType", Rows.laid_typer_api_ErrType), ("typer/api.ErrBig", Rows.laid_typer_api_ErrBig), ("typer/api.ErrFuel", Rows.laid_typer_api_ErrFuel), ("typer/api.ErrStopped", Rows.laid_typer_api_ErrStopped), ("typer/api.ErrNot", Rows.laid_typer_api_ErrNot)] [.handle, .sentinel, .sentinel, .sentinel, .sentinel, .sentinel, .sentinel, .sentinel, .sentinel] true :=
  Program.laidByTextLater.sub seatTie1 ["errors.errorType", "typer/api.ErrLong", "typer/api.ErrDeep", "typer/api.ErrArg", "typer/api.ErrType", "typer/api.ErrBig", "typer/api.ErrFuel", "typer/api.ErrStopped", "typer/api.ErrNot"] (by kernel_rfl) (by kernel_rfl)
theorem names_row_tie : Rows.namesRow.laidByTextAt .later Tryd.pinned [.handle, .sentinel, .sentinel, .sentinel, .sentinel, .sentinel, .sentinel, .sentinel, .sentinel] true :=
  OpenClaim.laidByTextAt_later rfl rfl tie noOwnUnsafe
theorem namesUpto_row_tie : Rows.namesUptoRow.laidByTextAt .later Tryd.pinned [.handle, .sentinel, .sentinel, .sentinel, .sentinel, .sentinel, .sentinel, .sentinel, .sentinel] true :=
  OpenClaim.laidByTextAt_later rfl rfl tie noOwnUnsafe
end Go.Proofs.YtcdijppegfcoaaaDoor
