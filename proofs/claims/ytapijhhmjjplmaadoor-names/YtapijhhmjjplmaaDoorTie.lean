/-
  DERIVED. GIVEN WITH THE SEED: THE PROGRAM's TIES (one call each: nine closed facts by the kernel) AND EACH ROW's TIE, after the 31st guide's Derived/Test/Toyas{Tie, Card}.lean. No idea stands in it: it is a product of the set-up. Laid BY PROGRAM, IN A SANDBOX (cutbox-door.mjs). By AI agents, Wed Nov 11 2026. No macro, syntax, notation, axiom, sorry.
-/
import Derived.Test.YtapijhhmjjplmaaDoorRows
import Derived.LaidByTextLater
import Derived.SevenTiedAt
import Derived.LaidSub
import Derived.LaidOnce
namespace Go.Proofs.YtapijhhmjjplmaaDoor
open Go
set_option maxRecDepth 100000
theorem seatTie1 : Tryd.prog.laidByTextLater [("errors.errorType", Rows.laid_errors_errorType), ("keepsake/keepsake.ErrArg", Rows.laid_keepsake_keepsake_ErrArg), ("keepsake/keepsake.ErrDown", Rows.laid_keepsake_keepsake_ErrDown), ("keepsake/keepsake.ErrFormat", Rows.laid_keepsake_keepsake_ErrFormat), ("keepsake/keepsake.ErrCorrupt", Rows.laid_keepsake_keepsake_ErrCorrupt), ("keepsake/keepsake.ErrPath", Rows.laid_keepsake_keepsake_ErrPath), ("keepsake/keepsake.ErrNone", Rows.laid_keepsake_keepsake_ErrNone), ("keepsake/keepsake.ErrKind", Rows.laid_keepsake_keepsake_ErrKind), ("keepsake/keepsake.ErrAgain", Rows.laid_keepsake_keepsake_ErrAgain), ("keepsake/keepsake.ErrBusy", Rows.laid_keepsake_keepsake_ErrBusy), ("keepsake/keepsake.ErrMany", Rows.laid_keepsake_keepsake_ErrMany), ("keepsake/keepsake.ErrBig", Rows.laid_keepsake_keepsake_ErrBig), ("keepsake/keepsake.ErrFull", Rows.laid_keepsake_keepsake_ErrFull)] [.handle, .sentinel, .sentinel, .sentinel, .sentinel, .sentinel, .sentinel, .sentinel, .sentinel, .sentinel, .sentinel, .sentinel, .sentinel] true :=
  Program.laidByTextLater_by_one 259 8 65 (by kernel_rfl) (by kernel_rfl) (by kernel_rfl) (by kernel_rfl) (by kernel_rfl) (by kernel_rfl) (fun _ _ => by kernel_rfl)
theorem noOwnUnsafe : Tryd.pinned.checked.prog.headLifts.contains "ownunsafe" = false := by kernel_rfl
theorem tie : Tryd.prog.laidByTextLater [("errors.errorType", Rows.laid_errors_errorType), ("keepsake/keepsake.ErrArg", Rows.laid_keepsake_keepsake_ErrArg), ("keepsake/keepsake.ErrDown", Rows.laid_keepsake_keepsake_ErrDown), ("keepsake/keepsake.ErrFormat", Rows.laid_keepsake_keepsake_ErrFormat), ("keepsake/keepsake.ErrCorrupt", Rows.laid_keepsake_keepsake_ErrCorrupt), ("keepsake/keepsake.ErrPath", Rows.laid_keepsake_keepsake_ErrPath), ("keepsake/keepsake.ErrNone", Rows.laid_keepsake_keepsake_ErrNone), ("keepsake/keepsake.ErrKind", Rows.laid_keepsake_keepsake_ErrKind), ("keepsake/keepsake.ErrAgain", Rows.laid_keepsake_keepsake_ErrAgain), ("keepsake/keepsake.ErrBusy", Rows.laid_keepsake_keepsake_ErrBusy), ("keepsake/keepsake.ErrMany", Rows.laid_keepsake_keepsake_ErrMany), ("keepsake/keepsake.ErrBig", Rows.laid_keepsake_keepsake_ErrBig), ("keepsake/keepsake.ErrFull", Rows.laid_keepsake_keepsake_ErrFull)] [.handle, .sentinel, .sentinel, .sentinel, .sentinel, .sentinel, .sentinel, .sentinel, .sentinel, .sentinel, .sentinel, .sentinel, .sentinel] true :=
  Program.laidByTextLater.sub seatTie1 ["errors.errorType", "keepsake/keepsake.ErrArg", "keepsake/keepsake.ErrDown", "keepsake/keepsake.ErrFormat", "keepsake/keepsake.ErrCorrupt", "keepsake/keepsake.ErrPath", "keepsake/keepsake.ErrNone", "keepsake/keepsake.ErrKind", "keepsake/keepsake.ErrAgain", "keepsake/keepsake.ErrBusy", "keepsake/keepsake.ErrMany", "keepsake/keepsake.ErrBig", "keepsake/keepsake.ErrFull"] (by kernel_rfl) (by kernel_rfl)
theorem names_row_tie : Rows.namesRow.laidByTextAt .later Tryd.pinned [.handle, .sentinel, .sentinel, .sentinel, .sentinel, .sentinel, .sentinel, .sentinel, .sentinel, .sentinel, .sentinel, .sentinel, .sentinel] true :=
  OpenClaim.laidByTextAt_later rfl rfl tie noOwnUnsafe
theorem namesUpto_row_tie : Rows.namesUptoRow.laidByTextAt .later Tryd.pinned [.handle, .sentinel, .sentinel, .sentinel, .sentinel, .sentinel, .sentinel, .sentinel, .sentinel, .sentinel, .sentinel, .sentinel, .sentinel] true :=
  OpenClaim.laidByTextAt_later rfl rfl tie noOwnUnsafe
end Go.Proofs.YtapijhhmjjplmaaDoor
