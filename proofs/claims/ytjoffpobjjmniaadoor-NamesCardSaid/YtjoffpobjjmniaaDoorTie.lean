/-
  DERIVED. GIVEN WITH THE SEED: THE PROGRAM's TIES (one call each: nine closed facts by the kernel) AND EACH ROW's TIE, after the 31st guide's Derived/Test/Toyas{Tie, Card}.lean. No idea stands in it: it is a product of the set-up. Laid BY PROGRAM, IN A SANDBOX (cutbox-door.mjs). By AI agents, Wed Nov 11 2026. No macro, syntax, notation, axiom, sorry.
-/
import Derived.Test.YtjoffpobjjmniaaDoorRows
import Derived.LaidByTextLater
import Derived.SevenTiedAt
import Derived.LaidSub
import Derived.LaidOnce
namespace Go.Proofs.YtjoffpobjjmniaaDoor
open Go
set_option maxRecDepth 100000
theorem seatTie1 : Tryd.prog.laidByTextLater [("errors.errorType", Rows.laid_errors_errorType), ("warrant/warrant.ErrWord", Rows.laid_warrant_warrant_ErrWord), ("warrant/warrant.ErrForm", Rows.laid_warrant_warrant_ErrForm), ("warrant/warrant.ErrDeep", Rows.laid_warrant_warrant_ErrDeep), ("warrant/warrant.ErrLimit", Rows.laid_warrant_warrant_ErrLimit), ("warrant/warrant.ErrFree", Rows.laid_warrant_warrant_ErrFree), ("warrant/warrant.ErrShort", Rows.laid_warrant_warrant_ErrShort), ("warrant/warrant.ErrBytes", Rows.laid_warrant_warrant_ErrBytes), ("warrant/warrant.ErrKey", Rows.laid_warrant_warrant_ErrKey), ("warrant/warrant.ErrSealed", Rows.laid_warrant_warrant_ErrSealed), ("warrant/warrant.ErrTag", Rows.laid_warrant_warrant_ErrTag)] [.handle, .sentinel, .sentinel, .sentinel, .sentinel, .sentinel, .sentinel, .sentinel, .sentinel, .sentinel, .sentinel] true :=
  Program.laidByTextLater_by_one 221 8 65 (by kernel_rfl) (by kernel_rfl) (by kernel_rfl) (by kernel_rfl) (by kernel_rfl) (by kernel_rfl) (fun _ _ => by kernel_rfl)
theorem noOwnUnsafe : Tryd.pinned.checked.prog.headLifts.contains "ownunsafe" = false := by kernel_rfl
theorem tie : Tryd.prog.laidByTextLater [("errors.errorType", Rows.laid_errors_errorType), ("warrant/warrant.ErrWord", Rows.laid_warrant_warrant_ErrWord), ("warrant/warrant.ErrForm", Rows.laid_warrant_warrant_ErrForm), ("warrant/warrant.ErrDeep", Rows.laid_warrant_warrant_ErrDeep), ("warrant/warrant.ErrLimit", Rows.laid_warrant_warrant_ErrLimit), ("warrant/warrant.ErrFree", Rows.laid_warrant_warrant_ErrFree), ("warrant/warrant.ErrShort", Rows.laid_warrant_warrant_ErrShort), ("warrant/warrant.ErrBytes", Rows.laid_warrant_warrant_ErrBytes), ("warrant/warrant.ErrKey", Rows.laid_warrant_warrant_ErrKey), ("warrant/warrant.ErrSealed", Rows.laid_warrant_warrant_ErrSealed), ("warrant/warrant.ErrTag", Rows.laid_warrant_warrant_ErrTag)] [.handle, .sentinel, .sentinel, .sentinel, .sentinel, .sentinel, .sentinel, .sentinel, .sentinel, .sentinel, .sentinel] true :=
  Program.laidByTextLater.sub seatTie1 ["errors.errorType", "warrant/warrant.ErrWord", "warrant/warrant.ErrForm", "warrant/warrant.ErrDeep", "warrant/warrant.ErrLimit", "warrant/warrant.ErrFree", "warrant/warrant.ErrShort", "warrant/warrant.ErrBytes", "warrant/warrant.ErrKey", "warrant/warrant.ErrSealed", "warrant/warrant.ErrTag"] (by kernel_rfl) (by kernel_rfl)
theorem names_row_tie : Rows.namesRow.laidByTextAt .later Tryd.pinned [.handle, .sentinel, .sentinel, .sentinel, .sentinel, .sentinel, .sentinel, .sentinel, .sentinel, .sentinel, .sentinel] true :=
  OpenClaim.laidByTextAt_later rfl rfl tie noOwnUnsafe
theorem namesUpto_row_tie : Rows.namesUptoRow.laidByTextAt .later Tryd.pinned [.handle, .sentinel, .sentinel, .sentinel, .sentinel, .sentinel, .sentinel, .sentinel, .sentinel, .sentinel, .sentinel] true :=
  OpenClaim.laidByTextAt_later rfl rfl tie noOwnUnsafe
end Go.Proofs.YtjoffpobjjmniaaDoor
