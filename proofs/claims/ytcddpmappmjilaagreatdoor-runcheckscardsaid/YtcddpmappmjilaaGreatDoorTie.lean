/-
  DERIVED. GIVEN WITH THE SEED: THE PROGRAM's TIES (one call each: nine closed facts by the kernel) AND EACH ROW's TIE, after the 31st guide's Derived/Test/Toyas{Tie, Card}.lean. No idea stands in it: it is a product of the set-up. Laid BY PROGRAM, IN A SANDBOX (cutbox-door.mjs). By AI agents, Wed Nov 11 2026. No macro, syntax, notation, axiom, sorry.
-/
import Derived.Test.YtcddpmappmjilaaGreatDoorRows
import Derived.LaidByTextLater
import Derived.SevenTiedAt
import Derived.LaidSub
import Derived.LaidOnce
namespace Go.Proofs.YtcddpmappmjilaaGreatDoor
open Go
set_option maxRecDepth 100000
theorem seatTie1 : Tryz.prog.laidByTextLater [("cinder/code.rooms", Rows.laid_cinder_code_rooms), ("cinder/code.behind", Rows.laid_cinder_code_behind), ("cinder/verify.number", Rows.laid_cinder_verify_number), ("cinder/verify.row", Rows.laid_cinder_verify_row), ("cinder/verify.null", Rows.laid_cinder_verify_null), ("cinder/verify.anything", Rows.laid_cinder_verify_anything), ("cinder/verify.thing", Rows.laid_cinder_verify_thing)] [.data, .data, .data, .data, .data, .data, .data] true :=
  Program.laidByTextLater_by_one 49 8 38 (by kernel_rfl) (by kernel_rfl) (by kernel_rfl) (by kernel_rfl) (by kernel_rfl) (by kernel_rfl) (fun _ _ => by kernel_rfl)
theorem noOwnUnsafe : Tryz.pinned.checked.prog.headLifts.contains "ownunsafe" = false := by kernel_rfl
theorem tie : Tryz.prog.laidByTextLater [("cinder/code.rooms", Rows.laid_cinder_code_rooms), ("cinder/code.behind", Rows.laid_cinder_code_behind), ("cinder/verify.number", Rows.laid_cinder_verify_number), ("cinder/verify.row", Rows.laid_cinder_verify_row), ("cinder/verify.null", Rows.laid_cinder_verify_null), ("cinder/verify.anything", Rows.laid_cinder_verify_anything), ("cinder/verify.thing", Rows.laid_cinder_verify_thing)] [.data, .data, .data, .data, .data, .data, .data] true :=
  Program.laidByTextLater.sub seatTie1 ["cinder/code.rooms", "cinder/code.behind", "cinder/verify.number", "cinder/verify.row", "cinder/verify.null", "cinder/verify.anything", "cinder/verify.thing"] (by kernel_rfl) (by kernel_rfl)
theorem runChecks_row_tie : Rows.runChecksRow.laidByTextAt .later Tryz.pinned [.data, .data, .data, .data, .data, .data, .data] true :=
  OpenClaim.laidByTextAt_later rfl rfl tie noOwnUnsafe
theorem runChecksUpto_row_tie : Rows.runChecksUptoRow.laidByTextAt .later Tryz.pinned [.data, .data, .data, .data, .data, .data, .data] true :=
  OpenClaim.laidByTextAt_later rfl rfl tie noOwnUnsafe
end Go.Proofs.YtcddpmappmjilaaGreatDoor
