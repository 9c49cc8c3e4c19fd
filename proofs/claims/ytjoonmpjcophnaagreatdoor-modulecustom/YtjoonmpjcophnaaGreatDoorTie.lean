/-
  DERIVED. GIVEN WITH THE SEED: THE PROGRAM's TIES (one call each: nine closed facts by the kernel) AND EACH ROW's TIE, after the 31st guide's Derived/Test/Toyas{Tie, Card}.lean. No idea stands in it: it is a product of the set-up. Laid BY PROGRAM, IN A SANDBOX (cutbox-door.mjs). By AI agents, Wed Nov 11 2026. No macro, syntax, notation, axiom, sorry.
-/
import Derived.Test.YtjoonmpjcophnaaGreatDoorRows
import Derived.LaidByTextLater
import Derived.SevenTiedAt
import Derived.LaidSub
import Derived.LaidOnce
namespace Go.Proofs.YtjoonmpjcophnaaGreatDoor
open Go
set_option maxRecDepth 100000
theorem seatTie1 : Tryz.prog.laidByTextLater [("trunnion/numeric.groups", Rows.laid_trunnion_numeric_groups), ("trunnion/numeric.changed", Rows.laid_trunnion_numeric_changed), ("trunnion/numeric.stopped", Rows.laid_trunnion_numeric_stopped)] [.data, .data, .data] true :=
  Program.laidByTextLater_by_one 67 8 51 (by kernel_rfl) (by kernel_rfl) (by kernel_rfl) (by kernel_rfl) (by kernel_rfl) (by kernel_rfl) (fun _ _ => by kernel_rfl)
theorem noOwnUnsafe : Tryz.pinned.checked.prog.headLifts.contains "ownunsafe" = false := by kernel_rfl
theorem tie : Tryz.prog.laidByTextLater [("trunnion/numeric.groups", Rows.laid_trunnion_numeric_groups), ("trunnion/numeric.changed", Rows.laid_trunnion_numeric_changed), ("trunnion/numeric.stopped", Rows.laid_trunnion_numeric_stopped)] [.data, .data, .data] true :=
  Program.laidByTextLater.sub seatTie1 ["trunnion/numeric.groups", "trunnion/numeric.changed", "trunnion/numeric.stopped"] (by kernel_rfl) (by kernel_rfl)
theorem moduleDecodes_row_tie : Rows.moduleDecodesRow.laidByTextAt .later Tryz.pinned [.data, .data, .data] true :=
  OpenClaim.laidByTextAt_later rfl rfl tie noOwnUnsafe
theorem moduleLocals_row_tie : Rows.moduleLocalsRow.laidByTextAt .later Tryz.pinned [.data, .data, .data] true :=
  OpenClaim.laidByTextAt_later rfl rfl tie noOwnUnsafe
theorem moduleCustom_row_tie : Rows.moduleCustomRow.laidByTextAt .later Tryz.pinned [.data, .data, .data] true :=
  OpenClaim.laidByTextAt_later rfl rfl tie noOwnUnsafe
theorem moduleCut_row_tie : Rows.moduleCutRow.laidByTextAt .later Tryz.pinned [.data, .data, .data] true :=
  OpenClaim.laidByTextAt_later rfl rfl tie noOwnUnsafe
theorem moduleDecodesUpto_row_tie : Rows.moduleDecodesUptoRow.laidByTextAt .later Tryz.pinned [.data, .data, .data] true :=
  OpenClaim.laidByTextAt_later rfl rfl tie noOwnUnsafe
theorem moduleLocalsUpto_row_tie : Rows.moduleLocalsUptoRow.laidByTextAt .later Tryz.pinned [.data, .data, .data] true :=
  OpenClaim.laidByTextAt_later rfl rfl tie noOwnUnsafe
theorem moduleCustomUpto_row_tie : Rows.moduleCustomUptoRow.laidByTextAt .later Tryz.pinned [.data, .data, .data] true :=
  OpenClaim.laidByTextAt_later rfl rfl tie noOwnUnsafe
theorem moduleCutUpto_row_tie : Rows.moduleCutUptoRow.laidByTextAt .later Tryz.pinned [.data, .data, .data] true :=
  OpenClaim.laidByTextAt_later rfl rfl tie noOwnUnsafe
end Go.Proofs.YtjoonmpjcophnaaGreatDoor
