/-
  DERIVED. GIVEN WITH THE SEED: THE PROGRAM's TIES (one call each: nine closed facts by the kernel) AND EACH ROW's TIE, after the 31st guide's Derived/Test/Toyas{Tie, Card}.lean. No idea stands in it: it is a product of the set-up. Laid BY PROGRAM, IN A SANDBOX (cutbox-door.mjs). By AI agents, Wed Nov 11 2026. No macro, syntax, notation, axiom, sorry.
-/
import Derived.Test.YtpbgpdmffejdgabGreatDoorRows
import Derived.LaidByTextLater
import Derived.SevenTiedAt
import Derived.LaidSub
import Derived.LaidOnce
namespace Go.Proofs.YtpbgpdmffejdgabGreatDoor
open Go
set_option maxRecDepth 100000
theorem seatTie1 : Tryz.prog.laidByTextLater [("math/bits.deBruijn64tab", Rows.laid_math_bits_deBruijn64tab), ("trunnion/sign.marks", Rows.laid_trunnion_sign_marks), ("trunnion/numeric.groups", Rows.laid_trunnion_numeric_groups), ("trunnion/numeric.changed", Rows.laid_trunnion_numeric_changed), ("trunnion/numeric.stopped", Rows.laid_trunnion_numeric_stopped)] [.data, .data, .data, .data, .data] true :=
  Program.laidByTextLater_by_one 79 8 65 (by kernel_rfl) (by kernel_rfl) (by kernel_rfl) (by kernel_rfl) (by kernel_rfl) (by kernel_rfl) (fun _ _ => by kernel_rfl)
theorem noOwnUnsafe : Tryz.pinned.checked.prog.headLifts.contains "ownunsafe" = false := by kernel_rfl
theorem tie : Tryz.prog.laidByTextLater [("math/bits.deBruijn64tab", Rows.laid_math_bits_deBruijn64tab), ("trunnion/sign.marks", Rows.laid_trunnion_sign_marks), ("trunnion/numeric.groups", Rows.laid_trunnion_numeric_groups), ("trunnion/numeric.changed", Rows.laid_trunnion_numeric_changed), ("trunnion/numeric.stopped", Rows.laid_trunnion_numeric_stopped)] [.data, .data, .data, .data, .data] true :=
  Program.laidByTextLater.sub seatTie1 ["math/bits.deBruijn64tab", "trunnion/sign.marks", "trunnion/numeric.groups", "trunnion/numeric.changed", "trunnion/numeric.stopped"] (by kernel_rfl) (by kernel_rfl)
theorem topNans_row_tie : Rows.topNansRow.laidByTextAt .later Tryz.pinned [.data, .data, .data, .data, .data] true :=
  OpenClaim.laidByTextAt_later rfl rfl tie noOwnUnsafe
theorem topNansUpto_row_tie : Rows.topNansUptoRow.laidByTextAt .later Tryz.pinned [.data, .data, .data, .data, .data] true :=
  OpenClaim.laidByTextAt_later rfl rfl tie noOwnUnsafe
end Go.Proofs.YtpbgpdmffejdgabGreatDoor
