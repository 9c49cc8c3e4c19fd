/-
  DERIVED. GIVEN WITH THE SEED: THE CARDS: each row of YtjlegmgpgfjciabDoorRows.lean that lists a variable, with what it lists TIED to the program's text (the seventh form; the later family's looks); each row that meets fmt, with fmt's text TOLD by the authors' own Lean function (tested against real Go, not proved from fmt's source: count such statements apart). THE CARD IS WHAT COUNTS. Prove the row's statement (the work); the ties are given (YtjlegmgpgfjciabDoorTie.lean); close each card by the builder's one call (the guide's Derived/Test/ToyasCard.lean, 'card_holds'). Laid BY PROGRAM, IN A SANDBOX (cutbox-door.mjs). By AI agents, Wed Nov 11 2026. No macro, syntax, notation, axiom, sorry.
-/
import Derived.Test.YtjlegmgpgfjciabDoorRows
import GoSem.ClaimSeven
namespace Go.Proofs.YtjlegmgpgfjciabDoor
namespace Rows

/-- THE TIED CARD OF 'trunnionlaw13.IntsRuns'. -/
def intsRunsCard : Claim7 := { stood := { row := intsRunsRow, standIns := [], harness := (true, "9239d6f208b1b376dab137ce560781d2e3a8c63ef00fc98e5c04b9dcc2b7f2cb"), looks := false }, kinds := [], alts := [], laidByText := true, laidKinds := [.data], laidTests := true, laidLooks := .later }
def IntsRunsCardSaid : Prop := Claim7.holds Tryd.pinned (.plain (OpenSpec.ofChange intsRunsSpec)) intsRunsCard

/-- THE SECOND FORM's CARD OF 'trunnionlaw13.IntsRuns'. -/
def intsRunsUptoCard : Claim7 := { stood := { row := intsRunsUptoRow, standIns := [], harness := (true, "9239d6f208b1b376dab137ce560781d2e3a8c63ef00fc98e5c04b9dcc2b7f2cb"), looks := false }, kinds := [], alts := [], laidByText := true, laidKinds := [.data], laidTests := true, laidLooks := .later }
def IntsRunsUptoCardSaid : Prop := Claim7.holds Tryd.pinned (.plain (OpenSpec.upto intsRunsSpec)) intsRunsUptoCard
end Rows
end Go.Proofs.YtjlegmgpgfjciabDoor
