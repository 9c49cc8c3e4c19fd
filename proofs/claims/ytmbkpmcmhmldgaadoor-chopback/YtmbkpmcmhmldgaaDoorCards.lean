/-
  DERIVED. GIVEN WITH THE SEED: THE CARDS: each row of YtmbkpmcmhmldgaaDoorRows.lean that lists a variable, with what it lists TIED to the program's text (the seventh form; the later family's looks); each row that meets fmt, with fmt's text TOLD by the authors' own Lean function (tested against real Go, not proved from fmt's source: count such statements apart). THE CARD IS WHAT COUNTS. Prove the row's statement (the work); the ties are given (YtmbkpmcmhmldgaaDoorTie.lean); close each card by the builder's one call (the guide's Derived/Test/ToyasCard.lean, 'card_holds'). Laid BY PROGRAM, IN A SANDBOX (cutbox-door.mjs). By AI agents, Wed Nov 11 2026. No macro, syntax, notation, axiom, sorry.
-/
import Derived.Test.YtmbkpmcmhmldgaaDoorRows
import GoSem.ClaimSeven
namespace Go.Proofs.YtmbkpmcmhmldgaaDoor
namespace Rows

/-- THE TIED CARD OF 'trunnionlaw12.ChopBack'. -/
def chopBackCard : Claim7 := { stood := { row := chopBackRow, standIns := [], harness := (true, "b4b4a34bffe705eddf427396e976288f0a4e3d303a64d1230a9fb3ba127a83ad"), looks := false }, kinds := [], alts := [], laidByText := true, laidKinds := [.data], laidTests := true, laidLooks := .later }
def ChopBackCardSaid : Prop := Claim7.holds Tryd.pinned (.plain (OpenSpec.ofChange chopBackSpec)) chopBackCard

/-- THE SECOND FORM's CARD OF 'trunnionlaw12.ChopBack'. -/
def chopBackUptoCard : Claim7 := { stood := { row := chopBackUptoRow, standIns := [], harness := (true, "b4b4a34bffe705eddf427396e976288f0a4e3d303a64d1230a9fb3ba127a83ad"), looks := false }, kinds := [], alts := [], laidByText := true, laidKinds := [.data], laidTests := true, laidLooks := .later }
def ChopBackUptoCardSaid : Prop := Claim7.holds Tryd.pinned (.plain (OpenSpec.upto chopBackSpec)) chopBackUptoCard
end Rows
end Go.Proofs.YtmbkpmcmhmldgaaDoor
