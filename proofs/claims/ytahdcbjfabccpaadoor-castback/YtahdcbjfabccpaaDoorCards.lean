/-
  DERIVED. GIVEN WITH THE SEED: THE CARDS: each row of YtahdcbjfabccpaaDoorRows.lean that lists a variable, with what it lists TIED to the program's text (the seventh form; the later family's looks); each row that meets fmt, with fmt's text TOLD by the authors' own Lean function (tested against real Go, not proved from fmt's source: count such statements apart). THE CARD IS WHAT COUNTS. Prove the row's statement (the work); the ties are given (YtahdcbjfabccpaaDoorTie.lean); close each card by the builder's one call (the guide's Derived/Test/ToyasCard.lean, 'card_holds'). Laid BY PROGRAM, IN A SANDBOX (cutbox-door.mjs). By AI agents, Wed Nov 11 2026. No macro, syntax, notation, axiom, sorry.
-/
import Derived.Test.YtahdcbjfabccpaaDoorRows
import GoSem.ClaimSeven
namespace Go.Proofs.YtahdcbjfabccpaaDoor
namespace Rows

/-- THE TIED CARD OF 'trunnionlaw11.CastMakes'. -/
def castMakesCard : Claim7 := { stood := { row := castMakesRow, standIns := [], harness := (true, "b533c6b860269e08fb703eb5ca91adb0587cb9560a49caec69ad812cca379ee4"), looks := false }, kinds := [], alts := [], laidByText := true, laidKinds := [.data], laidTests := true, laidLooks := .later }
def CastMakesCardSaid : Prop := Claim7.holds Tryd.pinned (.plain (OpenSpec.ofChange castMakesSpec)) castMakesCard

/-- THE TIED CARD OF 'trunnionlaw11.CastBack'. -/
def castBackCard : Claim7 := { stood := { row := castBackRow, standIns := [], harness := (true, "b533c6b860269e08fb703eb5ca91adb0587cb9560a49caec69ad812cca379ee4"), looks := false }, kinds := [], alts := [], laidByText := true, laidKinds := [.data], laidTests := true, laidLooks := .later }
def CastBackCardSaid : Prop := Claim7.holds Tryd.pinned (.plain (OpenSpec.ofChange castBackSpec)) castBackCard

/-- THE SECOND FORM's CARD OF 'trunnionlaw11.CastMakes'. -/
def castMakesUptoCard : Claim7 := { stood := { row := castMakesUptoRow, standIns := [], harness := (true, "b533c6b860269e08fb703eb5ca91adb0587cb9560a49caec69ad812cca379ee4"), looks := false }, kinds := [], alts := [], laidByText := true, laidKinds := [.data], laidTests := true, laidLooks := .later }
def CastMakesUptoCardSaid : Prop := Claim7.holds Tryd.pinned (.plain (OpenSpec.upto castMakesSpec)) castMakesUptoCard

/-- THE SECOND FORM's CARD OF 'trunnionlaw11.CastBack'. -/
def castBackUptoCard : Claim7 := { stood := { row := castBackUptoRow, standIns := [], harness := (true, "b533c6b860269e08fb703eb5ca91adb0587cb9560a49caec69ad812cca379ee4"), looks := false }, kinds := [], alts := [], laidByText := true, laidKinds := [.data], laidTests := true, laidLooks := .later }
def CastBackUptoCardSaid : Prop := Claim7.holds Tryd.pinned (.plain (OpenSpec.upto castBackSpec)) castBackUptoCard
end Rows
end Go.Proofs.YtahdcbjfabccpaaDoor
