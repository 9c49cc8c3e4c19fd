/-
  DERIVED. GIVEN WITH THE SEED: THE CARDS: each row of YtjlegmgpgfjciaaDoorRows.lean that lists a variable, with what it lists TIED to the program's text (the seventh form; the later family's looks); each row that meets fmt, with fmt's text TOLD by the authors' own Lean function (tested against real Go, not proved from fmt's source: count such statements apart). THE CARD IS WHAT COUNTS. Prove the row's statement (the work); the ties are given (YtjlegmgpgfjciaaDoorTie.lean); close each card by the builder's one call (the guide's Derived/Test/ToyasCard.lean, 'card_holds'). Laid BY PROGRAM, IN A SANDBOX (cutbox-door.mjs). By AI agents, Wed Nov 11 2026. No macro, syntax, notation, axiom, sorry.
-/
import Derived.Test.YtjlegmgpgfjciaaDoorRows
import GoSem.ClaimSeven
namespace Go.Proofs.YtjlegmgpgfjciaaDoor
namespace Rows

/-- THE TIED CARD OF 'trunnionlaw13.IntsCounts'. -/
def intsCountsCard : Claim7 := { stood := { row := intsCountsRow, standIns := [], harness := (true, "a4f66b629939bcfa38cb8a85c9dc0ada4265c0617bcd76bdbc2f403999137613"), looks := false }, kinds := [], alts := [], laidByText := true, laidKinds := [.data], laidTests := true, laidLooks := .later }
def IntsCountsCardSaid : Prop := Claim7.holds Tryd.pinned (.plain (OpenSpec.ofChange intsCountsSpec)) intsCountsCard

/-- THE SECOND FORM's CARD OF 'trunnionlaw13.IntsCounts'. -/
def intsCountsUptoCard : Claim7 := { stood := { row := intsCountsUptoRow, standIns := [], harness := (true, "a4f66b629939bcfa38cb8a85c9dc0ada4265c0617bcd76bdbc2f403999137613"), looks := false }, kinds := [], alts := [], laidByText := true, laidKinds := [.data], laidTests := true, laidLooks := .later }
def IntsCountsUptoCardSaid : Prop := Claim7.holds Tryd.pinned (.plain (OpenSpec.upto intsCountsSpec)) intsCountsUptoCard
end Rows
end Go.Proofs.YtjlegmgpgfjciaaDoor
