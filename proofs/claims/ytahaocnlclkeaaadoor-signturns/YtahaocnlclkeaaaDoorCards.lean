/-
  DERIVED. GIVEN WITH THE SEED: THE CARDS: each row of YtahaocnlclkeaaaDoorRows.lean that lists a variable, with what it lists TIED to the program's text (the seventh form; the later family's looks); each row that meets fmt, with fmt's text TOLD by the authors' own Lean function (tested against real Go, not proved from fmt's source: count such statements apart). THE CARD IS WHAT COUNTS. Prove the row's statement (the work); the ties are given (YtahaocnlclkeaaaDoorTie.lean); close each card by the builder's one call (the guide's Derived/Test/ToyasCard.lean, 'card_holds'). Laid BY PROGRAM, IN A SANDBOX (cutbox-door.mjs). By AI agents, Wed Nov 11 2026. No macro, syntax, notation, axiom, sorry.
-/
import Derived.Test.YtahaocnlclkeaaaDoorRows
import GoSem.ClaimSeven
namespace Go.Proofs.YtahaocnlclkeaaaDoor
namespace Rows

/-- THE TIED CARD OF 'trunnionlaw10.SignTurns'. -/
def signTurnsCard : Claim7 := { stood := { row := signTurnsRow, standIns := [], harness := (true, "c489d0937c9c0de1d4e2e55ed1b6c0591882bd91f37181ad56f5818765d81770"), looks := false }, kinds := [], alts := [], laidByText := true, laidKinds := [.data], laidTests := true, laidLooks := .later }
def SignTurnsCardSaid : Prop := Claim7.holds Tryd.pinned (.plain (OpenSpec.ofChange signTurnsSpec)) signTurnsCard

/-- THE TIED CARD OF 'trunnionlaw10.SignBack'. -/
def signBackCard : Claim7 := { stood := { row := signBackRow, standIns := [], harness := (true, "c489d0937c9c0de1d4e2e55ed1b6c0591882bd91f37181ad56f5818765d81770"), looks := false }, kinds := [], alts := [], laidByText := true, laidKinds := [.data], laidTests := true, laidLooks := .later }
def SignBackCardSaid : Prop := Claim7.holds Tryd.pinned (.plain (OpenSpec.ofChange signBackSpec)) signBackCard

/-- THE TIED CARD OF 'trunnionlaw10.SignAgain'. -/
def signAgainCard : Claim7 := { stood := { row := signAgainRow, standIns := [], harness := (true, "c489d0937c9c0de1d4e2e55ed1b6c0591882bd91f37181ad56f5818765d81770"), looks := false }, kinds := [], alts := [], laidByText := true, laidKinds := [.data], laidTests := true, laidLooks := .later }
def SignAgainCardSaid : Prop := Claim7.holds Tryd.pinned (.plain (OpenSpec.ofChange signAgainSpec)) signAgainCard

/-- THE SECOND FORM's CARD OF 'trunnionlaw10.SignTurns'. -/
def signTurnsUptoCard : Claim7 := { stood := { row := signTurnsUptoRow, standIns := [], harness := (true, "c489d0937c9c0de1d4e2e55ed1b6c0591882bd91f37181ad56f5818765d81770"), looks := false }, kinds := [], alts := [], laidByText := true, laidKinds := [.data], laidTests := true, laidLooks := .later }
def SignTurnsUptoCardSaid : Prop := Claim7.holds Tryd.pinned (.plain (OpenSpec.upto signTurnsSpec)) signTurnsUptoCard

/-- THE SECOND FORM's CARD OF 'trunnionlaw10.SignBack'. -/
def signBackUptoCard : Claim7 := { stood := { row := signBackUptoRow, standIns := [], harness := (true, "c489d0937c9c0de1d4e2e55ed1b6c0591882bd91f37181ad56f5818765d81770"), looks := false }, kinds := [], alts := [], laidByText := true, laidKinds := [.data], laidTests := true, laidLooks := .later }
def SignBackUptoCardSaid : Prop := Claim7.holds Tryd.pinned (.plain (OpenSpec.upto signBackSpec)) signBackUptoCard

/-- THE SECOND FORM's CARD OF 'trunnionlaw10.SignAgain'. -/
def signAgainUptoCard : Claim7 := { stood := { row := signAgainUptoRow, standIns := [], harness := (true, "c489d0937c9c0de1d4e2e55ed1b6c0591882bd91f37181ad56f5818765d81770"), looks := false }, kinds := [], alts := [], laidByText := true, laidKinds := [.data], laidTests := true, laidLooks := .later }
def SignAgainUptoCardSaid : Prop := Claim7.holds Tryd.pinned (.plain (OpenSpec.upto signAgainSpec)) signAgainUptoCard
end Rows
end Go.Proofs.YtahaocnlclkeaaaDoor
