/-
  DERIVED. GIVEN WITH THE SEED: THE CARDS: each row of YtjoonmpjcophnaaGreatDoorRows.lean that lists a variable, with what it lists TIED to the program's text (the seventh form; the later family's looks); each row that meets fmt, with fmt's text TOLD by the authors' own Lean function (tested against real Go, not proved from fmt's source: count such statements apart). THE CARD IS WHAT COUNTS. Prove the row's statement (the work); the ties are given (YtjoonmpjcophnaaGreatDoorTie.lean); close each card by the builder's one call (the guide's Derived/Test/ToyasCard.lean, 'card_holds'). Laid BY PROGRAM, IN A SANDBOX (cutbox-door.mjs). By AI agents, Wed Nov 11 2026. No macro, syntax, notation, axiom, sorry.
-/
import Derived.Test.YtjoonmpjcophnaaGreatDoorRows
import GoSem.ClaimSeven
namespace Go.Proofs.YtjoonmpjcophnaaGreatDoor
namespace Rows

/-- THE TIED CARD OF 'trunnionlaw20.ModuleDecodes'. -/
def moduleDecodesCard : Claim7 := { stood := { row := moduleDecodesRow, standIns := [], harness := (true, "aaa598be91bdf294a1f514132bfaef1426ff632e4fbdf0a8695d4af1c6ad019c"), looks := false }, kinds := [], alts := [], laidByText := true, laidKinds := [.data, .data, .data], laidTests := true, laidLooks := .later }
def ModuleDecodesCardSaid : Prop := Claim7.holds Tryz.pinned (.plain (OpenSpec.ofChange moduleDecodesSpec)) moduleDecodesCard

/-- THE TIED CARD OF 'trunnionlaw20.ModuleLocals'. -/
def moduleLocalsCard : Claim7 := { stood := { row := moduleLocalsRow, standIns := [], harness := (true, "aaa598be91bdf294a1f514132bfaef1426ff632e4fbdf0a8695d4af1c6ad019c"), looks := false }, kinds := [], alts := [], laidByText := true, laidKinds := [.data, .data, .data], laidTests := true, laidLooks := .later }
def ModuleLocalsCardSaid : Prop := Claim7.holds Tryz.pinned (.plain (OpenSpec.ofChange moduleLocalsSpec)) moduleLocalsCard

/-- THE TIED CARD OF 'trunnionlaw20.ModuleCustom'. -/
def moduleCustomCard : Claim7 := { stood := { row := moduleCustomRow, standIns := [], harness := (true, "aaa598be91bdf294a1f514132bfaef1426ff632e4fbdf0a8695d4af1c6ad019c"), looks := false }, kinds := [], alts := [], laidByText := true, laidKinds := [.data, .data, .data], laidTests := true, laidLooks := .later }
def ModuleCustomCardSaid : Prop := Claim7.holds Tryz.pinned (.plain (OpenSpec.ofChange moduleCustomSpec)) moduleCustomCard

/-- THE TIED CARD OF 'trunnionlaw20.ModuleCut'. -/
def moduleCutCard : Claim7 := { stood := { row := moduleCutRow, standIns := [], harness := (true, "aaa598be91bdf294a1f514132bfaef1426ff632e4fbdf0a8695d4af1c6ad019c"), looks := false }, kinds := [], alts := [], laidByText := true, laidKinds := [.data, .data, .data], laidTests := true, laidLooks := .later }
def ModuleCutCardSaid : Prop := Claim7.holds Tryz.pinned (.plain (OpenSpec.ofChange moduleCutSpec)) moduleCutCard

/-- THE SECOND FORM's CARD OF 'trunnionlaw20.ModuleDecodes'. -/
def moduleDecodesUptoCard : Claim7 := { stood := { row := moduleDecodesUptoRow, standIns := [], harness := (true, "aaa598be91bdf294a1f514132bfaef1426ff632e4fbdf0a8695d4af1c6ad019c"), looks := false }, kinds := [], alts := [], laidByText := true, laidKinds := [.data, .data, .data], laidTests := true, laidLooks := .later }
def ModuleDecodesUptoCardSaid : Prop := Claim7.holds Tryz.pinned (.plain (OpenSpec.upto moduleDecodesSpec)) moduleDecodesUptoCard

/-- THE SECOND FORM's CARD OF 'trunnionlaw20.ModuleLocals'. -/
def moduleLocalsUptoCard : Claim7 := { stood := { row := moduleLocalsUptoRow, standIns := [], harness := (true, "aaa598be91bdf294a1f514132bfaef1426ff632e4fbdf0a8695d4af1c6ad019c"), looks := false }, kinds := [], alts := [], laidByText := true, laidKinds := [.data, .data, .data], laidTests := true, laidLooks := .later }
def ModuleLocalsUptoCardSaid : Prop := Claim7.holds Tryz.pinned (.plain (OpenSpec.upto moduleLocalsSpec)) moduleLocalsUptoCard

/-- THE SECOND FORM's CARD OF 'trunnionlaw20.ModuleCustom'. -/
def moduleCustomUptoCard : Claim7 := { stood := { row := moduleCustomUptoRow, standIns := [], harness := (true, "aaa598be91bdf294a1f514132bfaef1426ff632e4fbdf0a8695d4af1c6ad019c"), looks := false }, kinds := [], alts := [], laidByText := true, laidKinds := [.data, .data, .data], laidTests := true, laidLooks := .later }
def ModuleCustomUptoCardSaid : Prop := Claim7.holds Tryz.pinned (.plain (OpenSpec.upto moduleCustomSpec)) moduleCustomUptoCard

/-- THE SECOND FORM's CARD OF 'trunnionlaw20.ModuleCut'. -/
def moduleCutUptoCard : Claim7 := { stood := { row := moduleCutUptoRow, standIns := [], harness := (true, "aaa598be91bdf294a1f514132bfaef1426ff632e4fbdf0a8695d4af1c6ad019c"), looks := false }, kinds := [], alts := [], laidByText := true, laidKinds := [.data, .data, .data], laidTests := true, laidLooks := .later }
def ModuleCutUptoCardSaid : Prop := Claim7.holds Tryz.pinned (.plain (OpenSpec.upto moduleCutSpec)) moduleCutUptoCard
end Rows
end Go.Proofs.YtjoonmpjcophnaaGreatDoor
