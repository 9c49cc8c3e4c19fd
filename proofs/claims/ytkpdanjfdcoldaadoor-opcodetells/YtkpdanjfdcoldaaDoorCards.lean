/-
  DERIVED. GIVEN WITH THE SEED: THE CARDS: each row of YtkpdanjfdcoldaaDoorRows.lean that lists a variable, with what it lists TIED to the program's text (the seventh form; the later family's looks); each row that meets fmt, with fmt's text TOLD by the authors' own Lean function (tested against real Go, not proved from fmt's source: count such statements apart). THE CARD IS WHAT COUNTS. Prove the row's statement (the work); the ties are given (YtkpdanjfdcoldaaDoorTie.lean); close each card by the builder's one call (the guide's Derived/Test/ToyasCard.lean, 'card_holds'). Laid BY PROGRAM, IN A SANDBOX (cutbox-door.mjs). By AI agents, Wed Nov 11 2026. No macro, syntax, notation, axiom, sorry.
-/
import Derived.Test.YtkpdanjfdcoldaaDoorRows
import GoSem.ClaimSeven
namespace Go.Proofs.YtkpdanjfdcoldaaDoor
namespace Rows

/-- THE TIED CARD OF 'trunnionlaw18.OpcodeTells'. -/
def opcodeTellsCard : Claim7 := { stood := { row := opcodeTellsRow, standIns := [], harness := (true, "df38b5a85a0289a35b85c45aeafaa3a8e6a00642544a050a755acdd457814e76"), looks := false }, kinds := [], alts := [], laidByText := true, laidKinds := [.data, .data, .data], laidTests := true, laidLooks := .later }
def OpcodeTellsCardSaid : Prop := Claim7.holds Tryd.pinned (.plain (OpenSpec.ofChange opcodeTellsSpec)) opcodeTellsCard

/-- THE TIED CARD OF 'trunnionlaw18.OpcodeKinds'. -/
def opcodeKindsCard : Claim7 := { stood := { row := opcodeKindsRow, standIns := [], harness := (true, "df38b5a85a0289a35b85c45aeafaa3a8e6a00642544a050a755acdd457814e76"), looks := false }, kinds := [], alts := [], laidByText := true, laidKinds := [.data, .data, .data], laidTests := true, laidLooks := .later }
def OpcodeKindsCardSaid : Prop := Claim7.holds Tryd.pinned (.plain (OpenSpec.ofChange opcodeKindsSpec)) opcodeKindsCard

/-- THE SECOND FORM's CARD OF 'trunnionlaw18.OpcodeTells'. -/
def opcodeTellsUptoCard : Claim7 := { stood := { row := opcodeTellsUptoRow, standIns := [], harness := (true, "df38b5a85a0289a35b85c45aeafaa3a8e6a00642544a050a755acdd457814e76"), looks := false }, kinds := [], alts := [], laidByText := true, laidKinds := [.data, .data, .data], laidTests := true, laidLooks := .later }
def OpcodeTellsUptoCardSaid : Prop := Claim7.holds Tryd.pinned (.plain (OpenSpec.upto opcodeTellsSpec)) opcodeTellsUptoCard

/-- THE SECOND FORM's CARD OF 'trunnionlaw18.OpcodeKinds'. -/
def opcodeKindsUptoCard : Claim7 := { stood := { row := opcodeKindsUptoRow, standIns := [], harness := (true, "df38b5a85a0289a35b85c45aeafaa3a8e6a00642544a050a755acdd457814e76"), looks := false }, kinds := [], alts := [], laidByText := true, laidKinds := [.data, .data, .data], laidTests := true, laidLooks := .later }
def OpcodeKindsUptoCardSaid : Prop := Claim7.holds Tryd.pinned (.plain (OpenSpec.upto opcodeKindsSpec)) opcodeKindsUptoCard
end Rows
end Go.Proofs.YtkpdanjfdcoldaaDoor
