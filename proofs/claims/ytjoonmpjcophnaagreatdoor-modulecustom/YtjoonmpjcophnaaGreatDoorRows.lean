/-
  NARROWER THAN 'FOR EVERY INPUT', by the rows' own cells (each row's printed sentence says how): ModuleDecodes: laid · ModuleLocals: laid · ModuleCustom: laid · ModuleCut: laid.
  DERIVED. THE GIVEN ROWS OF THIS SEAT. 4 by the template 'for every input the law returns true; each argument reads behind the call as it read before'; 0 by the template 'total and deterministic' (their statements: YtjoonmpjcophnaaGreatDoorTotals.lean).
  GIVEN WITH THE SEED: the statements are not yours to turn. If you find one false, say at which input.
  Laid BY PROGRAM, IN A SANDBOX (cutbox-rows.mjs): the forced cells as the released guide's own fill.sh prints them over the translation a468b40297d6c6f3… (all of the seat's roots in one cut). By AI agents, Wed Nov 11 2026. No macro, syntax, notation, axiom, sorry.
-/
import Derived.Test.YtjoonmpjcophnaaGreatDoorChecked
import GoSem.Claim
import GoSem.ClaimJoined
import GoSem.ClaimMapViews
import Derived.JoinedTies
import Derived.KernelRfl
namespace Go.Proofs.YtjoonmpjcophnaaGreatDoor
/- THE CELL 'sum', in the pinned program and in every row, IS THE sha256 OF THE DUMP (.gsa) THAT YtjoonmpjcophnaaGreatDoorProg.lean LOADS. Nothing in Lean hashes anything: it is a label: what it is worth is what the hold of that sum in a sandbox is worth. -/
noncomputable def Tryz.pinned : Pinned := { name := "ytjoonmpjcophnaagreatdoor", sum := "a468b40297d6c6f3537e05bae6e62bae01040ffdd8a284da56ebfb11048a6f5b", checked := Tryz.checked }
namespace Rows
def none {H : Type} : Left H := { results := [], args := [] }

/- WHAT THE LISTED PACKAGE-LEVEL VARIABLES READ AS WHEN THE CALL BEGINS. Each datum BY PROGRAM (the guide's laid-datum.mjs) off the statement by which the dump's own 'gosem.cut.vars' lays the variable. In a bare row this is a premise. The card (YtjoonmpjcophnaaGreatDoorCards.lean) ties it to the program's text. -/
def laid_trunnion_numeric_groups {H : Type} : DataW H := .agg [.agg [.lit (.int .i64 69), .lit (.int .i64 11), .lit (.int .i64 0), .lit (.int .u8 127)], .agg [.lit (.int .i64 80), .lit (.int .i64 11), .lit (.int .i64 0), .lit (.int .u8 126)], .agg [.lit (.int .i64 91), .lit (.int .i64 6), .lit (.int .i64 1), .lit (.int .u8 125)], .agg [.lit (.int .i64 97), .lit (.int .i64 6), .lit (.int .i64 1), .lit (.int .u8 124)], .agg [.lit (.int .i64 103), .lit (.int .i64 18), .lit (.int .i64 2), .lit (.int .u8 127)], .agg [.lit (.int .i64 121), .lit (.int .i64 18), .lit (.int .i64 2), .lit (.int .u8 126)], .agg [.lit (.int .i64 139), .lit (.int .i64 14), .lit (.int .i64 3), .lit (.int .u8 125)], .agg [.lit (.int .i64 153), .lit (.int .i64 14), .lit (.int .i64 3), .lit (.int .u8 124)], .agg [.lit (.int .i64 167), .lit (.int .i64 25), .lit (.int .i64 4), .lit (.int .u8 0)], .agg [.lit (.int .i64 64512), .lit (.int .i64 8), .lit (.int .i64 5), .lit (.int .u8 0)]]
def laid_trunnion_numeric_changed {H : Type} : DataW H := .agg [.agg [.lit (.int .u8 126), .lit (.int .u8 127)], .agg [.lit (.int .u8 125), .lit (.int .u8 127)], .agg [.lit (.int .u8 125), .lit (.int .u8 127)], .agg [.lit (.int .u8 124), .lit (.int .u8 127)], .agg [.lit (.int .u8 124), .lit (.int .u8 127)], .agg [.lit (.int .u8 127), .lit (.int .u8 126)], .agg [.lit (.int .u8 127), .lit (.int .u8 126)], .agg [.lit (.int .u8 125), .lit (.int .u8 126)], .agg [.lit (.int .u8 125), .lit (.int .u8 126)], .agg [.lit (.int .u8 124), .lit (.int .u8 126)], .agg [.lit (.int .u8 124), .lit (.int .u8 126)], .agg [.lit (.int .u8 127), .lit (.int .u8 125)], .agg [.lit (.int .u8 127), .lit (.int .u8 125)], .agg [.lit (.int .u8 126), .lit (.int .u8 125)], .agg [.lit (.int .u8 126), .lit (.int .u8 125)], .agg [.lit (.int .u8 124), .lit (.int .u8 125)], .agg [.lit (.int .u8 127), .lit (.int .u8 124)], .agg [.lit (.int .u8 127), .lit (.int .u8 124)], .agg [.lit (.int .u8 126), .lit (.int .u8 124)], .agg [.lit (.int .u8 126), .lit (.int .u8 124)], .agg [.lit (.int .u8 125), .lit (.int .u8 124)], .agg [.lit (.int .u8 125), .lit (.int .u8 127)], .agg [.lit (.int .u8 124), .lit (.int .u8 126)], .agg [.lit (.int .u8 127), .lit (.int .u8 125)], .agg [.lit (.int .u8 126), .lit (.int .u8 124)]]
def laid_trunnion_numeric_stopped {H : Type} : DataW H := .agg [.agg [.lit (.int .u8 125), .lit (.int .u8 127)], .agg [.lit (.int .u8 125), .lit (.int .u8 127)], .agg [.lit (.int .u8 124), .lit (.int .u8 127)], .agg [.lit (.int .u8 124), .lit (.int .u8 127)], .agg [.lit (.int .u8 125), .lit (.int .u8 126)], .agg [.lit (.int .u8 125), .lit (.int .u8 126)], .agg [.lit (.int .u8 124), .lit (.int .u8 126)], .agg [.lit (.int .u8 124), .lit (.int .u8 126)]]

/-- 'trunnionlaw20.ModuleDecodes': WHATEVER THE INPUT: true; the input reads as it did. -/
def moduleDecodesSpec : ChangeSpec := { name := "moduleDecodes", fn := fun _ => fun
  | [d1, d2] => { results := [.lit (.bool true)], args := [d1, d2] }
  | _ => none }
def moduleDecodesRow : OpenClaim := { program := "ytjoonmpjcophnaagreatdoor", sum := "a468b40297d6c6f3537e05bae6e62bae01040ffdd8a284da56ebfb11048a6f5b", func := "trunnion/trunnionlaw20.ModuleDecodes", spec := "moduleDecodes", inPlace := ["internal/bytealg.MakeNoZero"], unfollowed := true, recurses := true, named := ["trunnion/numeric.groups", "trunnion/numeric.changed", "trunnion/numeric.stopped"], apart := false, laid := [("trunnion/numeric.groups", laid_trunnion_numeric_groups), ("trunnion/numeric.changed", laid_trunnion_numeric_changed), ("trunnion/numeric.stopped", laid_trunnion_numeric_stopped)] }
def ModuleDecodesSaid : Prop := moduleDecodesRow.holds Tryz.pinned (OpenSpec.ofChange moduleDecodesSpec)

/-- ITS FALSE NEIGHBOUR: 'it returns false'. Refute it at one input. -/
def moduleDecodesWrong : ChangeSpec := { name := "moduleDecodes", fn := fun _ => fun
  | [d1, d2] => { results := [.lit (.bool false)], args := [d1, d2] }
  | _ => none }
def ModuleDecodesWrongFalsely : Prop := moduleDecodesRow.holds Tryz.pinned (OpenSpec.ofChange moduleDecodesWrong)

/-- 'trunnionlaw20.ModuleLocals': WHATEVER THE INPUT: true; the input reads as it did. -/
def moduleLocalsSpec : ChangeSpec := { name := "moduleLocals", fn := fun _ => fun
  | [d] => { results := [.lit (.bool true)], args := [d] }
  | _ => none }
def moduleLocalsRow : OpenClaim := { program := "ytjoonmpjcophnaagreatdoor", sum := "a468b40297d6c6f3537e05bae6e62bae01040ffdd8a284da56ebfb11048a6f5b", func := "trunnion/trunnionlaw20.ModuleLocals", spec := "moduleLocals", inPlace := ["internal/bytealg.MakeNoZero"], unfollowed := true, recurses := true, named := ["trunnion/numeric.groups", "trunnion/numeric.changed", "trunnion/numeric.stopped"], apart := false, laid := [("trunnion/numeric.groups", laid_trunnion_numeric_groups), ("trunnion/numeric.changed", laid_trunnion_numeric_changed), ("trunnion/numeric.stopped", laid_trunnion_numeric_stopped)] }
def ModuleLocalsSaid : Prop := moduleLocalsRow.holds Tryz.pinned (OpenSpec.ofChange moduleLocalsSpec)

/-- ITS FALSE NEIGHBOUR: 'it returns false'. Refute it at one input. -/
def moduleLocalsWrong : ChangeSpec := { name := "moduleLocals", fn := fun _ => fun
  | [d] => { results := [.lit (.bool false)], args := [d] }
  | _ => none }
def ModuleLocalsWrongFalsely : Prop := moduleLocalsRow.holds Tryz.pinned (OpenSpec.ofChange moduleLocalsWrong)

/-- 'trunnionlaw20.ModuleCustom': WHATEVER THE INPUT: true; the input reads as it did. -/
def moduleCustomSpec : ChangeSpec := { name := "moduleCustom", fn := fun _ => fun
  | [d1, d2, d3] => { results := [.lit (.bool true)], args := [d1, d2, d3] }
  | _ => none }
def moduleCustomRow : OpenClaim := { program := "ytjoonmpjcophnaagreatdoor", sum := "a468b40297d6c6f3537e05bae6e62bae01040ffdd8a284da56ebfb11048a6f5b", func := "trunnion/trunnionlaw20.ModuleCustom", spec := "moduleCustom", inPlace := ["internal/bytealg.MakeNoZero"], unfollowed := true, recurses := true, named := ["trunnion/numeric.groups", "trunnion/numeric.changed", "trunnion/numeric.stopped"], apart := false, laid := [("trunnion/numeric.groups", laid_trunnion_numeric_groups), ("trunnion/numeric.changed", laid_trunnion_numeric_changed), ("trunnion/numeric.stopped", laid_trunnion_numeric_stopped)] }
def ModuleCustomSaid : Prop := moduleCustomRow.holds Tryz.pinned (OpenSpec.ofChange moduleCustomSpec)

/-- ITS FALSE NEIGHBOUR: 'it returns false'. Refute it at one input. -/
def moduleCustomWrong : ChangeSpec := { name := "moduleCustom", fn := fun _ => fun
  | [d1, d2, d3] => { results := [.lit (.bool false)], args := [d1, d2, d3] }
  | _ => none }
def ModuleCustomWrongFalsely : Prop := moduleCustomRow.holds Tryz.pinned (OpenSpec.ofChange moduleCustomWrong)

/-- 'trunnionlaw20.ModuleCut': WHATEVER THE INPUT: true; the input reads as it did. -/
def moduleCutSpec : ChangeSpec := { name := "moduleCut", fn := fun _ => fun
  | [d1, d2, d3] => { results := [.lit (.bool true)], args := [d1, d2, d3] }
  | _ => none }
def moduleCutRow : OpenClaim := { program := "ytjoonmpjcophnaagreatdoor", sum := "a468b40297d6c6f3537e05bae6e62bae01040ffdd8a284da56ebfb11048a6f5b", func := "trunnion/trunnionlaw20.ModuleCut", spec := "moduleCut", inPlace := ["internal/bytealg.MakeNoZero"], unfollowed := true, recurses := true, named := ["trunnion/numeric.groups", "trunnion/numeric.changed", "trunnion/numeric.stopped"], apart := false, laid := [("trunnion/numeric.groups", laid_trunnion_numeric_groups), ("trunnion/numeric.changed", laid_trunnion_numeric_changed), ("trunnion/numeric.stopped", laid_trunnion_numeric_stopped)] }
def ModuleCutSaid : Prop := moduleCutRow.holds Tryz.pinned (OpenSpec.ofChange moduleCutSpec)

/-- ITS FALSE NEIGHBOUR: 'it returns false'. Refute it at one input. -/
def moduleCutWrong : ChangeSpec := { name := "moduleCut", fn := fun _ => fun
  | [d1, d2, d3] => { results := [.lit (.bool false)], args := [d1, d2, d3] }
  | _ => none }
def ModuleCutWrongFalsely : Prop := moduleCutRow.holds Tryz.pinned (OpenSpec.ofChange moduleCutWrong)

/- THE SECOND FORM. 'bulk': how many values and letters a reading holds, each counted each time it is reached (what is shared counts as often as it is met; a slice's spare places count too). A statement '..UptoSaid' is the law's where the arguments, and the package variables that the reading takes, are together of bulk at most 1048576: NARROWER than '..Said'. Prove '..Said' where nothing that the law and all that it calls make is longer than what came in: it says more and counts as full. Else prove '..UptoSaid'. A law counts once. -/
mutual
def uptoBulk {H : Type} : DataW H → Nat
  | .lit (.string bytes) => bytes.length + 1
  | .lit _ => 1
  | .nil => 1
  | .ptr d => uptoBulk d + 1
  | .slice elems spare => uptoBulkAll elems + uptoBulkAll spare + 1
  | .agg parts => uptoBulkAll parts + 1
  | .iface _ d => uptoBulk d + 1
  | .map entries => uptoBulkEntries entries + 1
  | .held _ => 1
def uptoBulkAll {H : Type} : List (DataW H) → Nat
  | [] => 0
  | d :: r => uptoBulk d + uptoBulkAll r
def uptoBulkEntries {H : Type} : List (Lit × DataW H) → Nat
  | [] => 0
  | x :: r => uptoBulkEntry x + uptoBulkEntries r
def uptoBulkEntry {H : Type} : Lit × DataW H → Nat
  | (.string bytes, d) => bytes.length + uptoBulk d + 1
  | (_, d) => uptoBulk d + 1
 end
def uptoSmall : (H : Type) → List (DataW H) → Bool := fun _ ds => decide (uptoBulkAll ds ≤ 1048576)
def OpenSpec.upto (s : _root_.Go.ChangeSpec) : _root_.Go.OpenSpec := { _root_.Go.OpenSpec.ofChange s with cond := some uptoSmall }

/-- 'trunnionlaw20.ModuleDecodes', WHERE WHAT IT READS IS OF BULK AT MOST 1048576: true; the input reads as it did. -/
def moduleDecodesUptoRow : OpenClaim := { program := "ytjoonmpjcophnaagreatdoor", sum := "a468b40297d6c6f3537e05bae6e62bae01040ffdd8a284da56ebfb11048a6f5b", func := "trunnion/trunnionlaw20.ModuleDecodes", spec := "moduleDecodes", inPlace := ["internal/bytealg.MakeNoZero"], unfollowed := true, recurses := true, named := ["trunnion/numeric.groups", "trunnion/numeric.changed", "trunnion/numeric.stopped"], apart := false, laid := [("trunnion/numeric.groups", laid_trunnion_numeric_groups), ("trunnion/numeric.changed", laid_trunnion_numeric_changed), ("trunnion/numeric.stopped", laid_trunnion_numeric_stopped)], narrowed := true }
def ModuleDecodesUptoSaid : Prop := moduleDecodesUptoRow.holds Tryz.pinned (OpenSpec.upto moduleDecodesSpec)

/-- 'trunnionlaw20.ModuleLocals', WHERE WHAT IT READS IS OF BULK AT MOST 1048576: true; the input reads as it did. -/
def moduleLocalsUptoRow : OpenClaim := { program := "ytjoonmpjcophnaagreatdoor", sum := "a468b40297d6c6f3537e05bae6e62bae01040ffdd8a284da56ebfb11048a6f5b", func := "trunnion/trunnionlaw20.ModuleLocals", spec := "moduleLocals", inPlace := ["internal/bytealg.MakeNoZero"], unfollowed := true, recurses := true, named := ["trunnion/numeric.groups", "trunnion/numeric.changed", "trunnion/numeric.stopped"], apart := false, laid := [("trunnion/numeric.groups", laid_trunnion_numeric_groups), ("trunnion/numeric.changed", laid_trunnion_numeric_changed), ("trunnion/numeric.stopped", laid_trunnion_numeric_stopped)], narrowed := true }
def ModuleLocalsUptoSaid : Prop := moduleLocalsUptoRow.holds Tryz.pinned (OpenSpec.upto moduleLocalsSpec)

/-- 'trunnionlaw20.ModuleCustom', WHERE WHAT IT READS IS OF BULK AT MOST 1048576: true; the input reads as it did. -/
def moduleCustomUptoRow : OpenClaim := { program := "ytjoonmpjcophnaagreatdoor", sum := "a468b40297d6c6f3537e05bae6e62bae01040ffdd8a284da56ebfb11048a6f5b", func := "trunnion/trunnionlaw20.ModuleCustom", spec := "moduleCustom", inPlace := ["internal/bytealg.MakeNoZero"], unfollowed := true, recurses := true, named := ["trunnion/numeric.groups", "trunnion/numeric.changed", "trunnion/numeric.stopped"], apart := false, laid := [("trunnion/numeric.groups", laid_trunnion_numeric_groups), ("trunnion/numeric.changed", laid_trunnion_numeric_changed), ("trunnion/numeric.stopped", laid_trunnion_numeric_stopped)], narrowed := true }
def ModuleCustomUptoSaid : Prop := moduleCustomUptoRow.holds Tryz.pinned (OpenSpec.upto moduleCustomSpec)

/-- 'trunnionlaw20.ModuleCut', WHERE WHAT IT READS IS OF BULK AT MOST 1048576: true; the input reads as it did. -/
def moduleCutUptoRow : OpenClaim := { program := "ytjoonmpjcophnaagreatdoor", sum := "a468b40297d6c6f3537e05bae6e62bae01040ffdd8a284da56ebfb11048a6f5b", func := "trunnion/trunnionlaw20.ModuleCut", spec := "moduleCut", inPlace := ["internal/bytealg.MakeNoZero"], unfollowed := true, recurses := true, named := ["trunnion/numeric.groups", "trunnion/numeric.changed", "trunnion/numeric.stopped"], apart := false, laid := [("trunnion/numeric.groups", laid_trunnion_numeric_groups), ("trunnion/numeric.changed", laid_trunnion_numeric_changed), ("trunnion/numeric.stopped", laid_trunnion_numeric_stopped)], narrowed := true }
def ModuleCutUptoSaid : Prop := moduleCutUptoRow.holds Tryz.pinned (OpenSpec.upto moduleCutSpec)

end Rows
end Go.Proofs.YtjoonmpjcophnaaGreatDoor
