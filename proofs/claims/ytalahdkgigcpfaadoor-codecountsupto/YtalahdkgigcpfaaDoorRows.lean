/-
  NARROWER THAN 'FOR EVERY INPUT', by the rows' own cells (each row's printed sentence says how): CodeReads: laid · CodeCounts: loops, laid · CodeKeeps: laid · CodeJoins: laid.
  DERIVED. THE GIVEN ROWS OF THIS SEAT. 4 by the template 'for every input the law returns true; each argument reads behind the call as it read before'; 0 by the template 'total and deterministic' (their statements: YtalahdkgigcpfaaDoorTotals.lean).
  GIVEN WITH THE SEED: the statements are not yours to turn. If you find one false, say at which input.
  Laid BY PROGRAM, IN A SANDBOX (cutbox-rows.mjs): the forced cells as the released guide's own fill.sh prints them over the translation c5812184bcf7aae7… (all of the seat's roots in one cut). By AI agents, Wed Nov 11 2026. No macro, syntax, notation, axiom, sorry.
-/
import Derived.Test.YtalahdkgigcpfaaDoorChecked
import GoSem.Claim
import GoSem.ClaimJoined
import GoSem.ClaimMapViews
import Derived.JoinedTies
import Derived.KernelRfl
namespace Go.Proofs.YtalahdkgigcpfaaDoor
/- THE CELL 'sum', in the pinned program and in every row, IS THE sha256 OF THE DUMP (.gsa) THAT YtalahdkgigcpfaaDoorProg.lean LOADS. Nothing in Lean hashes anything: it is a label: what it is worth is what the hold of that sum in a sandbox is worth. -/
noncomputable def Tryd.pinned : Pinned := { name := "ytalahdkgigcpfaadoor", sum := "c5812184bcf7aae7acfa46cd78c01e43bed07d5a9edba5a443b829c9e6dd4882", checked := Tryd.checked }
namespace Rows
def none {H : Type} : Left H := { results := [], args := [] }

/- WHAT THE LISTED PACKAGE-LEVEL VARIABLES READ AS WHEN THE CALL BEGINS. Each datum BY PROGRAM (the guide's laid-datum.mjs) off the statement by which the dump's own 'gosem.cut.vars' lays the variable. In a bare row this is a premise. The card (YtalahdkgigcpfaaDoorCards.lean) ties it to the program's text. -/
def laid_trunnion_numeric_groups {H : Type} : DataW H := .agg [.agg [.lit (.int .i64 69), .lit (.int .i64 11), .lit (.int .i64 0), .lit (.int .u8 127)], .agg [.lit (.int .i64 80), .lit (.int .i64 11), .lit (.int .i64 0), .lit (.int .u8 126)], .agg [.lit (.int .i64 91), .lit (.int .i64 6), .lit (.int .i64 1), .lit (.int .u8 125)], .agg [.lit (.int .i64 97), .lit (.int .i64 6), .lit (.int .i64 1), .lit (.int .u8 124)], .agg [.lit (.int .i64 103), .lit (.int .i64 18), .lit (.int .i64 2), .lit (.int .u8 127)], .agg [.lit (.int .i64 121), .lit (.int .i64 18), .lit (.int .i64 2), .lit (.int .u8 126)], .agg [.lit (.int .i64 139), .lit (.int .i64 14), .lit (.int .i64 3), .lit (.int .u8 125)], .agg [.lit (.int .i64 153), .lit (.int .i64 14), .lit (.int .i64 3), .lit (.int .u8 124)], .agg [.lit (.int .i64 167), .lit (.int .i64 25), .lit (.int .i64 4), .lit (.int .u8 0)], .agg [.lit (.int .i64 64512), .lit (.int .i64 8), .lit (.int .i64 5), .lit (.int .u8 0)]]
def laid_trunnion_numeric_changed {H : Type} : DataW H := .agg [.agg [.lit (.int .u8 126), .lit (.int .u8 127)], .agg [.lit (.int .u8 125), .lit (.int .u8 127)], .agg [.lit (.int .u8 125), .lit (.int .u8 127)], .agg [.lit (.int .u8 124), .lit (.int .u8 127)], .agg [.lit (.int .u8 124), .lit (.int .u8 127)], .agg [.lit (.int .u8 127), .lit (.int .u8 126)], .agg [.lit (.int .u8 127), .lit (.int .u8 126)], .agg [.lit (.int .u8 125), .lit (.int .u8 126)], .agg [.lit (.int .u8 125), .lit (.int .u8 126)], .agg [.lit (.int .u8 124), .lit (.int .u8 126)], .agg [.lit (.int .u8 124), .lit (.int .u8 126)], .agg [.lit (.int .u8 127), .lit (.int .u8 125)], .agg [.lit (.int .u8 127), .lit (.int .u8 125)], .agg [.lit (.int .u8 126), .lit (.int .u8 125)], .agg [.lit (.int .u8 126), .lit (.int .u8 125)], .agg [.lit (.int .u8 124), .lit (.int .u8 125)], .agg [.lit (.int .u8 127), .lit (.int .u8 124)], .agg [.lit (.int .u8 127), .lit (.int .u8 124)], .agg [.lit (.int .u8 126), .lit (.int .u8 124)], .agg [.lit (.int .u8 126), .lit (.int .u8 124)], .agg [.lit (.int .u8 125), .lit (.int .u8 124)], .agg [.lit (.int .u8 125), .lit (.int .u8 127)], .agg [.lit (.int .u8 124), .lit (.int .u8 126)], .agg [.lit (.int .u8 127), .lit (.int .u8 125)], .agg [.lit (.int .u8 126), .lit (.int .u8 124)]]
def laid_trunnion_numeric_stopped {H : Type} : DataW H := .agg [.agg [.lit (.int .u8 125), .lit (.int .u8 127)], .agg [.lit (.int .u8 125), .lit (.int .u8 127)], .agg [.lit (.int .u8 124), .lit (.int .u8 127)], .agg [.lit (.int .u8 124), .lit (.int .u8 127)], .agg [.lit (.int .u8 125), .lit (.int .u8 126)], .agg [.lit (.int .u8 125), .lit (.int .u8 126)], .agg [.lit (.int .u8 124), .lit (.int .u8 126)], .agg [.lit (.int .u8 124), .lit (.int .u8 126)]]

/-- 'trunnionlaw19.CodeReads': WHATEVER THE INPUT: true; the input reads as it did. -/
def codeReadsSpec : ChangeSpec := { name := "codeReads", fn := fun _ => fun
  | [d1, d2] => { results := [.lit (.bool true)], args := [d1, d2] }
  | _ => none }
def codeReadsRow : OpenClaim := { program := "ytalahdkgigcpfaadoor", sum := "c5812184bcf7aae7acfa46cd78c01e43bed07d5a9edba5a443b829c9e6dd4882", func := "trunnion/trunnionlaw19.CodeReads", spec := "codeReads", unfollowed := true, recurses := true, named := ["trunnion/numeric.groups", "trunnion/numeric.changed", "trunnion/numeric.stopped"], apart := false, laid := [("trunnion/numeric.groups", laid_trunnion_numeric_groups), ("trunnion/numeric.changed", laid_trunnion_numeric_changed), ("trunnion/numeric.stopped", laid_trunnion_numeric_stopped)] }
def CodeReadsSaid : Prop := codeReadsRow.holds Tryd.pinned (OpenSpec.ofChange codeReadsSpec)

/-- ITS FALSE NEIGHBOUR: 'it returns false'. Refute it at one input. -/
def codeReadsWrong : ChangeSpec := { name := "codeReads", fn := fun _ => fun
  | [d1, d2] => { results := [.lit (.bool false)], args := [d1, d2] }
  | _ => none }
def CodeReadsWrongFalsely : Prop := codeReadsRow.holds Tryd.pinned (OpenSpec.ofChange codeReadsWrong)

/-- 'trunnionlaw19.CodeCounts': WHATEVER THE INPUT: true; the input reads as it did. -/
def codeCountsSpec : ChangeSpec := { name := "codeCounts", fn := fun _ => fun
  | [d] => { results := [.lit (.bool true)], args := [d] }
  | _ => none }
def codeCountsRow : OpenClaim := { program := "ytalahdkgigcpfaadoor", sum := "c5812184bcf7aae7acfa46cd78c01e43bed07d5a9edba5a443b829c9e6dd4882", func := "trunnion/trunnionlaw19.CodeCounts", spec := "codeCounts", unfollowed := true, recurses := true, named := ["trunnion/numeric.groups", "trunnion/numeric.changed", "trunnion/numeric.stopped"], loops := true, apart := false, laid := [("trunnion/numeric.groups", laid_trunnion_numeric_groups), ("trunnion/numeric.changed", laid_trunnion_numeric_changed), ("trunnion/numeric.stopped", laid_trunnion_numeric_stopped)] }
def CodeCountsSaid : Prop := codeCountsRow.holds Tryd.pinned (OpenSpec.ofChange codeCountsSpec)

/-- ITS FALSE NEIGHBOUR: 'it returns false'. Refute it at one input. -/
def codeCountsWrong : ChangeSpec := { name := "codeCounts", fn := fun _ => fun
  | [d] => { results := [.lit (.bool false)], args := [d] }
  | _ => none }
def CodeCountsWrongFalsely : Prop := codeCountsRow.holds Tryd.pinned (OpenSpec.ofChange codeCountsWrong)

/-- 'trunnionlaw19.CodeKeeps': WHATEVER THE INPUT: true; the input reads as it did. -/
def codeKeepsSpec : ChangeSpec := { name := "codeKeeps", fn := fun _ => fun
  | [d1, d2, d3] => { results := [.lit (.bool true)], args := [d1, d2, d3] }
  | _ => none }
def codeKeepsRow : OpenClaim := { program := "ytalahdkgigcpfaadoor", sum := "c5812184bcf7aae7acfa46cd78c01e43bed07d5a9edba5a443b829c9e6dd4882", func := "trunnion/trunnionlaw19.CodeKeeps", spec := "codeKeeps", unfollowed := true, recurses := true, named := ["trunnion/numeric.groups", "trunnion/numeric.changed", "trunnion/numeric.stopped"], apart := false, laid := [("trunnion/numeric.groups", laid_trunnion_numeric_groups), ("trunnion/numeric.changed", laid_trunnion_numeric_changed), ("trunnion/numeric.stopped", laid_trunnion_numeric_stopped)] }
def CodeKeepsSaid : Prop := codeKeepsRow.holds Tryd.pinned (OpenSpec.ofChange codeKeepsSpec)

/-- ITS FALSE NEIGHBOUR: 'it returns false'. Refute it at one input. -/
def codeKeepsWrong : ChangeSpec := { name := "codeKeeps", fn := fun _ => fun
  | [d1, d2, d3] => { results := [.lit (.bool false)], args := [d1, d2, d3] }
  | _ => none }
def CodeKeepsWrongFalsely : Prop := codeKeepsRow.holds Tryd.pinned (OpenSpec.ofChange codeKeepsWrong)

/-- 'trunnionlaw19.CodeJoins': WHATEVER THE INPUT: true; the input reads as it did. -/
def codeJoinsSpec : ChangeSpec := { name := "codeJoins", fn := fun _ => fun
  | [d1, d2] => { results := [.lit (.bool true)], args := [d1, d2] }
  | _ => none }
def codeJoinsRow : OpenClaim := { program := "ytalahdkgigcpfaadoor", sum := "c5812184bcf7aae7acfa46cd78c01e43bed07d5a9edba5a443b829c9e6dd4882", func := "trunnion/trunnionlaw19.CodeJoins", spec := "codeJoins", unfollowed := true, recurses := true, named := ["trunnion/numeric.groups", "trunnion/numeric.changed", "trunnion/numeric.stopped"], apart := false, laid := [("trunnion/numeric.groups", laid_trunnion_numeric_groups), ("trunnion/numeric.changed", laid_trunnion_numeric_changed), ("trunnion/numeric.stopped", laid_trunnion_numeric_stopped)] }
def CodeJoinsSaid : Prop := codeJoinsRow.holds Tryd.pinned (OpenSpec.ofChange codeJoinsSpec)

/-- ITS FALSE NEIGHBOUR: 'it returns false'. Refute it at one input. -/
def codeJoinsWrong : ChangeSpec := { name := "codeJoins", fn := fun _ => fun
  | [d1, d2] => { results := [.lit (.bool false)], args := [d1, d2] }
  | _ => none }
def CodeJoinsWrongFalsely : Prop := codeJoinsRow.holds Tryd.pinned (OpenSpec.ofChange codeJoinsWrong)

/- THE SECOND FORM. 'bulk': how many values and letters a reading holds, each counted each time it is reached (what is shared counts as often as it is met; a slice's spare places count too). A statement '..UptoSaid' is the law's where the arguments, and the package variables that the reading takes, are together of bulk at most 1048576: NARROWER than '..Said'. Prove '..Said' where nothing that the law and all that it calls make is longer than what came in: it says more and counts as full. Else prove '..UptoSaid'. A law counts once. -/
mutual
def uptoBulk {H : Type} : DataW H → Nat
  | .lit (.string bytes) => bytes.length + 1
  | .lit _ => 1
  | .nil => 1
  | .ptr d => uptoBulk d + 1
  | .slice elems spare => uptoBulkAll elems + uptoBulkAll spare + 1
  | .agg parts => uptoBulkAll parts + 1
  | .iface _ d => uptoBulk d + 1
  | .map entries => uptoBulkEntries entries + 1
  | .held _ => 1
def uptoBulkAll {H : Type} : List (DataW H) → Nat
  | [] => 0
  | d :: r => uptoBulk d + uptoBulkAll r
def uptoBulkEntries {H : Type} : List (Lit × DataW H) → Nat
  | [] => 0
  | x :: r => uptoBulkEntry x + uptoBulkEntries r
def uptoBulkEntry {H : Type} : Lit × DataW H → Nat
  | (.string bytes, d) => bytes.length + uptoBulk d + 1
  | (_, d) => uptoBulk d + 1
 end
def uptoSmall : (H : Type) → List (DataW H) → Bool := fun _ ds => decide (uptoBulkAll ds ≤ 1048576)
def OpenSpec.upto (s : _root_.Go.ChangeSpec) : _root_.Go.OpenSpec := { _root_.Go.OpenSpec.ofChange s with cond := some uptoSmall }

/-- 'trunnionlaw19.CodeReads', WHERE WHAT IT READS IS OF BULK AT MOST 1048576: true; the input reads as it did. -/
def codeReadsUptoRow : OpenClaim := { program := "ytalahdkgigcpfaadoor", sum := "c5812184bcf7aae7acfa46cd78c01e43bed07d5a9edba5a443b829c9e6dd4882", func := "trunnion/trunnionlaw19.CodeReads", spec := "codeReads", unfollowed := true, recurses := true, named := ["trunnion/numeric.groups", "trunnion/numeric.changed", "trunnion/numeric.stopped"], apart := false, laid := [("trunnion/numeric.groups", laid_trunnion_numeric_groups), ("trunnion/numeric.changed", laid_trunnion_numeric_changed), ("trunnion/numeric.stopped", laid_trunnion_numeric_stopped)], narrowed := true }
def CodeReadsUptoSaid : Prop := codeReadsUptoRow.holds Tryd.pinned (OpenSpec.upto codeReadsSpec)

/-- 'trunnionlaw19.CodeCounts', WHERE WHAT IT READS IS OF BULK AT MOST 1048576: true; the input reads as it did. -/
def codeCountsUptoRow : OpenClaim := { program := "ytalahdkgigcpfaadoor", sum := "c5812184bcf7aae7acfa46cd78c01e43bed07d5a9edba5a443b829c9e6dd4882", func := "trunnion/trunnionlaw19.CodeCounts", spec := "codeCounts", unfollowed := true, recurses := true, named := ["trunnion/numeric.groups", "trunnion/numeric.changed", "trunnion/numeric.stopped"], loops := true, apart := false, laid := [("trunnion/numeric.groups", laid_trunnion_numeric_groups), ("trunnion/numeric.changed", laid_trunnion_numeric_changed), ("trunnion/numeric.stopped", laid_trunnion_numeric_stopped)], narrowed := true }
def CodeCountsUptoSaid : Prop := codeCountsUptoRow.holds Tryd.pinned (OpenSpec.upto codeCountsSpec)

/-- 'trunnionlaw19.CodeKeeps', WHERE WHAT IT READS IS OF BULK AT MOST 1048576: true; the input reads as it did. -/
def codeKeepsUptoRow : OpenClaim := { program := "ytalahdkgigcpfaadoor", sum := "c5812184bcf7aae7acfa46cd78c01e43bed07d5a9edba5a443b829c9e6dd4882", func := "trunnion/trunnionlaw19.CodeKeeps", spec := "codeKeeps", unfollowed := true, recurses := true, named := ["trunnion/numeric.groups", "trunnion/numeric.changed", "trunnion/numeric.stopped"], apart := false, laid := [("trunnion/numeric.groups", laid_trunnion_numeric_groups), ("trunnion/numeric.changed", laid_trunnion_numeric_changed), ("trunnion/numeric.stopped", laid_trunnion_numeric_stopped)], narrowed := true }
def CodeKeepsUptoSaid : Prop := codeKeepsUptoRow.holds Tryd.pinned (OpenSpec.upto codeKeepsSpec)

/-- 'trunnionlaw19.CodeJoins', WHERE WHAT IT READS IS OF BULK AT MOST 1048576: true; the input reads as it did. -/
def codeJoinsUptoRow : OpenClaim := { program := "ytalahdkgigcpfaadoor", sum := "c5812184bcf7aae7acfa46cd78c01e43bed07d5a9edba5a443b829c9e6dd4882", func := "trunnion/trunnionlaw19.CodeJoins", spec := "codeJoins", unfollowed := true, recurses := true, named := ["trunnion/numeric.groups", "trunnion/numeric.changed", "trunnion/numeric.stopped"], apart := false, laid := [("trunnion/numeric.groups", laid_trunnion_numeric_groups), ("trunnion/numeric.changed", laid_trunnion_numeric_changed), ("trunnion/numeric.stopped", laid_trunnion_numeric_stopped)], narrowed := true }
def CodeJoinsUptoSaid : Prop := codeJoinsUptoRow.holds Tryd.pinned (OpenSpec.upto codeJoinsSpec)

end Rows
end Go.Proofs.YtalahdkgigcpfaaDoor
