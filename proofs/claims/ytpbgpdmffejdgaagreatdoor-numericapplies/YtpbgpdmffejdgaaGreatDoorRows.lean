/-
  NARROWER THAN 'FOR EVERY INPUT', by the rows' own cells (each row's printed sentence says how): NumericKinds: laid · NumericApplies: laid · NumericKeeps: laid · NumericSwaps: laid · TopNearest: laid · TopRoots: laid.
  DERIVED. THE GIVEN ROWS OF THIS SEAT. 6 by the template 'for every input the law returns true; each argument reads behind the call as it read before'; 0 by the template 'total and deterministic' (their statements: YtpbgpdmffejdgaaGreatDoorTotals.lean).
  GIVEN WITH THE SEED: the statements are not yours to turn. If you find one false, say at which input.
  Laid BY PROGRAM, IN A SANDBOX (cutbox-rows.mjs): the forced cells as the released guide's own fill.sh prints them over the translation 5599138f9211152b… (all of the seat's roots in one cut). By AI agents, Wed Nov 11 2026. No macro, syntax, notation, axiom, sorry.
-/
import Derived.Test.YtpbgpdmffejdgaaGreatDoorChecked
import GoSem.Claim
import GoSem.ClaimJoined
import GoSem.ClaimMapViews
import Derived.JoinedTies
import Derived.KernelRfl
namespace Go.Proofs.YtpbgpdmffejdgaaGreatDoor
/- THE CELL 'sum', in the pinned program and in every row, IS THE sha256 OF THE DUMP (.gsa) THAT YtpbgpdmffejdgaaGreatDoorProg.lean LOADS. Nothing in Lean hashes anything: it is a label: what it is worth is what the hold of that sum in a sandbox is worth. -/
noncomputable def Tryz.pinned : Pinned := { name := "ytpbgpdmffejdgaagreatdoor", sum := "5599138f9211152b1a969b6fa287b569d2564da94cd8862ae452d16e518ae399", checked := Tryz.checked }
namespace Rows
def none {H : Type} : Left H := { results := [], args := [] }

/- WHAT THE LISTED PACKAGE-LEVEL VARIABLES READ AS WHEN THE CALL BEGINS. Each datum BY PROGRAM (the guide's laid-datum.mjs) off the statement by which the dump's own 'gosem.cut.vars' lays the variable. In a bare row this is a premise. The card (YtpbgpdmffejdgaaGreatDoorCards.lean) ties it to the program's text. -/
def laid_math_bits_deBruijn64tab {H : Type} : DataW H := .agg [.lit (.int .u8 0), .lit (.int .u8 1), .lit (.int .u8 56), .lit (.int .u8 2), .lit (.int .u8 57), .lit (.int .u8 49), .lit (.int .u8 28), .lit (.int .u8 3), .lit (.int .u8 61), .lit (.int .u8 58), .lit (.int .u8 42), .lit (.int .u8 50), .lit (.int .u8 38), .lit (.int .u8 29), .lit (.int .u8 17), .lit (.int .u8 4), .lit (.int .u8 62), .lit (.int .u8 47), .lit (.int .u8 59), .lit (.int .u8 36), .lit (.int .u8 45), .lit (.int .u8 43), .lit (.int .u8 51), .lit (.int .u8 22), .lit (.int .u8 53), .lit (.int .u8 39), .lit (.int .u8 33), .lit (.int .u8 30), .lit (.int .u8 24), .lit (.int .u8 18), .lit (.int .u8 12), .lit (.int .u8 5), .lit (.int .u8 63), .lit (.int .u8 55), .lit (.int .u8 48), .lit (.int .u8 27), .lit (.int .u8 60), .lit (.int .u8 41), .lit (.int .u8 37), .lit (.int .u8 16), .lit (.int .u8 46), .lit (.int .u8 35), .lit (.int .u8 44), .lit (.int .u8 21), .lit (.int .u8 52), .lit (.int .u8 32), .lit (.int .u8 23), .lit (.int .u8 11), .lit (.int .u8 54), .lit (.int .u8 26), .lit (.int .u8 40), .lit (.int .u8 15), .lit (.int .u8 34), .lit (.int .u8 20), .lit (.int .u8 31), .lit (.int .u8 10), .lit (.int .u8 25), .lit (.int .u8 14), .lit (.int .u8 19), .lit (.int .u8 9), .lit (.int .u8 13), .lit (.int .u8 8), .lit (.int .u8 7), .lit (.int .u8 6)]
def laid_trunnion_sign_marks {H : Type} : DataW H := .agg [.agg [.lit (.int .i64 32), .lit (.int .u64 2147483648)], .agg [.lit (.int .i64 64), .lit (.int .u64 9223372036854775808)]]
def laid_trunnion_numeric_groups {H : Type} : DataW H := .agg [.agg [.lit (.int .i64 69), .lit (.int .i64 11), .lit (.int .i64 0), .lit (.int .u8 127)], .agg [.lit (.int .i64 80), .lit (.int .i64 11), .lit (.int .i64 0), .lit (.int .u8 126)], .agg [.lit (.int .i64 91), .lit (.int .i64 6), .lit (.int .i64 1), .lit (.int .u8 125)], .agg [.lit (.int .i64 97), .lit (.int .i64 6), .lit (.int .i64 1), .lit (.int .u8 124)], .agg [.lit (.int .i64 103), .lit (.int .i64 18), .lit (.int .i64 2), .lit (.int .u8 127)], .agg [.lit (.int .i64 121), .lit (.int .i64 18), .lit (.int .i64 2), .lit (.int .u8 126)], .agg [.lit (.int .i64 139), .lit (.int .i64 14), .lit (.int .i64 3), .lit (.int .u8 125)], .agg [.lit (.int .i64 153), .lit (.int .i64 14), .lit (.int .i64 3), .lit (.int .u8 124)], .agg [.lit (.int .i64 167), .lit (.int .i64 25), .lit (.int .i64 4), .lit (.int .u8 0)], .agg [.lit (.int .i64 64512), .lit (.int .i64 8), .lit (.int .i64 5), .lit (.int .u8 0)]]
def laid_trunnion_numeric_changed {H : Type} : DataW H := .agg [.agg [.lit (.int .u8 126), .lit (.int .u8 127)], .agg [.lit (.int .u8 125), .lit (.int .u8 127)], .agg [.lit (.int .u8 125), .lit (.int .u8 127)], .agg [.lit (.int .u8 124), .lit (.int .u8 127)], .agg [.lit (.int .u8 124), .lit (.int .u8 127)], .agg [.lit (.int .u8 127), .lit (.int .u8 126)], .agg [.lit (.int .u8 127), .lit (.int .u8 126)], .agg [.lit (.int .u8 125), .lit (.int .u8 126)], .agg [.lit (.int .u8 125), .lit (.int .u8 126)], .agg [.lit (.int .u8 124), .lit (.int .u8 126)], .agg [.lit (.int .u8 124), .lit (.int .u8 126)], .agg [.lit (.int .u8 127), .lit (.int .u8 125)], .agg [.lit (.int .u8 127), .lit (.int .u8 125)], .agg [.lit (.int .u8 126), .lit (.int .u8 125)], .agg [.lit (.int .u8 126), .lit (.int .u8 125)], .agg [.lit (.int .u8 124), .lit (.int .u8 125)], .agg [.lit (.int .u8 127), .lit (.int .u8 124)], .agg [.lit (.int .u8 127), .lit (.int .u8 124)], .agg [.lit (.int .u8 126), .lit (.int .u8 124)], .agg [.lit (.int .u8 126), .lit (.int .u8 124)], .agg [.lit (.int .u8 125), .lit (.int .u8 124)], .agg [.lit (.int .u8 125), .lit (.int .u8 127)], .agg [.lit (.int .u8 124), .lit (.int .u8 126)], .agg [.lit (.int .u8 127), .lit (.int .u8 125)], .agg [.lit (.int .u8 126), .lit (.int .u8 124)]]
def laid_trunnion_numeric_stopped {H : Type} : DataW H := .agg [.agg [.lit (.int .u8 125), .lit (.int .u8 127)], .agg [.lit (.int .u8 125), .lit (.int .u8 127)], .agg [.lit (.int .u8 124), .lit (.int .u8 127)], .agg [.lit (.int .u8 124), .lit (.int .u8 127)], .agg [.lit (.int .u8 125), .lit (.int .u8 126)], .agg [.lit (.int .u8 125), .lit (.int .u8 126)], .agg [.lit (.int .u8 124), .lit (.int .u8 126)], .agg [.lit (.int .u8 124), .lit (.int .u8 126)]]

/-- 'trunnionlaw14.NumericKinds': WHATEVER THE INPUT: true; the input reads as it did. -/
def numericKindsSpec : ChangeSpec := { name := "numericKinds", fn := fun _ => fun
  | [d] => { results := [.lit (.bool true)], args := [d] }
  | _ => none }
def numericKindsRow : OpenClaim := { program := "ytpbgpdmffejdgaagreatdoor", sum := "5599138f9211152b1a969b6fa287b569d2564da94cd8862ae452d16e518ae399", func := "trunnion/trunnionlaw14.NumericKinds", spec := "numericKinds", inPlace := ["math/bits.Add64", "math/bits.Sub64"], unfollowed := true, recurses := true, named := ["trunnion/numeric.groups", "trunnion/numeric.changed", "trunnion/numeric.stopped", "math/bits.deBruijn64tab", "trunnion/sign.marks", "math/bits.divideError", "math/bits.overflowError"], apart := false, laid := [("math/bits.deBruijn64tab", laid_math_bits_deBruijn64tab), ("trunnion/sign.marks", laid_trunnion_sign_marks), ("trunnion/numeric.groups", laid_trunnion_numeric_groups), ("trunnion/numeric.changed", laid_trunnion_numeric_changed), ("trunnion/numeric.stopped", laid_trunnion_numeric_stopped)] }
def NumericKindsSaid : Prop := numericKindsRow.holds Tryz.pinned (OpenSpec.ofChange numericKindsSpec)

/-- ITS FALSE NEIGHBOUR: 'it returns false'. Refute it at one input. -/
def numericKindsWrong : ChangeSpec := { name := "numericKinds", fn := fun _ => fun
  | [d] => { results := [.lit (.bool false)], args := [d] }
  | _ => none }
def NumericKindsWrongFalsely : Prop := numericKindsRow.holds Tryz.pinned (OpenSpec.ofChange numericKindsWrong)

/-- 'trunnionlaw14.NumericApplies': WHATEVER THE INPUT: true; the input reads as it did. -/
def numericAppliesSpec : ChangeSpec := { name := "numericApplies", fn := fun _ => fun
  | [d1, d2, d3] => { results := [.lit (.bool true)], args := [d1, d2, d3] }
  | _ => none }
def numericAppliesRow : OpenClaim := { program := "ytpbgpdmffejdgaagreatdoor", sum := "5599138f9211152b1a969b6fa287b569d2564da94cd8862ae452d16e518ae399", func := "trunnion/trunnionlaw14.NumericApplies", spec := "numericApplies", inPlace := ["math/bits.Add64", "math/bits.Sub64"], unfollowed := true, recurses := true, named := ["trunnion/numeric.groups", "trunnion/numeric.changed", "trunnion/numeric.stopped", "math/bits.deBruijn64tab", "trunnion/sign.marks", "math/bits.divideError", "math/bits.overflowError"], apart := false, laid := [("math/bits.deBruijn64tab", laid_math_bits_deBruijn64tab), ("trunnion/sign.marks", laid_trunnion_sign_marks), ("trunnion/numeric.groups", laid_trunnion_numeric_groups), ("trunnion/numeric.changed", laid_trunnion_numeric_changed), ("trunnion/numeric.stopped", laid_trunnion_numeric_stopped)] }
def NumericAppliesSaid : Prop := numericAppliesRow.holds Tryz.pinned (OpenSpec.ofChange numericAppliesSpec)

/-- ITS FALSE NEIGHBOUR: 'it returns false'. Refute it at one input. -/
def numericAppliesWrong : ChangeSpec := { name := "numericApplies", fn := fun _ => fun
  | [d1, d2, d3] => { results := [.lit (.bool false)], args := [d1, d2, d3] }
  | _ => none }
def NumericAppliesWrongFalsely : Prop := numericAppliesRow.holds Tryz.pinned (OpenSpec.ofChange numericAppliesWrong)

/-- 'trunnionlaw14.NumericKeeps': WHATEVER THE INPUT: true; the input reads as it did. -/
def numericKeepsSpec : ChangeSpec := { name := "numericKeeps", fn := fun _ => fun
  | [d1, d2, d3] => { results := [.lit (.bool true)], args := [d1, d2, d3] }
  | _ => none }
def numericKeepsRow : OpenClaim := { program := "ytpbgpdmffejdgaagreatdoor", sum := "5599138f9211152b1a969b6fa287b569d2564da94cd8862ae452d16e518ae399", func := "trunnion/trunnionlaw14.NumericKeeps", spec := "numericKeeps", inPlace := ["math/bits.Add64", "math/bits.Sub64"], unfollowed := true, recurses := true, named := ["trunnion/numeric.groups", "trunnion/numeric.changed", "trunnion/numeric.stopped", "math/bits.deBruijn64tab", "trunnion/sign.marks", "math/bits.divideError", "math/bits.overflowError"], apart := false, laid := [("math/bits.deBruijn64tab", laid_math_bits_deBruijn64tab), ("trunnion/sign.marks", laid_trunnion_sign_marks), ("trunnion/numeric.groups", laid_trunnion_numeric_groups), ("trunnion/numeric.changed", laid_trunnion_numeric_changed), ("trunnion/numeric.stopped", laid_trunnion_numeric_stopped)] }
def NumericKeepsSaid : Prop := numericKeepsRow.holds Tryz.pinned (OpenSpec.ofChange numericKeepsSpec)

/-- ITS FALSE NEIGHBOUR: 'it returns false'. Refute it at one input. -/
def numericKeepsWrong : ChangeSpec := { name := "numericKeeps", fn := fun _ => fun
  | [d1, d2, d3] => { results := [.lit (.bool false)], args := [d1, d2, d3] }
  | _ => none }
def NumericKeepsWrongFalsely : Prop := numericKeepsRow.holds Tryz.pinned (OpenSpec.ofChange numericKeepsWrong)

/-- 'trunnionlaw14.NumericSwaps': WHATEVER THE INPUT: true; the input reads as it did. -/
def numericSwapsSpec : ChangeSpec := { name := "numericSwaps", fn := fun _ => fun
  | [d1, d2, d3] => { results := [.lit (.bool true)], args := [d1, d2, d3] }
  | _ => none }
def numericSwapsRow : OpenClaim := { program := "ytpbgpdmffejdgaagreatdoor", sum := "5599138f9211152b1a969b6fa287b569d2564da94cd8862ae452d16e518ae399", func := "trunnion/trunnionlaw14.NumericSwaps", spec := "numericSwaps", inPlace := ["math/bits.Add64", "math/bits.Sub64"], unfollowed := true, recurses := true, named := ["trunnion/numeric.groups", "trunnion/numeric.changed", "trunnion/numeric.stopped", "math/bits.deBruijn64tab", "trunnion/sign.marks", "math/bits.divideError", "math/bits.overflowError"], apart := false, laid := [("math/bits.deBruijn64tab", laid_math_bits_deBruijn64tab), ("trunnion/sign.marks", laid_trunnion_sign_marks), ("trunnion/numeric.groups", laid_trunnion_numeric_groups), ("trunnion/numeric.changed", laid_trunnion_numeric_changed), ("trunnion/numeric.stopped", laid_trunnion_numeric_stopped)] }
def NumericSwapsSaid : Prop := numericSwapsRow.holds Tryz.pinned (OpenSpec.ofChange numericSwapsSpec)

/-- ITS FALSE NEIGHBOUR: 'it returns false'. Refute it at one input. -/
def numericSwapsWrong : ChangeSpec := { name := "numericSwaps", fn := fun _ => fun
  | [d1, d2, d3] => { results := [.lit (.bool false)], args := [d1, d2, d3] }
  | _ => none }
def NumericSwapsWrongFalsely : Prop := numericSwapsRow.holds Tryz.pinned (OpenSpec.ofChange numericSwapsWrong)

/-- 'trunniontop.TopNearest': WHATEVER THE INPUT: true; the input reads as it did. -/
def topNearestSpec : ChangeSpec := { name := "topNearest", fn := fun _ => fun
  | [d1, d2, d3] => { results := [.lit (.bool true)], args := [d1, d2, d3] }
  | _ => none }
def topNearestRow : OpenClaim := { program := "ytpbgpdmffejdgaagreatdoor", sum := "5599138f9211152b1a969b6fa287b569d2564da94cd8862ae452d16e518ae399", func := "trunnion/trunniontop.TopNearest", spec := "topNearest", inPlace := ["math/bits.Add64", "math/bits.Sub64"], unfollowed := true, recurses := true, named := ["trunnion/numeric.groups", "trunnion/numeric.changed", "trunnion/numeric.stopped", "math/bits.deBruijn64tab", "trunnion/sign.marks", "math/bits.divideError", "math/bits.overflowError"], apart := false, laid := [("math/bits.deBruijn64tab", laid_math_bits_deBruijn64tab), ("trunnion/sign.marks", laid_trunnion_sign_marks), ("trunnion/numeric.groups", laid_trunnion_numeric_groups), ("trunnion/numeric.changed", laid_trunnion_numeric_changed), ("trunnion/numeric.stopped", laid_trunnion_numeric_stopped)] }
def TopNearestSaid : Prop := topNearestRow.holds Tryz.pinned (OpenSpec.ofChange topNearestSpec)

/-- ITS FALSE NEIGHBOUR: 'it returns false'. Refute it at one input. -/
def topNearestWrong : ChangeSpec := { name := "topNearest", fn := fun _ => fun
  | [d1, d2, d3] => { results := [.lit (.bool false)], args := [d1, d2, d3] }
  | _ => none }
def TopNearestWrongFalsely : Prop := topNearestRow.holds Tryz.pinned (OpenSpec.ofChange topNearestWrong)

/-- 'trunniontop.TopRoots': WHATEVER THE INPUT: true; the input reads as it did. -/
def topRootsSpec : ChangeSpec := { name := "topRoots", fn := fun _ => fun
  | [d1, d2] => { results := [.lit (.bool true)], args := [d1, d2] }
  | _ => none }
def topRootsRow : OpenClaim := { program := "ytpbgpdmffejdgaagreatdoor", sum := "5599138f9211152b1a969b6fa287b569d2564da94cd8862ae452d16e518ae399", func := "trunnion/trunniontop.TopRoots", spec := "topRoots", inPlace := ["math/bits.Add64", "math/bits.Sub64"], unfollowed := true, recurses := true, named := ["trunnion/numeric.groups", "trunnion/numeric.changed", "trunnion/numeric.stopped", "math/bits.deBruijn64tab", "trunnion/sign.marks", "math/bits.divideError", "math/bits.overflowError"], apart := false, laid := [("math/bits.deBruijn64tab", laid_math_bits_deBruijn64tab), ("trunnion/sign.marks", laid_trunnion_sign_marks), ("trunnion/numeric.groups", laid_trunnion_numeric_groups), ("trunnion/numeric.changed", laid_trunnion_numeric_changed), ("trunnion/numeric.stopped", laid_trunnion_numeric_stopped)] }
def TopRootsSaid : Prop := topRootsRow.holds Tryz.pinned (OpenSpec.ofChange topRootsSpec)

/-- ITS FALSE NEIGHBOUR: 'it returns false'. Refute it at one input. -/
def topRootsWrong : ChangeSpec := { name := "topRoots", fn := fun _ => fun
  | [d1, d2] => { results := [.lit (.bool false)], args := [d1, d2] }
  | _ => none }
def TopRootsWrongFalsely : Prop := topRootsRow.holds Tryz.pinned (OpenSpec.ofChange topRootsWrong)

/- THE SECOND FORM. 'bulk': how many values and letters a reading holds, each counted each time it is reached (what is shared counts as often as it is met; a slice's spare places count too). A statement '..UptoSaid' is the law's where the arguments, and the package variables that the reading takes, are together of bulk at most 1048576: NARROWER than '..Said'. Prove '..Said' where nothing that the law and all that it calls make is longer than what came in: it says more and counts as full. Else prove '..UptoSaid'. A law counts once. -/
mutual
def uptoBulk {H : Type} : DataW H → Nat
  | .lit (.string bytes) => bytes.length + 1
  | .lit _ => 1
  | .nil => 1
  | .ptr d => uptoBulk d + 1
  | .slice elems spare => uptoBulkAll elems + uptoBulkAll spare + 1
  | .agg parts => uptoBulkAll parts + 1
  | .iface _ d => uptoBulk d + 1
  | .map entries => uptoBulkEntries entries + 1
  | .held _ => 1
def uptoBulkAll {H : Type} : List (DataW H) → Nat
  | [] => 0
  | d :: r => uptoBulk d + uptoBulkAll r
def uptoBulkEntries {H : Type} : List (Lit × DataW H) → Nat
  | [] => 0
  | x :: r => uptoBulkEntry x + uptoBulkEntries r
def uptoBulkEntry {H : Type} : Lit × DataW H → Nat
  | (.string bytes, d) => bytes.length + uptoBulk d + 1
  | (_, d) => uptoBulk d + 1
 end
def uptoSmall : (H : Type) → List (DataW H) → Bool := fun _ ds => decide (uptoBulkAll ds ≤ 1048576)
def OpenSpec.upto (s : _root_.Go.ChangeSpec) : _root_.Go.OpenSpec := { _root_.Go.OpenSpec.ofChange s with cond := some uptoSmall }

/-- 'trunnionlaw14.NumericKinds', WHERE WHAT IT READS IS OF BULK AT MOST 1048576: true; the input reads as it did. -/
def numericKindsUptoRow : OpenClaim := { program := "ytpbgpdmffejdgaagreatdoor", sum := "5599138f9211152b1a969b6fa287b569d2564da94cd8862ae452d16e518ae399", func := "trunnion/trunnionlaw14.NumericKinds", spec := "numericKinds", inPlace := ["math/bits.Add64", "math/bits.Sub64"], unfollowed := true, recurses := true, named := ["trunnion/numeric.groups", "trunnion/numeric.changed", "trunnion/numeric.stopped", "math/bits.deBruijn64tab", "trunnion/sign.marks", "math/bits.divideError", "math/bits.overflowError"], apart := false, laid := [("math/bits.deBruijn64tab", laid_math_bits_deBruijn64tab), ("trunnion/sign.marks", laid_trunnion_sign_marks), ("trunnion/numeric.groups", laid_trunnion_numeric_groups), ("trunnion/numeric.changed", laid_trunnion_numeric_changed), ("trunnion/numeric.stopped", laid_trunnion_numeric_stopped)], narrowed := true }
def NumericKindsUptoSaid : Prop := numericKindsUptoRow.holds Tryz.pinned (OpenSpec.upto numericKindsSpec)

/-- 'trunnionlaw14.NumericApplies', WHERE WHAT IT READS IS OF BULK AT MOST 1048576: true; the input reads as it did. -/
def numericAppliesUptoRow : OpenClaim := { program := "ytpbgpdmffejdgaagreatdoor", sum := "5599138f9211152b1a969b6fa287b569d2564da94cd8862ae452d16e518ae399", func := "trunnion/trunnionlaw14.NumericApplies", spec := "numericApplies", inPlace := ["math/bits.Add64", "math/bits.Sub64"], unfollowed := true, recurses := true, named := ["trunnion/numeric.groups", "trunnion/numeric.changed", "trunnion/numeric.stopped", "math/bits.deBruijn64tab", "trunnion/sign.marks", "math/bits.divideError", "math/bits.overflowError"], apart := false, laid := [("math/bits.deBruijn64tab", laid_math_bits_deBruijn64tab), ("trunnion/sign.marks", laid_trunnion_sign_marks), ("trunnion/numeric.groups", laid_trunnion_numeric_groups), ("trunnion/numeric.changed", laid_trunnion_numeric_changed), ("trunnion/numeric.stopped", laid_trunnion_numeric_stopped)], narrowed := true }
def NumericAppliesUptoSaid : Prop := numericAppliesUptoRow.holds Tryz.pinned (OpenSpec.upto numericAppliesSpec)

/-- 'trunnionlaw14.NumericKeeps', WHERE WHAT IT READS IS OF BULK AT MOST 1048576: true; the input reads as it did. -/
def numericKeepsUptoRow : OpenClaim := { program := "ytpbgpdmffejdgaagreatdoor", sum := "5599138f9211152b1a969b6fa287b569d2564da94cd8862ae452d16e518ae399", func := "trunnion/trunnionlaw14.NumericKeeps", spec := "numericKeeps", inPlace := ["math/bits.Add64", "math/bits.Sub64"], unfollowed := true, recurses := true, named := ["trunnion/numeric.groups", "trunnion/numeric.changed", "trunnion/numeric.stopped", "math/bits.deBruijn64tab", "trunnion/sign.marks", "math/bits.divideError", "math/bits.overflowError"], apart := false, laid := [("math/bits.deBruijn64tab", laid_math_bits_deBruijn64tab), ("trunnion/sign.marks", laid_trunnion_sign_marks), ("trunnion/numeric.groups", laid_trunnion_numeric_groups), ("trunnion/numeric.changed", laid_trunnion_numeric_changed), ("trunnion/numeric.stopped", laid_trunnion_numeric_stopped)], narrowed := true }
def NumericKeepsUptoSaid : Prop := numericKeepsUptoRow.holds Tryz.pinned (OpenSpec.upto numericKeepsSpec)

/-- 'trunnionlaw14.NumericSwaps', WHERE WHAT IT READS IS OF BULK AT MOST 1048576: true; the input reads as it did. -/
def numericSwapsUptoRow : OpenClaim := { program := "ytpbgpdmffejdgaagreatdoor", sum := "5599138f9211152b1a969b6fa287b569d2564da94cd8862ae452d16e518ae399", func := "trunnion/trunnionlaw14.NumericSwaps", spec := "numericSwaps", inPlace := ["math/bits.Add64", "math/bits.Sub64"], unfollowed := true, recurses := true, named := ["trunnion/numeric.groups", "trunnion/numeric.changed", "trunnion/numeric.stopped", "math/bits.deBruijn64tab", "trunnion/sign.marks", "math/bits.divideError", "math/bits.overflowError"], apart := false, laid := [("math/bits.deBruijn64tab", laid_math_bits_deBruijn64tab), ("trunnion/sign.marks", laid_trunnion_sign_marks), ("trunnion/numeric.groups", laid_trunnion_numeric_groups), ("trunnion/numeric.changed", laid_trunnion_numeric_changed), ("trunnion/numeric.stopped", laid_trunnion_numeric_stopped)], narrowed := true }
def NumericSwapsUptoSaid : Prop := numericSwapsUptoRow.holds Tryz.pinned (OpenSpec.upto numericSwapsSpec)

/-- 'trunniontop.TopNearest', WHERE WHAT IT READS IS OF BULK AT MOST 1048576: true; the input reads as it did. -/
def topNearestUptoRow : OpenClaim := { program := "ytpbgpdmffejdgaagreatdoor", sum := "5599138f9211152b1a969b6fa287b569d2564da94cd8862ae452d16e518ae399", func := "trunnion/trunniontop.TopNearest", spec := "topNearest", inPlace := ["math/bits.Add64", "math/bits.Sub64"], unfollowed := true, recurses := true, named := ["trunnion/numeric.groups", "trunnion/numeric.changed", "trunnion/numeric.stopped", "math/bits.deBruijn64tab", "trunnion/sign.marks", "math/bits.divideError", "math/bits.overflowError"], apart := false, laid := [("math/bits.deBruijn64tab", laid_math_bits_deBruijn64tab), ("trunnion/sign.marks", laid_trunnion_sign_marks), ("trunnion/numeric.groups", laid_trunnion_numeric_groups), ("trunnion/numeric.changed", laid_trunnion_numeric_changed), ("trunnion/numeric.stopped", laid_trunnion_numeric_stopped)], narrowed := true }
def TopNearestUptoSaid : Prop := topNearestUptoRow.holds Tryz.pinned (OpenSpec.upto topNearestSpec)

/-- 'trunniontop.TopRoots', WHERE WHAT IT READS IS OF BULK AT MOST 1048576: true; the input reads as it did. -/
def topRootsUptoRow : OpenClaim := { program := "ytpbgpdmffejdgaagreatdoor", sum := "5599138f9211152b1a969b6fa287b569d2564da94cd8862ae452d16e518ae399", func := "trunnion/trunniontop.TopRoots", spec := "topRoots", inPlace := ["math/bits.Add64", "math/bits.Sub64"], unfollowed := true, recurses := true, named := ["trunnion/numeric.groups", "trunnion/numeric.changed", "trunnion/numeric.stopped", "math/bits.deBruijn64tab", "trunnion/sign.marks", "math/bits.divideError", "math/bits.overflowError"], apart := false, laid := [("math/bits.deBruijn64tab", laid_math_bits_deBruijn64tab), ("trunnion/sign.marks", laid_trunnion_sign_marks), ("trunnion/numeric.groups", laid_trunnion_numeric_groups), ("trunnion/numeric.changed", laid_trunnion_numeric_changed), ("trunnion/numeric.stopped", laid_trunnion_numeric_stopped)], narrowed := true }
def TopRootsUptoSaid : Prop := topRootsUptoRow.holds Tryz.pinned (OpenSpec.upto topRootsSpec)

end Rows
end Go.Proofs.YtpbgpdmffejdgaaGreatDoor
