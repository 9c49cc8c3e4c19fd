/-
  No cell of these rows narrows 'for every input' (looked for: loops, veiled, ifaces, maps, wideKeys, modest, calm, conditions, laid).
  DERIVED. THE GIVEN ROWS OF THIS SEAT. 3 by the template 'for every input the law returns true; each argument reads behind the call as it read before'; 0 by the template 'total and deterministic' (their statements: YtcgnlpamfhdiiaaTotals.lean).
  GIVEN WITH THE SEED: the statements are not yours to turn. If you find one false, say at which input.
  Laid BY PROGRAM, IN A SANDBOX (cutbox-rows.mjs): the forced cells as the released guide's own fill.sh prints them over the translation 5061574bb211449a… (all of the seat's roots in one cut). By AI agents, Wed Nov 11 2026. No macro, syntax, notation, axiom, sorry.
-/
import Derived.Test.YtcgnlpamfhdiiaaChecked
import GoSem.Claim
import GoSem.ClaimJoined
import GoSem.ClaimMapViews
import Derived.JoinedTies
import Derived.KernelRfl
namespace Go.Proofs.Ytcgnlpamfhdiiaa
/- THE CELL 'sum', in the pinned program and in every row, IS THE sha256 OF THE DUMP (.gsa) THAT YtcgnlpamfhdiiaaProg.lean LOADS. Nothing in Lean hashes anything: it is a label: what it is worth is what the hold of that sum in a sandbox is worth. -/
noncomputable def Try.pinned : Pinned := { name := "ytcgnlpamfhdiiaa", sum := "5061574bb211449aa62ebb803da7746583256f77d9c00b161ae87155020949eb", checked := Try.checked }
namespace Rows
def none {H : Type} : Left H := { results := [], args := [] }

/-- 'trunnionlaw06.QuotientDivs': WHATEVER THE INPUT: true; the input reads as it did. -/
def quotientDivsSpec : ChangeSpec := { name := "quotientDivs", fn := fun _ => fun
  | [d1, d2, d3] => { results := [.lit (.bool true)], args := [d1, d2, d3] }
  | _ => none }
def quotientDivsRow : OpenClaim := { program := "ytcgnlpamfhdiiaa", sum := "5061574bb211449aa62ebb803da7746583256f77d9c00b161ae87155020949eb", func := "trunnion/trunnionlaw06.QuotientDivs", spec := "quotientDivs", named := ["math/bits.divideError", "math/bits.overflowError"], apart := false }
def QuotientDivsSaid : Prop := quotientDivsRow.holds Try.pinned (OpenSpec.ofChange quotientDivsSpec)

/-- ITS FALSE NEIGHBOUR: 'it returns false'. Refute it at one input. -/
def quotientDivsWrong : ChangeSpec := { name := "quotientDivs", fn := fun _ => fun
  | [d1, d2, d3] => { results := [.lit (.bool false)], args := [d1, d2, d3] }
  | _ => none }
def QuotientDivsWrongFalsely : Prop := quotientDivsRow.holds Try.pinned (OpenSpec.ofChange quotientDivsWrong)

/-- 'trunnionlaw06.QuotientKeeps': WHATEVER THE INPUT: true; the input reads as it did. -/
def quotientKeepsSpec : ChangeSpec := { name := "quotientKeeps", fn := fun _ => fun
  | [d1, d2, d3] => { results := [.lit (.bool true)], args := [d1, d2, d3] }
  | _ => none }
def quotientKeepsRow : OpenClaim := { program := "ytcgnlpamfhdiiaa", sum := "5061574bb211449aa62ebb803da7746583256f77d9c00b161ae87155020949eb", func := "trunnion/trunnionlaw06.QuotientKeeps", spec := "quotientKeeps", named := ["math/bits.divideError", "math/bits.overflowError"], apart := false }
def QuotientKeepsSaid : Prop := quotientKeepsRow.holds Try.pinned (OpenSpec.ofChange quotientKeepsSpec)

/-- ITS FALSE NEIGHBOUR: 'it returns false'. Refute it at one input. -/
def quotientKeepsWrong : ChangeSpec := { name := "quotientKeeps", fn := fun _ => fun
  | [d1, d2, d3] => { results := [.lit (.bool false)], args := [d1, d2, d3] }
  | _ => none }
def QuotientKeepsWrongFalsely : Prop := quotientKeepsRow.holds Try.pinned (OpenSpec.ofChange quotientKeepsWrong)

/-- 'trunnionlaw06.QuotientScale': WHATEVER THE INPUT: true; the input reads as it did. -/
def quotientScaleSpec : ChangeSpec := { name := "quotientScale", fn := fun _ => fun
  | [d1, d2, d3] => { results := [.lit (.bool true)], args := [d1, d2, d3] }
  | _ => none }
def quotientScaleRow : OpenClaim := { program := "ytcgnlpamfhdiiaa", sum := "5061574bb211449aa62ebb803da7746583256f77d9c00b161ae87155020949eb", func := "trunnion/trunnionlaw06.QuotientScale", spec := "quotientScale", named := ["math/bits.divideError", "math/bits.overflowError"], apart := false }
def QuotientScaleSaid : Prop := quotientScaleRow.holds Try.pinned (OpenSpec.ofChange quotientScaleSpec)

/-- ITS FALSE NEIGHBOUR: 'it returns false'. Refute it at one input. -/
def quotientScaleWrong : ChangeSpec := { name := "quotientScale", fn := fun _ => fun
  | [d1, d2, d3] => { results := [.lit (.bool false)], args := [d1, d2, d3] }
  | _ => none }
def QuotientScaleWrongFalsely : Prop := quotientScaleRow.holds Try.pinned (OpenSpec.ofChange quotientScaleWrong)

/- THE SECOND FORM. 'bulk': how many values and letters a reading holds, each counted each time it is reached (what is shared counts as often as it is met; a slice's spare places count too). A statement '..UptoSaid' is the law's where the arguments, and the package variables that the reading takes, are together of bulk at most 1048576: NARROWER than '..Said'. Prove '..Said' where nothing that the law and all that it calls make is longer than what came in: it says more and counts as full. Else prove '..UptoSaid'. A law counts once. -/
mutual
def uptoBulk {H : Type} : DataW H → Nat
  | .lit (.string bytes) => bytes.length + 1
  | .lit _ => 1
  | .nil => 1
  | .ptr d => uptoBulk d + 1
  | .slice elems spare => uptoBulkAll elems + uptoBulkAll spare + 1
  | .agg parts => uptoBulkAll parts + 1
  | .iface _ d => uptoBulk d + 1
  | .map entries => uptoBulkEntries entries + 1
  | .held _ => 1
def uptoBulkAll {H : Type} : List (DataW H) → Nat
  | [] => 0
  | d :: r => uptoBulk d + uptoBulkAll r
def uptoBulkEntries {H : Type} : List (Lit × DataW H) → Nat
  | [] => 0
  | x :: r => uptoBulkEntry x + uptoBulkEntries r
def uptoBulkEntry {H : Type} : Lit × DataW H → Nat
  | (.string bytes, d) => bytes.length + uptoBulk d + 1
  | (_, d) => uptoBulk d + 1
 end
def uptoSmall : (H : Type) → List (DataW H) → Bool := fun _ ds => decide (uptoBulkAll ds ≤ 1048576)
def OpenSpec.upto (s : _root_.Go.ChangeSpec) : _root_.Go.OpenSpec := { _root_.Go.OpenSpec.ofChange s with cond := some uptoSmall }

/-- 'trunnionlaw06.QuotientDivs', WHERE WHAT IT READS IS OF BULK AT MOST 1048576: true; the input reads as it did. -/
def quotientDivsUptoRow : OpenClaim := { program := "ytcgnlpamfhdiiaa", sum := "5061574bb211449aa62ebb803da7746583256f77d9c00b161ae87155020949eb", func := "trunnion/trunnionlaw06.QuotientDivs", spec := "quotientDivs", named := ["math/bits.divideError", "math/bits.overflowError"], apart := false, narrowed := true }
def QuotientDivsUptoSaid : Prop := quotientDivsUptoRow.holds Try.pinned (OpenSpec.upto quotientDivsSpec)

/-- 'trunnionlaw06.QuotientKeeps', WHERE WHAT IT READS IS OF BULK AT MOST 1048576: true; the input reads as it did. -/
def quotientKeepsUptoRow : OpenClaim := { program := "ytcgnlpamfhdiiaa", sum := "5061574bb211449aa62ebb803da7746583256f77d9c00b161ae87155020949eb", func := "trunnion/trunnionlaw06.QuotientKeeps", spec := "quotientKeeps", named := ["math/bits.divideError", "math/bits.overflowError"], apart := false, narrowed := true }
def QuotientKeepsUptoSaid : Prop := quotientKeepsUptoRow.holds Try.pinned (OpenSpec.upto quotientKeepsSpec)

/-- 'trunnionlaw06.QuotientScale', WHERE WHAT IT READS IS OF BULK AT MOST 1048576: true; the input reads as it did. -/
def quotientScaleUptoRow : OpenClaim := { program := "ytcgnlpamfhdiiaa", sum := "5061574bb211449aa62ebb803da7746583256f77d9c00b161ae87155020949eb", func := "trunnion/trunnionlaw06.QuotientScale", spec := "quotientScale", named := ["math/bits.divideError", "math/bits.overflowError"], apart := false, narrowed := true }
def QuotientScaleUptoSaid : Prop := quotientScaleUptoRow.holds Try.pinned (OpenSpec.upto quotientScaleSpec)

end Rows
end Go.Proofs.Ytcgnlpamfhdiiaa
