/-
  No cell of these rows narrows 'for every input' (looked for: loops, veiled, ifaces, maps, wideKeys, modest, calm, conditions, laid).
  DERIVED. THE GIVEN ROWS OF THIS SEAT. 4 by the template 'for every input the law returns true; each argument reads behind the call as it read before'; 0 by the template 'total and deterministic' (their statements: YtlkmongiknpejaaTotals.lean).
  GIVEN WITH THE SEED: the statements are not yours to turn. If you find one false, say at which input.
  Laid BY PROGRAM, IN A SANDBOX (cutbox-rows.mjs): the forced cells as the released guide's own fill.sh prints them over the translation a5543837bafb3e6d… (all of the seat's roots in one cut). By AI agents, Wed Nov 11 2026. No macro, syntax, notation, axiom, sorry.
-/
import Derived.Test.YtlkmongiknpejaaChecked
import GoSem.Claim
import GoSem.ClaimJoined
import GoSem.ClaimMapViews
import Derived.JoinedTies
import Derived.KernelRfl
namespace Go.Proofs.Ytlkmongiknpejaa
/- THE CELL 'sum', in the pinned program and in every row, IS THE sha256 OF THE DUMP (.gsa) THAT YtlkmongiknpejaaProg.lean LOADS. Nothing in Lean hashes anything: it is a label: what it is worth is what the hold of that sum in a sandbox is worth. -/
noncomputable def Try.pinned : Pinned := { name := "ytlkmongiknpejaa", sum := "a5543837bafb3e6d998a0b7100b028af013f4f8d2c0df9f4a1f0bc00e544c172", checked := Try.checked }
namespace Rows
def none {H : Type} : Left H := { results := [], args := [] }

/-- 'trunnionlaw05.ProductMuls': WHATEVER THE INPUT: true; the input reads as it did. -/
def productMulsSpec : ChangeSpec := { name := "productMuls", fn := fun _ => fun
  | [d1, d2, d3] => { results := [.lit (.bool true)], args := [d1, d2, d3] }
  | _ => none }
def productMulsRow : OpenClaim := { program := "ytlkmongiknpejaa", sum := "a5543837bafb3e6d998a0b7100b028af013f4f8d2c0df9f4a1f0bc00e544c172", func := "trunnion/trunnionlaw05.ProductMuls", spec := "productMuls", apart := false }
def ProductMulsSaid : Prop := productMulsRow.holds Try.pinned (OpenSpec.ofChange productMulsSpec)

/-- ITS FALSE NEIGHBOUR: 'it returns false'. Refute it at one input. -/
def productMulsWrong : ChangeSpec := { name := "productMuls", fn := fun _ => fun
  | [d1, d2, d3] => { results := [.lit (.bool false)], args := [d1, d2, d3] }
  | _ => none }
def ProductMulsWrongFalsely : Prop := productMulsRow.holds Try.pinned (OpenSpec.ofChange productMulsWrong)

/-- 'trunnionlaw05.ProductScales': WHATEVER THE INPUT: true; the input reads as it did. -/
def productScalesSpec : ChangeSpec := { name := "productScales", fn := fun _ => fun
  | [d1, d2, d3] => { results := [.lit (.bool true)], args := [d1, d2, d3] }
  | _ => none }
def productScalesRow : OpenClaim := { program := "ytlkmongiknpejaa", sum := "a5543837bafb3e6d998a0b7100b028af013f4f8d2c0df9f4a1f0bc00e544c172", func := "trunnion/trunnionlaw05.ProductScales", spec := "productScales", apart := false }
def ProductScalesSaid : Prop := productScalesRow.holds Try.pinned (OpenSpec.ofChange productScalesSpec)

/-- ITS FALSE NEIGHBOUR: 'it returns false'. Refute it at one input. -/
def productScalesWrong : ChangeSpec := { name := "productScales", fn := fun _ => fun
  | [d1, d2, d3] => { results := [.lit (.bool false)], args := [d1, d2, d3] }
  | _ => none }
def ProductScalesWrongFalsely : Prop := productScalesRow.holds Try.pinned (OpenSpec.ofChange productScalesWrong)

/-- 'trunnionlaw05.ProductKeeps': WHATEVER THE INPUT: true; the input reads as it did. -/
def productKeepsSpec : ChangeSpec := { name := "productKeeps", fn := fun _ => fun
  | [d1, d2, d3] => { results := [.lit (.bool true)], args := [d1, d2, d3] }
  | _ => none }
def productKeepsRow : OpenClaim := { program := "ytlkmongiknpejaa", sum := "a5543837bafb3e6d998a0b7100b028af013f4f8d2c0df9f4a1f0bc00e544c172", func := "trunnion/trunnionlaw05.ProductKeeps", spec := "productKeeps", apart := false }
def ProductKeepsSaid : Prop := productKeepsRow.holds Try.pinned (OpenSpec.ofChange productKeepsSpec)

/-- ITS FALSE NEIGHBOUR: 'it returns false'. Refute it at one input. -/
def productKeepsWrong : ChangeSpec := { name := "productKeeps", fn := fun _ => fun
  | [d1, d2, d3] => { results := [.lit (.bool false)], args := [d1, d2, d3] }
  | _ => none }
def ProductKeepsWrongFalsely : Prop := productKeepsRow.holds Try.pinned (OpenSpec.ofChange productKeepsWrong)

/-- 'trunnionlaw05.ProductTwice': WHATEVER THE INPUT: true; the input reads as it did. -/
def productTwiceSpec : ChangeSpec := { name := "productTwice", fn := fun _ => fun
  | [d1, d2] => { results := [.lit (.bool true)], args := [d1, d2] }
  | _ => none }
def productTwiceRow : OpenClaim := { program := "ytlkmongiknpejaa", sum := "a5543837bafb3e6d998a0b7100b028af013f4f8d2c0df9f4a1f0bc00e544c172", func := "trunnion/trunnionlaw05.ProductTwice", spec := "productTwice", inPlace := ["math/bits.Add64", "math/bits.Sub64"], apart := false }
def ProductTwiceSaid : Prop := productTwiceRow.holds Try.pinned (OpenSpec.ofChange productTwiceSpec)

/-- ITS FALSE NEIGHBOUR: 'it returns false'. Refute it at one input. -/
def productTwiceWrong : ChangeSpec := { name := "productTwice", fn := fun _ => fun
  | [d1, d2] => { results := [.lit (.bool false)], args := [d1, d2] }
  | _ => none }
def ProductTwiceWrongFalsely : Prop := productTwiceRow.holds Try.pinned (OpenSpec.ofChange productTwiceWrong)

/- THE SECOND FORM. 'bulk': how many values and letters a reading holds, each counted each time it is reached (what is shared counts as often as it is met; a slice's spare places count too). A statement '..UptoSaid' is the law's where the arguments, and the package variables that the reading takes, are together of bulk at most 1048576: NARROWER than '..Said'. Prove '..Said' where nothing that the law and all that it calls make is longer than what came in: it says more and counts as full. Else prove '..UptoSaid'. A law counts once. -/
mutual
def uptoBulk {H : Type} : DataW H → Nat
  | .lit (.string bytes) => bytes.length + 1
  | .lit _ => 1
  | .nil => 1
  | .ptr d => uptoBulk d + 1
  | .slice elems spare => uptoBulkAll elems + uptoBulkAll spare + 1
  | .agg parts => uptoBulkAll parts + 1
  | .iface _ d => uptoBulk d + 1
  | .map entries => uptoBulkEntries entries + 1
  | .held _ => 1
def uptoBulkAll {H : Type} : List (DataW H) → Nat
  | [] => 0
  | d :: r => uptoBulk d + uptoBulkAll r
def uptoBulkEntries {H : Type} : List (Lit × DataW H) → Nat
  | [] => 0
  | x :: r => uptoBulkEntry x + uptoBulkEntries r
def uptoBulkEntry {H : Type} : Lit × DataW H → Nat
  | (.string bytes, d) => bytes.length + uptoBulk d + 1
  | (_, d) => uptoBulk d + 1
 end
def uptoSmall : (H : Type) → List (DataW H) → Bool := fun _ ds => decide (uptoBulkAll ds ≤ 1048576)
def OpenSpec.upto (s : _root_.Go.ChangeSpec) : _root_.Go.OpenSpec := { _root_.Go.OpenSpec.ofChange s with cond := some uptoSmall }

/-- 'trunnionlaw05.ProductMuls', WHERE WHAT IT READS IS OF BULK AT MOST 1048576: true; the input reads as it did. -/
def productMulsUptoRow : OpenClaim := { program := "ytlkmongiknpejaa", sum := "a5543837bafb3e6d998a0b7100b028af013f4f8d2c0df9f4a1f0bc00e544c172", func := "trunnion/trunnionlaw05.ProductMuls", spec := "productMuls", apart := false, narrowed := true }
def ProductMulsUptoSaid : Prop := productMulsUptoRow.holds Try.pinned (OpenSpec.upto productMulsSpec)

/-- 'trunnionlaw05.ProductScales', WHERE WHAT IT READS IS OF BULK AT MOST 1048576: true; the input reads as it did. -/
def productScalesUptoRow : OpenClaim := { program := "ytlkmongiknpejaa", sum := "a5543837bafb3e6d998a0b7100b028af013f4f8d2c0df9f4a1f0bc00e544c172", func := "trunnion/trunnionlaw05.ProductScales", spec := "productScales", apart := false, narrowed := true }
def ProductScalesUptoSaid : Prop := productScalesUptoRow.holds Try.pinned (OpenSpec.upto productScalesSpec)

/-- 'trunnionlaw05.ProductKeeps', WHERE WHAT IT READS IS OF BULK AT MOST 1048576: true; the input reads as it did. -/
def productKeepsUptoRow : OpenClaim := { program := "ytlkmongiknpejaa", sum := "a5543837bafb3e6d998a0b7100b028af013f4f8d2c0df9f4a1f0bc00e544c172", func := "trunnion/trunnionlaw05.ProductKeeps", spec := "productKeeps", apart := false, narrowed := true }
def ProductKeepsUptoSaid : Prop := productKeepsUptoRow.holds Try.pinned (OpenSpec.upto productKeepsSpec)

/-- 'trunnionlaw05.ProductTwice', WHERE WHAT IT READS IS OF BULK AT MOST 1048576: true; the input reads as it did. -/
def productTwiceUptoRow : OpenClaim := { program := "ytlkmongiknpejaa", sum := "a5543837bafb3e6d998a0b7100b028af013f4f8d2c0df9f4a1f0bc00e544c172", func := "trunnion/trunnionlaw05.ProductTwice", spec := "productTwice", inPlace := ["math/bits.Add64", "math/bits.Sub64"], apart := false, narrowed := true }
def ProductTwiceUptoSaid : Prop := productTwiceUptoRow.holds Try.pinned (OpenSpec.upto productTwiceSpec)

end Rows
end Go.Proofs.Ytlkmongiknpejaa
