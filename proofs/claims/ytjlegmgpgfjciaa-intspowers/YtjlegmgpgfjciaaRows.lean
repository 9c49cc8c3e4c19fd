/-
  No cell of these rows narrows 'for every input' (looked for: loops, veiled, ifaces, maps, wideKeys, modest, calm, conditions, laid).
  DERIVED. THE GIVEN ROWS OF THIS SEAT. 5 by the template 'for every input the law returns true; each argument reads behind the call as it read before'; 0 by the template 'total and deterministic' (their statements: YtjlegmgpgfjciaaTotals.lean).
  GIVEN WITH THE SEED: the statements are not yours to turn. If you find one false, say at which input.
  Laid BY PROGRAM, IN A SANDBOX (cutbox-rows.mjs): the forced cells as the released guide's own fill.sh prints them over the translation a33139354edd692e… (all of the seat's roots in one cut). By AI agents, Wed Nov 11 2026. No macro, syntax, notation, axiom, sorry.
-/
import Derived.Test.YtjlegmgpgfjciaaChecked
import GoSem.Claim
import GoSem.ClaimJoined
import GoSem.ClaimMapViews
import Derived.JoinedTies
import Derived.KernelRfl
namespace Go.Proofs.Ytjlegmgpgfjciaa
/- THE CELL 'sum', in the pinned program and in every row, IS THE sha256 OF THE DUMP (.gsa) THAT YtjlegmgpgfjciaaProg.lean LOADS. Nothing in Lean hashes anything: it is a label: what it is worth is what the hold of that sum in a sandbox is worth. -/
noncomputable def Try.pinned : Pinned := { name := "ytjlegmgpgfjciaa", sum := "a33139354edd692e7795742f0e06aa032f4e09b7fcb0ebaafb6dfb074e7bf98c", checked := Try.checked }
namespace Rows
def none {H : Type} : Left H := { results := [], args := [] }

/-- 'trunnionlaw13.IntsSums': WHATEVER THE INPUT: true; the input reads as it did. -/
def intsSumsSpec : ChangeSpec := { name := "intsSums", fn := fun _ => fun
  | [d1, d2, d3] => { results := [.lit (.bool true)], args := [d1, d2, d3] }
  | _ => none }
def intsSumsRow : OpenClaim := { program := "ytjlegmgpgfjciaa", sum := "a33139354edd692e7795742f0e06aa032f4e09b7fcb0ebaafb6dfb074e7bf98c", func := "trunnion/trunnionlaw13.IntsSums", spec := "intsSums", unfollowed := true, recurses := true, apart := false }
def IntsSumsSaid : Prop := intsSumsRow.holds Try.pinned (OpenSpec.ofChange intsSumsSpec)

/-- ITS FALSE NEIGHBOUR: 'it returns false'. Refute it at one input. -/
def intsSumsWrong : ChangeSpec := { name := "intsSums", fn := fun _ => fun
  | [d1, d2, d3] => { results := [.lit (.bool false)], args := [d1, d2, d3] }
  | _ => none }
def IntsSumsWrongFalsely : Prop := intsSumsRow.holds Try.pinned (OpenSpec.ofChange intsSumsWrong)

/-- 'trunnionlaw13.IntsDivs': WHATEVER THE INPUT: true; the input reads as it did. -/
def intsDivsSpec : ChangeSpec := { name := "intsDivs", fn := fun _ => fun
  | [d1, d2, d3] => { results := [.lit (.bool true)], args := [d1, d2, d3] }
  | _ => none }
def intsDivsRow : OpenClaim := { program := "ytjlegmgpgfjciaa", sum := "a33139354edd692e7795742f0e06aa032f4e09b7fcb0ebaafb6dfb074e7bf98c", func := "trunnion/trunnionlaw13.IntsDivs", spec := "intsDivs", unfollowed := true, recurses := true, apart := false }
def IntsDivsSaid : Prop := intsDivsRow.holds Try.pinned (OpenSpec.ofChange intsDivsSpec)

/-- ITS FALSE NEIGHBOUR: 'it returns false'. Refute it at one input. -/
def intsDivsWrong : ChangeSpec := { name := "intsDivs", fn := fun _ => fun
  | [d1, d2, d3] => { results := [.lit (.bool false)], args := [d1, d2, d3] }
  | _ => none }
def IntsDivsWrongFalsely : Prop := intsDivsRow.holds Try.pinned (OpenSpec.ofChange intsDivsWrong)

/-- 'trunnionlaw13.IntsShifts': WHATEVER THE INPUT: true; the input reads as it did. -/
def intsShiftsSpec : ChangeSpec := { name := "intsShifts", fn := fun _ => fun
  | [d1, d2, d3] => { results := [.lit (.bool true)], args := [d1, d2, d3] }
  | _ => none }
def intsShiftsRow : OpenClaim := { program := "ytjlegmgpgfjciaa", sum := "a33139354edd692e7795742f0e06aa032f4e09b7fcb0ebaafb6dfb074e7bf98c", func := "trunnion/trunnionlaw13.IntsShifts", spec := "intsShifts", unfollowed := true, recurses := true, apart := false }
def IntsShiftsSaid : Prop := intsShiftsRow.holds Try.pinned (OpenSpec.ofChange intsShiftsSpec)

/-- ITS FALSE NEIGHBOUR: 'it returns false'. Refute it at one input. -/
def intsShiftsWrong : ChangeSpec := { name := "intsShifts", fn := fun _ => fun
  | [d1, d2, d3] => { results := [.lit (.bool false)], args := [d1, d2, d3] }
  | _ => none }
def IntsShiftsWrongFalsely : Prop := intsShiftsRow.holds Try.pinned (OpenSpec.ofChange intsShiftsWrong)

/-- 'trunnionlaw13.IntsBack': WHATEVER THE INPUT: true; the input reads as it did. -/
def intsBackSpec : ChangeSpec := { name := "intsBack", fn := fun _ => fun
  | [d1, d2, d3] => { results := [.lit (.bool true)], args := [d1, d2, d3] }
  | _ => none }
def intsBackRow : OpenClaim := { program := "ytjlegmgpgfjciaa", sum := "a33139354edd692e7795742f0e06aa032f4e09b7fcb0ebaafb6dfb074e7bf98c", func := "trunnion/trunnionlaw13.IntsBack", spec := "intsBack", unfollowed := true, recurses := true, apart := false }
def IntsBackSaid : Prop := intsBackRow.holds Try.pinned (OpenSpec.ofChange intsBackSpec)

/-- ITS FALSE NEIGHBOUR: 'it returns false'. Refute it at one input. -/
def intsBackWrong : ChangeSpec := { name := "intsBack", fn := fun _ => fun
  | [d1, d2, d3] => { results := [.lit (.bool false)], args := [d1, d2, d3] }
  | _ => none }
def IntsBackWrongFalsely : Prop := intsBackRow.holds Try.pinned (OpenSpec.ofChange intsBackWrong)

/-- 'trunnionlaw13.IntsPowers': WHATEVER THE INPUT: true; the input reads as it did. -/
def intsPowersSpec : ChangeSpec := { name := "intsPowers", fn := fun _ => fun
  | [d1, d2, d3] => { results := [.lit (.bool true)], args := [d1, d2, d3] }
  | _ => none }
def intsPowersRow : OpenClaim := { program := "ytjlegmgpgfjciaa", sum := "a33139354edd692e7795742f0e06aa032f4e09b7fcb0ebaafb6dfb074e7bf98c", func := "trunnion/trunnionlaw13.IntsPowers", spec := "intsPowers", unfollowed := true, recurses := true, apart := false }
def IntsPowersSaid : Prop := intsPowersRow.holds Try.pinned (OpenSpec.ofChange intsPowersSpec)

/-- ITS FALSE NEIGHBOUR: 'it returns false'. Refute it at one input. -/
def intsPowersWrong : ChangeSpec := { name := "intsPowers", fn := fun _ => fun
  | [d1, d2, d3] => { results := [.lit (.bool false)], args := [d1, d2, d3] }
  | _ => none }
def IntsPowersWrongFalsely : Prop := intsPowersRow.holds Try.pinned (OpenSpec.ofChange intsPowersWrong)

/- THE SECOND FORM. 'bulk': how many values and letters a reading holds, each counted each time it is reached (what is shared counts as often as it is met; a slice's spare places count too). A statement '..UptoSaid' is the law's where the arguments, and the package variables that the reading takes, are together of bulk at most 1048576: NARROWER than '..Said'. Prove '..Said' where nothing that the law and all that it calls make is longer than what came in: it says more and counts as full. Else prove '..UptoSaid'. A law counts once. -/
mutual
def uptoBulk {H : Type} : DataW H → Nat
  | .lit (.string bytes) => bytes.length + 1
  | .lit _ => 1
  | .nil => 1
  | .ptr d => uptoBulk d + 1
  | .slice elems spare => uptoBulkAll elems + uptoBulkAll spare + 1
  | .agg parts => uptoBulkAll parts + 1
  | .iface _ d => uptoBulk d + 1
  | .map entries => uptoBulkEntries entries + 1
  | .held _ => 1
def uptoBulkAll {H : Type} : List (DataW H) → Nat
  | [] => 0
  | d :: r => uptoBulk d + uptoBulkAll r
def uptoBulkEntries {H : Type} : List (Lit × DataW H) → Nat
  | [] => 0
  | x :: r => uptoBulkEntry x + uptoBulkEntries r
def uptoBulkEntry {H : Type} : Lit × DataW H → Nat
  | (.string bytes, d) => bytes.length + uptoBulk d + 1
  | (_, d) => uptoBulk d + 1
 end
def uptoSmall : (H : Type) → List (DataW H) → Bool := fun _ ds => decide (uptoBulkAll ds ≤ 1048576)
def OpenSpec.upto (s : _root_.Go.ChangeSpec) : _root_.Go.OpenSpec := { _root_.Go.OpenSpec.ofChange s with cond := some uptoSmall }

/-- 'trunnionlaw13.IntsSums', WHERE WHAT IT READS IS OF BULK AT MOST 1048576: true; the input reads as it did. -/
def intsSumsUptoRow : OpenClaim := { program := "ytjlegmgpgfjciaa", sum := "a33139354edd692e7795742f0e06aa032f4e09b7fcb0ebaafb6dfb074e7bf98c", func := "trunnion/trunnionlaw13.IntsSums", spec := "intsSums", unfollowed := true, recurses := true, apart := false, narrowed := true }
def IntsSumsUptoSaid : Prop := intsSumsUptoRow.holds Try.pinned (OpenSpec.upto intsSumsSpec)

/-- 'trunnionlaw13.IntsDivs', WHERE WHAT IT READS IS OF BULK AT MOST 1048576: true; the input reads as it did. -/
def intsDivsUptoRow : OpenClaim := { program := "ytjlegmgpgfjciaa", sum := "a33139354edd692e7795742f0e06aa032f4e09b7fcb0ebaafb6dfb074e7bf98c", func := "trunnion/trunnionlaw13.IntsDivs", spec := "intsDivs", unfollowed := true, recurses := true, apart := false, narrowed := true }
def IntsDivsUptoSaid : Prop := intsDivsUptoRow.holds Try.pinned (OpenSpec.upto intsDivsSpec)

/-- 'trunnionlaw13.IntsShifts', WHERE WHAT IT READS IS OF BULK AT MOST 1048576: true; the input reads as it did. -/
def intsShiftsUptoRow : OpenClaim := { program := "ytjlegmgpgfjciaa", sum := "a33139354edd692e7795742f0e06aa032f4e09b7fcb0ebaafb6dfb074e7bf98c", func := "trunnion/trunnionlaw13.IntsShifts", spec := "intsShifts", unfollowed := true, recurses := true, apart := false, narrowed := true }
def IntsShiftsUptoSaid : Prop := intsShiftsUptoRow.holds Try.pinned (OpenSpec.upto intsShiftsSpec)

/-- 'trunnionlaw13.IntsBack', WHERE WHAT IT READS IS OF BULK AT MOST 1048576: true; the input reads as it did. -/
def intsBackUptoRow : OpenClaim := { program := "ytjlegmgpgfjciaa", sum := "a33139354edd692e7795742f0e06aa032f4e09b7fcb0ebaafb6dfb074e7bf98c", func := "trunnion/trunnionlaw13.IntsBack", spec := "intsBack", unfollowed := true, recurses := true, apart := false, narrowed := true }
def IntsBackUptoSaid : Prop := intsBackUptoRow.holds Try.pinned (OpenSpec.upto intsBackSpec)

/-- 'trunnionlaw13.IntsPowers', WHERE WHAT IT READS IS OF BULK AT MOST 1048576: true; the input reads as it did. -/
def intsPowersUptoRow : OpenClaim := { program := "ytjlegmgpgfjciaa", sum := "a33139354edd692e7795742f0e06aa032f4e09b7fcb0ebaafb6dfb074e7bf98c", func := "trunnion/trunnionlaw13.IntsPowers", spec := "intsPowers", unfollowed := true, recurses := true, apart := false, narrowed := true }
def IntsPowersUptoSaid : Prop := intsPowersUptoRow.holds Try.pinned (OpenSpec.upto intsPowersSpec)

end Rows
end Go.Proofs.Ytjlegmgpgfjciaa
