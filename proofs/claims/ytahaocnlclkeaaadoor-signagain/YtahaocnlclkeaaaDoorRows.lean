/-
  NARROWER THAN 'FOR EVERY INPUT', by the rows' own cells (each row's printed sentence says how): SignTurns: laid · SignBack: laid · SignAgain: laid.
  DERIVED. THE GIVEN ROWS OF THIS SEAT. 3 by the template 'for every input the law returns true; each argument reads behind the call as it read before'; 0 by the template 'total and deterministic' (their statements: YtahaocnlclkeaaaDoorTotals.lean).
  GIVEN WITH THE SEED: the statements are not yours to turn. If you find one false, say at which input.
  Laid BY PROGRAM, IN A SANDBOX (cutbox-rows.mjs): the forced cells as the released guide's own fill.sh prints them over the translation 360819f6978c81f0… (all of the seat's roots in one cut). By AI agents, Wed Nov 11 2026. No macro, syntax, notation, axiom, sorry.
-/
import Derived.Test.YtahaocnlclkeaaaDoorChecked
import GoSem.Claim
import GoSem.ClaimJoined
import GoSem.ClaimMapViews
import Derived.JoinedTies
import Derived.KernelRfl
namespace Go.Proofs.YtahaocnlclkeaaaDoor
/- THE CELL 'sum', in the pinned program and in every row, IS THE sha256 OF THE DUMP (.gsa) THAT YtahaocnlclkeaaaDoorProg.lean LOADS. Nothing in Lean hashes anything: it is a label: what it is worth is what the hold of that sum in a sandbox is worth. -/
noncomputable def Tryd.pinned : Pinned := { name := "ytahaocnlclkeaaadoor", sum := "360819f6978c81f09f206efe87d7cf00977e58bdc2bf2a47e0399871161c913a", checked := Tryd.checked }
namespace Rows
def none {H : Type} : Left H := { results := [], args := [] }

/- WHAT THE LISTED PACKAGE-LEVEL VARIABLES READ AS WHEN THE CALL BEGINS. Each datum BY PROGRAM (the guide's laid-datum.mjs) off the statement by which the dump's own 'gosem.cut.vars' lays the variable. In a bare row this is a premise. The card (YtahaocnlclkeaaaDoorCards.lean) ties it to the program's text. -/
def laid_trunnion_sign_marks {H : Type} : DataW H := .agg [.agg [.lit (.int .i64 32), .lit (.int .u64 2147483648)], .agg [.lit (.int .i64 64), .lit (.int .u64 9223372036854775808)]]

/-- 'trunnionlaw10.SignTurns': WHATEVER THE INPUT: true; the input reads as it did. -/
def signTurnsSpec : ChangeSpec := { name := "signTurns", fn := fun _ => fun
  | [d1, d2, d3] => { results := [.lit (.bool true)], args := [d1, d2, d3] }
  | _ => none }
def signTurnsRow : OpenClaim := { program := "ytahaocnlclkeaaadoor", sum := "360819f6978c81f09f206efe87d7cf00977e58bdc2bf2a47e0399871161c913a", func := "trunnion/trunnionlaw10.SignTurns", spec := "signTurns", named := ["trunnion/sign.marks"], apart := false, laid := [("trunnion/sign.marks", laid_trunnion_sign_marks)] }
def SignTurnsSaid : Prop := signTurnsRow.holds Tryd.pinned (OpenSpec.ofChange signTurnsSpec)

/-- ITS FALSE NEIGHBOUR: 'it returns false'. Refute it at one input. -/
def signTurnsWrong : ChangeSpec := { name := "signTurns", fn := fun _ => fun
  | [d1, d2, d3] => { results := [.lit (.bool false)], args := [d1, d2, d3] }
  | _ => none }
def SignTurnsWrongFalsely : Prop := signTurnsRow.holds Tryd.pinned (OpenSpec.ofChange signTurnsWrong)

/-- 'trunnionlaw10.SignBack': WHATEVER THE INPUT: true; the input reads as it did. -/
def signBackSpec : ChangeSpec := { name := "signBack", fn := fun _ => fun
  | [d1, d2, d3] => { results := [.lit (.bool true)], args := [d1, d2, d3] }
  | _ => none }
def signBackRow : OpenClaim := { program := "ytahaocnlclkeaaadoor", sum := "360819f6978c81f09f206efe87d7cf00977e58bdc2bf2a47e0399871161c913a", func := "trunnion/trunnionlaw10.SignBack", spec := "signBack", named := ["trunnion/sign.marks"], apart := false, laid := [("trunnion/sign.marks", laid_trunnion_sign_marks)] }
def SignBackSaid : Prop := signBackRow.holds Tryd.pinned (OpenSpec.ofChange signBackSpec)

/-- ITS FALSE NEIGHBOUR: 'it returns false'. Refute it at one input. -/
def signBackWrong : ChangeSpec := { name := "signBack", fn := fun _ => fun
  | [d1, d2, d3] => { results := [.lit (.bool false)], args := [d1, d2, d3] }
  | _ => none }
def SignBackWrongFalsely : Prop := signBackRow.holds Tryd.pinned (OpenSpec.ofChange signBackWrong)

/-- 'trunnionlaw10.SignAgain': WHATEVER THE INPUT: true; the input reads as it did. -/
def signAgainSpec : ChangeSpec := { name := "signAgain", fn := fun _ => fun
  | [d1, d2] => { results := [.lit (.bool true)], args := [d1, d2] }
  | _ => none }
def signAgainRow : OpenClaim := { program := "ytahaocnlclkeaaadoor", sum := "360819f6978c81f09f206efe87d7cf00977e58bdc2bf2a47e0399871161c913a", func := "trunnion/trunnionlaw10.SignAgain", spec := "signAgain", named := ["trunnion/sign.marks"], apart := false, laid := [("trunnion/sign.marks", laid_trunnion_sign_marks)] }
def SignAgainSaid : Prop := signAgainRow.holds Tryd.pinned (OpenSpec.ofChange signAgainSpec)

/-- ITS FALSE NEIGHBOUR: 'it returns false'. Refute it at one input. -/
def signAgainWrong : ChangeSpec := { name := "signAgain", fn := fun _ => fun
  | [d1, d2] => { results := [.lit (.bool false)], args := [d1, d2] }
  | _ => none }
def SignAgainWrongFalsely : Prop := signAgainRow.holds Tryd.pinned (OpenSpec.ofChange signAgainWrong)

/- THE SECOND FORM. 'bulk': how many values and letters a reading holds, each counted each time it is reached (what is shared counts as often as it is met; a slice's spare places count too). A statement '..UptoSaid' is the law's where the arguments, and the package variables that the reading takes, are together of bulk at most 1048576: NARROWER than '..Said'. Prove '..Said' where nothing that the law and all that it calls make is longer than what came in: it says more and counts as full. Else prove '..UptoSaid'. A law counts once. -/
mutual
def uptoBulk {H : Type} : DataW H → Nat
  | .lit (.string bytes) => bytes.length + 1
  | .lit _ => 1
  | .nil => 1
  | .ptr d => uptoBulk d + 1
  | .slice elems spare => uptoBulkAll elems + uptoBulkAll spare + 1
  | .agg parts => uptoBulkAll parts + 1
  | .iface _ d => uptoBulk d + 1
  | .map entries => uptoBulkEntries entries + 1
  | .held _ => 1
def uptoBulkAll {H : Type} : List (DataW H) → Nat
  | [] => 0
  | d :: r => uptoBulk d + uptoBulkAll r
def uptoBulkEntries {H : Type} : List (Lit × DataW H) → Nat
  | [] => 0
  | x :: r => uptoBulkEntry x + uptoBulkEntries r
def uptoBulkEntry {H : Type} : Lit × DataW H → Nat
  | (.string bytes, d) => bytes.length + uptoBulk d + 1
  | (_, d) => uptoBulk d + 1
 end
def uptoSmall : (H : Type) → List (DataW H) → Bool := fun _ ds => decide (uptoBulkAll ds ≤ 1048576)
def OpenSpec.upto (s : _root_.Go.ChangeSpec) : _root_.Go.OpenSpec := { _root_.Go.OpenSpec.ofChange s with cond := some uptoSmall }

/-- 'trunnionlaw10.SignTurns', WHERE WHAT IT READS IS OF BULK AT MOST 1048576: true; the input reads as it did. -/
def signTurnsUptoRow : OpenClaim := { program := "ytahaocnlclkeaaadoor", sum := "360819f6978c81f09f206efe87d7cf00977e58bdc2bf2a47e0399871161c913a", func := "trunnion/trunnionlaw10.SignTurns", spec := "signTurns", named := ["trunnion/sign.marks"], apart := false, laid := [("trunnion/sign.marks", laid_trunnion_sign_marks)], narrowed := true }
def SignTurnsUptoSaid : Prop := signTurnsUptoRow.holds Tryd.pinned (OpenSpec.upto signTurnsSpec)

/-- 'trunnionlaw10.SignBack', WHERE WHAT IT READS IS OF BULK AT MOST 1048576: true; the input reads as it did. -/
def signBackUptoRow : OpenClaim := { program := "ytahaocnlclkeaaadoor", sum := "360819f6978c81f09f206efe87d7cf00977e58bdc2bf2a47e0399871161c913a", func := "trunnion/trunnionlaw10.SignBack", spec := "signBack", named := ["trunnion/sign.marks"], apart := false, laid := [("trunnion/sign.marks", laid_trunnion_sign_marks)], narrowed := true }
def SignBackUptoSaid : Prop := signBackUptoRow.holds Tryd.pinned (OpenSpec.upto signBackSpec)

/-- 'trunnionlaw10.SignAgain', WHERE WHAT IT READS IS OF BULK AT MOST 1048576: true; the input reads as it did. -/
def signAgainUptoRow : OpenClaim := { program := "ytahaocnlclkeaaadoor", sum := "360819f6978c81f09f206efe87d7cf00977e58bdc2bf2a47e0399871161c913a", func := "trunnion/trunnionlaw10.SignAgain", spec := "signAgain", named := ["trunnion/sign.marks"], apart := false, laid := [("trunnion/sign.marks", laid_trunnion_sign_marks)], narrowed := true }
def SignAgainUptoSaid : Prop := signAgainUptoRow.holds Tryd.pinned (OpenSpec.upto signAgainSpec)

end Rows
end Go.Proofs.YtahaocnlclkeaaaDoor
