/- Number. -/
import Derived.Test.YtahdcbjfabccpaaT33
import Derived.ProofKit
import Derived.Lib.SmallJoins
namespace Go.Proofs.Ytahdcbjfabccpaa
open Go.ChangeShapes Go.WideShapes Go.ChangeAt Go.RowKit Go.Joins
open Go.Proofs.Ytahdcbjfabccpaa.W

theorem Try.own : ownKnob Try.prog.godebug = none := by kernel_rfl
theorem word_of_wf {x : Int} (h : (Lit.int .u64 x).wf = true) : 0 ≤ x ∧ x < 18446744073709551616 := by
  simp [Lit.wf, IntKind.min, IntKind.max, IntKind.signed, IntKind.bits] at h
  exact ⟨by omega, by omega⟩

end Go.Proofs.Ytahdcbjfabccpaa
