/- What all six rows over package wide share: a Wide that came in, as a number, and how it is read back. -/
import Derived.Test.YtifacdihhhcmnaaAwake
import Derived.ProofKit
import Derived.Lib.SmallJoins
namespace Go.Proofs.Ytifacdihhhcmnaa
open Go.ChangeShapes Go.WideShapes Go.ChangeAt Go.RowKit Go.Joins

theorem Try.own : ownKnob Try.prog.godebug = none := by kernel_rfl
theorem Try.cells22 : Try.prog.cellsOf 22 = 1 := by kernel_rfl
theorem Try.cells24 : Try.prog.cellsOf 24 = 2 := by kernel_rfl

theorem word_of_wf {x : Int} (h : (Lit.int .u64 x).wf = true) : 0 ≤ x ∧ x < 18446744073709551616 := by
  simp [Lit.wf, IntKind.min, IntKind.max, IntKind.signed, IntKind.bits] at h
  exact ⟨by omega, by omega⟩

/-- A Wide that came in: a number below 2^128, and how it reads in any later memory. -/
theorem open_wide {H : Type} {enc : TypeId × Value → H} {W : World} {base : Nat} {v : Value} {d : DataW H} {p : List MemPlace} {bs : Nat} {sp : Nat → Bool} {hd : Bool}
    (hv : Value.okWide Try.prog W .any base 24 v) (h : DataW.Trod enc Try.prog W bs sp hd 24 v d p) :
    ∃ x : Nat, W2 x ∧ v = .agg #[.int .u64 (hi x), .int .u64 (lo x)] ∧ p = [] ∧ ∀ (W' : World) (bs' : Nat) (sp' : Nat → Bool) (hd' : Bool), DataW.Trod enc Try.prog W' bs' sp' hd' 24 v d [] := by
  obtain ⟨c0, c1, y0, y1, m, rfl, rfl, rfl, hy0, hy1⟩ := open_agg2 Try.underlying24 (by kernel_rfl) Try.cells24 hv h
  obtain ⟨a, e0, rfl, wa⟩ := DataW.trod_int Try.underlying22 hy0
  obtain ⟨b, e1, rfl, wb⟩ := DataW.trod_int Try.underlying22 hy1
  simp at e0 e1
  subst e0 e1
  obtain ⟨a0, a1⟩ := word_of_wf wa
  obtain ⟨b0, b1⟩ := word_of_wf wb
  obtain ⟨x, hx, rfl, rfl⟩ := of_words a b a0 a1 b0 b1
  exact ⟨x, hx, rfl, rfl, fun W' bs' sp' hd' =>
    shut_agg2 (y0 := (.lit (.int .u64 (hi x)), [])) (y1 := (.lit (.int .u64 (lo x)), [])) Try.underlying24 (by kernel_rfl) Try.cells24 ⟨1, by simp [DataW.trod, Try.underlying22, wa]⟩ ⟨1, by simp [DataW.trod, Try.underlying22, wb]⟩⟩

end Go.Proofs.Ytifacdihhhcmnaa
