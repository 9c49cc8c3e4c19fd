/- How the rows' arguments are read: a number that is rounded, parts, and how they read back. -/
import Derived.Test.YtiklaalcmfkddaaWhole
import Derived.ProofKit
import Derived.Lib.SmallJoins
namespace Go.Proofs.Ytiklaalcmfkddaa
open Go.ChangeShapes Go.WideShapes Go.ChangeAt Go.RowKit Go.Joins
open Go.Proofs.Ytiklaalcmfkddaa.W

theorem Try.own : ownKnob Try.prog.godebug = none := by kernel_rfl
theorem Try.cells3 : Try.prog.cellsOf 3 = 1 := by kernel_rfl
theorem Try.cells4 : Try.prog.cellsOf 4 = 1 := by kernel_rfl
theorem Try.cells22 : Try.prog.cellsOf 22 = 1 := by kernel_rfl
theorem Try.cells24 : Try.prog.cellsOf 24 = 2 := by kernel_rfl
theorem Try.cells26 : Try.prog.cellsOf 26 = 5 := by kernel_rfl
theorem Try.cells33 : Try.prog.cellsOf 33 = 4 := by kernel_rfl

theorem word_of_wf {x : Int} (h : (Lit.int .u64 x).wf = true) : 0 ≤ x ∧ x < 18446744073709551616 := by
  simp [Lit.wf, IntKind.min, IntKind.max, IntKind.signed, IntKind.bits] at h
  exact ⟨by omega, by omega⟩

theorem array5 {α : Type} {cs : Array α} (h : cs.size = 5) : ∃ c0 c1 c2 c3 c4, cs = #[c0, c1, c2, c3, c4] := by
  obtain ⟨l⟩ := cs
  match l, h with
  | [c0, c1, c2, c3, c4], _ => exact ⟨c0, c1, c2, c3, c4, rfl⟩

/-- A number that came in, and how it reads in any later memory. -/
theorem open_number {H : Type} {enc : TypeId × Value → H} {W : World} {base : Nat} {v : Value} {d : DataW H} {p : List MemPlace} {bs : Nat} {sp : Nat → Bool} {hd : Bool}
    (hv : Value.okWide Try.prog W .any base 26 v) (h : DataW.Trod enc Try.prog W bs sp hd 26 v d p) :
    ∃ (n m : Bool) (x : Nat) (X : Int), W2 x ∧ v = .agg #[.bool n, .int .u64 (hi x), .int .u64 (lo x), .int .i64 X, .bool m] ∧ p = [] ∧ ∀ (W' : World) (bs' : Nat) (sp' : Nat → Bool) (hd' : Bool), DataW.Trod enc Try.prog W' bs' sp' hd' 26 v d [] := by
  obtain ⟨cs, rfl, hsz⟩ := okWide_struct Try.underlying26 hv
  obtain ⟨c0, c1, c2, c3, c4, rfl⟩ := array5 (hsz.trans Try.cells26)
  obtain ⟨fuel, hf⟩ := h
  obtain ⟨y0, y1, y2, y3, k, hx, _, h0, h1, h2, h3⟩ := trod_struct4 Try.underlying26 hf
  simp [Value.cells, Try.cells3, Try.cells4, Try.cells24] at h0 h1 h2 h3
  obtain ⟨z0, z1, k', hz, _, g0, g1⟩ := trod_struct2 Try.underlying24 h1
  simp [Try.cells22] at g0 g1
  obtain ⟨n, e0, rfl⟩ := DataW.trod_bool Try.underlying4 h0
  obtain ⟨a, e1, rfl, wa⟩ := DataW.trod_int Try.underlying22 g0
  obtain ⟨b, e2, rfl, wb⟩ := DataW.trod_int Try.underlying22 g1
  obtain ⟨X, e3, rfl, wX⟩ := DataW.trod_int Try.underlying3 h2
  obtain ⟨m, e4, rfl⟩ := DataW.trod_bool Try.underlying4 h3
  simp at e0 e1 e2 e3 e4
  subst e0 e1 e2 e3 e4 hz
  simp only [Prod.mk.injEq] at hx
  obtain ⟨rfl, rfl⟩ := hx
  obtain ⟨a0, a1⟩ := word_of_wf wa
  obtain ⟨b0, b1⟩ := word_of_wf wb
  obtain ⟨x, hx, rfl, rfl⟩ := of_words a b a0 a1 b0 b1
  refine ⟨n, m, x, X, hx, rfl, rfl, fun W' bs' sp' hd' => ?_⟩
  have t24 : DataW.trod enc Try.prog W' bs' sp' hd' (1 + 1) 24 [.int .u64 (hi x), .int .u64 (lo x)] = some (.agg [.lit (.int .u64 (hi x)), .lit (.int .u64 (lo x))], []) := by
    have := trod_struct_mk (enc := enc) (w := W') (base := bs') (spare := sp') (held := hd') (n := 1) (cs := [.int .u64 (hi x), .int .u64 (lo x)]) (xs := [(.lit (.int .u64 (hi x)), []), (.lit (.int .u64 (lo x)), [])]) Try.underlying24 (by simp [Try.cells24]) (by simp [Try.cells22, DataW.trod, Try.underlying22, wa, wb])
    simpa using this
  have t26 := trod_struct4_mk (enc := enc) (w := W') (base := bs') (spare := sp') (held := hd') (n := 1 + 1) (cs := [.bool n, .int .u64 (hi x), .int .u64 (lo x), .int .i64 X, .bool m])
    (y0 := (.lit (.bool n), [])) (y1 := (.agg [.lit (.int .u64 (hi x)), .lit (.int .u64 (lo x))], [])) (y2 := (.lit (.int .i64 X), [])) (y3 := (.lit (.bool m), [])) Try.underlying26 (by simp [Try.cells26])
    (by simp [Try.cells4, DataW.trod, Try.underlying4]) (by simp [Try.cells24]; exact t24) (by simp [Try.cells3, DataW.trod, Try.underlying3, wX]) (by simp [Try.cells4, DataW.trod, Try.underlying4])
  exact ⟨_, by simpa [Value.cells] using t26⟩

/-- Parts that came in, and how they read in any later memory. -/
theorem open_parts {H : Type} {enc : TypeId × Value → H} {W : World} {base : Nat} {v : Value} {d : DataW H} {p : List MemPlace} {bs : Nat} {sp : Nat → Bool} {hd : Bool}
    (hv : Value.okWide Try.prog W .any base 33 v) (h : DataW.Trod enc Try.prog W bs sp hd 33 v d p) :
    ∃ (n : Bool) (K X S : Int), (0 ≤ S ∧ S < 18446744073709551616) ∧ v = .agg #[.bool n, .int .i64 K, .int .i64 X, .int .u64 S] ∧ p = [] ∧ ∀ (W' : World) (bs' : Nat) (sp' : Nat → Bool) (hd' : Bool), DataW.Trod enc Try.prog W' bs' sp' hd' 33 v d [] := by
  obtain ⟨c0, c1, c2, c3, y0, y1, y2, y3, m, rfl, rfl, rfl, hy0, hy1, hy2, hy3⟩ := open_agg4 Try.underlying33 (by kernel_rfl) Try.cells33 hv h
  obtain ⟨n, e0, rfl⟩ := DataW.trod_bool Try.underlying4 hy0
  obtain ⟨K, e1, rfl, wK⟩ := DataW.trod_int Try.underlying3 hy1
  obtain ⟨X, e2, rfl, wX⟩ := DataW.trod_int Try.underlying3 hy2
  obtain ⟨S, e3, rfl, wS⟩ := DataW.trod_int Try.underlying22 hy3
  simp at e0 e1 e2 e3
  subst e0 e1 e2 e3
  exact ⟨n, K, X, S, word_of_wf wS, rfl, rfl, fun W' bs' sp' hd' =>
    shut_agg4 (y0 := (.lit (.bool n), [])) (y1 := (.lit (.int .i64 K), [])) (y2 := (.lit (.int .i64 X), [])) (y3 := (.lit (.int .u64 S), [])) Try.underlying33 (by kernel_rfl) Try.cells33
      ⟨1, by simp [DataW.trod, Try.underlying4]⟩ ⟨1, by simp [DataW.trod, Try.underlying3, wK]⟩ ⟨1, by simp [DataW.trod, Try.underlying3, wX]⟩ ⟨1, by simp [DataW.trod, Try.underlying22, wS]⟩⟩

end Go.Proofs.Ytiklaalcmfkddaa
