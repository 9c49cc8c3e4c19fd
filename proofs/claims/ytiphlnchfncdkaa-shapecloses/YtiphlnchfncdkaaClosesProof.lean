/- For every int w and all Parts p the law ShapeCloses answers true, and w and p read as before: any parts are put together as the document says, or refused; no condition. -/
import Derived.Test.YtiphlnchfncdkaaCloses
import Derived.ProofKit
import Derived.Lib.SmallJoins
namespace Go.Proofs.Ytiphlnchfncdkaa
open Go.ChangeShapes Go.WideShapes Go.ChangeAt Go.RowKit Go.Joins

theorem Try.own : ownKnob Try.prog.godebug = none := by kernel_rfl
theorem Try.cells25 : Try.prog.cellsOf 25 = 4 := by kernel_rfl

theorem word_of_wf {x : Int} (h : (Lit.int .u64 x).wf = true) : 0 ≤ x ∧ x < 18446744073709551616 := by
  simp [Lit.wf, IntKind.min, IntKind.max, IntKind.signed, IntKind.bits] at h
  exact ⟨by omega, by omega⟩

/-- Parts that came in, and how they read in any later memory. -/
theorem open_parts {H : Type} {enc : TypeId × Value → H} {W : World} {base : Nat} {v : Value} {d : DataW H} {p : List MemPlace} {bs : Nat} {sp : Nat → Bool} {hd : Bool}
    (hv : Value.okWide Try.prog W .any base 25 v) (h : DataW.Trod enc Try.prog W bs sp hd 25 v d p) :
    ∃ (n : Bool) (K X S : Int), (0 ≤ S ∧ S < 18446744073709551616) ∧ v = .agg #[.bool n, .int .i64 K, .int .i64 X, .int .u64 S] ∧ p = [] ∧ ∀ (W' : World) (bs' : Nat) (sp' : Nat → Bool) (hd' : Bool), DataW.Trod enc Try.prog W' bs' sp' hd' 25 v d [] := by
  obtain ⟨c0, c1, c2, c3, y0, y1, y2, y3, m, rfl, rfl, rfl, hy0, hy1, hy2, hy3⟩ := open_agg4 Try.underlying25 (by kernel_rfl) Try.cells25 hv h
  obtain ⟨n, e0, rfl⟩ := DataW.trod_bool Try.underlying4 hy0
  obtain ⟨K, e1, rfl, wK⟩ := DataW.trod_int Try.underlying3 hy1
  obtain ⟨X, e2, rfl, wX⟩ := DataW.trod_int Try.underlying3 hy2
  obtain ⟨S, e3, rfl, wS⟩ := DataW.trod_int Try.underlying22 hy3
  simp at e0 e1 e2 e3
  subst e0 e1 e2 e3
  exact ⟨n, K, X, S, word_of_wf wS, rfl, rfl, fun W' bs' sp' hd' =>
    shut_agg4 (y0 := (.lit (.bool n), [])) (y1 := (.lit (.int .i64 K), [])) (y2 := (.lit (.int .i64 X), [])) (y3 := (.lit (.int .u64 S), [])) Try.underlying25 (by kernel_rfl) Try.cells25
      ⟨1, by simp [DataW.trod, Try.underlying4]⟩ ⟨1, by simp [DataW.trod, Try.underlying3, wK]⟩ ⟨1, by simp [DataW.trod, Try.underlying3, wX]⟩ ⟨1, by simp [DataW.trod, Try.underlying22, wS]⟩⟩

set_option maxRecDepth 100000 in
theorem shapeCloses_lifted (os : Os) (started : os.Started) (H : Type) (enc : TypeId × Value → H) :
    ReturnsInHanded {} Try.checked os 5 .any (Rows.shapeClosesSpec.pre6 enc Try.prog Try.f5 Rows.shapeClosesRow.domain false) (Rows.shapeClosesSpec.post enc Try.prog Try.f5 false true false false) := by
  refine returnsInHanded_of_change (C := Try.checked) Try.own started (by kernel_rfl) Try.func5
    (ChangeSpec.witness6 (enc := enc) (C := Try.checked) false ⟨#[], #[.int .i64 0, .agg #[.bool false, .int .i64 0, .int .i64 0, .int .u64 0]], []⟩ 8 (by kernel_rfl) (by kernel_rfl) (by kernel_rfl) (by kernel_rfl)) ?_
  intro W base args ds gs before hval0 hW hcnd _
  have hval : ∀ (j : Nat) t v, Try.f5.params[j]? = some t → args[j]? = some v → Value.okWide Try.prog W .any base t v := hval0
  have hW' := hW
  obtain ⟨p, q, hA0, hV, rfl, hfz, hnd⟩ := hW
  have hA : DataW.TrodAll enc Try.prog W 0 (fun _ => true) true Try.f5.params.toList args.toList ds p := hA0
  rw [Try.params5] at hA hval
  obtain ⟨v0, v1, d0, d1, p0, p1, rfl, rfl, rfl, h0, h1⟩ := trodAll_two hA
  obtain ⟨rfl, rfl⟩ := trodVars_none hV
  obtain ⟨w, rfl, rfl, rfl, ww⟩ := open_int Try.underlying3 (hval 0 3 v0 rfl rfl) h0
  obtain ⟨n, K, X, S, hS, rfl, rfl, rd⟩ := open_parts (hval 1 25 v1 rfl rfl) h1
  clear hA0 hval0
  simp only [List.append_nil] at hW'
  refine (closes_any w n K X S W hS.1 hS.2).mono fun e W' ⟨he, hb⟩ => ?_
  subst he
  exact ⟨_, rfl, ⟨_, _, _, [], [], [], hW', trodAll_mk1 (shut_bool Try.underlying4 _), trodAll_mk2 (shut_int Try.underlying3 ww) (rd _ _ _ _), rfl, hb.frame _, fun h => by cases h⟩⟩

theorem shapeCloses_holds : Rows.ShapeClosesSaid :=
  OpenClaim.holds_of_wide 5 Try.f5 rfl rfl rfl rfl rfl rfl rfl ⟨rfl, rfl, rfl, rfl, rfl⟩ rfl rfl rfl rfl rfl (by kernel_rfl) Try.func5 (by kernel_rfl)
    (of_decide_eq_true (by kernel_rfl)) (by unfold Func.isWrapper; first | (rw [if_pos (by decide +kernel)]; kernel_rfl) | (rw [if_neg (by decide +kernel)]; exact ⟨rfl, rfl⟩))
    (fun os started H enc _ => shapeCloses_lifted os started H enc)

#print axioms shapeCloses_holds
end Go.Proofs.Ytiphlnchfncdkaa
