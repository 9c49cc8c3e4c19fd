/- By a cursor that is none nothing is read; a bare one has no bytes. No condition. -/
import Derived.Test.YtphgljhlamjmgaaOpn
import Derived.Test.YtphgljhlamjmgaaLawE
namespace Go.Proofs.Ytphgljhlamjmgaa
open Go.ChangeShapes Go.WideShapes Go.ChangeAt Go.RowKit Go.Joins

theorem scanNone_any {K n : Int} {W : World} : Calls Try.prog 4 #[.agg #[.int .i64 K, .int .i64 n]] W fun r W' => r = .returned (.bool true) ∧ Below W.heap.size W W' := none_any K n W

set_option maxRecDepth 100000 in
theorem scanNone_lifted (os : Os) (started : os.Started) (H : Type) (enc : TypeId × Value → H) :
    ReturnsInHanded {} Try.checked os 4 .any (Rows.scanNoneSpec.pre6 enc Try.prog Try.f4 Rows.scanNoneRow.domain false) (Rows.scanNoneSpec.post enc Try.prog Try.f4 false true false false) := by
  refine returnsInHanded_of_change (C := Try.checked) Try.own started (by kernel_rfl) Try.func4
    (ChangeSpec.witness6 (enc := enc) (C := Try.checked) false ⟨#[], #[.agg #[.int .i64 0, .int .i64 0]], []⟩ 8 (by kernel_rfl) (by kernel_rfl) (by kernel_rfl) (by kernel_rfl)) ?_
  intro W base args ds gs before hval0 hW hcnd _
  have hval : ∀ (j : Nat) t v, Try.f4.params[j]? = some t → args[j]? = some v → Value.okWide Try.prog W .any base t v := hval0
  have hW' := hW
  obtain ⟨p, q, hA0, hV, rfl, hfz, hnd⟩ := hW
  have hA : DataW.TrodAll enc Try.prog W 0 (fun _ => true) true Try.f4.params.toList args.toList ds p := hA0
  rw [Try.params4] at hA hval
  obtain ⟨v0, d0, rfl, rfl, h0⟩ := trodAll_one hA
  obtain ⟨rfl, rfl⟩ := trodVars_none hV
  obtain ⟨x0, y0, rfl⟩ := open_op (hval 0 31 v0 rfl rfl) h0
  clear hA0 hval0
  refine (scanNone_any ).mono fun e W' ⟨he, hb⟩ => ?_
  subst he
  exact ⟨_, rfl, ⟨_, _, _, [], _, [], hW', trodAll_mk1 (shut_bool Try.underlying4 _), trodAll_mk1 (carry h0 hb (by kernel_rfl) (by decide +kernel)), rfl, hb.frame _, fun h => by cases h⟩⟩

theorem scanNone_holds : Rows.ScanNoneSaid :=
  OpenClaim.holds_of_wide 4 Try.f4 rfl rfl rfl rfl rfl rfl rfl ⟨rfl, rfl, rfl, rfl, rfl⟩ rfl rfl rfl rfl rfl (by kernel_rfl) Try.func4 (by kernel_rfl)
    (of_decide_eq_true (by kernel_rfl)) (by unfold Func.isWrapper; first | (rw [if_pos (by decide +kernel)]; kernel_rfl) | (rw [if_neg (by decide +kernel)]; exact ⟨rfl, rfl⟩))
    (fun os started H enc _ => scanNone_lifted os started H enc)

#print axioms scanNone_holds
end Go.Proofs.Ytphgljhlamjmgaa
