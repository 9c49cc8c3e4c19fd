/- For every rune the law UtfPuts answers true, and it reads as before: any number has the document's bytes, or is no character; no condition. -/
import Derived.Test.YtfjoejgioinfhaaLawP
import Derived.Test.YtfjoejgioinfhaaOpn
namespace Go.Proofs.Ytfjoejgioinfhaa
open Go.ChangeShapes Go.WideShapes Go.ChangeAt Go.RowKit Go.Joins

theorem utfPuts_any (x : Int) (W : World) (x0 : -2147483648 ≤ x) (x1 : x < 2147483648) : Calls Try.prog 4 #[.int .i32 x] W fun r W' => r = .returned (.bool true) ∧ Below W.heap.size W W' := puts_any x W x0 x1

set_option maxRecDepth 100000 in
theorem utfPuts_lifted (os : Os) (started : os.Started) (H : Type) (enc : TypeId × Value → H) :
    ReturnsInHanded {} Try.checked os 4 .any (Rows.utfPutsSpec.pre6 enc Try.prog Try.f4 Rows.utfPutsRow.domain false) (Rows.utfPutsSpec.post enc Try.prog Try.f4 false true false false) := by
  refine returnsInHanded_of_change (C := Try.checked) Try.own started (by kernel_rfl) Try.func4
    (ChangeSpec.witness6 (enc := enc) (C := Try.checked) false ⟨#[], #[.int .i32 0], []⟩ 8 (by kernel_rfl) (by kernel_rfl) (by kernel_rfl) (by kernel_rfl)) ?_
  intro W base args ds gs before hval0 hW hcnd _
  have hval : ∀ (j : Nat) t v, Try.f4.params[j]? = some t → args[j]? = some v → Value.okWide Try.prog W .any base t v := hval0
  have hW' := hW
  obtain ⟨p, q, hA0, hV, rfl, hfz, hnd⟩ := hW
  have hA : DataW.TrodAll enc Try.prog W 0 (fun _ => true) true Try.f4.params.toList args.toList ds p := hA0
  rw [Try.params4] at hA hval
  obtain ⟨v0, d0, rfl, rfl, h0⟩ := trodAll_one hA
  obtain ⟨rfl, rfl⟩ := trodVars_none hV
  obtain ⟨x0, rfl, rfl, rfl, w0⟩ := open_int Try.underlying21 (hval 0 21 v0 rfl rfl) h0
  clear hA0 hval0
  simp only [List.append_nil] at hW'
  refine (utfPuts_any x0 W (rune_of_wf w0).1 (rune_of_wf w0).2).mono fun e W' ⟨he, hb⟩ => ?_
  subst he
  exact ⟨_, rfl, ⟨_, _, _, [], [], [], hW', trodAll_mk1 (shut_bool Try.underlying4 _), trodAll_mk1 (shut_int Try.underlying21 w0), rfl, hb.frame _, fun h => by cases h⟩⟩

theorem utfPuts_holds : Rows.UtfPutsSaid :=
  OpenClaim.holds_of_wide 4 Try.f4 rfl rfl rfl rfl rfl rfl rfl ⟨rfl, rfl, rfl, rfl, rfl⟩ rfl rfl rfl rfl rfl (by kernel_rfl) Try.func4 (by kernel_rfl)
    (of_decide_eq_true (by kernel_rfl)) (by unfold Func.isWrapper; first | (rw [if_pos (by decide +kernel)]; kernel_rfl) | (rw [if_neg (by decide +kernel)]; exact ⟨rfl, rfl⟩))
    (fun os started H enc _ => utfPuts_lifted os started H enc)

#print axioms utfPuts_holds
end Go.Proofs.Ytfjoejgioinfhaa
