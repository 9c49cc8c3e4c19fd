/- For every int w and all uint64 a, b the law IntsSums answers true, and the arguments read as before: any sum, difference and product of either width is the document's. No condition. -/
import Derived.Test.YtjlegmgpgfjciaaLawS
import Derived.Test.YtjlegmgpgfjciaaInR
import Derived.Test.YtjlegmgpgfjciaaNumber
namespace Go.Proofs.Ytjlegmgpgfjciaa
open Go.ChangeShapes Go.WideShapes Go.ChangeAt Go.RowKit Go.Joins
open Go.Proofs.Ytjlegmgpgfjciaa.W

theorem intsSums_any (w x y : Int) (W : World) (x0 : 0 ≤ x) (x1 : x < 18446744073709551616) (y0 : 0 ≤ y) (y1 : y < 18446744073709551616) :
    Calls Try.prog 3 #[.int .i64 w, .int .u64 x, .int .u64 y] W fun r W' => r = .returned (.bool true) ∧ Below W.heap.size W W' := by
  rcases wm_or w with k | ⟨n, H, M, k⟩
  · exact unhide (sums_n awake_any (add_no k x y) (sub_no k x y) (mul_no k x y) (known_N k)) W
  · exact unhide (sums_k awake_any (add_any k x y) (sub_any k x y) (mul_any k x y) (known_K k) (radd_K k ⟨x0, x1⟩ ⟨y0, y1⟩) (rsub_K k ⟨x0, x1⟩ ⟨y0, y1⟩) (rmul_K k ⟨x0, x1⟩ ⟨y0, y1⟩)) W

set_option maxRecDepth 100000 in
theorem intsSums_lifted (os : Os) (started : os.Started) (H : Type) (enc : TypeId × Value → H) :
    ReturnsInHanded {} Try.checked os 3 .any (Rows.intsSumsSpec.pre6 enc Try.prog Try.f3 Rows.intsSumsRow.domain false) (Rows.intsSumsSpec.post enc Try.prog Try.f3 false true false false) := by
  refine returnsInHanded_of_change (C := Try.checked) Try.own started (by kernel_rfl) Try.func3
    (ChangeSpec.witness6 (enc := enc) (C := Try.checked) false ⟨#[], #[.int .i64 0, .int .u64 0, .int .u64 0], []⟩ 8 (by kernel_rfl) (by kernel_rfl) (by kernel_rfl) (by kernel_rfl)) ?_
  intro W base args ds gs before hval0 hW hcnd _
  have hval : ∀ (j : Nat) t v, Try.f3.params[j]? = some t → args[j]? = some v → Value.okWide Try.prog W .any base t v := hval0
  have hW' := hW
  obtain ⟨p, q, hA0, hV, rfl, hfz, hnd⟩ := hW
  have hA : DataW.TrodAll enc Try.prog W 0 (fun _ => true) true Try.f3.params.toList args.toList ds p := hA0
  rw [Try.params3] at hA hval
  obtain ⟨v0, v1, v2, d0, d1, d2, p0, p1, p2, rfl, rfl, rfl, h0, h1, h2⟩ := trodAll_three hA
  obtain ⟨rfl, rfl⟩ := trodVars_none hV
  obtain ⟨w, rfl, rfl, rfl, ww⟩ := open_int Try.underlying3 (hval 0 3 v0 rfl rfl) h0
  obtain ⟨x, rfl, rfl, rfl, wx⟩ := open_int Try.underlying22 (hval 1 22 v1 rfl rfl) h1
  obtain ⟨y, rfl, rfl, rfl, wy⟩ := open_int Try.underlying22 (hval 2 22 v2 rfl rfl) h2
  clear hA0 hval0
  simp only [List.append_nil] at hW'
  refine (intsSums_any w x y W  (word_of_wf wx).1 (word_of_wf wx).2 (word_of_wf wy).1 (word_of_wf wy).2).mono fun e W' ⟨he, hb⟩ => ?_
  subst he
  exact ⟨_, rfl, ⟨_, _, _, [], [], [], hW', trodAll_mk1 (shut_bool Try.underlying4 _), trodAll_mk3 (shut_int Try.underlying3 ww) (shut_int Try.underlying22 wx) (shut_int Try.underlying22 wy), rfl, hb.frame _, fun h => by cases h⟩⟩

theorem intsSums_holds : Rows.IntsSumsSaid :=
  OpenClaim.holds_of_wide 3 Try.f3 rfl rfl rfl rfl rfl rfl rfl ⟨rfl, rfl, rfl, rfl, rfl⟩ rfl rfl rfl rfl rfl (by kernel_rfl) Try.func3 (by kernel_rfl)
    (of_decide_eq_true (by kernel_rfl)) (by unfold Func.isWrapper; first | (rw [if_pos (by decide +kernel)]; kernel_rfl) | (rw [if_neg (by decide +kernel)]; exact ⟨rfl, rfl⟩))
    (fun os started H enc _ => intsSums_lifted os started H enc)

#print axioms intsSums_holds
end Go.Proofs.Ytjlegmgpgfjciaa
