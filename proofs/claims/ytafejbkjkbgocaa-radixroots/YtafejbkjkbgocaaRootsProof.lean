/- For every int w and word a the law RadixRoots answers true, and w and a read as before: any float of either width has the root of the document; no condition. -/
import Derived.Test.YtafejbkjkbgocaaG33
import Derived.Test.YtafejbkjkbgocaaG35
namespace Go.Proofs.Ytafejbkjkbgocaa
open Go.ChangeShapes Go.WideShapes Go.ChangeAt Go.RowKit Go.Joins
open Go.Proofs.Ytafejbkjkbgocaa.W

theorem radixRoots_any (w x : Int) (W : World) (x0 : 0 ≤ x) (x1 : x < 18446744073709551616) :
    Calls Try.prog 3 #[.int .i64 w, .int .u64 x] W fun r W' => r = .returned (.bool true) ∧ Below W.heap.size W W' := by
  obtain ⟨e, f, P, Q, b, h⟩ := wd_ex w
  have HK := fun W => refKnown_any h W
  have HW := hide awake_any
  by_cases hf : f = 0
  · rw [ne_f hf] at HK
    exact roots_f W HW (hide (fun W => sqrt_no h hf W x0 x1)) (hide HK)
  · have k := h.known hf
    rw [ne_t hf] at HK
    obtain ⟨c, hc⟩ := isR_ex f P Q b x
    exact roots_t W HW (hide (fun W => sqrt_any k W x0 x1 hc)) (hide HK) (hide (fun W => refSqrt_any k W x0 x1 hc))

set_option maxRecDepth 100000 in
theorem radixRoots_lifted (os : Os) (started : os.Started) (H : Type) (enc : TypeId × Value → H) :
    ReturnsInHanded {} Try.checked os 3 .any (Rows.radixRootsSpec.pre6 enc Try.prog Try.f3 Rows.radixRootsRow.domain false) (Rows.radixRootsSpec.post enc Try.prog Try.f3 false true false false) := by
  refine returnsInHanded_of_change (C := Try.checked) Try.own started (by kernel_rfl) Try.func3
    (ChangeSpec.witness6 (enc := enc) (C := Try.checked) false ⟨#[], #[.int .i64 0, .int .u64 0], []⟩ 8 (by kernel_rfl) (by kernel_rfl) (by kernel_rfl) (by kernel_rfl)) ?_
  intro W base args ds gs before hval0 hW hcnd _
  have hval : ∀ (j : Nat) t v, Try.f3.params[j]? = some t → args[j]? = some v → Value.okWide Try.prog W .any base t v := hval0
  have hW' := hW
  obtain ⟨p, q, hA0, hV, rfl, hfz, hnd⟩ := hW
  have hA : DataW.TrodAll enc Try.prog W 0 (fun _ => true) true Try.f3.params.toList args.toList ds p := hA0
  rw [Try.params3] at hA hval
  obtain ⟨v0, v1, d0, d1, p0, p1, rfl, rfl, rfl, h0, h1⟩ := trodAll_two hA
  obtain ⟨rfl, rfl⟩ := trodVars_none hV
  obtain ⟨w, rfl, rfl, rfl, ww⟩ := open_int Try.underlying3 (hval 0 3 v0 rfl rfl) h0
  obtain ⟨x, rfl, rfl, rfl, wx⟩ := open_int Try.underlying22 (hval 1 22 v1 rfl rfl) h1
  clear hA0 hval0
  simp only [List.append_nil] at hW'
  refine (radixRoots_any w x W  (word_of_wf wx).1 (word_of_wf wx).2).mono fun e W' ⟨he, hb⟩ => ?_
  subst he
  exact ⟨_, rfl, ⟨_, _, _, [], [], [], hW', trodAll_mk1 (shut_bool Try.underlying4 _), trodAll_mk2 (shut_int Try.underlying3 ww) (shut_int Try.underlying22 wx), rfl, hb.frame _, fun h => by cases h⟩⟩

theorem radixRoots_holds : Rows.RadixRootsSaid :=
  OpenClaim.holds_of_wide 3 Try.f3 rfl rfl rfl rfl rfl rfl rfl ⟨rfl, rfl, rfl, rfl, rfl⟩ rfl rfl rfl rfl rfl (by kernel_rfl) Try.func3 (by kernel_rfl)
    (of_decide_eq_true (by kernel_rfl)) (by unfold Func.isWrapper; first | (rw [if_pos (by decide +kernel)]; kernel_rfl) | (rw [if_neg (by decide +kernel)]; exact ⟨rfl, rfl⟩))
    (fun os started H enc _ => radixRoots_lifted os started H enc)

#print axioms radixRoots_holds
end Go.Proofs.Ytafejbkjkbgocaa
