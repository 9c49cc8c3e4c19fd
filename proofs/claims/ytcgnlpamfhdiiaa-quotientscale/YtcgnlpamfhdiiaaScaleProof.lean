/- For every int w, word a and int k the law QuotientScale answers true, and w, a and k read as before: a number by a power of two is scaled by it; no condition. -/
import Derived.Test.YtcgnlpamfhdiiaaG20
namespace Go.Proofs.Ytcgnlpamfhdiiaa
open Go.ChangeShapes Go.WideShapes Go.ChangeAt Go.RowKit Go.Joins
open Go.Proofs.Ytcgnlpamfhdiiaa.W

theorem quotientScale_any (w x N : Int) (W : World) (x0 : 0 ≤ x) (x1 : x < 18446744073709551616) :
    Calls Try.prog 5 #[.int .i64 w, .int .u64 x, .int .i64 N] W fun r W' => r = .returned (.bool true) ∧ Below W.heap.size W W' := by
  obtain ⟨e, f, P, Q, b, h⟩ := wd_ex w
  have HK := fun W => refKnown_any h W
  have HW := hide awake_any
  by_cases hf : f = 0
  · rw [ne_f hf] at HK
    exact scale_f W HW (hide HK)
  · have k := h.known hf
    rw [ne_t hf] at HK
    have HB := hide (fun W => refB_any k W)
    have hb : 127 ≤ b ∧ b ≤ 1023 ∧ Q = 2 * b + 2 := by rcases k with ⟨-, -, -, -, rfl, rfl⟩ | ⟨-, -, -, -, rfl, rfl⟩ <;> omega
    obtain ⟨p1, p2, q1, q2⟩ := k.pos
    have kb : IntKind.i64.wrap (-b) = -b := i64_id (by omega) (by omega)
    by_cases h1 : N ≤ -b
    · exact scale_a W HW (hide HK) HB kb h1
    by_cases h2 : b < N
    · exact scale_b W HW (hide HK) HB kb h1 h2
    obtain ⟨o0, o1, -⟩ := pow_any (E := N + b) k (by omega) (by omega)
    have HA := fun W => div_any k W x0 x1 o0 o1
    rw [div_pow k x (by omega) (by omega), show 5000 + (N + b) - b = 5000 - -N by omega] at HA
    exact scale_t W HW (hide HK) HB kb h1 h2 (i64_id (by omega) (by omega)) (i64_id (by omega) (by omega)) (hide (fun W => make_any false (N + b) 0 k W (by omega) (by omega) (by omega) (by omega))) (hide HA) (hide (fun W => scale_pow k (-N) x0 x1 (by omega) (by omega) W))

set_option maxRecDepth 100000 in
theorem quotientScale_lifted (os : Os) (started : os.Started) (H : Type) (enc : TypeId × Value → H) :
    ReturnsInHanded {} Try.checked os 5 .any (Rows.quotientScaleSpec.pre6 enc Try.prog Try.f5 Rows.quotientScaleRow.domain false) (Rows.quotientScaleSpec.post enc Try.prog Try.f5 false true false false) := by
  refine returnsInHanded_of_change (C := Try.checked) Try.own started (by kernel_rfl) Try.func5
    (ChangeSpec.witness6 (enc := enc) (C := Try.checked) false ⟨#[], #[.int .i64 0, .int .u64 0, .int .i64 0], []⟩ 8 (by kernel_rfl) (by kernel_rfl) (by kernel_rfl) (by kernel_rfl)) ?_
  intro W base args ds gs before hval0 hW hcnd _
  have hval : ∀ (j : Nat) t v, Try.f5.params[j]? = some t → args[j]? = some v → Value.okWide Try.prog W .any base t v := hval0
  have hW' := hW
  obtain ⟨p, q, hA0, hV, rfl, hfz, hnd⟩ := hW
  have hA : DataW.TrodAll enc Try.prog W 0 (fun _ => true) true Try.f5.params.toList args.toList ds p := hA0
  rw [Try.params5] at hA hval
  obtain ⟨v0, v1, v2, d0, d1, d2, p0, p1, p2, rfl, rfl, rfl, h0, h1, h2⟩ := trodAll_three hA
  obtain ⟨rfl, rfl⟩ := trodVars_none hV
  obtain ⟨w, rfl, rfl, rfl, ww⟩ := open_int Try.underlying3 (hval 0 3 v0 rfl rfl) h0
  obtain ⟨x, rfl, rfl, rfl, wx⟩ := open_int Try.underlying22 (hval 1 22 v1 rfl rfl) h1
  obtain ⟨y, rfl, rfl, rfl, wy⟩ := open_int Try.underlying3 (hval 2 3 v2 rfl rfl) h2
  clear hA0 hval0
  simp only [List.append_nil] at hW'
  refine (quotientScale_any w x y W  (word_of_wf wx).1 (word_of_wf wx).2 ).mono fun e W' ⟨he, hb⟩ => ?_
  subst he
  exact ⟨_, rfl, ⟨_, _, _, [], [], [], hW', trodAll_mk1 (shut_bool Try.underlying4 _), trodAll_mk3 (shut_int Try.underlying3 ww) (shut_int Try.underlying22 wx) (shut_int Try.underlying3 wy), rfl, hb.frame _, fun h => by cases h⟩⟩

theorem quotientScale_holds : Rows.QuotientScaleSaid :=
  OpenClaim.holds_of_wide 5 Try.f5 rfl rfl rfl rfl rfl rfl rfl ⟨rfl, rfl, rfl, rfl, rfl⟩ rfl rfl rfl rfl rfl (by kernel_rfl) Try.func5 (by kernel_rfl)
    (of_decide_eq_true (by kernel_rfl)) (by unfold Func.isWrapper; first | (rw [if_pos (by decide +kernel)]; kernel_rfl) | (rw [if_neg (by decide +kernel)]; exact ⟨rfl, rfl⟩))
    (fun os started H enc _ => quotientScale_lifted os started H enc)

#print axioms quotientScale_holds
end Go.Proofs.Ytcgnlpamfhdiiaa
