/- For every Wide a and every int n the law WideLens answers true, and a and n read as before: what is shifted left without a loss has so many bits more and isn't below what it was, what is shifted right has so many less and isn't above it; no condition. -/
import Derived.Test.YtifacdihhhcmnaaLens
import Derived.Test.YtifacdihhhcmnaaLensB
import Derived.Test.YtifacdihhhcmnaaFrame
namespace Go.Proofs.Ytifacdihhhcmnaa
open Go.ChangeShapes Go.WideShapes Go.ChangeAt Go.RowKit Go.Joins

theorem lens_any (v : Nat) (n : Int) (w : World) (hv : W2 v) :
    Calls Try.prog 8 #[.agg #[.int .u64 (hi v), .int .u64 (lo v)], .int .i64 n] w fun e w' => e = .returned (.bool true) ∧ Below w.heap.size w w' := by
  have same : ∀ m : Int, m ≤ 0 → shlN v m = v := fun m hm => by
    unfold shlN; rw [show m.toNat = 0 by omega, Nat.pow_zero, Nat.mul_one]; exact Nat.mod_eq_of_lt hv
  by_cases c1 : n < 0
  · exact lens_same v n w hv (Or.inl c1) (by rw [same n (by omega)]; simp) (by rw [same n (by omega)]; simp)
  by_cases c2 : 128 < n
  · by_cases h1 : hi (shlN v n) = hi v
    · by_cases h2 : lo (shlN v n) = lo v
      · exact lens_same v n w hv (Or.inr (Or.inl ⟨c1, c2⟩)) (by simp [h1]) (by simp [h2])
      · exact lens_other v n w hv c1 c2 (Or.inl ⟨by simp [h1], by simp [h2]⟩)
    · exact lens_other v n w hv c1 c2 (Or.inr (by simp [h1]))
  by_cases c3 : Go.bitLen v = 0
  · have h0 := bitLen_zero.1 c3
    subst h0
    have e : shlN 0 n = 0 := by unfold shlN; rw [Nat.zero_mul, Nat.zero_mod]
    exact lens_same 0 n w hv (Or.inr (Or.inr ⟨c1, c2, by rw [c3]; rfl⟩)) (by rw [e]; simp) (by rw [e]; simp)
  · exact lens_long v n w hv c1 c2 (by simpa using c3)

set_option maxRecDepth 100000 in
theorem wideLens_lifted (os : Os) (started : os.Started) (H : Type) (enc : TypeId × Value → H) :
    ReturnsInHanded {} Try.checked os 8 .any (Rows.wideLensSpec.pre6 enc Try.prog Try.f8 Rows.wideLensRow.domain false) (Rows.wideLensSpec.post enc Try.prog Try.f8 false true false false) := by
  refine returnsInHanded_of_change (C := Try.checked) Try.own started (by kernel_rfl) Try.func8
    (ChangeSpec.witness6 (enc := enc) (C := Try.checked) false ⟨#[], #[.agg #[.int .u64 0, .int .u64 0], .int .i64 0], []⟩ 8 (by kernel_rfl) (by kernel_rfl) (by kernel_rfl) (by kernel_rfl)) ?_
  intro W base args ds gs before hval0 hW hcnd _
  have hval : ∀ (j : Nat) t v, Try.f8.params[j]? = some t → args[j]? = some v → Value.okWide Try.prog W .any base t v := hval0
  have hW' := hW
  obtain ⟨p, q, hA0, hV, rfl, hfz, hnd⟩ := hW
  have hA : DataW.TrodAll enc Try.prog W 0 (fun _ => true) true Try.f8.params.toList args.toList ds p := hA0
  rw [Try.params8] at hA hval
  obtain ⟨v0, v1, d0, d1, p0, p1, rfl, rfl, rfl, h0, h1⟩ := trodAll_two hA
  obtain ⟨rfl, rfl⟩ := trodVars_none hV
  obtain ⟨x, hx, rfl, rfl, rd⟩ := open_wide (hval 0 24 v0 rfl rfl) h0
  obtain ⟨n, rfl, rfl, rfl, wn⟩ := open_int Try.underlying3 (hval 1 3 v1 rfl rfl) h1
  clear hA0 hval0
  simp only [List.append_nil] at hW'
  refine (lens_any x n W hx).mono fun e W' ⟨he, hb⟩ => ?_
  subst he
  exact ⟨_, rfl, ⟨_, _, _, [], [], [], hW', trodAll_mk1 (shut_bool Try.underlying4 _), trodAll_mk2 (rd _ _ _ _) (shut_int Try.underlying3 wn), rfl, hb.frame _, fun h => by cases h⟩⟩

theorem wideLens_holds : Rows.WideLensSaid :=
  OpenClaim.holds_of_wide 8 Try.f8 rfl rfl rfl rfl rfl rfl rfl ⟨rfl, rfl, rfl, rfl, rfl⟩ rfl rfl rfl rfl rfl (by kernel_rfl) Try.func8 (by kernel_rfl)
    (of_decide_eq_true (by kernel_rfl)) (by unfold Func.isWrapper; first | (rw [if_pos (by decide +kernel)]; kernel_rfl) | (rw [if_neg (by decide +kernel)]; exact ⟨rfl, rfl⟩))
    (fun os started H enc _ => wideLens_lifted os started H enc)

#print axioms wideLens_holds
end Go.Proofs.Ytifacdihhhcmnaa
