/- For every int w and every word bits the law ShapeBack answers true, and w and bits read as before: what is opened is closed as it was, no number as the canonical one, and a finite one that isn't nought has at least one bit and at most one more than the fraction's field; no condition. -/
import Derived.Test.YtiphlnchfncdkaaBack
import Derived.ProofKit
import Derived.Lib.SmallJoins
namespace Go.Proofs.Ytiphlnchfncdkaa
open Go.ChangeShapes Go.WideShapes Go.ChangeAt Go.RowKit Go.Joins

theorem Try.own : ownKnob Try.prog.godebug = none := by kernel_rfl

theorem put_in {w e f P Q b x y : Int} {n : Bool} (h : Kd w e f P Q b) (x0 : 0 ≤ x) (x1 : x < Q) (y0 : 0 ≤ y) (y1 : y < P) :
    0 ≤ put f P Q n x y ∧ put f P Q n x y < 18446744073709551616 ∧ cutN f P Q (put f P Q n x y) = put f P Q n x y ∧ put f P Q n x y / P % Q = x ∧ put f P Q n x y % P = y := by
  unfold cutN
  rw [if_neg h.f0]
  cases n
  · rw [put_no h.f0]
    rcases h with ⟨-, -, -, rfl, rfl, -⟩ | ⟨-, -, -, rfl, rfl, -⟩
    · refine ⟨by omega, by omega, ?_, by omega, by omega⟩
      exact Int.emod_eq_of_lt (by omega) (by omega)
    · refine ⟨by omega, by omega, ?_, by omega, by omega⟩
      exact Int.emod_eq_of_lt (by omega) (by omega)
  · rw [put_yes h.f0]
    rcases h with ⟨-, -, -, rfl, rfl, -⟩ | ⟨-, -, -, rfl, rfl, -⟩
    · refine ⟨by omega, by omega, ?_, by omega, by omega⟩
      exact Int.emod_eq_of_lt (by omega) (by omega)
    · refine ⟨by omega, by omega, ?_, by omega, by omega⟩
      exact Int.emod_eq_of_lt (by omega) (by omega)

theorem back_math {w e f P Q b x y K X S : Int} {n N : Bool} (h : Kd w e f P Q b) (ho : Opened f P Q b n x y N K X S) (x0 : 0 ≤ x) (x1 : x < Q) (y0 : 0 ≤ y) (y1 : y < P) :
    0 ≤ S ∧ S < 2 * P ∧ ((K = 3 ∧ Closed f P Q b N K X S (put f P Q false (Q - 1) (P / 2)) 0) ∨ (K ≠ 3 ∧ Closed f P Q b N K X S (put f P Q n x y) 0 ∧ (K = 1 → 1 ≤ S))) := by
  obtain ⟨p1, p2, q1, q2⟩ := h.pos
  rcases ho with ⟨a, -⟩ | ⟨-, c, d, rfl, rfl, rfl, rfl⟩ | ⟨-, c, d, rfl, rfl, rfl, rfl⟩ | ⟨-, c, d, rfl, rfl, rfl, rfl⟩ | ⟨-, c, d, g, rfl, rfl, rfl, rfl⟩ | ⟨-, c, d, g, rfl, rfl, rfl, rfl⟩
  · exact absurd a h.f0
  · exact ⟨by omega, by omega, Or.inl ⟨rfl, Or.inr (Or.inr (Or.inr (Or.inl ⟨rfl, rfl, rfl, rfl, rfl⟩)))⟩⟩
  · exact ⟨by omega, by omega, Or.inr ⟨by omega, Or.inr (Or.inr (Or.inl ⟨rfl, rfl, rfl, by rw [c, d], rfl⟩)), by omega⟩⟩
  · refine ⟨by omega, by omega, Or.inr ⟨by omega, Or.inl ⟨rfl, Or.inr (Or.inl ⟨by omega, by omega, by omega, by omega, ?_, rfl⟩)⟩, by omega⟩⟩
    rw [show x - b - f + b + f = x by omega, Int.add_emod_left, Int.emod_eq_of_lt y0 y1]
  · refine ⟨by omega, by omega, Or.inr ⟨by omega, Or.inl ⟨rfl, Or.inl ⟨by omega, g, rfl, ?_, rfl⟩⟩, by omega⟩⟩
    rw [d, Int.emod_eq_of_lt y0 y1]
  · exact ⟨by omega, by omega, Or.inr ⟨by omega, Or.inr (Or.inl ⟨rfl, rfl, rfl, by rw [d, g], rfl⟩), by omega⟩⟩

theorem back_any (w x : Int) (W : World) (h0 : 0 ≤ x) (h1 : x < 18446744073709551616) :
    Calls Try.prog 6 #[.int .i64 w, .int .u64 x] W fun r W' => r = .returned (.bool true) ∧ Below W.heap.size W W' := by
  obtain ⟨e, f, P, Q, b, h⟩ := wd_ex w
  by_cases hf : f = 0
  · refine back_no w x W ?_
    rcases h with h | h | h
    · omega
    · omega
    · exact h.1
  have hk := h.known hf
  obtain ⟨p1, p2, q1, q2⟩ := hk.pos
  obtain ⟨N, K, X, S, o⟩ := opened_ex f P Q b (sg P Q x) (x / P % Q) (x % P)
  obtain ⟨u, v⟩ := exp_in (x / P) (show 1 ≤ Q by omega)
  obtain ⟨u', v'⟩ := exp_in x (show 1 ≤ P by omega)
  obtain ⟨s0, s1, hm⟩ := back_math hk o u v u' v'
  have HO := hide (fun W => open_any x h W h0 h1 o)
  rcases hm with ⟨k3, hc⟩ | ⟨k3, hc, hs⟩
  · obtain ⟨v0, v1, v2, v3, v4⟩ := put_in (n := false) hk (show 0 ≤ Q - 1 by omega) (by omega) (show 0 ≤ P / 2 by omega) (by omega)
    refine back_nan W (kd_in hk) HO (hide (fun W => close_any W hk s0 (by omega) hc)) ?_ (hide (fun W => nan_any h W)) ?_ (eq_t k3)
    · have := fun W => cut_any _ h W v0 v1
      rw [v2] at this
      exact hide this
    · have := fun W => isNanW_any _ h W v0 v1
      rw [v3, v4, eq_t rfl, ne_t (show P / 2 ≠ 0 by omega)] at this
      exact hide this
  · obtain ⟨v0, v1, v2, v3, v4⟩ := put_in (n := sg P Q x) hk u v u' v'
    have HC := hide (fun W => close_any W hk s0 (by omega) hc)
    have HX := fun W => cut_any x h W h0 h1
    rw [← cut_put h.sz] at HX
    have HV := fun W => cut_any _ h W v0 v1
    rw [v2] at HV
    have HF := hide (fun W => fields_any h W)
    by_cases k1 : K = 1
    · refine back_fin W (kd_in hk) HO HC (hide HV) HF (hide HX) (eq_f k3) (ne_f k1) (hs k1) ?_ ?_ ?_
      · rcases hk with hk | hk <;> omega
      · rcases hk with hk | hk <;> omega
      · rcases hk with ⟨-, -, rfl, rfl, -, -⟩ | ⟨-, -, rfl, rfl, -, -⟩
        · show S / 16777216 = 0
          omega
        · show S / 9007199254740992 = 0
          omega
    · exact back_oth W (kd_in hk) HO HC (hide HV) HF (hide HX) (eq_f k3) (ne_t k1)

theorem word_of_wf {x : Int} (h : (Lit.int .u64 x).wf = true) : 0 ≤ x ∧ x < 18446744073709551616 := by
  simp [Lit.wf, IntKind.min, IntKind.max, IntKind.signed, IntKind.bits] at h
  exact ⟨by omega, by omega⟩

set_option maxRecDepth 100000 in
theorem shapeBack_lifted (os : Os) (started : os.Started) (H : Type) (enc : TypeId × Value → H) :
    ReturnsInHanded {} Try.checked os 6 .any (Rows.shapeBackSpec.pre6 enc Try.prog Try.f6 Rows.shapeBackRow.domain false) (Rows.shapeBackSpec.post enc Try.prog Try.f6 false true false false) := by
  refine returnsInHanded_of_change (C := Try.checked) Try.own started (by kernel_rfl) Try.func6
    (ChangeSpec.witness6 (enc := enc) (C := Try.checked) false ⟨#[], #[.int .i64 0, .int .u64 0], []⟩ 8 (by kernel_rfl) (by kernel_rfl) (by kernel_rfl) (by kernel_rfl)) ?_
  intro W base args ds gs before hval0 hW hcnd _
  have hval : ∀ (j : Nat) t v, Try.f6.params[j]? = some t → args[j]? = some v → Value.okWide Try.prog W .any base t v := hval0
  have hW' := hW
  obtain ⟨p, q, hA0, hV, rfl, hfz, hnd⟩ := hW
  have hA : DataW.TrodAll enc Try.prog W 0 (fun _ => true) true Try.f6.params.toList args.toList ds p := hA0
  rw [Try.params6] at hA hval
  obtain ⟨v0, v1, d0, d1, p0, p1, rfl, rfl, rfl, h0, h1⟩ := trodAll_two hA
  obtain ⟨rfl, rfl⟩ := trodVars_none hV
  obtain ⟨w, rfl, rfl, rfl, ww⟩ := open_int Try.underlying3 (hval 0 3 v0 rfl rfl) h0
  obtain ⟨x, rfl, rfl, rfl, wx⟩ := open_int Try.underlying22 (hval 1 22 v1 rfl rfl) h1
  clear hA0 hval0
  simp only [List.append_nil] at hW'
  refine (back_any w x W (word_of_wf wx).1 (word_of_wf wx).2).mono fun e W' ⟨he, hb⟩ => ?_
  subst he
  exact ⟨_, rfl, ⟨_, _, _, [], [], [], hW', trodAll_mk1 (shut_bool Try.underlying4 _), trodAll_mk2 (shut_int Try.underlying3 ww) (shut_int Try.underlying22 wx), rfl, hb.frame _, fun h => by cases h⟩⟩

theorem shapeBack_holds : Rows.ShapeBackSaid :=
  OpenClaim.holds_of_wide 6 Try.f6 rfl rfl rfl rfl rfl rfl rfl ⟨rfl, rfl, rfl, rfl, rfl⟩ rfl rfl rfl rfl rfl (by kernel_rfl) Try.func6 (by kernel_rfl)
    (of_decide_eq_true (by kernel_rfl)) (by unfold Func.isWrapper; first | (rw [if_pos (by decide +kernel)]; kernel_rfl) | (rw [if_neg (by decide +kernel)]; exact ⟨rfl, rfl⟩))
    (fun os started H enc _ => shapeBack_lifted os started H enc)

#print axioms shapeBack_holds
end Go.Proofs.Ytiphlnchfncdkaa
