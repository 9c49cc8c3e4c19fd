/- For every int w and all words a and b the law ShapeOrder answers true, and w, a and b read as before: of two floats without a sign that are finite the one whose bits are less is the lesser one; no condition. -/
import Derived.Test.YtiphlnchfncdkaaOrder
import Derived.ProofKit
import Derived.Lib.SmallJoins
namespace Go.Proofs.Ytiphlnchfncdkaa
open Go.ChangeShapes Go.WideShapes Go.ChangeAt Go.RowKit Go.Joins

theorem Try.own : ownKnob Try.prog.godebug = none := by kernel_rfl

theorem opened_sign {f P Q b x y K X S : Int} {n N : Bool} (hf : f ≠ 0) (h : Opened f P Q b n x y N K X S) (hk : ¬ 1 < K) : n = N := by
  rcases h with ⟨a, _⟩ | ⟨_, _, _, _, k, _⟩ | ⟨_, _, _, _, k, _⟩ | ⟨_, _, _, n, _⟩ | ⟨_, _, _, _, n, _⟩ | ⟨_, _, _, _, n, _⟩
  · exact absurd a hf
  · omega
  · omega
  · exact n.symm
  · exact n.symm
  · exact n.symm

theorem order_math {w e f P Q b x1 y1 x2 y2 K1 X1 S1 K2 X2 S2 : Int} {n1 n2 : Bool} (h : Kd w e f P Q b) (ho1 : Opened f P Q b n1 x1 y1 false K1 X1 S1) (ho2 : Opened f P Q b n2 x2 y2 false K2 X2 S2)
    (a1 : 0 ≤ x1) (a3 : 0 ≤ y1) (a4 : y1 < P) (b1 : 0 ≤ x2) (b3 : 0 ≤ y2) (b4 : y2 < P) (hk1 : ¬ 1 < K1) (hk2 : ¬ 1 < K2)
    (hc : put f P Q n1 x1 y1 < put f P Q n2 x2 y2) : K1 = 0 ∨ X1 < X2 ∨ (X1 = X2 ∧ S1 < S2) := by
  have e1 := opened_sign h.f0 ho1 hk1
  have e2 := opened_sign h.f0 ho2 hk2
  subst e1 e2
  rw [put_no h.f0, put_no h.f0] at hc
  rcases h with ⟨-, -, rfl, rfl, rfl, rfl⟩ | ⟨-, -, rfl, rfl, rfl, rfl⟩
  all_goals
    rcases ho1 with ⟨a, _, k1, g1, s1⟩ | ⟨_, _, _, _, k1, g1, s1⟩ | ⟨_, _, _, _, k1, g1, s1⟩ | ⟨_, c1, d1, _, k1, g1, s1⟩ | ⟨_, c1, d1, i1, _, k1, g1, s1⟩ | ⟨_, c1, d1, i1, _, k1, g1, s1⟩
    · omega
    · omega
    · omega
    · rcases ho2 with ⟨a, _, k2, g2, s2⟩ | ⟨_, _, _, _, k2, g2, s2⟩ | ⟨_, _, _, _, k2, g2, s2⟩ | ⟨_, c2, d2, _, k2, g2, s2⟩ | ⟨_, c2, d2, i2, _, k2, g2, s2⟩ | ⟨_, c2, d2, i2, _, k2, g2, s2⟩ <;> omega
    · rcases ho2 with ⟨a, _, k2, g2, s2⟩ | ⟨_, _, _, _, k2, g2, s2⟩ | ⟨_, _, _, _, k2, g2, s2⟩ | ⟨_, c2, d2, _, k2, g2, s2⟩ | ⟨_, c2, d2, i2, _, k2, g2, s2⟩ | ⟨_, c2, d2, i2, _, k2, g2, s2⟩ <;> omega
    · exact Or.inl k1

theorem order_any (w x y : Int) (W : World) (x0 : 0 ≤ x) (x1 : x < 18446744073709551616) (y0 : 0 ≤ y) (y1 : y < 18446744073709551616) :
    Calls Try.prog 7 #[.int .i64 w, .int .u64 x, .int .u64 y] W fun r W' => r = .returned (.bool true) ∧ Below W.heap.size W W' := by
  obtain ⟨e, f, P, Q, b, h⟩ := wd_ex w
  by_cases hf : f = 0
  · refine order_no w x y W ?_
    rcases h with h | h | h
    · omega
    · omega
    · exact h.1
  have hk := h.known hf
  obtain ⟨p1, p2, q1, q2⟩ := h.sz.pos
  obtain ⟨N1, K1, X1, S1, o1⟩ := opened_ex f P Q b (sg P Q x) (x / P % Q) (x % P)
  obtain ⟨N2, K2, X2, S2, o2⟩ := opened_ex f P Q b (sg P Q y) (y / P % Q) (y % P)
  have HO1 := hide (fun W => open_any x h W x0 x1 o1)
  have HO2 := hide (fun W => open_any y h W y0 y1 o2)
  have HC1 := hide (fun W => cut_any x h W x0 x1)
  have HC2 := hide (fun W => cut_any y h W y0 y1)
  cases N1
  case true => exact order_c1 W (kd_in hk) HO1 HO2 HC1 HC2
  case false =>
    cases N2
    case true => exact order_c2 W (kd_in hk) HO1 HO2 HC1 HC2
    case false =>
      by_cases h3 : 1 < K1
      · exact order_c3 W (kd_in hk) HO1 HO2 HC1 HC2 h3
      by_cases h4 : 1 < K2
      · exact order_c4 W (kd_in hk) HO1 HO2 HC1 HC2 h3 h4
      by_cases h5 : cutN f P Q y ≤ cutN f P Q x
      · exact order_c5 W (kd_in hk) HO1 HO2 HC1 HC2 h3 h4 h5
      have hm := order_math hk o1 o2 (exp_in _ q1).1 (exp_in _ p1).1 (exp_in _ p1).2 (exp_in _ q1).1 (exp_in _ p1).1 (exp_in _ p1).2 h3 h4 (by rw [cut_put h.sz, cut_put h.sz]; omega)
      by_cases h6 : K1 = 0
      · exact order_c6 W (kd_in hk) HO1 HO2 HC1 HC2 h3 h4 h5 (eq_t h6)
      by_cases h7 : X1 < X2
      · exact order_c7 W (kd_in hk) HO1 HO2 HC1 HC2 h3 h4 h5 (eq_f h6) h7
      · exact order_c8 W (kd_in hk) HO1 HO2 HC1 HC2 h3 h4 h5 (eq_f h6) h7 (eq_t (by omega)) (by omega)

theorem word_of_wf {x : Int} (h : (Lit.int .u64 x).wf = true) : 0 ≤ x ∧ x < 18446744073709551616 := by
  simp [Lit.wf, IntKind.min, IntKind.max, IntKind.signed, IntKind.bits] at h
  exact ⟨by omega, by omega⟩

set_option maxRecDepth 100000 in
theorem shapeOrder_lifted (os : Os) (started : os.Started) (H : Type) (enc : TypeId × Value → H) :
    ReturnsInHanded {} Try.checked os 7 .any (Rows.shapeOrderSpec.pre6 enc Try.prog Try.f7 Rows.shapeOrderRow.domain false) (Rows.shapeOrderSpec.post enc Try.prog Try.f7 false true false false) := by
  refine returnsInHanded_of_change (C := Try.checked) Try.own started (by kernel_rfl) Try.func7
    (ChangeSpec.witness6 (enc := enc) (C := Try.checked) false ⟨#[], #[.int .i64 0, .int .u64 0, .int .u64 0], []⟩ 8 (by kernel_rfl) (by kernel_rfl) (by kernel_rfl) (by kernel_rfl)) ?_
  intro W base args ds gs before hval0 hW hcnd _
  have hval : ∀ (j : Nat) t v, Try.f7.params[j]? = some t → args[j]? = some v → Value.okWide Try.prog W .any base t v := hval0
  have hW' := hW
  obtain ⟨p, q, hA0, hV, rfl, hfz, hnd⟩ := hW
  have hA : DataW.TrodAll enc Try.prog W 0 (fun _ => true) true Try.f7.params.toList args.toList ds p := hA0
  rw [Try.params7] at hA hval
  obtain ⟨v0, v1, v2, d0, d1, d2, p0, p1, p2, rfl, rfl, rfl, h0, h1, h2⟩ := trodAll_three hA
  obtain ⟨rfl, rfl⟩ := trodVars_none hV
  obtain ⟨w, rfl, rfl, rfl, ww⟩ := open_int Try.underlying3 (hval 0 3 v0 rfl rfl) h0
  obtain ⟨x, rfl, rfl, rfl, wx⟩ := open_int Try.underlying22 (hval 1 22 v1 rfl rfl) h1
  obtain ⟨y, rfl, rfl, rfl, wy⟩ := open_int Try.underlying22 (hval 2 22 v2 rfl rfl) h2
  clear hA0 hval0
  simp only [List.append_nil] at hW'
  refine (order_any w x y W (word_of_wf wx).1 (word_of_wf wx).2 (word_of_wf wy).1 (word_of_wf wy).2).mono fun e W' ⟨he, hb⟩ => ?_
  subst he
  exact ⟨_, rfl, ⟨_, _, _, [], [], [], hW', trodAll_mk1 (shut_bool Try.underlying4 _), trodAll_mk3 (shut_int Try.underlying3 ww) (shut_int Try.underlying22 wx) (shut_int Try.underlying22 wy), rfl, hb.frame _, fun h => by cases h⟩⟩

theorem shapeOrder_holds : Rows.ShapeOrderSaid :=
  OpenClaim.holds_of_wide 7 Try.f7 rfl rfl rfl rfl rfl rfl rfl ⟨rfl, rfl, rfl, rfl, rfl⟩ rfl rfl rfl rfl rfl (by kernel_rfl) Try.func7 (by kernel_rfl)
    (of_decide_eq_true (by kernel_rfl)) (by unfold Func.isWrapper; first | (rw [if_pos (by decide +kernel)]; kernel_rfl) | (rw [if_neg (by decide +kernel)]; exact ⟨rfl, rfl⟩))
    (fun os started H enc _ => shapeOrder_lifted os started H enc)

#print axioms shapeOrder_holds
end Go.Proofs.Ytiphlnchfncdkaa
