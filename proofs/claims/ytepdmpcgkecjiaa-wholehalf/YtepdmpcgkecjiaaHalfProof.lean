/- WholeHalf: what is made the nearest whole number lies at most a half away from the number, and what is made one in another way at most one. No condition. -/
import Derived.Test.YtepdmpcgkecjiaaG34
import Derived.Test.YtepdmpcgkecjiaaG41
import Derived.Test.YtepdmpcgkecjiaaG44
namespace Go.Proofs.Ytepdmpcgkecjiaa
open Go.ChangeShapes Go.WideShapes Go.ChangeAt Go.RowKit Go.Joins
open Go.Proofs.Ytepdmpcgkecjiaa.W

theorem wholeHalf_any (w x : Int) (W : World) (x0 : 0 ≤ x) (x1 : x < 18446744073709551616) :
    Calls Try.prog 5 #[.int .i64 w, .int .u64 x] W fun r W' => r = .returned (.bool true) ∧ Below W.heap.size W W' := by
  obtain ⟨e, f, P, Q, b, h⟩ := wd_ex w
  have HW := hide awake_any
  have HK := fun W => refKnown_any h W
  by_cases hf : f = 0
  · rw [ne_f hf] at HK
    exact half_no W HW (hide HK)
  have k := h.known hf
  rw [ne_t hf] at HK
  have HK := hide HK
  obtain ⟨X, S, ho, hp, hm⟩ := open_kd k x
  have HO := hide (fun W => refOpen_any x k W x0 x1 ho)
  by_cases hk : 1 < oK P Q x
  · exact half_big W HW HK HO hk
  have h3 : oK P Q x ≠ 3 := by omega
  have h2 : oK P Q x ≠ 2 := by omega
  have hb0 : 127 ≤ b ∧ b ≤ 1023 ∧ b < Q := by rcases k with h | h <;> omega
  have hP := k.pos
  obtain ⟨H, hH⟩ : ∃ H : Nat, 2 ^ (Z5 - 1) = H := ⟨_, rfl⟩
  have hZ : 2 ^ Z5 = 2 * H := by
    rw [← hH, show Z5 = Z5 - 1 + 1 from rfl, Nat.pow_succ, Nat.add_sub_cancel, Nat.mul_comm]
  obtain ⟨hc, oc1⟩ := half_code k
  rw [hH] at hc
  have hin : ∀ z : Int, 0 ≤ z → z < Q - 1 → 0 ≤ put f P Q false z 0 ∧ put f P Q false z 0 < 18446744073709551616 ∧ put f P Q false z 0 ≤ top P Q := fun z z0 z1 => by
    have g := put_in (n := false) k z0 (by omega : z < Q) (by omega : (0 : Int) ≤ 0) (by omega : (0 : Int) < P)
    refine ⟨g.1, g.2.1, ?_⟩
    unfold put top
    rw [if_neg hf]
    have := Int.mul_le_mul_of_nonneg_right (show z ≤ Q - 1 by omega) (show 0 ≤ P by omega)
    simp
    omega
  have hQ : b < Q - 1 := by rcases k with h | h <;> omega
  obtain ⟨p0, p1, p2⟩ := hin (b - 1) (by omega) (by omega)
  obtain ⟨q0, q1, q2⟩ := hin b (by omega) hQ
  have one : ∀ way : Int, ∃ D r : Int, Hid (∀ (bb : Nat) (W : World), AtH bb (.int .i64 w) (.int .u64 x) W → Calls Try.prog 20 #[.int .u64 (makeB f P Q b way x), .pointer (some ⟨bb, 0, none⟩), .pointer (some ⟨bb + 1, 0, none⟩)] W fun r W' => r = .returned (.int .u64 D) ∧ Below W.heap.size W W') ∧
      Hid (∀ W, Calls Try.prog 24 #[.int .i64 w, .int .u64 D, .int .u64 (put f P Q false b 0)] W fun r' W' => r' = .returned (.int .i64 r) ∧ Below W.heap.size W W') ∧ decide (0 < r) = false := fun way => by
    obtain ⟨y0, y1, y3, y2, yn, ym⟩ := make_form k way h3 h2
    have hfar := far_one way (oN P Q x) (oM f P Q b x)
    rw [← ym] at hfar
    obtain ⟨c, e1, c0, c1, c2⟩ := sub_far k h3 h2 y3 y2 yn hfar.1 hfar.2
    rw [oc1] at c2
    have hcc : c < 18446744073709551616 := by omega
    exact ⟨c, _, far_any k x0 x1 y0 y1 e1, hide (fun W => refCmp8_any k W c0 hcc q0 q1), cmp_far k c0 c1 q0 q2 c2⟩
  obtain ⟨D4, r4, F4, R4, g4⟩ : ∃ D r : Int, Hid (∀ (bb : Nat) (W : World), AtH bb (.int .i64 w) (.int .u64 x) W → Calls Try.prog 20 #[.int .u64 (makeB f P Q b 4 x), .pointer (some ⟨bb, 0, none⟩), .pointer (some ⟨bb + 1, 0, none⟩)] W fun r W' => r = .returned (.int .u64 D) ∧ Below W.heap.size W W') ∧
      Hid (∀ W, Calls Try.prog 24 #[.int .i64 w, .int .u64 D, .int .u64 (put f P Q false (b - 1) 0)] W fun r' W' => r' = .returned (.int .i64 r) ∧ Below W.heap.size W W') ∧ decide (0 < r) = false := by
    obtain ⟨y0, y1, y3, y2, yn, ym⟩ := make_form k 4 h3 h2
    have hfar := far_half (oN P Q x) (oM f P Q b x) H hZ
    rw [← ym] at hfar
    obtain ⟨c, e1, c0, c1, c2⟩ := sub_far k h3 h2 y3 y2 yn hfar.1 hfar.2
    rw [hc] at c2
    have hcc : c < 18446744073709551616 := by omega
    exact ⟨c, _, far_any k x0 x1 y0 y1 e1, hide (fun W => refCmp8_any k W c0 hcc p0 p1), cmp_far k c0 c1 p0 p2 c2⟩
  obtain ⟨D1, r1, F1, R1, g1⟩ := one 1
  obtain ⟨D2, r2, F2, R2, g2⟩ := one 2
  obtain ⟨D3, r3, F3, R3, g3⟩ := one 3
  exact half_fin W HW HK HO hk (hide (fun W => refB_any k W)) (i64_id (by omega) (by omega)) (hide (fun W => make_any false (b - 1) 0 k W (by omega) (by omega) (by omega) (by omega))) (hide (fun W => make_any false b 0 k W (by omega) (by omega) (by omega) (by omega)))
    (hide (fun W => near_any k W x0 x1)) F4 R4 g4 (hide (fun W => ceil_any k W x0 x1)) F1 R1 g1 (hide (fun W => floor_any k W x0 x1)) F2 R2 g2 (hide (fun W => trunc_any k W x0 x1)) F3 R3 g3

set_option maxRecDepth 100000 in
theorem wholeHalf_lifted (os : Os) (started : os.Started) (H : Type) (enc : TypeId × Value → H) :
    ReturnsInHanded {} Try.checked os 5 .any (Rows.wholeHalfSpec.pre6 enc Try.prog Try.f5 Rows.wholeHalfRow.domain false) (Rows.wholeHalfSpec.post enc Try.prog Try.f5 false true false false) := by
  refine returnsInHanded_of_change (C := Try.checked) Try.own started (by kernel_rfl) Try.func5
    (ChangeSpec.witness6 (enc := enc) (C := Try.checked) false ⟨#[], #[.int .i64 0, .int .u64 0], []⟩ 8 (by kernel_rfl) (by kernel_rfl) (by kernel_rfl) (by kernel_rfl)) ?_
  intro W base args ds gs before hval0 hW hcnd _
  have hval : ∀ (j : Nat) t v, Try.f5.params[j]? = some t → args[j]? = some v → Value.okWide Try.prog W .any base t v := hval0
  have hW' := hW
  obtain ⟨p, q, hA0, hV, rfl, hfz, hnd⟩ := hW
  have hA : DataW.TrodAll enc Try.prog W 0 (fun _ => true) true Try.f5.params.toList args.toList ds p := hA0
  rw [Try.params5] at hA hval
  obtain ⟨v0, v1, d0, d1, p0, p1, rfl, rfl, rfl, h0, h1⟩ := trodAll_two hA
  obtain ⟨rfl, rfl⟩ := trodVars_none hV
  obtain ⟨w, rfl, rfl, rfl, ww⟩ := open_int Try.underlying3 (hval 0 3 v0 rfl rfl) h0
  obtain ⟨x, rfl, rfl, rfl, wx⟩ := open_int Try.underlying22 (hval 1 22 v1 rfl rfl) h1
  clear hA0 hval0
  simp only [List.append_nil] at hW'
  refine (wholeHalf_any w x W  (word_of_wf wx).1 (word_of_wf wx).2).mono fun e W' ⟨he, hb⟩ => ?_
  subst he
  exact ⟨_, rfl, ⟨_, _, _, [], [], [], hW', trodAll_mk1 (shut_bool Try.underlying4 _), trodAll_mk2 (shut_int Try.underlying3 ww) (shut_int Try.underlying22 wx), rfl, hb.frame _, fun h => by cases h⟩⟩

theorem wholeHalf_holds : Rows.WholeHalfSaid :=
  OpenClaim.holds_of_wide 5 Try.f5 rfl rfl rfl rfl rfl rfl rfl ⟨rfl, rfl, rfl, rfl, rfl⟩ rfl rfl rfl rfl rfl (by kernel_rfl) Try.func5 (by kernel_rfl)
    (of_decide_eq_true (by kernel_rfl)) (by unfold Func.isWrapper; first | (rw [if_pos (by decide +kernel)]; kernel_rfl) | (rw [if_neg (by decide +kernel)]; exact ⟨rfl, rfl⟩))
    (fun os started H enc _ => wholeHalf_lifted os started H enc)

#print axioms wholeHalf_holds
end Go.Proofs.Ytepdmpcgkecjiaa
