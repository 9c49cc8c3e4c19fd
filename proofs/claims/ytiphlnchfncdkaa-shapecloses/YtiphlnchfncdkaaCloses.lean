/- The statement ShapeCloses: its walk, and what the reference's Close answers. -/
import Derived.Test.YtiphlnchfncdkaaRefClose
namespace Go.Proofs.Ytiphlnchfncdkaa
open Go.RowKit

theorem same4 {n' n : Bool} {K' K X' X S' S : Int} : ∀ w : World, (if n' = n then (if K' = K then (if X' = X then (if S' = S then Result.ok (Next.value (Value.bool true)) w else Result.ok (Next.value (Value.bool false)) w) else Result.ok (Next.value (Value.bool false)) w) else Result.ok (Next.value (Value.bool false)) w) else Result.ok (Next.value (Value.bool false)) w) = Result.ok (Next.value (Value.bool (decide (n' = n ∧ K' = K ∧ X' = X ∧ S' = S)))) w := by
  intro w
  by_cases h1 : n' = n <;> by_cases h2 : K' = K <;> by_cases h3 : X' = X <;> by_cases h4 : S' = S <;> simp [h1, h2, h3, h4]
theorem same3 {K' K X' X S' S : Int} : ∀ w : World, (if K' = K then (if X' = X then (if S' = S then Result.ok (Next.value (Value.bool true)) w else Result.ok (Next.value (Value.bool false)) w) else Result.ok (Next.value (Value.bool false)) w) else Result.ok (Next.value (Value.bool false)) w) = Result.ok (Next.value (Value.bool (decide (K' = K ∧ X' = X ∧ S' = S)))) w := by
  intro w
  by_cases h2 : K' = K <;> by_cases h3 : X' = X <;> by_cases h4 : S' = S <;> simp [h2, h3, h4]

theorem put_in {w e f P Q b x y : Int} {n : Bool} (h : Kd w e f P Q b) (x0 : 0 ≤ x) (x1 : x < Q) (y0 : 0 ≤ y) (y1 : y < P) :
    0 ≤ put f P Q n x y ∧ put f P Q n x y < 18446744073709551616 ∧ sg P Q (put f P Q n x y) = n ∧ put f P Q n x y / P % Q = x ∧ put f P Q n x y % P = y := by
  unfold sg
  cases n
  · rw [put_no h.f0]
    rcases h with ⟨-, -, -, rfl, rfl, -⟩ | ⟨-, -, -, rfl, rfl, -⟩
    · refine ⟨by omega, by omega, ?_, by omega, by omega⟩
      show ((x * 8388608 + y) / 2147483648 % 2 == 1) = false
      exact eq_f (by omega)
    · refine ⟨by omega, by omega, ?_, by omega, by omega⟩
      show ((x * 4503599627370496 + y) / 9223372036854775808 % 2 == 1) = false
      exact eq_f (by omega)
  · rw [put_yes h.f0]
    rcases h with ⟨-, -, -, rfl, rfl, -⟩ | ⟨-, -, -, rfl, rfl, -⟩
    · refine ⟨by omega, by omega, ?_, by omega, by omega⟩
      show ((x * 8388608 + y + 2147483648) / 2147483648 % 2 == 1) = true
      exact eq_t (by omega)
    · refine ⟨by omega, by omega, ?_, by omega, by omega⟩
      show ((x * 4503599627370496 + y + 9223372036854775808) / 9223372036854775808 % 2 == 1) = true
      exact eq_t (by omega)

/-- The reference's Open of a float of its fields. -/
theorem refOpen_put {w e f P Q b x y K X S : Int} {n N : Bool} (h : Kd w e f P Q b) (x0 : 0 ≤ x) (x1 : x < Q) (y0 : 0 ≤ y) (y1 : y < P) (ho : Opened f P Q b n x y N K X S) :
    Hid (∀ W, Calls Try.prog 13 #[.int .i64 w, .int .u64 (put f P Q n x y)] W fun r W' => r = .returned (.agg #[.bool N, .int .i64 K, .int .i64 X, .int .u64 S]) ∧ Below W.heap.size W W') := by
  obtain ⟨v0, v1, v2, v3, v4⟩ := put_in (n := n) h x0 x1 y0 y1
  exact hide (fun W => refOpen_any _ h W v0 v1 (by rw [v2, v3, v4]; exact ho))

theorem mod_facts {w e f P Q b S : Int} (h : Kd w e f P Q b) (s0 : 0 ≤ S) : S.tmod P = S % P ∧ 0 ≤ S % P ∧ S % P < P ∧ (S < P → S % P = S) ∧ (P ≤ S → (P + S % P = S ↔ S < 2 * P)) := by
  rw [Int.tmod_eq_emod_of_nonneg s0]
  rcases h with ⟨-, -, -, rfl, -, -⟩ | ⟨-, -, -, rfl, -, -⟩ <;> omega

/-- The reference's answer, held against the contract's. -/
def Meets (f P Q b : Int) (n : Bool) (K X S M : Int) (ok : Bool) : Prop := (ok = true ∧ Closed f P Q b n K X S M 0) ∨ (ok = false ∧ Closed f P Q b n K X S 0 2)
theorem meets_of {f P Q b : Int} {n : Bool} {K X S M : Int} {p : Prop} [Decidable p] (h1 : p → Closed f P Q b n K X S M 0) (h2 : ¬ p → Closed f P Q b n K X S 0 2) : Meets f P Q b n K X S M (decide p) := by
  by_cases h : p
  · exact Or.inl ⟨by simp [h], h1 h⟩
  · exact Or.inr ⟨by simp [h], h2 h⟩

theorem refClose_ex {w e f P Q b K X S : Int} {n : Bool} (h : Kd w e f P Q b) (s0 : 0 ≤ S) :
    ∃ M ok, (∀ W, Calls Try.prog 28 #[.int .i64 w, .agg #[.bool n, .int .i64 K, .int .i64 X, .int .u64 S]] W fun r W' => r = .returned (.tuple #[.int .u64 M, .bool ok]) ∧ Below W.heap.size W W') ∧ Meets f P Q b n K X S M ok := by
  obtain ⟨p1, p2, q1, q2⟩ := h.pos
  have g : 1 ≤ f ∧ f ≤ 63 ∧ 0 ≤ b ∧ b ≤ 2000 ∧ Q = 2 * b + 2 ∧ 3 ≤ Q := by rcases h with h | h <;> omega
  obtain ⟨g0, g1, g2, g3, g4, g5⟩ := g
  obtain ⟨m1, m2, m3, m4, m5⟩ := mod_facts h s0
  have hf := h.f0
  have HF := hide (fun W => refF_any h W)
  have H2 := hide (fun W => two_f h W)
  have HT := hide (fun W => refTop_any h W)
  have HB := hide (fun W => refB_any h W)
  by_cases k0 : K = 0
  · subst k0
    refine ⟨_, _, fun W => rc_k0 W same4 rfl (hide (fun W => make_any n 0 0 h W (by omega) (by omega) (by omega) (by omega)))
      (refOpen_put h (by omega) (by omega) (by omega) (by omega) (Or.inr (Or.inr (Or.inr (Or.inr (Or.inr ⟨hf, by omega, rfl, rfl, rfl, rfl, rfl, rfl⟩)))))), meets_of (fun hp => ?_) (fun hp => ?_)⟩
    · exact Or.inr (Or.inl ⟨rfl, hp.2.2.2.symm, hp.2.2.1.symm, rfl, rfl⟩)
    · exact Or.inr (Or.inr (Or.inr (Or.inr ⟨by omega, by by_cases a : S = 0 <;> by_cases c : X = 0 <;> simp_all, rfl, rfl⟩)))
  by_cases k2 : K = 2
  · subst k2
    refine ⟨_, _, fun W => rc_k2 W same4 rfl rfl rfl (hide (fun W => refInf_any n h W))
      (refOpen_put h (by omega) (by omega) (by omega) (by omega) (Or.inr (Or.inr (Or.inl ⟨hf, rfl, rfl, rfl, rfl, rfl, rfl⟩)))), meets_of (fun hp => ?_) (fun hp => ?_)⟩
    · exact Or.inr (Or.inr (Or.inl ⟨rfl, hp.2.2.2.symm, hp.2.2.1.symm, rfl, rfl⟩))
    · exact Or.inr (Or.inr (Or.inr (Or.inr ⟨by omega, by by_cases a : S = 0 <;> by_cases c : X = 0 <;> simp_all, rfl, rfl⟩)))
  by_cases k3 : K = 3
  · subst k3
    refine ⟨_, _, fun W => rc_k3 W same3 rfl rfl rfl rfl (hide (fun W => refNan_any h W))
      (refOpen_put h (by omega) (by omega) (by omega) (by omega) (Or.inr (Or.inl ⟨hf, rfl, by omega, rfl, rfl, rfl, rfl⟩))), meets_of (fun hp => ?_) (fun hp => ?_)⟩
    · exact Or.inr (Or.inr (Or.inr (Or.inl ⟨rfl, hp.2.2.symm, hp.2.1.symm, rfl, rfl⟩)))
    · exact Or.inr (Or.inr (Or.inr (Or.inr ⟨by omega, by by_cases a : S = 0 <;> by_cases c : X = 0 <;> simp_all, rfl, rfl⟩)))
  by_cases k1 : K = 1
  case neg =>
    have HO := refOpen_put (n := false) (x := 0) (y := 0) h (by omega) (by omega) (by omega) (by omega) (Or.inr (Or.inr (Or.inr (Or.inr (Or.inr ⟨hf, by omega, rfl, rfl, rfl, rfl, rfl, rfl⟩)))))
    rw [show put f P Q false 0 0 = 0 by rw [put_no hf]; simp] at HO
    exact ⟨_, _, fun W => rc_oth W same4 (eq_f k0) (eq_f k1) (eq_f k2) (eq_f k3) HO, meets_of (fun hp => absurd hp.2.1.symm k0) (fun _ => Or.inr (Or.inr (Or.inr (Or.inr ⟨k1, Or.inr (Or.inr ⟨k0, k2, k3⟩), rfl, rfl⟩))))⟩
  subst k1
  have bad : ¬ (S < P ∧ S ≠ 0 ∧ X = 1 - b - f) → ¬ (P ≤ S ∧ S < 2 * P ∧ 1 - b - f ≤ X ∧ X ≤ Q - 2 - b - f) → Closed f P Q b n 1 X S 0 2 := fun a c => Or.inl ⟨rfl, Or.inr (Or.inr ⟨a, c, rfl, rfl⟩)⟩
  by_cases hS : P ≤ S
  · have d0 := dt hS
    by_cases xa : X < -5000
    · exact ⟨_, _, fun W => rc_k1b_l_lo W rfl rfl HF H2 HB d0 xa (i64_id (by omega) (by omega)) (i64_id (by omega) (by omega)) (by omega), Or.inr ⟨rfl, bad (by omega) (by omega)⟩⟩
    by_cases xb : 5000 < X
    · exact ⟨_, _, fun W => rc_k1b_h_hi W rfl rfl HF H2 HB d0 xb (i64_id (by omega) (by omega)) (i64_id (by omega) (by omega)) HT (by omega) (by omega), Or.inr ⟨rfl, bad (by omega) (by omega)⟩⟩
    have kb : IntKind.i64.wrap (X + b) = X + b := i64_id (by omega) (by omega)
    have ke : IntKind.i64.wrap (X + b + f) = X + b + f := i64_id (by omega) (by omega)
    by_cases e0 : X + b + f < 0
    · exact ⟨_, _, fun W => rc_k1b_m_lo W rfl rfl HF H2 HB d0 xa xb kb ke e0, Or.inr ⟨rfl, bad (by omega) (by omega)⟩⟩
    by_cases e1 : Q - 1 ≤ X + b + f
    · exact ⟨_, _, fun W => rc_k1b_m_hi W rfl rfl HF H2 HB d0 xa xb kb ke HT e0 e1, Or.inr ⟨rfl, bad (by omega) (by omega)⟩⟩
    have HM := hide (fun W => make_any n (X + b + f) (S % P) h W (by omega) (by omega) m2 m3)
    obtain ⟨N', K', X', S', o⟩ := opened_ex f P Q b n (X + b + f) (S % P)
    refine ⟨_, _, fun W => rc_k1b_ok W same4 rfl rfl HF H2 HB d0 xa xb kb ke HT e0 e1 (by omega) m1 HM (refOpen_put h (by omega) (by omega) m2 m3 o), meets_of (fun hp => ?_) (fun hp => ?_)⟩
    · obtain ⟨r1, r2, r3, r4⟩ := hp
      have m6 := m5 hS
      have hc : 1 - b - f ≤ X ∧ S < 2 * P := by
        rcases o with ⟨a, -⟩ | ⟨-, -, -, -, r, -⟩ | ⟨-, -, -, -, r, -⟩ | ⟨-, -, c, -, -, rx, rs⟩ | ⟨-, -, -, -, -, -, -, rs⟩ | ⟨-, -, -, -, -, r, -⟩ <;> omega
      exact Or.inl ⟨rfl, Or.inr (Or.inl ⟨hS, hc.2, hc.1, by omega, rfl, rfl⟩)⟩
    · refine bad (by omega) (fun hc => hp ?_)
      obtain ⟨c1, c2, c3, c4⟩ := hc
      have m6 := (m5 hS).2 c2
      rcases o with ⟨a, -⟩ | ⟨-, c, -⟩ | ⟨-, c, -⟩ | ⟨-, -, c, rn, rk, rx, rs⟩ | ⟨-, -, c, -⟩ | ⟨-, -, c, -⟩
      · omega
      · omega
      · omega
      · exact ⟨rn, rk, by omega, by omega⟩
      · omega
      · omega
  · have d0 := df hS
    have HM := hide (fun W => make_any n 0 (S % P) h W (by omega) (by omega) m2 m3)
    obtain ⟨N', K', X', S', o⟩ := opened_ex f P Q b n 0 (S % P)
    have m6 := m4 (by omega)
    refine ⟨_, _, fun W => rc_k1a W same4 rfl rfl HF H2 HT d0 (by omega) (by omega) m1 HM (refOpen_put h (by omega) (by omega) m2 m3 o), meets_of (fun hp => ?_) (fun hp => ?_)⟩
    · obtain ⟨r1, r2, r3, r4⟩ := hp
      have hc : S ≠ 0 ∧ X = 1 - b - f := by
        rcases o with ⟨a, -⟩ | ⟨-, -, -, -, r, -⟩ | ⟨-, -, -, -, r, -⟩ | ⟨-, -, c, -⟩ | ⟨-, -, -, d, -, -, rx, -⟩ | ⟨-, -, -, -, -, r, -⟩ <;> omega
      exact Or.inl ⟨rfl, Or.inl ⟨by omega, hc.1, hc.2, rfl, rfl⟩⟩
    · refine bad (fun hc => hp ?_) (by omega)
      obtain ⟨c1, c2, c3⟩ := hc
      rcases o with ⟨a, -⟩ | ⟨-, c, -⟩ | ⟨-, c, -⟩ | ⟨-, -, c, -⟩ | ⟨-, -, -, d, rn, rk, rx, rs⟩ | ⟨-, -, -, d, -⟩
      · omega
      · omega
      · omega
      · omega
      · exact ⟨rn, rk, by omega, by omega⟩
      · omega

set_option maxHeartbeats 1000000 in
theorem closes_no {w K X S f : Int} {n : Bool} (W : World) (hf : (f != 0) = false)
    (HC : Hid (∀ W, Calls Try.prog 27 #[.int .i64 w, .agg #[.bool n, .int .i64 K, .int .i64 X, .int .u64 S]] W fun r W' => r = .returned (.tuple #[.int .u64 0, .int .i64 2]) ∧ Below W.heap.size W W'))
    (HK : Hid (∀ W, Calls Try.prog 10 #[.int .i64 w] W fun r W' => r = .returned (.bool (f != 0)) ∧ Below W.heap.size W W')) :
    Calls Try.prog 5 #[.int .i64 w, .agg #[.bool n, .int .i64 K, .int .i64 X, .int .u64 S]] W fun r W' => r = .returned (.bool true) ∧ Below W.heap.size W W' := by
  go_enter Try.func5, Try.ntmps5
  go_wp2_with fail
  refine (awake_any _).mono ?_
  rintro _ w1 ⟨rfl, hbl⟩
  have HB := hide (bthen (below1 _ _) hbl)
  have HA := hide ((at4_new W (.bool n) (.int .i64 K) (.int .i64 X) (.int .u64 S) 25).below hbl)
  clear hbl
  obtain ⟨a0, a1, a2, a3⟩ := unhide HA
  go_wp2_with fail
  clear a0 a1 a2 a3
  refine (unhide HC _).mono ?_
  rintro _ wn ⟨rfl, hbl⟩
  have HB := hide (bthen (unhide HB) hbl); have HA := hide ((unhide HA).below hbl)
  clear hbl
  obtain ⟨a0, a1, a2, a3⟩ := unhide HA
  go_wp2_with fail
  clear a0 a1 a2 a3
  refine (unhide HK _).mono ?_
  rintro _ wn ⟨rfl, hbl⟩
  have HB := hide (bthen (unhide HB) hbl); have HA := hide ((unhide HA).below hbl)
  clear hbl
  go_wp2_with fail
  go_ret
  exact ⟨rfl, unhide HB⟩

set_option maxHeartbeats 1000000 in
theorem closes_t {w K X S f V : Int} {n : Bool} (W : World) (hf : (f != 0) = true)
    (HC : Hid (∀ W, Calls Try.prog 27 #[.int .i64 w, .agg #[.bool n, .int .i64 K, .int .i64 X, .int .u64 S]] W fun r W' => r = .returned (.tuple #[.int .u64 V, .int .i64 0]) ∧ Below W.heap.size W W'))
    (HK : Hid (∀ W, Calls Try.prog 10 #[.int .i64 w] W fun r W' => r = .returned (.bool (f != 0)) ∧ Below W.heap.size W W'))
    (HR : Hid (∀ W, Calls Try.prog 28 #[.int .i64 w, .agg #[.bool n, .int .i64 K, .int .i64 X, .int .u64 S]] W fun r W' => r = .returned (.tuple #[.int .u64 V, .bool true]) ∧ Below W.heap.size W W')) :
    Calls Try.prog 5 #[.int .i64 w, .agg #[.bool n, .int .i64 K, .int .i64 X, .int .u64 S]] W fun r W' => r = .returned (.bool true) ∧ Below W.heap.size W W' := by
  go_enter Try.func5, Try.ntmps5
  go_wp2_with fail
  refine (awake_any _).mono ?_
  rintro _ w1 ⟨rfl, hbl⟩
  have HB := hide (bthen (below1 _ _) hbl)
  have HA := hide ((at4_new W (.bool n) (.int .i64 K) (.int .i64 X) (.int .u64 S) 25).below hbl)
  clear hbl
  obtain ⟨a0, a1, a2, a3⟩ := unhide HA
  go_wp2_with fail
  clear a0 a1 a2 a3
  refine (unhide HC _).mono ?_
  rintro _ wn ⟨rfl, hbl⟩
  have HB := hide (bthen (unhide HB) hbl); have HA := hide ((unhide HA).below hbl)
  clear hbl
  obtain ⟨a0, a1, a2, a3⟩ := unhide HA
  go_wp2_with fail
  clear a0 a1 a2 a3
  refine (unhide HK _).mono ?_
  rintro _ wn ⟨rfl, hbl⟩
  have HB := hide (bthen (unhide HB) hbl); have HA := hide ((unhide HA).below hbl)
  clear hbl
  obtain ⟨a0, a1, a2, a3⟩ := unhide HA
  go_wp2_with fail
  clear a0 a1 a2 a3
  refine (unhide HR _).mono ?_
  rintro _ wn ⟨rfl, hbl⟩
  have HB := hide (bthen (unhide HB) hbl); have HA := hide ((unhide HA).below hbl)
  clear hbl
  go_wp2_with fail
  go_ret
  exact ⟨rfl, unhide HB⟩

set_option maxHeartbeats 1000000 in
theorem closes_f {w K X S f M : Int} {n : Bool} (W : World) (hf : (f != 0) = true)
    (HC : Hid (∀ W, Calls Try.prog 27 #[.int .i64 w, .agg #[.bool n, .int .i64 K, .int .i64 X, .int .u64 S]] W fun r W' => r = .returned (.tuple #[.int .u64 0, .int .i64 2]) ∧ Below W.heap.size W W'))
    (HK : Hid (∀ W, Calls Try.prog 10 #[.int .i64 w] W fun r W' => r = .returned (.bool (f != 0)) ∧ Below W.heap.size W W'))
    (HR : Hid (∀ W, Calls Try.prog 28 #[.int .i64 w, .agg #[.bool n, .int .i64 K, .int .i64 X, .int .u64 S]] W fun r W' => r = .returned (.tuple #[.int .u64 M, .bool false]) ∧ Below W.heap.size W W')) :
    Calls Try.prog 5 #[.int .i64 w, .agg #[.bool n, .int .i64 K, .int .i64 X, .int .u64 S]] W fun r W' => r = .returned (.bool true) ∧ Below W.heap.size W W' := by
  go_enter Try.func5, Try.ntmps5
  go_wp2_with fail
  refine (awake_any _).mono ?_
  rintro _ w1 ⟨rfl, hbl⟩
  have HB := hide (bthen (below1 _ _) hbl)
  have HA := hide ((at4_new W (.bool n) (.int .i64 K) (.int .i64 X) (.int .u64 S) 25).below hbl)
  clear hbl
  obtain ⟨a0, a1, a2, a3⟩ := unhide HA
  go_wp2_with fail
  clear a0 a1 a2 a3
  refine (unhide HC _).mono ?_
  rintro _ wn ⟨rfl, hbl⟩
  have HB := hide (bthen (unhide HB) hbl); have HA := hide ((unhide HA).below hbl)
  clear hbl
  obtain ⟨a0, a1, a2, a3⟩ := unhide HA
  go_wp2_with fail
  clear a0 a1 a2 a3
  refine (unhide HK _).mono ?_
  rintro _ wn ⟨rfl, hbl⟩
  have HB := hide (bthen (unhide HB) hbl); have HA := hide ((unhide HA).below hbl)
  clear hbl
  obtain ⟨a0, a1, a2, a3⟩ := unhide HA
  go_wp2_with fail
  clear a0 a1 a2 a3
  refine (unhide HR _).mono ?_
  rintro _ wn ⟨rfl, hbl⟩
  have HB := hide (bthen (unhide HB) hbl); have HA := hide ((unhide HA).below hbl)
  clear hbl
  go_wp2_with fail
  go_ret
  exact ⟨rfl, unhide HB⟩

theorem closes_any (w : Int) (n : Bool) (K X S : Int) (W : World) (s0 : 0 ≤ S) (s1 : S < 18446744073709551616) :
    Calls Try.prog 5 #[.int .i64 w, .agg #[.bool n, .int .i64 K, .int .i64 X, .int .u64 S]] W fun r W' => r = .returned (.bool true) ∧ Below W.heap.size W W' := by
  obtain ⟨e, f, P, Q, b, h⟩ := wd_ex w
  by_cases hf : f = 0
  · exact closes_no W (ne_f hf) (hide (fun W => close_no W h (ne_f hf))) (hide (fun W => refKnown_any h W))
  have hk := h.known hf
  obtain ⟨M, ok, HR, hm⟩ := refClose_ex (K := K) (X := X) (n := n) hk s0
  rcases hm with ⟨rfl, hc⟩ | ⟨rfl, hc⟩
  · exact closes_t W (ne_t hf) (hide (fun W => close_any W hk s0 s1 hc)) (hide (fun W => refKnown_any h W)) (hide HR)
  · exact closes_f W (ne_t hf) (hide (fun W => close_any W hk s0 s1 hc)) (hide (fun W => refKnown_any h W)) (hide HR)

end Go.Proofs.Ytiphlnchfncdkaa
