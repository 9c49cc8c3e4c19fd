/- What package product's Mul and Scale answer, and the reference's. -/
import Derived.Test.YtlkmongiknpejaaProdA
import Derived.Test.YtlkmongiknpejaaProdB
import Derived.Test.YtlkmongiknpejaaProdR
namespace Go.Proofs.Ytlkmongiknpejaa
open Go.RowKit
open Go.Proofs.Ytlkmongiknpejaa.W

theorem pack_wide {w e f P Q b E : Int} (k : Kd w e f P Q b) (n : Bool) (v : Nat) (hv : W2 v) (h0 : -4000 ≤ E) (h1 : E ≤ 4000) (W : World) :
    Calls Try.prog 44 #[.int .i64 w, .bool n, .agg #[.int .u64 (hi v), .int .u64 (lo v)], .int .i64 E, .bool false] W fun r W' => r = .returned (.int .u64 (rd f P Q b n (v * 2 ^ (E + 5000).toNat))) ∧ Below W.heap.size W W' := by
  have := pack_known v n false E k hv W
  rw [cap_id (by omega) (by omega), num_plain _ _ (by omega)] at this
  exact this
theorem exact_wide {w e f P Q b low : Int} (k : Kd w e f P Q b) (n : Bool) (z : Nat) (h0 : -4000 ≤ low) (h1 : low ≤ 4000) : exactN f P Q b n z low = rd f P Q b n (z * 2 ^ (low + 5000).toNat) := by
  unfold exactN
  by_cases hz : z = 0
  · rw [if_pos (Or.inl hz), hz, Nat.zero_mul, rd_zero k]
  · rw [if_neg (by omega), if_neg (by omega)]
    rfl
theorem either_any {k K1 X1 S1 K2 X2 S2 : Int} (n1 n2 : Bool) (W : World) :
    Calls Try.prog 42 #[.int .i64 k, .agg #[.bool n1, .int .i64 K1, .int .i64 X1, .int .u64 S1], .agg #[.bool n2, .int .i64 K2, .int .i64 X2, .int .u64 S2]] W fun r W' => r = .returned (.bool (K1 == k || K2 == k)) ∧ Below W.heap.size W W' := by
  by_cases h : K1 = k
  · rw [eq_t h, Bool.true_or]
    exact either_t W (eq_t h)
  · rw [eq_f h, Bool.false_or]
    exact either_f W (eq_f h)
theorem or_t {K1 K2 k : Int} (h : K1 = k ∨ K2 = k) : (K1 == k || K2 == k) = true := by simpa using h
theorem or_f {K1 K2 k : Int} (h : ¬ (K1 = k ∨ K2 = k)) : (K1 == k || K2 == k) = false := by
  rw [eq_f (fun h' => h (Or.inl h')), eq_f (fun h' => h (Or.inr h'))]
  rfl
theorem sig_mul {S1 S2 : Int} (s1 : S1 < 9007199254740992) (t1 : S2 < 9007199254740992) : S1.toNat * S2.toNat < 340282366920938463463374607431768211456 := by
  have h1 : S1.toNat * S2.toNat ≤ 9007199254740992 * S2.toNat := Nat.mul_le_mul_right _ (by omega)
  omega

theorem times_any {w e f P Q b K1 X1 S1 K2 X2 S2 : Int} (k : Kd w e f P Q b) (n1 n2 : Bool) (h1 : Prt f P Q b K1 X1 S1) (h2 : Prt f P Q b K2 X2 S2) (W : World) :
    Calls Try.prog 22 #[.int .i64 w, .agg #[.bool n1, .int .i64 K1, .int .i64 X1, .int .u64 S1], .agg #[.bool n2, .int .i64 K2, .int .i64 X2, .int .u64 S2]] W fun r W' => r = .returned (.int .u64 (mulP f P Q b n1 K1 (mag X1 S1) n2 K2 (mag X2 S2))) ∧ Below W.heap.size W W' := by
  obtain ⟨x0, x1, s0, -, s1⟩ := h1.in k
  obtain ⟨y0, y1, t0, -, t1⟩ := h2.in k
  have hK1 : K1 = 0 ∨ K1 = 1 ∨ K1 = 2 ∨ K1 = 3 := by unfold Prt at h1; omega
  have hK2 : K2 = 0 ∨ K2 = 1 ∨ K2 = 2 ∨ K2 = 3 := by unfold Prt at h2; omega
  have H3 := fun W => either_any (k := 3) (K1 := K1) (X1 := X1) (S1 := S1) (K2 := K2) (X2 := X2) (S2 := S2) n1 n2 W
  have H2 := fun W => either_any (k := 2) (K1 := K1) (X1 := X1) (S1 := S1) (K2 := K2) (X2 := X2) (S2 := S2) n1 n2 W
  have H0 := fun W => either_any (k := 0) (K1 := K1) (X1 := X1) (S1 := S1) (K2 := K2) (X2 := X2) (S2 := S2) n1 n2 W
  by_cases a3 : K1 = 3 ∨ K2 = 3
  · rw [show mulP f P Q b n1 K1 (mag X1 S1) n2 K2 (mag X2 S2) = nanB f P Q by unfold mulP; rw [if_pos (by omega)]]
    rw [or_t a3] at H3
    exact times_nan W (hide H3) (hide (fun W => nan_any k.wd W))
  rw [or_f a3] at H3
  by_cases a2 : K1 = 2 ∨ K2 = 2
  · rw [or_t a2] at H2
    by_cases a0 : K1 = 0 ∨ K2 = 0
    · rw [show mulP f P Q b n1 K1 (mag X1 S1) n2 K2 (mag X2 S2) = nanB f P Q by unfold mulP; rw [if_pos (by omega)]]
      rw [or_t a0] at H0
      exact times_in W (hide H3) (hide H2) (hide H0) (hide (fun W => nan_any k.wd W))
    · rw [show mulP f P Q b n1 K1 (mag X1 S1) n2 K2 (mag X2 S2) = put f P Q (n1 != n2) (Q - 1) 0 by unfold mulP; rw [if_neg (by omega), if_pos a2]]
      rw [or_f a0] at H0
      exact times_inf W (hide H3) (hide H2) (hide H0) (hide (fun W => inf_any _ k.wd W))
  · rw [or_f a2] at H2
    rw [show mulP f P Q b n1 K1 (mag X1 S1) n2 K2 (mag X2 S2) = rd f P Q b (n1 != n2) (mag X1 S1 * mag X2 S2 / 2 ^ Z5) by unfold mulP; rw [if_neg (by omega), if_neg a2]]
    by_cases a0 : K1 = 0 ∨ K2 = 0
    · rw [or_t a0] at H0
      have hz : mag X1 S1 * mag X2 S2 = 0 := by
        rcases a0 with h | h
        · rw [h1.mag0 (by omega), Nat.zero_mul]
        · rw [h2.mag0 (by omega), Nat.mul_zero]
      rw [hz, Nat.zero_div, rd_zero k]
      exact times_zero W (hide H3) (hide H2) (hide H0) (hide (fun W => zero_any _ k.wd W))
    · rw [or_f a0] at H0
      rw [mag_mul x0 y0]
      exact times_fin W (hide H3) (hide H2) (hide H0) (i64_id (by omega) (by omega)) (hide (fun W => mul_n S1 S2 W s0 (by omega) t0 (by omega))) (hide (fun W => pack_wide k _ _ (sig_mul s1 t1) (by omega) (by omega) W))

theorem mul_any' {w e f P Q b x y : Int} (k : Kd w e f P Q b) (W : World) (x0 : 0 ≤ x) (x1 : x < 18446744073709551616) (y0 : 0 ≤ y) (y1 : y < 18446744073709551616) :
    Calls Try.prog 8 #[.int .i64 w, .int .u64 x, .int .u64 y] W fun r W' => r = .returned (.int .u64 (mulB f P Q b x y)) ∧ Below W.heap.size W W' := by
  obtain ⟨X1, S1, o1, p1, m1⟩ := open_kd k x
  obtain ⟨X2, S2, o2, p2, m2⟩ := open_kd k y
  have HP := hide (fun W => times_any k (oN P Q x) (oN P Q y) p1 p2 W)
  unfold mulB
  rw [m1, m2] at HP
  exact mul_l W (hide (fun W => open_any x k.wd W x0 x1 o1)) (hide (fun W => open_any y k.wd W y0 y1 o2)) HP
theorem mul_no {w e f P Q b x y : Int} (k : Wd w e f P Q b) (hf : f = 0) (W : World) (x0 : 0 ≤ x) (x1 : x < 18446744073709551616) (y0 : 0 ≤ y) (y1 : y < 18446744073709551616) :
    Calls Try.prog 8 #[.int .i64 w, .int .u64 x, .int .u64 y] W fun r W' => r = .returned (.int .u64 0) ∧ Below W.heap.size W W' :=
  mul_l W (hide (fun W => open_none k hf x W x0 x1)) (hide (fun W => open_none k hf y W y0 y1))
    (hide (fun W => times_zero W (hide (fun W => either_f W (by rfl))) (hide (fun W => either_f W (by rfl))) (hide (fun W => either_t W (by rfl))) (hide (fun W => zero_no k hf _ W))))

/-- Exact of a product. -/
theorem ex_wide {w e f P Q b low : Int} (k : Kd w e f P Q b) (n : Bool) (z M : Nat) (hz : z < pw 140) (h0 : -4000 ≤ low) (h1 : low ≤ 4000) (hM : z * 2 ^ (low + 5000).toNat = M) :
    Hid (∀ (a : Option Addr) (m c : Nat) (W : World), IsNat W (.slice a m c) z → Calls Try.prog 27 #[.int .i64 w, .bool n, .agg #[.slice a m c], .int .i64 low] W fun r W' => r = .returned (.int .u64 (rd f P Q b n M)) ∧ Below W.heap.size W W') := by
  refine hide (fun a m c W hx => ?_)
  have := exact_any (n := n) (k := low) k z hz a m c W hx
  rw [exact_wide k n z h0 h1, hM] at this
  exact this
theorem w2_pw {v : Nat} (hv : W2 v) : v < pw 140 := by
  have h4 : v < pw 4 := by rw [pw_4]; exact hv
  exact lt_pw 140 h4 (by omega)
theorem refProd_any {w e f P Q b x y : Int} (k : Kd w e f P Q b) (W : World) (x0 : 0 ≤ x) (x1 : x < 18446744073709551616) (y0 : 0 ≤ y) (y1 : y < 18446744073709551616) :
    Calls Try.prog 10 #[.int .i64 w, .int .u64 x, .int .u64 y] W fun r W' => r = .returned (.int .u64 (mulB f P Q b x y)) ∧ Below W.heap.size W W' := by
  obtain ⟨X1, S1, o1, p1, m1⟩ := open_kd k x
  obtain ⟨X2, S2, o2, p2, m2⟩ := open_kd k y
  have HO1 := hide (fun W => refOpen_any x k W x0 x1 o1)
  have HO2 := hide (fun W => refOpen_any y k W y0 y1 o2)
  have HN := hide (fun W => refNan_any k W)
  unfold mulB
  rw [← m1, ← m2]
  generalize oN P Q x = n1 at *
  generalize oN P Q y = n2 at *
  generalize oK P Q x = K1 at *
  generalize oK P Q y = K2 at *
  obtain ⟨u0, u1, s0, -, s1⟩ := p1.in k
  obtain ⟨v0, v1, t0, -, t1⟩ := p2.in k
  have HI := hide (fun W => refInf_any (n1 != n2) k W)
  by_cases a3 : K1 = 3
  · rw [show mulP f P Q b n1 K1 (mag X1 S1) n2 K2 (mag X2 S2) = nanB f P Q by unfold mulP; rw [if_pos (by omega)]]
    exact refMul_n1 W HO1 HO2 (eq_t a3) HN
  by_cases b3 : K2 = 3
  · rw [show mulP f P Q b n1 K1 (mag X1 S1) n2 K2 (mag X2 S2) = nanB f P Q by unfold mulP; rw [if_pos (by omega)]]
    exact refMul_n2 W HO1 HO2 (eq_f a3) (eq_t b3) HN
  have HS : Hid (0 ≤ S1 ∧ S1 < 18446744073709551616 ∧ S1.toNat < pw 2 ∧ 0 ≤ S2 ∧ S2 < 18446744073709551616 ∧ S2.toNat < pw 2) := by
    rw [pw_2]
    exact ⟨s0, by omega, by omega, t0, by omega, by omega⟩
  have HE := ex_wide k (n1 != n2) (S1.toNat * S2.toNat) _ (w2_pw (sig_mul s1 t1)) (show -4000 ≤ X1 + X2 by omega) (by omega) rfl
  have kx : IntKind.i64.wrap (X1 + X2) = X1 + X2 := i64_id (by omega) (by omega)
  by_cases a2 : K1 = 2
  · by_cases b0 : K2 = 0
    · rw [show mulP f P Q b n1 K1 (mag X1 S1) n2 K2 (mag X2 S2) = nanB f P Q by unfold mulP; rw [if_pos (by omega)]]
      exact refMul_n3 W HO1 HO2 (eq_f a3) (eq_f b3) (eq_t a2) (eq_t b0) HN
    · rw [show mulP f P Q b n1 K1 (mag X1 S1) n2 K2 (mag X2 S2) = put f P Q (n1 != n2) (Q - 1) 0 by unfold mulP; rw [if_neg (by omega), if_pos (Or.inl a2)]]
      exact refMul_i1 W HO1 HO2 (eq_f a3) (eq_f b3) (eq_t a2) (eq_f b0) (eq_f (by omega)) HI
  by_cases a0 : K1 = 0
  · by_cases b2 : K2 = 2
    · rw [show mulP f P Q b n1 K1 (mag X1 S1) n2 K2 (mag X2 S2) = nanB f P Q by unfold mulP; rw [if_pos (by omega)]]
      exact refMul_n4 W HO1 HO2 (eq_f a3) (eq_f b3) (eq_f a2) (eq_t a0) (eq_t b2) HN
    · rw [show mulP f P Q b n1 K1 (mag X1 S1) n2 K2 (mag X2 S2) = rd f P Q b (n1 != n2) (mag X1 S1 * mag X2 S2 / 2 ^ Z5) by unfold mulP; rw [if_neg (by omega), if_neg (by omega)], mag_mul u0 v0]
      exact refMul_e0 W HO1 HO2 (eq_f a3) (eq_f b3) (eq_f a2) (eq_t a0) (eq_f b2) HS kx HE
  · by_cases b2 : K2 = 2
    · rw [show mulP f P Q b n1 K1 (mag X1 S1) n2 K2 (mag X2 S2) = put f P Q (n1 != n2) (Q - 1) 0 by unfold mulP; rw [if_neg (by omega), if_pos (Or.inr b2)]]
      exact refMul_i2 W HO1 HO2 (eq_f a3) (eq_f b3) (eq_f a2) (eq_f a0) (eq_t b2) HI
    · rw [show mulP f P Q b n1 K1 (mag X1 S1) n2 K2 (mag X2 S2) = rd f P Q b (n1 != n2) (mag X1 S1 * mag X2 S2 / 2 ^ Z5) by unfold mulP; rw [if_neg (by omega), if_neg (by omega)], mag_mul u0 v0]
      exact refMul_e1 W HO1 HO2 (eq_f a3) (eq_f b3) (eq_f a2) (eq_f a0) (eq_f b2) HS kx HE

/-- Far below the least float. -/
theorem rd_tiny {w e f P Q b E : Int} (k : Kd w e f P Q b) (n : Bool) (v : Nat) (hv : v < 9007199254740992) (hE : E ≤ -2800) : rd f P Q b n (v * 2 ^ (E + 5000).toNat) = put f P Q n 0 0 := by
  obtain ⟨hP, f0, f1, l0, l1, b0, b1⟩ := k.pow
  refine zero_code k n ?_
  by_cases h0 : v = 0
  · rw [h0, Nat.zero_mul, code_zero]
  · refine code_tiny ?_
    rw [bl_shl _ _ (by omega)]
    have h1 : ¬ 53 < Go.bitLen v := fun h => by
      have := bl_ge h
      omega
    unfold lowN
    omega
/-- Far above the greatest one. -/
theorem rd_huge {w e f P Q b E : Int} (k : Kd w e f P Q b) (n : Bool) (v : Nat) (hv : 0 < v) (hE : 2800 ≤ E) : rd f P Q b n (v * 2 ^ (E + 5000).toNat) = put f P Q n (Q - 1) 0 := by
  obtain ⟨hP, f0, f1, l0, l1, b0, b1⟩ := k.pow
  refine inf_code k n ?_
  rw [bl_shl _ _ (by omega)]
  unfold lowN
  omega
/-- A power of two, brought near. -/
def clamp (c N : Int) : Int := if N < -c then -c else if c < N then c else N
/-- A finite float times a power of two: the program's number is the reference's. -/
theorem scale_num {w e f P Q b X S : Int} (k : Kd w e f P Q b) (n : Bool) (N : Int) (h : Prt f P Q b 1 X S) :
    narrowN f P Q b n 1 (X + clamp 4096 N) S = exactN f P Q b n S.toNat (X + clamp 9000 N) := by
  obtain ⟨x0, x1, s0, -, s1⟩ := h.in k
  have hS : 0 < S := by unfold Prt at h; omega
  unfold narrowN
  rw [if_neg (by omega), if_pos rfl]
  have hc := cap_in (X + clamp 4096 N)
  rw [num_plain _ _ (by omega)]
  show rd f P Q b n (S.toNat * 2 ^ (cap (X + clamp 4096 N) + 5000).toNat) = _
  by_cases hlo : X + clamp 9000 N ≤ -2800
  · have h4 : cap (X + clamp 4096 N) ≤ -2800 := by
      unfold clamp at hlo ⊢
      unfold cap
      split at hlo <;> (try split at hlo) <;> split <;> (try split) <;> (try split) <;> (try split) <;> omega
    rw [rd_tiny k n _ (by omega) h4]
    unfold exactN
    by_cases h5 : X + clamp 9000 N < -4000
    · rw [if_pos (Or.inr h5)]
    · rw [if_neg (by omega), if_neg (by omega)]
      exact (rd_tiny k n _ (by omega) hlo).symm
  · by_cases hhi : 2800 ≤ X + clamp 9000 N
    · have h4 : 2800 ≤ cap (X + clamp 4096 N) := by
        unfold clamp at hhi ⊢
        unfold cap
        split at hhi <;> (try split at hhi) <;> split <;> (try split) <;> (try split) <;> (try split) <;> omega
      rw [rd_huge k n _ (by omega) h4]
      unfold exactN
      rw [if_neg (by omega)]
      by_cases h5 : 4000 < X + clamp 9000 N
      · rw [if_pos h5]
      · rw [if_neg h5]
        exact (rd_huge k n _ (by omega) hhi).symm
    · have h4 : cap (X + clamp 4096 N) = X + clamp 9000 N := by
        unfold clamp at hlo hhi ⊢
        unfold cap
        split at hlo <;> (try split at hlo) <;> split <;> (try split) <;> (try split) <;> (try split) <;> omega
      rw [h4, exact_wide k n _ (by omega) (by omega)]

theorem clamp_in (c N : Int) (h : 0 ≤ c) : -c ≤ clamp c N ∧ clamp c N ≤ c := by unfold clamp; split <;> (try split) <;> omega
theorem clamp_id {c N : Int} (h0 : -c ≤ N) (h1 : N ≤ c) : clamp c N = N := by unfold clamp; rw [if_neg (by omega), if_neg (by omega)]

/-- Program and reference have one answer of a float times a power of two. -/
theorem scale_both {w e f P Q b x : Int} (k : Kd w e f P Q b) (N : Int) (x0 : 0 ≤ x) (x1 : x < 18446744073709551616) :
    ∃ v, (∀ W, Calls Try.prog 12 #[.int .i64 w, .int .u64 x, .int .i64 N] W fun r W' => r = .returned (.int .u64 v) ∧ Below W.heap.size W W') ∧
      (∀ W, Calls Try.prog 14 #[.int .i64 w, .int .u64 x, .int .i64 N] W fun r W' => r = .returned (.int .u64 v) ∧ Below W.heap.size W W') ∧
      (0 ≤ N → N ≤ 1 → v = if oK P Q x = 3 then nanB f P Q else if oK P Q x = 2 then put f P Q (oN P Q x) (Q - 1) 0 else rd f P Q b (oN P Q x) (oM f P Q b x * 2 ^ N.toNat)) := by
  obtain ⟨X, S, o1, p1, m1⟩ := open_kd k x
  have HO := hide (fun W => open_any x k.wd W x0 x1 o1)
  have HR := hide (fun W => refOpen_any x k W x0 x1 o1)
  rw [← m1]
  generalize oN P Q x = n at *
  obtain ⟨u0, u1, s0, -, s1⟩ := p1.in k
  obtain ⟨p1', p2', q1, q2⟩ := k.pos
  by_cases hK : oK P Q x = 1
  · rw [hK] at HO HR p1
    refine ⟨exactN f P Q b n S.toNat (X + clamp 9000 N), fun W => ?_, fun W => ?_, fun n0 n1 => ?_⟩
    · rw [← scale_num k n N p1]
      have HC := fun E => hide (fun W => narrow_any k n 1 E S s0 (by omega) W)
      obtain ⟨c0, c1⟩ := clamp_in 4096 N (by omega)
      have kx : IntKind.i64.wrap (X + clamp 4096 N) = X + clamp 4096 N := i64_id (by omega) (by omega)
      by_cases hl : N < -4096
      · have hc : clamp 4096 N = -4096 := by unfold clamp; rw [if_pos hl]
        rw [hc] at kx ⊢
        exact scale_lo W hl kx HO (HC _)
      · by_cases hh : 4096 < N
        · have hc : clamp 4096 N = 4096 := by unfold clamp; rw [if_neg hl, if_pos hh]
          rw [hc] at kx ⊢
          exact scale_hi W hh kx HO (HC _)
        · rw [clamp_id (by omega) (by omega)] at kx ⊢
          exact scale_mid W hl hh kx HO (HC _)
    · have HS : Hid (0 ≤ S ∧ S < 18446744073709551616) := ⟨s0, by omega⟩
      have HE := fun E => hide (fun (a : Option Addr) (m c : Nat) (W : World) hx => exact_any (n := n) (k := E) k S.toNat (w2_pw (small_w2 s0 (by omega))) a m c W hx)
      obtain ⟨c0, c1⟩ := clamp_in 9000 N (by omega)
      have kx : IntKind.i64.wrap (X + clamp 9000 N) = X + clamp 9000 N := i64_id (by omega) (by omega)
      by_cases hl : N < -9000
      · have hc : clamp 9000 N = -9000 := by unfold clamp; rw [if_pos hl]
        rw [hc] at kx ⊢
        exact refScale_lo W hl kx HS (HE _) HR
      · by_cases hh : 9000 < N
        · have hc : clamp 9000 N = 9000 := by unfold clamp; rw [if_neg hl, if_pos hh]
          rw [hc] at kx ⊢
          exact refScale_hi W hh kx HS (HE _) HR
        · rw [clamp_id (by omega) (by omega)] at kx ⊢
          exact refScale_mid W hl hh kx HS (HE _) HR
    · rw [clamp_id (by omega) (by omega), exact_wide k n _ (by omega) (by omega), if_neg (by omega), if_neg (by omega)]
      congr 1
      unfold mag
      rw [Nat.mul_assoc, ← Nat.pow_add, show (X + 5000).toNat + N.toNat = (X + N + 5000).toNat by omega]
  · refine ⟨narrowN f P Q b n (oK P Q x) X S, fun W => scale_oth W (eq_f hK) HO (hide (fun W => narrow_any k n _ X S s0 (by omega) W)), fun W => refScale_oth W (eq_f hK) HR (hide (fun W => ?_)), fun _ _ => ?_⟩
    · unfold narrowN
      have hK' : oK P Q x = 0 ∨ oK P Q x = 2 ∨ oK P Q x = 3 := by unfold Prt at p1; omega
      rcases hK' with h | h | h
      · rw [if_pos h]
        exact refNarrow_zero W (eq_t h) (hide (fun W => make_any n 0 0 k W (by omega) (by omega) (by omega) (by omega)))
      · rw [if_neg (by omega), if_neg (by omega), if_pos h]
        exact refNarrow_inf W (eq_f (by omega)) (eq_f hK) (eq_t h) (hide (fun W => refInf_any n k W))
      · rw [if_neg (by omega), if_neg (by omega), if_neg (by omega), if_pos h]
        exact refNarrow_nan W (eq_f (by omega)) (eq_f hK) (eq_f (by omega)) (eq_t h) (hide (fun W => refNan_any k W))
    · have hK' : oK P Q x = 0 ∨ oK P Q x = 2 ∨ oK P Q x = 3 := by unfold Prt at p1; omega
      unfold narrowN nanB
      rcases hK' with h | h | h
      · rw [if_pos h, if_neg (by omega), if_neg (by omega), p1.mag0 hK, Nat.zero_mul, rd_zero k]
      · rw [if_neg (by omega), if_neg (by omega), if_pos h, if_neg (by omega), if_pos h]
      · rw [if_neg (by omega), if_neg (by omega), if_neg (by omega), if_pos h, if_pos h]
theorem scale_no {w e f P Q b x : Int} (k : Wd w e f P Q b) (hf : f = 0) (N : Int) (W : World) (x0 : 0 ≤ x) (x1 : x < 18446744073709551616) :
    Calls Try.prog 12 #[.int .i64 w, .int .u64 x, .int .i64 N] W fun r W' => r = .returned (.int .u64 0) ∧ Below W.heap.size W W' :=
  scale_oth W (by rfl) (hide (fun W => open_none k hf x W x0 x1)) (hide (fun W => narrow_no k hf false 0 0 0 (by omega) (by omega) W))

/-- One, of the program and of the reference. -/
theorem whole_one {w e f P Q b : Int} (k : Kd w e f P Q b) (W : World) :
    Calls Try.prog 30 #[.int .i64 w, .bool false, .int .u64 1] W fun r W' => r = .returned (.int .u64 (put f P Q false b 0)) ∧ Below W.heap.size W W' := by
  have h1 : rd f P Q b false ((1 : Int).toNat * 2 ^ ((0 : Int) + 5000).toNat) = put f P Q false b 0 := by
    obtain ⟨r0, r1, h1, h2, h3⟩ := pow_open (j := 0) k (by omega) (by omega)
    rw [Int.add_zero] at r0 r1 h1 h2 h3
    obtain ⟨g1, g2⟩ := oM_fin (x := put f P Q false b 0) k ⟨by omega, by omega⟩
    have hb : 0 ≤ b ∧ b < Q := by rcases k with ⟨-, -, -, -, rfl, rfl⟩ | ⟨-, -, -, -, rfl, rfl⟩ <;> omega
    obtain ⟨p1, p2, q1, q2⟩ := k.pos
    have hc : cutN f P Q (put f P Q false b 0) = put f P Q false b 0 := by
      obtain ⟨-, -, c2, c3, c4⟩ := put_in (n := false) (x := b) (y := 0) k hb.1 hb.2 (by omega) (by omega)
      rw [← cut_put k.wd.sz, c2, c3, c4]
    rw [show ((0 : Int) + 5000).toNat = Z5 + (0 : Int).toNat by unfold Z5; omega, show (1 : Int).toNat = 1 from rfl, Nat.one_mul, ← h3, g1, rd_val k _ g2]
    have := cut_fl k (x := put f P Q false b 0) (by omega)
    rw [hc, h2] at this
    exact this.symm
  have := fun W => pack_wide k false (1 : Int).toNat (E := 0) (small_w2 (by omega) (by omega)) (by omega) (by omega) W
  rw [h1] at this
  exact whole_f W (hide (fun W => of_n 1 W (by omega) (by omega))) (hide this)
theorem whole_none {w e f P Q b : Int} (k : Wd w e f P Q b) (hf : f = 0) (W : World) :
    Calls Try.prog 30 #[.int .i64 w, .bool false, .int .u64 1] W fun r W' => r = .returned (.int .u64 0) ∧ Below W.heap.size W W' :=
  whole_f W (hide (fun W => of_n 1 W (by omega) (by omega))) (hide (fun W => pack_no (1 : Int).toNat false false 0 k hf (small_w2 (by omega) (by omega)) W))
theorem refOne_any {w e f P Q b : Int} (k : Kd w e f P Q b) (W : World) :
    Calls Try.prog 13 #[.int .i64 w] W fun r W' => r = .returned (.int .u64 (put f P Q false b 0)) ∧ Below W.heap.size W W' := by
  obtain ⟨p1, p2, q1, q2⟩ := k.pos
  have hb : 0 ≤ b ∧ b < Q := by rcases k with ⟨-, -, -, -, rfl, rfl⟩ | ⟨-, -, -, -, rfl, rfl⟩ <;> omega
  exact one_l W (hide (fun W => refB_any k W)) (hide (fun W => make_any false b 0 k W hb.1 hb.2 (by omega) (by omega)))

end Go.Proofs.Ytlkmongiknpejaa
