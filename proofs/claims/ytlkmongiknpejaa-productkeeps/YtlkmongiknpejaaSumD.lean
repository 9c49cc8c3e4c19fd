/- Sums of floats, as an arithmetic of their codes: what is answered is a float or the canonical NaN; the order of two; noughts; the other sign. -/
import Derived.Test.YtlkmongiknpejaaSumC
namespace Go.Proofs.Ytlkmongiknpejaa
open Go.RowKit
open Go.Proofs.Ytlkmongiknpejaa.W

theorem put_in {w e f P Q b x y : Int} {n : Bool} (h : Kd w e f P Q b) (x0 : 0 ≤ x) (x1 : x < Q) (y0 : 0 ≤ y) (y1 : y < P) :
    0 ≤ put f P Q n x y ∧ put f P Q n x y < 18446744073709551616 ∧ sg P Q (put f P Q n x y) = n ∧ put f P Q n x y / P % Q = x ∧ put f P Q n x y % P = y := by
  unfold sg
  cases n
  · rw [put_no h.f0]
    rcases h with ⟨-, -, -, rfl, rfl, -⟩ | ⟨-, -, -, rfl, rfl, -⟩
    · refine ⟨by omega, by omega, ?_, by omega, by omega⟩
      show ((x * 8388608 + y) / 2147483648 % 2 == 1) = false
      exact eq_f (by omega)
    · refine ⟨by omega, by omega, ?_, by omega, by omega⟩
      show ((x * 4503599627370496 + y) / 9223372036854775808 % 2 == 1) = false
      exact eq_f (by omega)
  · rw [put_yes h.f0]
    rcases h with ⟨-, -, -, rfl, rfl, -⟩ | ⟨-, -, -, rfl, rfl, -⟩
    · refine ⟨by omega, by omega, ?_, by omega, by omega⟩
      show ((x * 8388608 + y + 2147483648) / 2147483648 % 2 == 1) = true
      exact eq_t (by omega)
    · refine ⟨by omega, by omega, ?_, by omega, by omega⟩
      show ((x * 4503599627370496 + y + 9223372036854775808) / 9223372036854775808 % 2 == 1) = true
      exact eq_t (by omega)

/-- The infinite one's code. -/
def top (P Q : Int) : Int := (Q - 1) * P
theorem top_pos {w e f P Q b : Int} (k : Kd w e f P Q b) : 0 < top P Q := by
  unfold top
  rcases k with ⟨-, -, -, rfl, rfl, -⟩ | ⟨-, -, -, rfl, rfl, -⟩ <;> omega
/-- The canonical NaN. -/
def nanB (f P Q : Int) : Int := put f P Q false (Q - 1) (P / 2)

theorem code_parts {w e f P Q b c : Int} (k : Kd w e f P Q b) (c0 : 0 ≤ c) (c1 : c ≤ top P Q) : 0 ≤ c / P ∧ c / P < Q ∧ 0 ≤ c % P ∧ c % P < P ∧ c / P * P + c % P = c ∧ (c / P = Q - 1 ↔ c = top P Q) ∧ (c = top P Q → c % P = 0) := by
  unfold top at *
  rcases k with ⟨-, -, -, rfl, rfl, -⟩ | ⟨-, -, -, rfl, rfl, -⟩ <;> (refine ⟨?_, ?_, ?_, ?_, ?_, ?_, ?_⟩ <;> omega)

/-- A float's own code, sign and kind. -/
theorem fl_facts {w e f P Q b c : Int} (k : Kd w e f P Q b) (n : Bool) (c0 : 0 ≤ c) (c1 : c ≤ top P Q) :
    0 ≤ fl f P Q n c ∧ fl f P Q n c < 18446744073709551616 ∧ ((oc P Q (fl f P Q n c) : Nat) : Int) = c ∧ oN P Q (fl f P Q n c) = n ∧ cutN f P Q (fl f P Q n c) = fl f P Q n c ∧ (fl f P Q n c / P % Q == Q - 1 && fl f P Q n c % P != 0) = false := by
  obtain ⟨a0, a1, d0, d1, he, ht, hz⟩ := code_parts k c0 c1
  have hf : fl f P Q n c = put f P Q n (c / P) (c % P) := rfl
  obtain ⟨r0, r1, r2, r3, r4⟩ := put_in (n := n) k a0 a1 d0 d1
  rw [← hf] at r0 r1 r2 r3 r4
  refine ⟨r0, r1, ?_, ?_, ?_, ?_⟩
  · unfold oc
    rw [r3, r4, he, Int.toNat_of_nonneg c0]
  · unfold oN
    rw [r2, r3, r4, if_neg (fun h => h.2 (hz (ht.1 h.1)))]
  · rw [← cut_put k.wd.sz, r2, r3, r4]
    exact hf.symm
  · rw [r3, r4]
    by_cases h : c = top P Q
    · simp [hz h]
    · rw [eq_f (fun h' => h (ht.1 h'))]
      rfl
theorem nan_facts {w e f P Q b : Int} (k : Kd w e f P Q b) :
    0 ≤ nanB f P Q ∧ nanB f P Q < 18446744073709551616 ∧ oK P Q (nanB f P Q) = 3 ∧ cutN f P Q (nanB f P Q) = nanB f P Q ∧ (nanB f P Q / P % Q == Q - 1 && nanB f P Q % P != 0) = true := by
  obtain ⟨p1, p2, q1, q2⟩ := k.pos
  have h2 : P / 2 ≠ 0 := by omega
  obtain ⟨r0, r1, r2, r3, r4⟩ := put_in (x := Q - 1) (y := P / 2) (n := false) k (by omega) (by omega) (by omega) (by omega)
  unfold nanB
  refine ⟨r0, r1, ?_, ?_, ?_⟩
  · unfold oK
    rw [r3, r4, if_pos rfl, if_neg h2]
  · rw [← cut_put k.wd.sz, r2, r3, r4]
  · rw [r3, r4]
    simp [h2]

/-- A float by its code. -/
theorem kind_oc {w e f P Q b : Int} (k : Kd w e f P Q b) (x : Int) :
    (oK P Q x = 3 ∧ top P Q < oc P Q x ∧ oN P Q x = false) ∨ (oK P Q x = 2 ∧ (oc P Q x : Int) = top P Q ∧ oM f P Q b x = 0) ∨
    (oK P Q x = 1 ∧ 0 < oc P Q x ∧ (oc P Q x : Int) < top P Q ∧ oM f P Q b x = fval f.toNat (lowN f b) (oc P Q x)) ∨ (oK P Q x = 0 ∧ oc P Q x = 0 ∧ oM f P Q b x = 0) := by
  obtain ⟨p1, p2, q1, q2⟩ := k.pos
  obtain ⟨u, v⟩ := exp_in (x / P) (show 1 ≤ Q by omega)
  obtain ⟨u', v'⟩ := exp_in x (show 1 ≤ P by omega)
  unfold oM oN oK
  have hc : ((oc P Q x : Nat) : Int) = x / P % Q * P + x % P := by
    unfold oc
    have := Int.mul_nonneg u (show 0 ≤ P by omega)
    omega
  have hz := fval_zero f.toNat (lowN f b)
  generalize oc P Q x = c at *
  generalize x / P % Q = e at *
  generalize x % P = y at *
  generalize sg P Q x = n at *
  by_cases h1 : e = Q - 1
  · rw [if_pos h1, if_pos h1]
    by_cases h2 : y = 0
    · rw [if_pos h2]
      refine Or.inr (Or.inl ⟨rfl, ?_, rfl⟩)
      rw [hc, h1, h2]
      unfold top
      omega
    · rw [if_neg h2, if_pos ⟨h1, h2⟩]
      refine Or.inl ⟨rfl, ?_, rfl⟩
      rw [hc, h1]
      unfold top
      omega
  · rw [if_neg h1, if_neg h1]
    by_cases h2 : e = 0 ∧ y = 0
    · rw [if_pos h2]
      have : c = 0 := by
        rw [h2.1, h2.2] at hc
        omega
      subst this
      exact Or.inr (Or.inr (Or.inr ⟨rfl, rfl, hz⟩))
    · rw [if_neg h2]
      refine Or.inr (Or.inr (Or.inl ⟨rfl, ?_, ?_, rfl⟩))
      · rcases k with ⟨-, -, -, rfl, rfl, -⟩ | ⟨-, -, -, rfl, rfl, -⟩ <;> omega
      · unfold top
        rcases k with ⟨-, -, -, rfl, rfl, -⟩ | ⟨-, -, -, rfl, rfl, -⟩ <;> omega
theorem oM_fin {w e f P Q b : Int} (k : Kd w e f P Q b) {x : Int} (h : oK P Q x ≠ 3 ∧ oK P Q x ≠ 2) : oM f P Q b x = fval f.toNat (lowN f b) (oc P Q x) ∧ (oc P Q x : Int) < top P Q := by
  have ht := top_pos k
  rcases kind_oc k x with ⟨h1, _⟩ | ⟨h1, _⟩ | ⟨_, _, h2, h3⟩ | ⟨_, h2, h3⟩
  · exact absurd h1 h.1
  · exact absurd h1 h.2
  · exact ⟨h3, h2⟩
  · rw [h2, h3, fval_zero]
    exact ⟨rfl, ht⟩
/-- What a float's bits are by its sign and its code. -/
theorem cut_fl {w e f P Q b : Int} (k : Kd w e f P Q b) {x : Int} (h : oK P Q x ≠ 3) : cutN f P Q x = fl f P Q (oN P Q x) (oc P Q x : Int) := by
  obtain ⟨p1, p2, q1, q2⟩ := k.pos
  obtain ⟨u, v⟩ := exp_in (x / P) (show 1 ≤ Q by omega)
  obtain ⟨u', v'⟩ := exp_in x (show 1 ≤ P by omega)
  rw [← cut_put k.wd.sz]
  have hn : oN P Q x = sg P Q x := by
    unfold oN
    unfold oK at h
    by_cases h1 : x / P % Q = Q - 1
    · rw [if_pos h1] at h
      by_cases h2 : x % P = 0
      · rw [if_neg (fun h' => h'.2 h2)]
      · rw [if_neg h2] at h
        exact absurd rfl h
    · rw [if_neg (fun h' => h1 h'.1)]
  have hc : ((oc P Q x : Nat) : Int) = x / P % Q * P + x % P := by
    unfold oc
    have := Int.mul_nonneg u (show 0 ≤ P by omega)
    omega
  unfold fl
  rw [hn, hc]
  generalize x / P % Q = e at *
  generalize x % P = y at *
  congr 1
  · rw [Int.add_comm, Int.add_mul_ediv_right _ _ (by omega), Int.ediv_eq_zero_of_lt u' v', Int.zero_add]
  · rw [Int.add_comm, Int.add_mul_emod_self_right, Int.emod_eq_of_lt u' v']

theorem lid_top {w e f P Q b : Int} (k : Kd w e f P Q b) (c : Nat) : 0 ≤ lid P Q c ∧ lid P Q c ≤ top P Q := lid_in k c
theorem put_inf {w e f P Q b : Int} (k : Kd w e f P Q b) (n : Bool) : put f P Q n (Q - 1) 0 = fl f P Q n (top P Q) := by
  have ht := top_pos k
  obtain ⟨_, _, _, _, _, h1, h2⟩ := code_parts k (Int.le_of_lt ht) (Int.le_refl _)
  unfold fl
  rw [h1.2 rfl, h2 rfl]
theorem put_nought {f P Q : Int} (n : Bool) : put f P Q n 0 0 = fl f P Q n 0 := by
  unfold fl
  simp
/-- What a sum is: the canonical NaN, or a float. -/
theorem add_form {w e f P Q b : Int} (k : Kd w e f P Q b) (n1 n2 : Bool) (K1 K2 : Int) (M1 M2 : Nat) :
    addP f P Q b n1 K1 M1 n2 K2 M2 = nanB f P Q ∨ ∃ n c, 0 ≤ c ∧ c ≤ top P Q ∧ addP f P Q b n1 K1 M1 n2 K2 M2 = fl f P Q n c := by
  have ht := top_pos k
  unfold addP
  split
  · exact Or.inl rfl
  refine Or.inr ?_
  split
  · exact ⟨_, _, Int.le_of_lt ht, Int.le_refl _, put_inf k _⟩
  split
  · exact ⟨_, _, Int.le_of_lt ht, Int.le_refl _, put_inf k _⟩
  split
  · exact ⟨_, _, (lid_top k _).1, (lid_top k _).2, rfl⟩
  split
  · exact ⟨_, _, Int.le_refl _, Int.le_of_lt ht, put_nought _⟩
  split
  · exact ⟨_, _, (lid_top k _).1, (lid_top k _).2, rfl⟩
  · exact ⟨_, _, (lid_top k _).1, (lid_top k _).2, rfl⟩

/-- A float's number is rounded to itself. -/
theorem rd_val {w e f P Q b : Int} (_ : Kd w e f P Q b) (n : Bool) {c : Nat} (h : (c : Int) < top P Q) : rd f P Q b n (fval f.toNat (lowN f b) c) = fl f P Q n c := by
  unfold rd
  rw [fval_code]
  unfold lid
  rw [if_neg (show ¬ (Q - 1) * P ≤ (c : Int) by unfold top at h; omega)]

/-- The sum of a float and nought. -/
theorem add_nought {w e f P Q b : Int} (k : Kd w e f P Q b) {x : Int} (h : oK P Q x ≠ 3) (h0 : oK P Q x ≠ 0) : addB f P Q b x 0 = cutN f P Q x := by
  have hz : oK P Q 0 = 0 ∧ oM f P Q b 0 = 0 := by
    have hc : oc P Q 0 = 0 := by
      unfold oc
      simp
    have ht := top_pos k
    rcases kind_oc k 0 with ⟨_, h1, _⟩ | ⟨_, h1, _⟩ | ⟨_, h1, _⟩ | ⟨h1, _, h2⟩
    · omega
    · omega
    · omega
    · exact ⟨h1, h2⟩
  rw [cut_fl k h]
  unfold addB
  rw [hz.1, hz.2]
  unfold addP
  rw [if_neg (by omega)]
  rcases kind_oc k x with ⟨h1, _⟩ | ⟨h1, h2, _⟩ | ⟨h1, h2, h3, h4⟩ | ⟨h1, _⟩
  · exact absurd h1 h
  · rw [if_pos h1, h2, put_inf k]
  · rw [if_neg (by omega), if_neg (by omega), h4]
    have hp := fval_pos (f := f.toNat) (L := lowN f b) (c := oc P Q x) (by omega)
    by_cases hn : oN P Q x = oN P Q 0
    · rw [if_pos hn, Nat.add_zero, rd_val k _ h3]
    · rw [if_neg hn, if_neg (by omega), if_neg (by omega), Nat.sub_zero, rd_val k _ h3]
  · exact absurd h1 h0

/-- A float less itself. -/
theorem sub_self {w e f P Q b : Int} (k : Kd w e f P Q b) {x : Int} : (oK P Q x = 2 → subB f P Q b x x = nanB f P Q) ∧ (oK P Q x ≠ 2 → oK P Q x ≠ 3 → subB f P Q b x x = 0) := by
  unfold subB addP
  refine ⟨fun h => ?_, fun h h3 => ?_⟩
  · rw [if_pos (Or.inr (Or.inr ⟨h, h, by cases oN P Q x <;> simp⟩))]
    rfl
  · rw [if_neg (by omega), if_neg h, if_neg h, if_neg (by cases oN P Q x <;> simp), if_pos rfl, put_no k.f0]
    omega
theorem add_nan {f P Q b x y : Int} (h : oK P Q x = 3) : addB f P Q b x y = nanB f P Q ∧ subB f P Q b y x = nanB f P Q := by
  unfold subB addB addP
  rw [if_pos (Or.inl h), if_pos (Or.inr (Or.inl h))]
  exact ⟨rfl, rfl⟩
theorem addB_comm (f P Q b x y : Int) : addB f P Q b x y = addB f P Q b y x := add_comm _ _ _ _ _ _

theorem xor_bit (m f e : Nat) : (m ^^^ 2 ^ (f + e)) % 2 ^ f = m % 2 ^ f ∧ (m ^^^ 2 ^ (f + e)) / 2 ^ f % 2 ^ e = m / 2 ^ f % 2 ^ e ∧ (m ^^^ 2 ^ (f + e)) / 2 ^ (f + e) % 2 = 1 - m / 2 ^ (f + e) % 2 := by
  refine ⟨?_, ?_, ?_⟩
  · rw [Nat.xor_mod_two_pow, Nat.pow_add, Nat.mul_mod_right, Nat.xor_zero]
  · rw [Nat.xor_div_two_pow, Nat.pow_add, Nat.mul_div_cancel_left _ (Nat.two_pow_pos f), Nat.xor_mod_two_pow, Nat.mod_self, Nat.xor_zero]
  · rw [Nat.xor_div_two_pow, Nat.div_self (Nat.two_pow_pos _)]
    have h := Nat.xor_mod_two_eq_one (a := m / 2 ^ (f + e)) (b := 1)
    generalize m / 2 ^ (f + e) = t at *
    have h1 := Nat.mod_two_eq_zero_or_one t
    have h2 := Nat.mod_two_eq_zero_or_one (t ^^^ 1)
    rcases h1 with h1 | h1 <;> rcases h2 with h2 | h2 <;> simp [h1, h2] at h ⊢
/-- A float with the other sign. -/
theorem other_sign {w e f P Q b x : Int} (k : Kd w e f P Q b) (x0 : 0 ≤ x) (x1 : x < 18446744073709551616) : ∃ x', bits .xor .u64 x (put f P Q true 0 0) = x' ∧ 0 ≤ x' ∧ x' < 18446744073709551616 ∧ x' / P % Q = x / P % Q ∧ x' % P = x % P ∧ sg P Q x' = !sg P Q x := by
  refine ⟨_, rfl, ?_⟩
  rw [put_yes k.f0]
  obtain ⟨m, rfl⟩ := Int.eq_ofNat_of_zero_le x0
  have hlt : m < 2 ^ 64 := by omega
  unfold sg
  rcases k with ⟨-, -, -, rfl, rfl, -⟩ | ⟨-, -, -, rfl, rfl, -⟩
  · rw [show (0 : Int) * 8388608 + 0 + 8388608 * 256 = ((2147483648 : Nat) : Int) from rfl, u64_xor_nat m 2147483648 (by omega) (by omega)]
    obtain ⟨a, c, d⟩ := xor_bit m 23 8
    have hb : m ^^^ 2 ^ (23 + 8) < 2 ^ 64 := Nat.xor_lt_two_pow hlt (by decide)
    rw [show 2147483648 = 2 ^ (23 + 8) from rfl]
    generalize m ^^^ 2 ^ (23 + 8) = t at *
    rw [show 2 ^ 23 = 8388608 from rfl] at a c
    rw [show 2 ^ 8 = 256 from rfl] at c
    rw [show 2 ^ (23 + 8) = 2147483648 from rfl] at d
    rw [show (8388608 : Int) * 256 = 2147483648 from rfl]
    refine ⟨by omega, by omega, by omega, by omega, ?_⟩
    rcases Nat.mod_two_eq_zero_or_one (m / 2147483648) with h | h
    · rw [eq_t (show (t : Int) / 2147483648 % 2 = 1 by omega), eq_f (show ¬ (m : Int) / 2147483648 % 2 = 1 by omega)]
      rfl
    · rw [eq_f (show ¬ (t : Int) / 2147483648 % 2 = 1 by omega), eq_t (show (m : Int) / 2147483648 % 2 = 1 by omega)]
      rfl
  · rw [show (0 : Int) * 4503599627370496 + 0 + 4503599627370496 * 2048 = ((9223372036854775808 : Nat) : Int) from rfl, u64_xor_nat m 9223372036854775808 (by omega) (by omega)]
    obtain ⟨a, c, d⟩ := xor_bit m 52 11
    have hb : m ^^^ 2 ^ (52 + 11) < 2 ^ 64 := Nat.xor_lt_two_pow hlt (by decide)
    rw [show 9223372036854775808 = 2 ^ (52 + 11) from rfl]
    generalize m ^^^ 2 ^ (52 + 11) = t at *
    rw [show 2 ^ 52 = 4503599627370496 from rfl] at a c
    rw [show 2 ^ 11 = 2048 from rfl] at c
    rw [show 2 ^ (52 + 11) = 9223372036854775808 from rfl] at d
    rw [show (4503599627370496 : Int) * 2048 = 9223372036854775808 from rfl]
    refine ⟨by omega, by omega, by omega, by omega, ?_⟩
    rcases Nat.mod_two_eq_zero_or_one (m / 9223372036854775808) with h | h
    · rw [eq_t (show (t : Int) / 9223372036854775808 % 2 = 1 by omega), eq_f (show ¬ (m : Int) / 9223372036854775808 % 2 = 1 by omega)]
      rfl
    · rw [eq_f (show ¬ (t : Int) / 9223372036854775808 % 2 = 1 by omega), eq_t (show (m : Int) / 9223372036854775808 % 2 = 1 by omega)]
      rfl
/-- A difference is the sum with the other sign. -/
theorem sub_add {f P Q b x x' : Int} (y : Int) (h : oK P Q x ≠ 3) (h1 : x' / P % Q = x / P % Q) (h2 : x' % P = x % P) (h3 : sg P Q x' = !sg P Q x) : subB f P Q b y x = addB f P Q b y x' := by
  have e1 : oK P Q x' = oK P Q x := by unfold oK; rw [h1, h2]
  have e2 : oM f P Q b x' = oM f P Q b x := by unfold oM oc; rw [h1, h2]
  have e3 : oN P Q x' = !oN P Q x := by
    unfold oN
    rw [h1, h2, h3]
    unfold oK at h
    by_cases g1 : x / P % Q = Q - 1
    · rw [if_pos g1] at h
      by_cases g2 : x % P = 0
      · rw [if_neg (fun h' => h'.2 g2), if_neg (fun h' => h'.2 g2)]
      · rw [if_neg g2] at h
        exact absurd rfl h
    · rw [if_neg (fun h' => g1 h'.1), if_neg (fun h' => g1 h'.1)]
  unfold subB addB
  rw [e1, e2, e3]

end Go.Proofs.Ytlkmongiknpejaa
