/- What the product of two floats is, and a float times a power of two. -/
import Derived.Test.YtlkmongiknpejaaSumD
import Derived.Test.YtlkmongiknpejaaRefT
namespace Go.Proofs.Ytlkmongiknpejaa
open Go.RowKit
open Go.Proofs.Ytlkmongiknpejaa.W

/-- How many bits up a number lies. -/
def Z5 : Nat := 5000
/-- The product of two floats that are taken apart. -/
def mulP (f P Q b : Int) (n1 : Bool) (K1 : Int) (M1 : Nat) (n2 : Bool) (K2 : Int) (M2 : Nat) : Int :=
  if K1 = 3 ∨ K2 = 3 ∨ (K1 = 2 ∧ K2 = 0) ∨ (K1 = 0 ∧ K2 = 2) then nanB f P Q
  else if K1 = 2 ∨ K2 = 2 then put f P Q (n1 != n2) (Q - 1) 0
  else rd f P Q b (n1 != n2) (M1 * M2 / 2 ^ Z5)
/-- The product of two floats. -/
def mulB (f P Q b x y : Int) : Int := mulP f P Q b (oN P Q x) (oK P Q x) (oM f P Q b x) (oN P Q y) (oK P Q y) (oM f P Q b y)

theorem mag_mul {X1 S1 X2 S2 : Int} (h1 : -1200 ≤ X1) (h2 : -1200 ≤ X2) : mag X1 S1 * mag X2 S2 / 2 ^ Z5 = S1.toNat * S2.toNat * 2 ^ (X1 + X2 + 5000).toNat := by
  unfold mag
  have e : S1.toNat * 2 ^ (X1 + 5000).toNat * (S2.toNat * 2 ^ (X2 + 5000).toNat) = S1.toNat * S2.toNat * 2 ^ (X1 + X2 + 5000).toNat * 2 ^ Z5 := by
    rw [Nat.mul_mul_mul_comm, ← Nat.pow_add, Nat.mul_assoc _ (2 ^ (X1 + X2 + 5000).toNat), ← Nat.pow_add, show (X1 + 5000).toNat + (X2 + 5000).toNat = (X1 + X2 + 5000).toNat + Z5 by unfold Z5; omega]
  rw [e]
  exact Nat.mul_div_cancel _ (Nat.two_pow_pos Z5)
theorem mul_comm' {f P Q b : Int} (n1 n2 : Bool) (K1 K2 : Int) (M1 M2 : Nat) : mulP f P Q b n1 K1 M1 n2 K2 M2 = mulP f P Q b n2 K2 M2 n1 K1 M1 := by
  have hn : (n1 != n2) = (n2 != n1) := by cases n1 <;> cases n2 <;> rfl
  unfold mulP
  rw [hn, Nat.mul_comm]
  by_cases h : K1 = 3 ∨ K2 = 3 ∨ (K1 = 2 ∧ K2 = 0) ∨ (K1 = 0 ∧ K2 = 2)
  · rw [if_pos h, if_pos (show K2 = 3 ∨ K1 = 3 ∨ (K2 = 2 ∧ K1 = 0) ∨ (K2 = 0 ∧ K1 = 2) by omega)]
  · rw [if_neg h, if_neg (show ¬ (K2 = 3 ∨ K1 = 3 ∨ (K2 = 2 ∧ K1 = 0) ∨ (K2 = 0 ∧ K1 = 2)) by omega)]
    by_cases h2 : K1 = 2 ∨ K2 = 2
    · rw [if_pos h2, if_pos (show K2 = 2 ∨ K1 = 2 by omega)]
    · rw [if_neg h2, if_neg (show ¬ (K2 = 2 ∨ K1 = 2) by omega)]
theorem mulB_comm (f P Q b x y : Int) : mulB f P Q b x y = mulB f P Q b y x := mul_comm' _ _ _ _ _ _

/-- What a product is: the canonical NaN, or a float of that sign. -/
theorem mul_form {w e f P Q b : Int} (k : Kd w e f P Q b) (K1 K2 : Int) (M1 M2 : Nat) :
    (∀ n1 n2, mulP f P Q b n1 K1 M1 n2 K2 M2 = nanB f P Q) ∨ ∃ c, 0 ≤ c ∧ c ≤ top P Q ∧ ∀ n1 n2, mulP f P Q b n1 K1 M1 n2 K2 M2 = fl f P Q (n1 != n2) c := by
  have ht := top_pos k
  unfold mulP
  by_cases h : K1 = 3 ∨ K2 = 3 ∨ (K1 = 2 ∧ K2 = 0) ∨ (K1 = 0 ∧ K2 = 2)
  · exact Or.inl (fun _ _ => if_pos h)
  · refine Or.inr ?_
    by_cases h2 : K1 = 2 ∨ K2 = 2
    · exact ⟨_, Int.le_of_lt ht, Int.le_refl _, fun n1 n2 => by rw [if_neg h, if_pos h2]; exact put_inf k _⟩
    · exact ⟨_, (lid_top k _).1, (lid_top k _).2, fun n1 n2 => by rw [if_neg h, if_neg h2]; rfl⟩
theorem mul_bits {w e f P Q b : Int} (k : Kd w e f P Q b) (x y : Int) : 0 ≤ mulB f P Q b x y ∧ mulB f P Q b x y < 18446744073709551616 := by
  unfold mulB
  rcases mul_form k (oK P Q x) (oK P Q y) (oM f P Q b x) (oM f P Q b y) with h | ⟨c, c0, c1, h⟩
  · rw [h]
    exact ⟨(nan_facts k).1, (nan_facts k).2.1⟩
  · rw [h]
    obtain ⟨r0, r1, -⟩ := fl_facts k (oN P Q x != oN P Q y) c0 c1
    exact ⟨r0, r1⟩

/-- The bits of a power of two. -/
theorem pow_open {w e f P Q b j : Int} (k : Kd w e f P Q b) (j0 : 0 ≤ j) (j1 : j ≤ 1) :
    0 ≤ put f P Q false (b + j) 0 ∧ put f P Q false (b + j) 0 < 18446744073709551616 ∧ oK P Q (put f P Q false (b + j) 0) = 1 ∧ oN P Q (put f P Q false (b + j) 0) = false ∧ oM f P Q b (put f P Q false (b + j) 0) = 2 ^ (Z5 + j.toNat) := by
  obtain ⟨p1, p2, q1, q2⟩ := k.pos
  have hb : 0 < b ∧ b + 1 < Q - 1 := by rcases k with ⟨-, -, -, -, rfl, rfl⟩ | ⟨-, -, -, -, rfl, rfl⟩ <;> omega
  obtain ⟨hP, f0, f1, l0, l1, b0, b1⟩ := k.pow
  obtain ⟨r0, r1, r2, r3, r4⟩ := put_in (x := b + j) (y := 0) (n := false) k (by omega) (by omega) (by omega) (by omega)
  refine ⟨r0, r1, ?_, ?_, ?_⟩
  · unfold oK
    rw [r3, r4, if_neg (by omega), if_neg (by omega)]
  · unfold oN
    rw [r3, r4, if_neg (by omega), r2]
  · unfold oM oc
    rw [r3, r4, if_neg (by omega)]
    have hv := fval_norm f.toNat (lowN f b) (2 ^ f.toNat) (lowN f b + ((b + j).toNat - 1)) (by rw [Nat.pow_succ]; have := Nat.two_pow_pos f.toNat; omega) (by omega) (fun _ => Nat.le_refl _)
    rw [← Nat.pow_add] at hv
    have e1 : ((b + j) * P + 0).toNat = (lowN f b + ((b + j).toNat - 1) - lowN f b) * 2 ^ f.toNat + 2 ^ f.toNat := by
      rw [show lowN f b + ((b + j).toNat - 1) - lowN f b = (b + j).toNat - 1 by omega]
      have : (((b + j).toNat * 2 ^ f.toNat : Nat) : Int) = (b + j) * P := by
        rw [Int.natCast_mul, ← hP, Int.toNat_of_nonneg (by omega)]
      obtain ⟨i, hi⟩ : ∃ i, (b + j).toNat = i + 1 := ⟨(b + j).toNat - 1, by omega⟩
      rw [hi] at this ⊢
      rw [Nat.add_sub_cancel]
      rw [Nat.add_mul, Nat.one_mul] at this
      omega
    rw [e1, hv]
    congr 1
    unfold lowN Z5
    omega

/-- Times a power of two. -/
theorem mul_pow {w e f P Q b j : Int} (k : Kd w e f P Q b) (x : Int) (j0 : 0 ≤ j) (j1 : j ≤ 1) :
    mulB f P Q b x (put f P Q false (b + j) 0) = if oK P Q x = 3 then nanB f P Q else if oK P Q x = 2 then put f P Q (oN P Q x) (Q - 1) 0 else rd f P Q b (oN P Q x) (oM f P Q b x * 2 ^ j.toNat) := by
  obtain ⟨-, -, h1, h2, h3⟩ := pow_open k j0 j1
  unfold mulB
  rw [h1, h2, h3]
  unfold mulP
  have hn : (oN P Q x != false) = oN P Q x := by cases oN P Q x <;> rfl
  have hm : oM f P Q b x * 2 ^ (Z5 + j.toNat) / 2 ^ Z5 = oM f P Q b x * 2 ^ j.toNat := by
    rw [Nat.add_comm, Nat.pow_add, ← Nat.mul_assoc]
    exact Nat.mul_div_cancel _ (Nat.two_pow_pos Z5)
  rw [hn, hm]
  by_cases k3 : oK P Q x = 3
  · rw [if_pos (Or.inl k3), if_pos k3]
  · rw [if_neg (by omega), if_neg k3]
    by_cases k2 : oK P Q x = 2
    · rw [if_pos (Or.inl k2), if_pos k2]
    · rw [if_neg (by omega), if_neg k2]
/-- Times one. -/
theorem mul_one' {w e f P Q b : Int} (k : Kd w e f P Q b) {x : Int} (h : oK P Q x ≠ 3) : mulB f P Q b x (put f P Q false b 0) = cutN f P Q x := by
  have := mul_pow (j := 0) k x (by omega) (by omega)
  rw [Int.add_zero] at this
  rw [this, cut_fl k h, if_neg h]
  by_cases k2 : oK P Q x = 2
  · rw [if_pos k2, put_inf k]
    rcases kind_oc k x with ⟨h1, _⟩ | ⟨_, h1, _⟩ | ⟨h1, _⟩ | ⟨h1, _⟩
    · exact absurd h1 h
    · rw [h1]
    · omega
    · omega
  · obtain ⟨h1, h2⟩ := oM_fin k ⟨h, k2⟩
    rw [if_neg k2, h1, show (0 : Int).toNat = 0 from rfl, Nat.pow_zero, Nat.mul_one, rd_val k _ h2]
/-- That and that together. -/
theorem add_twice {w e f P Q b : Int} (_ : Kd w e f P Q b) (x : Int) :
    addB f P Q b x x = if oK P Q x = 3 then nanB f P Q else if oK P Q x = 2 then put f P Q (oN P Q x) (Q - 1) 0 else rd f P Q b (oN P Q x) (oM f P Q b x * 2) := by
  unfold addB addP nanB
  by_cases k3 : oK P Q x = 3
  · rw [if_pos (Or.inl k3), if_pos k3]
  · rw [if_neg (by
      rintro (h | h | ⟨_, _, h⟩)
      · exact k3 h
      · exact k3 h
      · exact h rfl), if_neg k3]
    by_cases k2 : oK P Q x = 2
    · rw [if_pos k2, if_pos k2]
    · rw [if_neg k2, if_neg k2, if_neg k2, if_pos rfl, Nat.mul_two]

/-- A float of the other sign, by its bits. -/
theorem xor_put {w e f P Q b x y : Int} (k : Kd w e f P Q b) (n : Bool) (x0 : 0 ≤ x) (x1 : x < Q) (y0 : 0 ≤ y) (y1 : y < P) :
    bits .xor .u64 (put f P Q n x y) (put f P Q true 0 0) = put f P Q (!n) x y := by
  obtain ⟨r0, r1, r2, r3, r4⟩ := put_in (n := n) k x0 x1 y0 y1
  obtain ⟨x', hx', u0, u1, u2, u3, u4⟩ := other_sign k r0 r1
  have hf := k.f0
  have hlt : put f P Q n x y < 2 * (P * Q) → x' < 2 * (P * Q) := by
    intro h
    rcases k with ⟨-, -, -, rfl, rfl, -⟩ | ⟨-, -, -, rfl, rfl, -⟩
    · obtain ⟨m, hm⟩ := Int.eq_ofNat_of_zero_le r0
      rw [hm] at h hx'
      rw [put_yes hf, show (0 : Int) * 8388608 + 0 + 8388608 * 256 = ((2147483648 : Nat) : Int) from rfl, u64_xor_nat m 2147483648 (by omega) (by omega)] at hx'
      have hb : m ^^^ 2147483648 < 2 ^ 32 := Nat.xor_lt_two_pow (by omega) (by decide)
      generalize m ^^^ 2147483648 = t at *
      omega
    · omega
  rw [hx', r3] at *
  rw [r4] at u3
  rw [r2] at u4
  have hv : put f P Q n x y < 2 * (P * Q) := by
    cases n
    · rw [put_no k.f0]
      rcases k with ⟨-, -, -, rfl, rfl, -⟩ | ⟨-, -, -, rfl, rfl, -⟩ <;> omega
    · rw [put_yes k.f0]
      rcases k with ⟨-, -, -, rfl, rfl, -⟩ | ⟨-, -, -, rfl, rfl, -⟩ <;> omega
  have hx := hlt hv
  clear hlt hv hx' r0 r1 r2 r3 r4
  unfold sg at u4
  cases n
  · rw [Bool.not_false, put_yes k.f0]
    simp only [Bool.not_false, beq_iff_eq] at u4
    rcases k with ⟨-, -, -, rfl, rfl, -⟩ | ⟨-, -, -, rfl, rfl, -⟩ <;> omega
  · rw [Bool.not_true, put_no k.f0]
    simp only [Bool.not_true, beq_eq_false_iff_ne] at u4
    rcases k with ⟨-, -, -, rfl, rfl, -⟩ | ⟨-, -, -, rfl, rfl, -⟩ <;> omega
theorem xor_fl {w e f P Q b c : Int} (k : Kd w e f P Q b) (n : Bool) (c0 : 0 ≤ c) (c1 : c ≤ top P Q) : bits .xor .u64 (fl f P Q n c) (put f P Q true 0 0) = fl f P Q (!n) c := by
  obtain ⟨a0, a1, d0, d1, -⟩ := code_parts k c0 c1
  exact xor_put k n a0 a1 d0 d1
/-- Of the other sign: kind and number are the same. -/
theorem other_parts {f P Q b x x' : Int} (h : oK P Q x ≠ 3) (h1 : x' / P % Q = x / P % Q) (h2 : x' % P = x % P) (h3 : sg P Q x' = !sg P Q x) : oK P Q x' = oK P Q x ∧ oM f P Q b x' = oM f P Q b x ∧ oN P Q x' = !oN P Q x := by
  refine ⟨by unfold oK; rw [h1, h2], by unfold oM oc; rw [h1, h2], ?_⟩
  unfold oN
  rw [h1, h2, h3]
  unfold oK at h
  by_cases g1 : x / P % Q = Q - 1
  · rw [if_pos g1] at h
    by_cases g2 : x % P = 0
    · rw [if_neg (fun h' => h'.2 g2), if_neg (fun h' => h'.2 g2)]
    · rw [if_neg g2] at h
      exact absurd rfl h
  · rw [if_neg (fun h' => g1 h'.1), if_neg (fun h' => g1 h'.1)]

end Go.Proofs.Ytlkmongiknpejaa
