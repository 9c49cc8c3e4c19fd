/- A float's sign: what package sign's bits are as numbers. -/
import Derived.Test.YtahaocnlclkeaaaDoorRef
import Derived.Laws.BitsAllLaws
namespace Go.Proofs.YtahaocnlclkeaaaDoor
open Go.RowKit

/-- The bit of a width's sign. -/
def sb (f P Q : Int) : Int := if f = 0 then 0 else P * Q
/-- A float with a sign, or without. -/
def sN (f P Q : Int) (n : Bool) (x : Int) : Int := if f = 0 then 0 else x % (P * Q) + (if n then P * Q else 0)
/-- Whether a float has a sign. -/
def isN (f P Q x : Int) : Bool := f != 0 && sg P Q x

theorem nat_and (k X : Nat) : X &&& 2 ^ k = if X / 2 ^ k % 2 = 1 then 2 ^ k else 0 := by
  apply Nat.eq_of_testBit_eq
  intro i
  rw [Nat.testBit_and, Nat.testBit_two_pow]
  by_cases hi : k = i
  · subst hi
    rw [Nat.testBit_eq_decide_div_mod_eq]
    by_cases h : X / 2 ^ k % 2 = 1
    · rw [if_pos h, Nat.testBit_two_pow_self]; simp [h]
    · rw [if_neg h, Nat.zero_testBit]; simp [h]
  · rw [decide_eq_false hi, Bool.and_false]
    by_cases h : X / 2 ^ k % 2 = 1
    · rw [if_pos h, Nat.testBit_two_pow, decide_eq_false hi]
    · rw [if_neg h, Nat.zero_testBit]
theorem nat_xor (k c : Nat) (hc : c < 2 * 2 ^ k) : c ^^^ 2 ^ k = if c / 2 ^ k = 1 then c % 2 ^ k else c % 2 ^ k + 2 ^ k := by
  have h1 : (c ^^^ 2 ^ k) % 2 ^ k = c % 2 ^ k := by rw [Nat.xor_mod_two_pow, Nat.mod_self, Nat.xor_zero]
  have h2 : (c ^^^ 2 ^ k) / 2 ^ k = c / 2 ^ k ^^^ 1 := by rw [Nat.xor_div_two_pow, Nat.div_self (Nat.two_pow_pos _)]
  have h3 := Nat.div_add_mod (c ^^^ 2 ^ k) (2 ^ k)
  have h4 : c / 2 ^ k < 2 := Nat.div_lt_of_lt_mul (by rw [Nat.mul_comm]; exact hc)
  have h5 : c / 2 ^ k = 0 ∨ c / 2 ^ k = 1 := by
    generalize c / 2 ^ k = t at h4
    omega
  rw [h1, h2] at h3
  rcases h5 with h | h <;> rw [h] at h3 ⊢
  · rw [if_neg (by decide)]; rw [show (0 ^^^ 1 : Nat) = 1 from rfl] at h3; omega
  · rw [if_pos rfl]; rw [show (1 ^^^ 1 : Nat) = 0 from rfl] at h3; omega
theorem nat_or (k r : Nat) (hr : r < 2 ^ k) : r ||| 2 ^ k = r + 2 ^ k := by
  have := Nat.two_pow_add_eq_or_of_lt hr 1
  rw [Nat.mul_one] at this
  rw [Nat.or_comm, ← this, Nat.add_comm]
/-- The numbers of a width that is one. -/
theorem kd_pow {w e f P Q b : Int} (k : Kd w e f P Q b) : ∃ m : Nat, (m = 31 ∨ m = 63) ∧ P * Q = ((2 ^ m : Nat) : Int) ∧ w = m + 1 := by
  rcases k with ⟨rfl, -, -, rfl, rfl, -⟩ | ⟨rfl, -, -, rfl, rfl, -⟩
  · exact ⟨31, Or.inl rfl, by decide, by decide⟩
  · exact ⟨63, Or.inr rfl, by decide, by decide⟩
theorem sg_nat {P Q : Int} {m X : Nat} (h : P * Q = ((2 ^ m : Nat) : Int)) : sg P Q (X : Int) = decide (X / 2 ^ m % 2 = 1) := by
  unfold sg
  rw [h, ← Int.natCast_ediv, show (2 : Int) = ((2 : Nat) : Int) from rfl, ← Int.natCast_emod]
  generalize X / 2 ^ m % 2 = t
  by_cases ht : t = 1
  · subst ht; rfl
  · rw [decide_eq_false ht]; simp; omega
theorem pow_2 {m : Nat} (h : m = 31 ∨ m = 63) : 2 ^ m = 2147483648 ∨ 2 ^ m = 9223372036854775808 := by
  rcases h with rfl | rfl
  · exact Or.inl rfl
  · exact Or.inr rfl

theorem bit_and {w e f P Q b x : Int} (h : Wd w e f P Q b) (x0 : 0 ≤ x) (x1 : x < 18446744073709551616) : bits .and .u64 x (sb f P Q) = if isN f P Q x then P * Q else 0 := by
  unfold sb isN
  obtain ⟨X, rfl⟩ := Int.eq_ofNat_of_zero_le x0
  by_cases hf : f = 0
  · rw [if_pos hf, hf]
    have := Go.bits_and_u64_nat X 0 (by omega) (by omega)
    simpa using this
  · obtain ⟨m, hm, e, -⟩ := kd_pow (h.known hf)
    rw [if_neg hf, sg_nat e, e, Go.bits_and_u64_nat X _ (by omega) (by have := pow_2 hm; omega), nat_and]
    by_cases ht : X / 2 ^ m % 2 = 1 <;> simp [ht, hf]
theorem cut_nat {w e f P Q b : Int} (k : Kd w e f P Q b) {m : Nat} (e : P * Q = ((2 ^ m : Nat) : Int)) (X : Nat) : cutN f P Q (X : Int) = ((X % (2 * 2 ^ m) : Nat) : Int) := by
  unfold cutN
  rw [if_neg k.f0, e, Int.natCast_emod, Int.natCast_mul]
  rfl
theorem bit_andNot {w e f P Q b x : Int} (h : Wd w e f P Q b) (x0 : 0 ≤ x) : bits .andNot .u64 (cutN f P Q x) (sb f P Q) = sN f P Q false x := by
  obtain ⟨X, rfl⟩ := Int.eq_ofNat_of_zero_le x0
  by_cases hf : f = 0
  · unfold cutN sb sN
    rw [if_pos hf, if_pos hf, if_pos hf]
    decide +kernel
  · have k := h.known hf
    obtain ⟨m, hm, e, -⟩ := kd_pow k
    rw [cut_nat k e]
    unfold sb sN
    rw [if_neg hf, if_neg hf, e]
    have hp := pow_2 hm
    rw [u64_andNot_nat _ _ (Nat.lt_of_lt_of_le (Nat.mod_lt X (show 0 < 2 * 2 ^ m by omega)) (by omega)) (by omega)]
    simp only [Bool.false_eq_true, if_false, Int.add_zero]
    rw [← Int.natCast_emod]
    congr 1
    rcases hm with rfl | rfl
    · rw [show X % (2 * 2 ^ 31) = X &&& 4294967295 by rw [show 4294967295 = 2 ^ 32 - 1 by decide, Nat.and_two_pow_sub_one_eq_mod], Nat.and_assoc, show 4294967295 &&& (18446744073709551615 - 2 ^ 31) = 2 ^ 31 - 1 by decide, Nat.and_two_pow_sub_one_eq_mod]
    · rw [show (18446744073709551615 - 2 ^ 63) = 2 ^ 63 - 1 by decide, Nat.and_two_pow_sub_one_eq_mod]
      omega
theorem bit_xor {w e f P Q b x : Int} (h : Wd w e f P Q b) (x0 : 0 ≤ x) : bits .xor .u64 (cutN f P Q x) (sb f P Q) = sN f P Q (!sg P Q x) x := by
  obtain ⟨X, rfl⟩ := Int.eq_ofNat_of_zero_le x0
  by_cases hf : f = 0
  · unfold cutN sb sN
    rw [if_pos hf, if_pos hf, if_pos hf]
    decide +kernel
  · have k := h.known hf
    obtain ⟨m, hm, e, -⟩ := kd_pow k
    rw [cut_nat k e, sg_nat e]
    unfold sb sN
    rw [if_neg hf, if_neg hf, e]
    have hp := pow_2 hm
    rw [u64_xor_nat _ _ (Nat.lt_of_lt_of_le (Nat.mod_lt X (show 0 < 2 * 2 ^ m by omega)) (by omega)) (by omega), nat_xor m _ (Nat.mod_lt _ (by omega))]
    have h1 : X % (2 * 2 ^ m) / 2 ^ m = X / 2 ^ m % 2 := by rw [Nat.mul_comm 2, Nat.mod_mul_right_div_self]
    have h2 : X % (2 * 2 ^ m) % 2 ^ m = X % 2 ^ m := Nat.mod_mul_left_mod _ _ _
    rw [h1, h2]
    by_cases ht : X / 2 ^ m % 2 = 1
    · simp [ht]
    · simp [ht]
theorem bit_or {w e f P Q b x : Int} (h : Wd w e f P Q b) (x0 : 0 ≤ x) (y : Int) : bits .or .u64 (sN f P Q false x) (if isN f P Q y then P * Q else 0) = sN f P Q (sg P Q y) x := by
  obtain ⟨X, rfl⟩ := Int.eq_ofNat_of_zero_le x0
  by_cases hf : f = 0
  · unfold isN sN
    rw [if_pos hf, if_pos hf, hf, show ((0 : Int) != 0 && sg P Q y) = false from rfl, if_neg (by decide)]
    decide +kernel
  · have k := h.known hf
    obtain ⟨m, hm, e, -⟩ := kd_pow k
    have hi : isN f P Q y = sg P Q y := by unfold isN; simp [hf]
    rw [hi]
    unfold sN
    rw [if_neg hf, if_neg hf, e]
    have hp := pow_2 hm
    have hl : X % 2 ^ m < 2 ^ m := Nat.mod_lt _ (by omega)
    rw [← Int.natCast_emod]
    cases sg P Q y
    · simp only [Bool.false_eq_true, if_false, Int.add_zero]
      have := Go.bits_or_u64_nat (X % 2 ^ m) 0 (by omega) (by omega)
      simpa using this
    · simp only [Bool.false_eq_true, if_false, if_true, Int.add_zero]
      rw [Go.bits_or_u64_nat (X % 2 ^ m) (2 ^ m) (by omega) (by omega), nat_or m _ hl]
      omega
end Go.Proofs.YtahaocnlclkeaaaDoor
