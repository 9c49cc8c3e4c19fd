/- The statement WideLens: its walk where the number is not nought and is shifted by 0 to 128. -/
import Derived.Test.YtpbgpdmffejdgaaGreatDoorWWide2
namespace Go.Proofs.YtpbgpdmffejdgaaGreatDoor.W
open Go.RowKit

theorem bitLen_of {v k : Nat} (h : v < 2 ^ k) : Go.bitLen v ≤ k := by
  unfold Go.bitLen
  split
  · omega
  · rename_i h0
    have := (Nat.log2_lt h0).2 h
    omega
theorem bitLen_128 {v : Nat} (hv : W2 v) : Go.bitLen v ≤ 128 := bitLen_of hv
theorem bitLen_shr (v k : Nat) : Go.bitLen (v / 2 ^ k) = Go.bitLen v - k := by
  by_cases h : v / 2 ^ k = 0
  · rw [h]
    have : v < 2 ^ k := by
      rcases Nat.div_eq_zero_iff.1 h with h | h
      · exact absurd h (Nat.ne_of_gt (Nat.two_pow_pos k))
      · exact h
    have := bitLen_of this
    rw [show Go.bitLen 0 = 0 from rfl]
    omega
  · rw [Go.bitLen_shift v k h]
    omega
theorem bitLen_shl (v k : Nat) (hv : v ≠ 0) : Go.bitLen (v * 2 ^ k) = k + Go.bitLen v := by
  have h := Nat.mul_div_cancel v (Nat.two_pow_pos k)
  rw [Go.bitLen_shift (v * 2 ^ k) k (by rw [h]; exact hv), h]
theorem shl_fits {v : Nat} {n : Int} (h0 : 0 ≤ n) (h : n ≤ 128 - (Go.bitLen v : Int)) : v * 2 ^ n.toNat < 340282366920938463463374607431768211456 := by
  have h1 := (Go.bitLen_spec v).1
  have h2 : v * 2 ^ n.toNat < 2 ^ Go.bitLen v * 2 ^ n.toNat := Nat.mul_lt_mul_of_pos_right h1 (Nat.two_pow_pos _)
  rw [← Nat.pow_add] at h2
  exact Nat.lt_of_lt_of_le h2 (Nat.pow_le_pow_right (by omega) (show Go.bitLen v + n.toNat ≤ 128 by omega))
theorem shlN_fits {v : Nat} {n : Int} (h0 : 0 ≤ n) (h : n ≤ 128 - (Go.bitLen v : Int)) : shlN v n = v * 2 ^ n.toNat := Nat.mod_eq_of_lt (shl_fits h0 h)
theorem bitLen_zero {v : Nat} : Go.bitLen v = 0 ↔ v = 0 := by
  unfold Go.bitLen
  split <;> omega

theorem i64_id {x : Int} (h1 : -9223372036854775808 ≤ x) (h2 : x < 9223372036854775808) : IntKind.i64.wrap x = x := by
  simp only [IntKind.wrap, IntKind.bits, IntKind.signed]
  simp
  omega

end Go.Proofs.YtpbgpdmffejdgaaGreatDoor.W
