/- The reference's sums: what exact, parts, Add and Sub answer. -/
import Derived.Test.YtlkmongiknpejaaSumC
import Derived.Test.YtlkmongiknpejaaRefOpen
import Derived.Test.YtlkmongiknpejaaExactX
namespace Go.Proofs.Ytlkmongiknpejaa
open Go.RowKit
open Go.Proofs.Ytlkmongiknpejaa.W

theorem exact_rd {w e f P Q b low : Int} (k : Kd w e f P Q b) (n : Bool) (z : Nat) (h0 : -1200 ≤ low) (h1 : low ≤ 1100) : exactN f P Q b n z low = rd f P Q b n (z * 2 ^ (low + 5000).toNat) := by
  unfold exactN
  by_cases hz : z = 0
  · rw [if_pos (Or.inl hz), hz, Nat.zero_mul, rd_zero k]
  · rw [if_neg (by omega), if_neg (by omega)]
    rfl
theorem pow_dbl (j : Nat) : 2 ^ j + 2 ^ j = 2 ^ (j + 1) := by rw [Nat.pow_succ]; omega
theorem pow_bound {S d j k : Nat} (h : S < 2 ^ j) (hk : j + d ≤ k) : S * 2 ^ d < 2 ^ k := by
  have h1 : S * 2 ^ d < 2 ^ j * 2 ^ d := Nat.mul_lt_mul_of_pos_right h (Nat.two_pow_pos d)
  rw [← Nat.pow_add] at h1
  exact Nat.lt_of_lt_of_le h1 (Nat.pow_le_pow_right (by omega) hk)
theorem big_pwi {S d i : Nat} (h : S < 9007199254740992) (hd : 53 + d ≤ 32 * i) : S * 2 ^ d < pw i := by
  rw [pw_two]
  exact pow_bound (j := 53) (by omega) hd
theorem big_pw {S d : Nat} (h : S < 9007199254740992) (hd : d ≤ 2300) : S * 2 ^ d < pw 100 := big_pwi h (by omega)
theorem sum_pow {x y j k : Nat} (h1 : x < 2 ^ j) (h2 : y < 2 ^ j) (hk : j + 1 ≤ k) : x + y < 2 ^ k := by
  have h3 : 2 ^ (j + 1) ≤ 2 ^ k := Nat.pow_le_pow_right (by omega) hk
  rw [← pow_dbl] at h3
  omega
theorem sum_pwi {x y i k : Nat} (h1 : x < pw i) (h2 : y < pw i) (hk : 32 * i + 1 ≤ 32 * k) : x + y < pw k := by
  rw [pw_two] at *
  exact sum_pow h1 h2 hk
theorem sum_pw {x y : Nat} (h1 : x < pw 100) (h2 : y < pw 100) : x + y < pw 140 := sum_pwi h1 h2 (by omega)
theorem ex_at {w e f P Q b low : Int} (k : Kd w e f P Q b) (n : Bool) (z M : Nat) (hz : z < pw 140) (h0 : -1200 ≤ low) (h1 : low ≤ 1100) (hM : z * 2 ^ (low + 5000).toNat = M) :
    Hid (∀ (a : Option Addr) (m c : Nat) (W : World), IsNat W (.slice a m c) z → Calls Try.prog 27 #[.int .i64 w, .bool n, .agg #[.slice a m c], .int .i64 low] W fun r W' => r = .returned (.int .u64 (rd f P Q b n M)) ∧ Below W.heap.size W W') := by
  refine hide (fun a m c W hx => ?_)
  have := exact_any (n := n) (k := low) k z hz a m c W hx
  rw [exact_rd k n z h0 h1, hM] at this
  exact this

end Go.Proofs.Ytlkmongiknpejaa
