/- What Clz and Ctz of package ints answer. -/
import Derived.Test.YtjlegmgpgfjciaaDoorInD
import Derived.Test.YtjlegmgpgfjciaaDoorInE
import Derived.Test.YtjlegmgpgfjciaaDoorInK
import Derived.Test.YtjlegmgpgfjciaaDoorCsT
import Derived.Test.YtjlegmgpgfjciaaDoorWLeafB
namespace Go.Proofs.YtjlegmgpgfjciaaDoor
open Go.RowKit
open Go.Proofs.YtjlegmgpgfjciaaDoor.W

theorem Wm.nat {w H M : Int} {n : Nat} (k : Wm w n H M) (a : Int) : ∃ A : Nat, a % M = (A : Int) ∧ A < 2 ^ n := by
  obtain ⟨h0, h1⟩ := k.cut a
  obtain ⟨-, k2, -⟩ := k.two
  exact ⟨(a % M).toNat, by omega, by omega⟩
theorem Wm.sh {w H M : Int} {n : Nat} (k : Wm w n H M) (b : Int) : ∃ s : Nat, b % w = (s : Int) ∧ s < n := by
  obtain ⟨-, -, k3, k4, -⟩ := k.two
  have h0 := Int.emod_nonneg b (show w ≠ 0 by omega)
  have h1 := Int.emod_lt_of_pos b (show 0 < w by omega)
  exact ⟨(b % w).toNat, by omega, by omega⟩
theorem kn_K {w H M : Int} {n : Nat} (k : Wm w n H M) : Ct 20 #[.int .i64 w] (.bool true) := by
  obtain ⟨e, f, P, Q, b, kd, hH⟩ := k.kd
  have h := kn_l (hide (fun W => fields_any kd.wd W))
  rw [show (e != 0) = true by rcases kd with h | h <;> (obtain ⟨-, rfl, -⟩ := h; rfl)] at h
  exact h
theorem kn_N {w : Int} (k : No w) : Ct 20 #[.int .i64 w] (.bool false) := kn_l (hide (fun W => fields_any k.wd W))
theorem len_K {A : Nat} (hA : A < 18446744073709551616) : Ct 21 #[.int .u64 (A : Int)] (.int .i64 (Go.bitLen A : Nat)) := by
  refine hide (fun W => (len64_any (A : Int) W (by omega) (by omega)).mono ?_)
  rintro _ _ ⟨rfl, rfl⟩
  rw [Int.toNat_natCast]
  exact ⟨rfl, Below.refl _ _⟩
theorem len_le {A n : Nat} (h : A < 2 ^ n) : Go.bitLen A ≤ n := by
  obtain ⟨-, h2⟩ := Go.bitLen_spec A
  by_cases h0 : A = 0
  · subst h0; exact Nat.zero_le n
  · refine Decidable.byContradiction fun hn => ?_
    have := Nat.pow_le_pow_right (show 0 < 2 by omega) (show n ≤ Go.bitLen A - 1 by omega)
    have := h2 h0
    omega
theorem clz_K {w H M : Int} {n : Nat} (k : Wm w n H M) {a : Int} {A : Nat} (hr : Rg a) (ha : a % M = (A : Int)) (hA : A < 2 ^ n) : Ct 5 #[.int .i64 w, .int .u64 a] (.int .u64 ((n - Go.bitLen A : Nat) : Int)) := by
  obtain ⟨-, k2, k3, -, k5, -, k7⟩ := k.two
  have HC := cut_K k hr
  rw [ha] at HC
  have hl := len_le hA
  exact clz_m (kn_K k) HC (len_K (by omega)) (show IntKind.i64.wrap (w - (Go.bitLen A : Nat)) = ((n - Go.bitLen A : Nat) : Int) by rw [IntKind.wrap_i64]; omega) (by rw [IntKind.wrap_u64]; omega)
theorem clz_N {w : Int} (k : No w) (a : Int) : Ct 5 #[.int .i64 w, .int .u64 a] (.int .u64 0) := clz_n (kn_N k)
theorem ctz_N {w : Int} (k : No w) (a : Int) : Ct 6 #[.int .i64 w, .int .u64 a] (.int .u64 0) := ctz_n (kn_N k)
theorem ctz_K {w H M : Int} {n : Nat} (k : Wm w n H M) {a : Nat} (h : a < 18446744073709551616) : Cm 6 #[.int .i64 w, .int .u64 (a : Int)] (.int .u64 ((min n (Lib.ctz 64 a) : Nat) : Int)) := by
  obtain ⟨-, k2, k3, -, k5, -, k7⟩ := k.two
  have HT : Cm 23 #[.int .u64 (a : Int)] (.int .i64 ((Lib.ctz 64 a : Nat) : Int)) := by
    refine hide (fun W m => (tz_any a h W m).mono ?_)
    rintro _ _ ⟨rfl, rfl⟩
    exact ⟨rfl, Below.refl _ _⟩
  by_cases g : n ≤ Lib.ctz 64 a
  · rw [Nat.min_eq_left g]
    exact ctz_le (kn_K k) HT (by omega) (by rw [IntKind.wrap_u64]; omega)
  · rw [Nat.min_eq_right (by omega)]
    exact ctz_gt (kn_K k) HT (by omega) (by rw [IntKind.wrap_u64]; omega)
/-- How many noughts stand at the lower end. -/
theorem ctz_low {n a A : Nat} (hn : n ≤ 64) (h : a < 18446744073709551616) (hA : a % 2 ^ n = A) : (A = 0 ∧ min n (Lib.ctz 64 a) = n) ∨ (∃ t, min n (Lib.ctz 64 a) = t ∧ t < n ∧ A / 2 ^ t % 2 = 1 ∧ A % 2 ^ t = 0) := by
  by_cases h0 : a = 0
  · subst h0
    refine Or.inl ⟨by rw [← hA, Nat.zero_mod], ?_⟩
    rw [show Lib.ctz 64 0 = 64 from rfl, Nat.min_eq_left hn]
  · obtain ⟨m, hm, ht⟩ := Lib.ctzFrom_spec 64 a (by omega) h
    rw [show Lib.ctzFrom 64 a = Lib.ctz 64 a by unfold Lib.ctz; rw [if_neg h0]] at hm ht
    generalize Lib.ctz 64 a = t at *
    by_cases g : n ≤ t
    · refine Or.inl ⟨?_, Nat.min_eq_left g⟩
      rw [← hA, hm, show t = n + (t - n) by omega, Nat.pow_add, Nat.mul_assoc, Nat.mul_mod_right]
    · refine Or.inr ⟨t, Nat.min_eq_right (by omega), by omega, ?_, ?_⟩
      · have e : A / 2 ^ t = a / 2 ^ t % 2 ^ (n - t) := by
          rw [← hA, show n = t + (n - t) by omega, Nat.pow_add, Nat.mod_mul_right_div_self, show t + (n - t) - t = n - t by omega]
        have e2 : a / 2 ^ t = 2 * m + 1 := by
          rw [hm, Nat.mul_div_cancel_left _ (Nat.two_pow_pos t)]
        rw [e, e2, Nat.mod_mod_of_dvd _ (by have := Nat.pow_dvd_pow 2 (show 1 ≤ n - t by omega); simpa using this)]
        omega
      · rw [← hA, Nat.mod_mod_of_dvd _ (Nat.pow_dvd_pow 2 (by omega)), hm, Nat.mul_mod_right]
end Go.Proofs.YtjlegmgpgfjciaaDoor
