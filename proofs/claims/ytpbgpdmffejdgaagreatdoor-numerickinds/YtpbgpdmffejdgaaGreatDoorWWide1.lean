/- Contracts of wide.Of, Mul, Cmp, Len, Left, down and Right, over numbers: each Wide stands as the upper and the lower word of one number below 2^128. -/
import Derived.Test.YtpbgpdmffejdgaaGreatDoorWLeafB
import Derived.Test.YtpbgpdmffejdgaaGreatDoorWPlain
import Derived.Deep.QuietTactic
import Derived.BigQuiet
namespace Go.Proofs.YtpbgpdmffejdgaaGreatDoor.W
open Go.RowKit

theorem agg2 {a b c d : Int} (h1 : a = c) (h2 : b = d) : (Value.agg #[.int .u64 a, .int .u64 b]) = .agg #[.int .u64 c, .int .u64 d] := by rw [h1, h2]
theorem below2d (w : World) (o1 o2 : Obj) : Below w.heap.size w ((w.alloc o1).alloc o2).drew := (below2 w o1 o2).drew

theorem of_n (n : Int) (w : World) (h0 : 0 ≤ n) (h1 : n < 18446744073709551616) :
    Calls Tryz.prog 161 #[.int .u64 n] w fun e w' => e = .returned (.agg #[.int .u64 (hi n.toNat), .int .u64 (lo n.toNat)]) ∧ Below w.heap.size w w' := by
  obtain ⟨e1, e2⟩ := words_of n h0 h1
  rw [e1, e2]
  exact of_any n w

theorem cmp_n (v u : Nat) (w : World) :
    Calls Tryz.prog 235 #[.agg #[.int .u64 (hi v), .int .u64 (lo v)], .agg #[.int .u64 (hi u), .int .u64 (lo u)]] w fun e w' => e = .returned (.int .i64 (cmpN v u)) ∧ Below w.heap.size w w' := by
  have h := cmp_any (hi v) (lo v) (hi u) (lo u) w
  rw [cmp_2]
  exact h

theorem len_n (v : Nat) (w : World) (hv : W2 v) :
    Calls Tryz.prog 233 #[.agg #[.int .u64 (hi v), .int .u64 (lo v)]] w fun e w' => e = .returned (.int .i64 (Go.bitLen v : Int)) ∧ Below w.heap.size w w' := by
  have h := len_any (hi v) (lo v) w (hi_0 v) (hi_1 hv) (lo_0 v) (lo_1 v)
  rw [bitLen_2]
  exact h

/-- A number times a power of two, modulo 2^128. -/
def shlN (v : Nat) (n : Int) : Nat := v * 2 ^ n.toNat % 340282366920938463463374607431768211456
theorem shlN_w (v : Nat) (n : Int) : W2 (shlN v n) := Nat.mod_lt _ (by omega)

theorem or_words (a b c : Nat) (ha : a < 18446744073709551616) (hb : b < 18446744073709551616) (h : a ||| b = c) : bits .or .u64 (a : Int) (b : Int) = (c : Int) := by
  rw [Go.u64_or_nat a b ha hb, h]

theorem shl_nat (x n : Nat) : IntKind.u64.wrap ((x : Int) * 2 ^ n) = ((x * 2 ^ n % 18446744073709551616 : Nat) : Int) := by
  rw [IntKind.wrap_u64]
  simp [Int.natCast_emod, Int.natCast_mul, Int.natCast_pow]
theorem shr_nat (x n : Nat) : (x : Int) / 2 ^ n = ((x / 2 ^ n : Nat) : Int) := by
  simp [Int.natCast_ediv, Int.natCast_pow]

set_option maxHeartbeats 1000000 in
theorem left_n (v : Nat) (n : Int) (w : World) (hv : W2 v) :
    Calls Tryz.prog 234 #[.agg #[.int .u64 (hi v), .int .u64 (lo v)], .int .i64 n] w fun e w' => e = .returned (.agg #[.int .u64 (hi (shlN v n)), .int .u64 (lo (shlN v n))]) ∧ Below w.heap.size w w' := by
  by_cases c1 : n ≤ 0
  · have HE : Hid (v = shlN v n) := by
      unfold Hid shlN; rw [show n.toNat = 0 by omega, Nat.pow_zero, Nat.mul_one]; exact (Nat.mod_eq_of_lt hv).symm
    go_enter Tryz.func234, Tryz.ntmps234
    go_wp2
    exact bodyPost_ret (v := .agg #[.int .u64 (hi v), .int .u64 (lo v)]) (by simp [results, Tryz.results234, go_sem]) rfl ⟨by rw [← HE.out], below2 _ _ _⟩
  by_cases c2 : n < 64
  · have HA : Hid (bits .or .u64 (IntKind.u64.wrap (hi v * 2 ^ n.toNat)) (lo v / 2 ^ (64 - n).toNat) = hi (shlN v n)) := by
      unfold Hid hi lo shlN
      rw [shl_nat, shr_nat, show (64 - n).toNat = 64 - n.toNat by omega]
      exact or_words _ _ _ (by omega) (Nat.lt_of_le_of_lt (Nat.div_le_self _ _) (by omega)) (left_hi v n.toNat (by omega))
    have HB : Hid (IntKind.u64.wrap (lo v * 2 ^ n.toNat) = lo (shlN v n)) := by
      unfold Hid lo shlN
      rw [shl_nat, left_lo]
    go_enter Tryz.func234, Tryz.ntmps234
    go_wp2
    go_region
    go_wp2
    exact bodyPost_ret (v := .agg #[.int .u64 (bits .or .u64 (IntKind.u64.wrap (hi v * 2 ^ n.toNat)) (lo v / 2 ^ (64 - n).toNat)), .int .u64 (IntKind.u64.wrap (lo v * 2 ^ n.toNat))]) (by simp [results, Tryz.results234, go_sem]) rfl ⟨by rw [HA.out, HB.out], below2d _ _ _⟩
  by_cases c3 : n < 128
  · have HA : Hid (IntKind.u64.wrap (lo v * 2 ^ (n - 64).toNat) = hi (shlN v n)) := by
      unfold Hid hi lo shlN
      rw [shl_nat, left_hi64, show 64 + (n - 64).toNat = n.toNat by omega]
    have HB : Hid (0 = lo (shlN v n)) := by
      unfold Hid lo shlN
      rw [show n.toNat = 64 + (n - 64).toNat by omega, left_lo64]
      rfl
    go_enter Tryz.func234, Tryz.ntmps234
    go_wp2
    exact bodyPost_ret (v := .agg #[.int .u64 (IntKind.u64.wrap (lo v * 2 ^ (n - 64).toNat)), .int .u64 0]) (by simp [results, Tryz.results234, go_sem]) rfl ⟨by rw [HA.out, HB.out], below2 _ _ _⟩
  · have HE : Hid (shlN v n = 0) := by
      unfold Hid shlN; rw [show n.toNat = 128 + (n - 128).toNat by omega, left_128]
    go_enter Tryz.func234, Tryz.ntmps234
    go_wp2
    exact bodyPost_ret (v := .agg #[.int .u64 0, .int .u64 0]) (by simp [results, Tryz.results234, go_sem]) rfl ⟨by rw [HE.out]; rfl, below2 _ _ _⟩

end Go.Proofs.YtpbgpdmffejdgaaGreatDoor.W
