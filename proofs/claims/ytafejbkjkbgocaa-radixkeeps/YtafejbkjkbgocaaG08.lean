/- WMul. -/
import Derived.Test.YtafejbkjkbgocaaG06
namespace Go.Proofs.Ytafejbkjkbgocaa.W
open Go.RowKit

set_option maxHeartbeats 1000000 in
theorem mul64_any (x y : Int) (w : World) (hx0 : 0 ≤ x) (hx : x < 18446744073709551616) (hy0 : 0 ≤ y) (hy : y < 18446744073709551616) :
    Calls Try.prog 55 #[.int .u64 x, .int .u64 y] w fun e w' => e = .returned (.tuple #[.int .u64 (x * y / 18446744073709551616), .int .u64 (x * y % 18446744073709551616)]) ∧ w' = w := by
  go_enter Try.func55, Try.ntmps55
  go_wp2
  go_ret2
  refine ⟨ret2 ?_ ?_, rfl⟩
  · simp only [IntKind.wrap_u64, Go.and_low32 x hx0 hx, Go.and_low32 y hy0 hy]
    rw [Go.and_low32 _ (by omega) (by omega)]
    exact Go.mul64_arith x y hx0 hx hy0 hy
  · exact IntKind.wrap_u64 _
set_option maxHeartbeats 400000 in
theorem mul_any (a b : Int) (w : World) (ha0 : 0 ≤ a) (ha : a < 18446744073709551616) (hb0 : 0 ≤ b) (hb : b < 18446744073709551616) :
    Calls Try.prog 47 #[.int .u64 a, .int .u64 b] w fun e w' => e = .returned (.agg #[.int .u64 (a * b / 18446744073709551616), .int .u64 (a * b % 18446744073709551616)]) ∧ Below w.heap.size w w' := by
  go_enter Try.func47, Try.ntmps47
  go_wp2_with (go_at_call 55; refine (mul64_any _ _ _ ha0 ha hb0 hb).mono ?_; rintro e w' ⟨rfl, rfl⟩)
  exact bodyPost_ret (v := .agg #[.int .u64 (a * b / 18446744073709551616), .int .u64 (a * b % 18446744073709551616)]) (by simp [results, Try.results47, go_sem]) rfl ⟨rfl, (Below.refl _ _).alloc (Nat.le_refl _) _⟩
theorem mul_n (a b : Int) (w : World) (ha0 : 0 ≤ a) (ha : a < 18446744073709551616) (hb0 : 0 ≤ b) (hb : b < 18446744073709551616) :
    Calls Try.prog 47 #[.int .u64 a, .int .u64 b] w fun e w' => e = .returned (.agg #[.int .u64 (hi (a.toNat * b.toNat)), .int .u64 (lo (a.toNat * b.toNat))]) ∧ Below w.heap.size w w' := by
  obtain ⟨x, rfl⟩ := Int.eq_ofNat_of_zero_le ha0
  obtain ⟨y, rfl⟩ := Int.eq_ofNat_of_zero_le hb0
  have h := mul_any x y w ha0 ha hb0 hb
  have e1 : hi ((x : Int).toNat * (y : Int).toNat) = (x : Int) * y / 18446744073709551616 := by unfold hi; rw [Int.toNat_natCast, Int.toNat_natCast, ← Int.natCast_mul]; omega
  have e2 : lo ((x : Int).toNat * (y : Int).toNat) = (x : Int) * y % 18446744073709551616 := by unfold lo; rw [Int.toNat_natCast, Int.toNat_natCast, ← Int.natCast_mul]; omega
  rw [e1, e2]
  exact h

end Go.Proofs.Ytafejbkjkbgocaa.W
