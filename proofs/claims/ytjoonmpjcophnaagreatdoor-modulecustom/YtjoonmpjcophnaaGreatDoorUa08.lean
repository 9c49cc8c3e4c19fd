/- LbB. -/
import Derived.Test.YtjoonmpjcophnaaGreatDoorUa05
namespace Go.Proofs.YtjoonmpjcophnaaGreatDoor
open Go.RowKit

/-- What is answered of what is read at a place. -/
def outT (at' : Nat) (t : Int × Nat × Nat) : Value := .tuple #[.int .u64 (t.1 % 18446744073709551616), .int .i64 (if t.2.2 = 0 then ((at' + t.2.1 : Nat) : Int) else 0), .int .i64 (t.2.2 : Int)]
theorem pow7 (i : Nat) : (128 : Int) ^ i = 2 ^ (7 * i) := by
  have e : (128 : Int) = 2 ^ 7 := rfl
  rw [e, ← Int.pow_mul]
theorem nat_or_add (n t d : Nat) (h : n < 2 ^ d) : n ||| (t * 2 ^ d) = n + t * 2 ^ d := by
  rw [Nat.or_comm, Nat.mul_comm, ← Nat.two_pow_add_eq_or_of_lt h, Nat.add_comm]
/-- The bytes behind d bits. -/
theorem or_shl {n t : Nat} {d : Nat} (h : n < 2 ^ d) (hd : d < 64) :
    bits .or .u64 (n : Int) (IntKind.u64.wrap ((t : Int) * 2 ^ d)) = ((n + t * 2 ^ d : Nat) : Int) % 18446744073709551616 := by
  have e : (18446744073709551616 : Nat) = 2 ^ (64 - d) * 2 ^ d := by rw [← Nat.pow_add, show 64 - d + d = 64 by omega]
  have hw : IntKind.u64.wrap ((t : Int) * 2 ^ d) = ((t % 2 ^ (64 - d) * 2 ^ d : Nat) : Int) := by
    rw [IntKind.wrap_u64, show ((t : Int) * 2 ^ d) = ((t * 2 ^ d : Nat) : Int) by rw [Int.natCast_mul, Int.natCast_pow]; rfl]
    rw [show (18446744073709551616 : Int) = ((18446744073709551616 : Nat) : Int) from rfl, ← Int.natCast_emod]
    congr 1
    rw [e, Nat.mul_mod_mul_right]
  have hp : 0 < 2 ^ d := Nat.pow_pos (by omega)
  have hq : 0 < 2 ^ (64 - d) := Nat.pow_pos (by omega)
  have hlt : t % 2 ^ (64 - d) * 2 ^ d + 2 ^ d ≤ 18446744073709551616 := by
    rw [e, ← Nat.succ_mul]
    exact Nat.mul_le_mul_right _ (Nat.mod_lt _ hq)
  have hn : n < 18446744073709551616 := by omega
  rw [hw, Go.bits_or_u64_nat _ _ hn (by omega), nat_or_add _ _ _ h]
  rw [show (18446744073709551616 : Int) = ((18446744073709551616 : Nat) : Int) from rfl, ← Int.natCast_emod]
  congr 1
  have e3 : t * 2 ^ d % 18446744073709551616 = t % 2 ^ (64 - d) * 2 ^ d := by rw [e, Nat.mul_mod_mul_right]
  generalize t % 2 ^ (64 - d) * 2 ^ d = z at *
  generalize t * 2 ^ d = y at *
  omega
theorem last_val {v : Int} (i n t : Nat) (h : v % 18446744073709551616 = t) : ((n + t * 2 ^ (7 * i) : Nat) : Int) % 18446744073709551616 = ((n : Int) + 128 ^ i * v) % 18446744073709551616 := by
  rw [pow7, Int.natCast_add, Int.natCast_mul, Int.natCast_pow, ← h, Int.mul_comm _ v]
  rw [Int.add_emod, Int.mul_emod, Int.emod_emod, ← Int.mul_emod, ← Int.add_emod]
  rfl
theorem out_ok (z : Int) (k i : Nat) : Value.tuple #[.int .u64 (z % 18446744073709551616), .int .i64 ((k : Int) + i + 1), .int .i64 0] = outT k (z, 1 + i, 0) := by
  unfold outT
  rw [if_pos rfl, show ((k : Int) + i + 1) = ((k + (1 + i) : Nat) : Int) by omega]
  rfl
theorem step_val {n y i : Nat} (h : n < 2 ^ (7 * i)) (hi : 7 * (i + 1) < 64) (hy : y < 128) :
    ((n + y * 2 ^ (7 * i) : Nat) : Int) % 18446744073709551616 = ((n + y * 2 ^ (7 * i) : Nat) : Int) ∧ n + y * 2 ^ (7 * i) < 2 ^ (7 * (i + 1)) := by
  have h1 : y * 2 ^ (7 * i) + 2 ^ (7 * i) ≤ 128 * 2 ^ (7 * i) := by rw [← Nat.succ_mul]; exact Nat.mul_le_mul_right _ hy
  have h2 : 2 ^ (7 * (i + 1)) = 128 * 2 ^ (7 * i) := by rw [show 7 * (i + 1) = 7 + 7 * i by omega, Nat.pow_add]
  have h3 : 2 ^ (7 * (i + 1)) ≤ 2 ^ 63 := Nat.pow_le_pow_right (by omega) (by omega)
  constructor
  · have : n + y * 2 ^ (7 * i) < 18446744073709551616 := by omega
    generalize n + y * 2 ^ (7 * i) = z at *
    omega
  · omega
end Go.Proofs.YtjoonmpjcophnaaGreatDoor
