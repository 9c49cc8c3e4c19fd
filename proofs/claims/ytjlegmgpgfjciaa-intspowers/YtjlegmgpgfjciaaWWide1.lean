/- Contracts of wide.Of, Mul, Cmp, Len, Left, down and Right, over numbers: each Wide stands as the upper and the lower word of one number below 2^128. -/
import Derived.Test.YtjlegmgpgfjciaaWLeafB
import Derived.Test.YtjlegmgpgfjciaaWPlain
import Derived.Deep.QuietTactic
import Derived.BigQuiet
namespace Go.Proofs.Ytjlegmgpgfjciaa.W
open Go.RowKit

theorem agg2 {a b c d : Int} (h1 : a = c) (h2 : b = d) : (Value.agg #[.int .u64 a, .int .u64 b]) = .agg #[.int .u64 c, .int .u64 d] := by rw [h1, h2]
theorem below2d (w : World) (o1 o2 : Obj) : Below w.heap.size w ((w.alloc o1).alloc o2).drew := (below2 w o1 o2).drew

/-- A number times a power of two, modulo 2^128. -/
def shlN (v : Nat) (n : Int) : Nat := v * 2 ^ n.toNat % 340282366920938463463374607431768211456
theorem shlN_w (v : Nat) (n : Int) : W2 (shlN v n) := Nat.mod_lt _ (by omega)

theorem or_words (a b c : Nat) (ha : a < 18446744073709551616) (hb : b < 18446744073709551616) (h : a ||| b = c) : bits .or .u64 (a : Int) (b : Int) = (c : Int) := by
  rw [Go.u64_or_nat a b ha hb, h]

theorem shl_nat (x n : Nat) : IntKind.u64.wrap ((x : Int) * 2 ^ n) = ((x * 2 ^ n % 18446744073709551616 : Nat) : Int) := by
  rw [IntKind.wrap_u64]
  simp [Int.natCast_emod, Int.natCast_mul, Int.natCast_pow]
theorem shr_nat (x n : Nat) : (x : Int) / 2 ^ n = ((x / 2 ^ n : Nat) : Int) := by
  simp [Int.natCast_ediv, Int.natCast_pow]

end Go.Proofs.Ytjlegmgpgfjciaa.W
