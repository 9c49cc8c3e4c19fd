/- The contract of the reference's Half. -/
import Derived.Test.YtjlegmgpgfjciaaWNew
namespace Go.Proofs.Ytjlegmgpgfjciaa.W
open Go.RowKit

theorem pow_ne (k : Nat) : 1 * 2 ^ k ≠ 0 := by rw [Nat.one_mul]; exact Nat.ne_of_gt (Nat.two_pow_pos k)

theorem IsNat.pos {w : World} {a : Option Addr} {n c x : Nat} (h : IsNat w (.slice a n c) x) : (0 < n) = (x ≠ 0) := by
  refine propext ⟨fun hn hx => ?_, fun hx => ?_⟩
  · have := h.short (k := 0) (by rw [pw_0]; omega)
    omega
  · refine Decidable.byContradiction fun hn => ?_
    have := h.len.1
    rw [show n = 0 by omega, pw_0] at this
    omega

end Go.Proofs.Ytjlegmgpgfjciaa.W
