/- WRefJ. -/
import Derived.Test.YtmbkpmcmhmldgaaDoorB21
namespace Go.Proofs.YtmbkpmcmhmldgaaDoor.W
open Go.RowKit

theorem IsNat.pos {w : World} {a : Option Addr} {n c x : Nat} (h : IsNat w (.slice a n c) x) : (0 < n) = (x ≠ 0) := by
  refine propext ⟨fun hn hx => ?_, fun hx => ?_⟩
  · have := h.short (k := 0) (by rw [pw_0]; omega)
    omega
  · refine Decidable.byContradiction fun hn => ?_
    have := h.len.1
    rw [show n = 0 by omega, pw_0] at this
    omega

end Go.Proofs.YtmbkpmcmhmldgaaDoor.W
