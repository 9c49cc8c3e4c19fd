/- WRefB. -/
import Derived.Test.YtmbkpmcmhmldgaaDoorB12
namespace Go.Proofs.YtmbkpmcmhmldgaaDoor.W
open Go.RowKit

/-- A digit of a number. -/
def dgt (x k : Nat) : Nat := x / pw k % 4294967296
theorem IsNat.alloc {w : World} {s : Value} {x : Nat} (h : IsNat w s x) (o : Obj) : IsNat (w.alloc o) s x := h.below (below1 _ _)

theorem bitLen_half {t : Nat} (h : ¬ t = 0) : Go.bitLen t = 1 + Go.bitLen (t / 2) := by
  by_cases h2 : t / 2 = 0
  · have : t = 1 := by omega
    subst this; rfl
  · have := Go.bitLen_shift t 1 (by simpa using h2)
    simpa using this

end Go.Proofs.YtmbkpmcmhmldgaaDoor.W
