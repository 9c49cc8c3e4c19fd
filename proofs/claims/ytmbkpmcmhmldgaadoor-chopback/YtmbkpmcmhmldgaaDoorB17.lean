/- WRefG. -/
import Derived.Test.YtmbkpmcmhmldgaaDoorB16
namespace Go.Proofs.YtmbkpmcmhmldgaaDoor.W
open Go.RowKit

theorem unit_le (k : Nat) : 2 ^ (k % 32) ≤ 2147483648 := by
  have h1 := Nat.pow_le_pow_right (show 0 < 2 by omega) (show k % 32 ≤ 31 by omega)
  exact h1

end Go.Proofs.YtmbkpmcmhmldgaaDoor.W
