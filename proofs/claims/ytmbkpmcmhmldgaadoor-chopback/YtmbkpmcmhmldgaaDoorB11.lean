/- WLensB. -/
import Derived.Test.YtmbkpmcmhmldgaaDoorB09
namespace Go.Proofs.YtmbkpmcmhmldgaaDoor.W
open Go.RowKit

theorem bitLen_of {v k : Nat} (h : v < 2 ^ k) : Go.bitLen v ≤ k := by
  unfold Go.bitLen
  split
  · omega
  · rename_i h0
    have := (Nat.log2_lt h0).2 h
    omega
theorem bitLen_128 {v : Nat} (hv : W2 v) : Go.bitLen v ≤ 128 := bitLen_of hv
theorem i64_id {x : Int} (h1 : -9223372036854775808 ≤ x) (h2 : x < 9223372036854775808) : IntKind.i64.wrap x = x := by
  simp only [IntKind.wrap, IntKind.bits, IntKind.signed]
  simp
  omega

end Go.Proofs.YtmbkpmcmhmldgaaDoor.W
