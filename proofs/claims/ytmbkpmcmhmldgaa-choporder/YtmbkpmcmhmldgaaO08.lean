/- WLensB. -/
import Derived.Test.YtmbkpmcmhmldgaaO07
namespace Go.Proofs.Ytmbkpmcmhmldgaa.W
open Go.RowKit

theorem i64_id {x : Int} (h1 : -9223372036854775808 ≤ x) (h2 : x < 9223372036854775808) : IntKind.i64.wrap x = x := by
  simp only [IntKind.wrap, IntKind.bits, IntKind.signed]
  simp
  omega

end Go.Proofs.Ytmbkpmcmhmldgaa.W
