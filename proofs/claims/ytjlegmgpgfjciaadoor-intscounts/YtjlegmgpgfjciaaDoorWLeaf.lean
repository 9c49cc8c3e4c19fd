/- Contracts of the small functions of package wide and of what they call. -/
import Derived.Test.YtjlegmgpgfjciaaDoorRows
import Derived.WalkKit
import Derived.WalkSpells
import Derived.WalkLawsBesides
import Derived.Laws.MathBits
import Derived.Laws.Pointers
import Derived.Deep.RegionHeld3
import Derived.RowKit3
namespace Go.Proofs.YtjlegmgpgfjciaaDoor.W
open Go.RowKit

/-- Which of two numbers is the lesser: -1, 0, 1. -/
def cmp1 (a b : Int) : Int := if a < b then -1 else if b < a then 1 else 0

end Go.Proofs.YtjlegmgpgfjciaaDoor.W
