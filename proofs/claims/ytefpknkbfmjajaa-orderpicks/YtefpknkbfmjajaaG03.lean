/- WPlain. -/
import Derived.Laws.MathBits
import Derived.Laws.BitsAllLaws
namespace Go.Proofs.Ytefpknkbfmjajaa.W

/-- The upper and the lower word of a number. -/
def hi (v : Nat) : Int := ((v / 18446744073709551616 : Nat) : Int)
/-- Held against each other. -/
def cmpN (v u : Nat) : Int := if v < u then -1 else if u < v then 1 else 0

end Go.Proofs.Ytefpknkbfmjajaa.W
