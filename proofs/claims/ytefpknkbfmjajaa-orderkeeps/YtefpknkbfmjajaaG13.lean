/- WMulA. -/
import Derived.Test.YtefpknkbfmjajaaG11
namespace Go.Proofs.Ytefpknkbfmjajaa.W

theorem dg_set {D : List Nat} {j e i : Nat} (h : j < D.length) : dg (D.set j e) i = if j = i then e else dg D i := by
  unfold dg
  by_cases hji : j = i
  · subst hji
    simp [List.getD_eq_getElem?_getD, h]
  · simp [List.getD_eq_getElem?_getD, hji]

end Go.Proofs.Ytefpknkbfmjajaa.W
