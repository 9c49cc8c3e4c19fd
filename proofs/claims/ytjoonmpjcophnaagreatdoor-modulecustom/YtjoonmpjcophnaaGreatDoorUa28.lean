/- RfA. -/
import Derived.Test.YtjoonmpjcophnaaGreatDoorUa16
import Derived.Test.YtjoonmpjcophnaaGreatDoorUa26
namespace Go.Proofs.YtjoonmpjcophnaaGreatDoor
open Go.RowKit

theorem lift_rB_in {xs : List Int} {k : Nat} (h : k < xs.length) : lift rB 0 xs k 0 = (xs.getD k 0, k + 1, 0) := by
  rw [lift_0, List.drop_eq_getElem_cons h, List.getD_eq_getElem?_getD, List.getElem?_eq_getElem h]
  rfl
theorem lift_rB_end {xs : List Int} {k : Nat} (h : xs.length ≤ k) : lift rB 0 xs k 0 = (0, k, 100) := by
  rw [lift_0, List.drop_eq_nil_of_le h]
  rfl
end Go.Proofs.YtjoonmpjcophnaaGreatDoor
