/- MdI, MdK. -/
import Derived.Test.YtjoonmpjcophnaaGreatDoorLo41
namespace Go.Proofs.YtjoonmpjcophnaaGreatDoor
open Go.RowKit

section
variable {c sb : Nat} {a : Option Addr} {len cap k : Nat} {xs : List Int} {e : Int} {W : World}
theorem Vr.at {ib n : Nat} {L : List Value} {w : World} (h : Vr ib n L w) {j : Nat} (hj : j < L.length) : w.cell? ⟨ib, j, none⟩ = some (L[j]) := h.tab j _ (List.getElem?_eq_getElem hj)
end
end Go.Proofs.YtjoonmpjcophnaaGreatDoor
namespace Go.Proofs.YtjoonmpjcophnaaGreatDoor
open Go.RowKit

section
variable {c sb : Nat} {a : Option Addr} {len cap k : Nat} {xs : List Int} {e : Int} {W : World} {sat : Bool}
theorem rd_rest {k1 k3 : Nat} {e1 e3 : Int} {yy : List Int} (hx : xs.length = len) (h : Rd (rP (len - k1)) xs k1 e1 yy k3 e3) (s : St) : Rd (fun l : List Int => (s, l.length, (0 : Int))) xs k1 e1 s k3 e3 := by
  have hl : (xs.drop k1).length = len - k1 := by rw [List.length_drop, hx]
  refine ⟨h.dead, fun he => ?_, fun _ _ => rfl⟩
  obtain ⟨h1, h2⟩ := h.live he
  rw [rP_ok (by rw [hl]; exact Nat.le_refl _)] at h1 h2
  exact ⟨by rw [hl]; exact h1, h2⟩
theorem rd_sec0 {k1 k3 : Nat} {e1 e3 : Int} {y : List Int} {s : St} (h1 : Rd rName xs k e y k1 e1) (h2 : Rd (fun l : List Int => (s, l.length, (0 : Int))) xs k1 e1 s k3 e3) : Rd (rSec sat 0 s) xs k e s k3 e3 := by
  have := Rd.bd (z := s) (g := fun _ => fun l : List Int => (s, l.length, (0 : Int))) h1 h2
  simpa [rSec] using this
end
end Go.Proofs.YtjoonmpjcophnaaGreatDoor
