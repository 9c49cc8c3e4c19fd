/- InC, RadR. -/
import Derived.Test.YtpbgpdmffejdgabGreatDoorS01
import Derived.Test.YtpbgpdmffejdgabGreatDoorS08
import Derived.Test.YtpbgpdmffejdgabGreatDoorS16
import Derived.Test.YtpbgpdmffejdgabGreatDoorS17
import Derived.Test.YtpbgpdmffejdgabGreatDoorS19
namespace Go.Proofs.YtpbgpdmffejdgabGreatDoor
open Go.RowKit

def At3 (b : Nat) (x y z : Value) (w : World) : Prop := w.cell? ⟨b, 0, none⟩ = some x ∧ w.cell? ⟨b, 1, none⟩ = some y ∧ w.cell? ⟨b, 2, none⟩ = some z
theorem At3.below {b : Nat} {x y z : Value} {w w' : World} (h : At3 b x y z w) (hb : Below w.heap.size w w') : At3 b x y z w' :=
  have hz := lt_of_cell h.1
  ⟨keep1 hb hz h.1, keep1 hb hz h.2.1, keep1 hb hz h.2.2⟩
end Go.Proofs.YtpbgpdmffejdgabGreatDoor
namespace Go.Proofs.YtpbgpdmffejdgabGreatDoor
open Go.RowKit
open Go.Proofs.YtpbgpdmffejdgabGreatDoor.W

theorem u64_id {x : Int} (h1 : 0 ≤ x) (h2 : x < 18446744073709551616) : IntKind.u64.wrap x = x := by
  simp only [IntKind.wrap, IntKind.bits, IntKind.signed]
  simp
  omega
/-- Two numbers in variables. -/
structure OvSt (N M : Nat) (w : World) (sa sb : Value) (x y : Nat) (w' : World) : Prop where
  ca : w'.cell? ⟨N, 0, none⟩ = some sa
  cb : w'.cell? ⟨M, 0, none⟩ = some sb
  na : IsNat w' sa x
  nb : IsNat w' sb y
  bel : Below w.heap.size w w'
theorem OvSt.below {N M : Nat} {w : World} {sa sb : Value} {x y : Nat} {w' w'' : World} (h : OvSt N M w sa sb x y w') (hb : Below w'.heap.size w' w'') : OvSt N M w sa sb x y w'' :=
  { ca := keep1 hb (lt_of_cell h.ca) h.ca, cb := keep1 hb (lt_of_cell h.cb) h.cb, na := h.na.below hb, nb := h.nb.below hb, bel := bthen h.bel hb }

end Go.Proofs.YtpbgpdmffejdgabGreatDoor
