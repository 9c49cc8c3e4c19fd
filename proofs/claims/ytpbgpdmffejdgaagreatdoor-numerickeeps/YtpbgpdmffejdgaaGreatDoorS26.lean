/- Quot. -/
import Derived.Test.YtpbgpdmffejdgaaGreatDoorS01
import Derived.Test.YtpbgpdmffejdgaaGreatDoorS02
import Derived.Test.YtpbgpdmffejdgaaGreatDoorS25
namespace Go.Proofs.YtpbgpdmffejdgaaGreatDoor
open Go.RowKit
open Go.Proofs.YtpbgpdmffejdgaaGreatDoor.W

/-- The quotient's variables. -/
structure QSt (N B : Nat) (w : World) (bs s1 s2 : Value) (y q r : Nat) (w' : World) : Prop where
  cb : w'.cell? ⟨N + 1, 0, none⟩ = some bs
  c1 : w'.cell? ⟨B, 0, none⟩ = some s1
  c2 : w'.cell? ⟨B + 1, 0, none⟩ = some s2
  cr : w'.cell? ⟨N + 1 + 1, 0, none⟩ = some (.slice none 0 0)
  fr : w'.frozen? ⟨N + 1 + 1, 0, none⟩ = false
  nb : IsNat w' bs y
  n1 : IsNat w' s1 q
  n2 : IsNat w' s2 r
  bel : Below w.heap.size w w'
theorem QSt.below {N B : Nat} {w : World} {bs s1 s2 : Value} {y q r : Nat} {w' w'' : World} (h : QSt N B w bs s1 s2 y q r w') (hb : Below w'.heap.size w' w'') : QSt N B w bs s1 s2 y q r w'' :=
  { cb := keep1 hb (lt_of_cell h.cb) h.cb, c1 := keep1 hb (lt_of_cell h.c1) h.c1, c2 := keep1 hb (lt_of_cell h.c2) h.c2, cr := keep1 hb (lt_of_cell h.cr) h.cr,
    fr := by rw [hb.frozen (lt_of_cell h.cr)]; exact h.fr, nb := h.nb.below hb, n1 := h.n1.below hb, n2 := h.n2.below hb, bel := bthen h.bel hb }

end Go.Proofs.YtpbgpdmffejdgaaGreatDoor
