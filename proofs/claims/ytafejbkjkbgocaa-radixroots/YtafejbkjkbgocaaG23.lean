/- QuoA. -/
import Derived.Test.YtafejbkjkbgocaaG01
namespace Go.Proofs.Ytafejbkjkbgocaa

/-- The place of the last bit of the float that is nearest to X by D. -/
def unitQ (f L X D : Nat) : Nat := max (Go.bitLen (X / D) - (f + 1)) L
/-- That float's number among the floats. -/
def codeQ (f L X D : Nat) : Nat := (unitQ f L X D - L) * 2 ^ f + near X (D * 2 ^ unitQ f L X D)

theorem codeQ_one (f L X : Nat) : codeQ f L X 1 = code f L X := by
  unfold codeQ code unitQ unitOf
  rw [Nat.div_one, Nat.one_mul]
theorem codeQ_scale (f L X D c : Nat) (hc : 0 < c) : codeQ f L (X * c) (D * c) = codeQ f L X D := by
  have hu : unitQ f L (X * c) (D * c) = unitQ f L X D := by
    unfold unitQ
    rw [Nat.mul_div_mul_right _ _ hc]
  unfold codeQ
  rw [hu, Nat.mul_right_comm, near_scale _ _ _ hc]
/-- What goes out even. -/
theorem codeQ_even (f L X D : Nat) (hD : 0 < D) : codeQ f L (X * D) D = code f L X := by
  have := codeQ_scale f L X 1 D hD
  rw [Nat.one_mul] at this
  rw [this, codeQ_one]
end Go.Proofs.Ytafejbkjkbgocaa
