/- More is never rounded to less: the arithmetic. -/
import Derived.Test.YtpbgpdmffejdgaaGreatDoorWhole
namespace Go.Proofs.YtpbgpdmffejdgaaGreatDoor
open Go.RowKit
open Go.Proofs.YtpbgpdmffejdgaaGreatDoor.W

theorem fl_val {w e f P Q b : Int} (k : Kd w e f P Q b) (c : Int) : fl f P Q false c = c := by
  unfold fl
  rw [put_no k.f0]
  rcases k with ⟨-, -, -, rfl, rfl, -⟩ | ⟨-, -, -, rfl, rfl, -⟩ <;> omega
theorem lid_mono (P Q : Int) {c d : Int} (h : c ≤ d) : lid P Q c ≤ lid P Q d := by
  unfold lid
  generalize (Q - 1) * P = I
  split <;> split <;> omega
theorem pack_mono {w e f P Q b : Int} (k : Kd w e f P Q b) {x y : Nat} (h : x ≤ y) :
    fl f P Q false (lid P Q (code f.toNat (lowN f b) x : Nat)) ≤ fl f P Q false (lid P Q (code f.toNat (lowN f b) y : Nat)) := by
  rw [fl_val k, fl_val k]
  exact lid_mono P Q (Int.ofNat_le.2 (code_mono _ _ h))
theorem cap_mono {X Y : Int} (h : X ≤ Y) : cap X ≤ cap Y := by
  unfold cap
  split <;> split <;> (try split) <;> (try split) <;> omega
theorem num_exp (v : Nat) (m : Bool) {X Y : Int} (h : X ≤ Y) : num v m X ≤ num v m Y := Nat.mul_le_mul_left _ (Nat.pow_le_pow_right (by omega) (by omega))
theorem num_le {v u : Nat} (m : Bool) (X : Int) (h : v ≤ u) : num v m X ≤ num u m X := Nat.mul_le_mul_right _ (by omega)

end Go.Proofs.YtpbgpdmffejdgaaGreatDoor
