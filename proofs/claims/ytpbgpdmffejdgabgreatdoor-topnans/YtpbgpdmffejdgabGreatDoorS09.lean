/- Ref, SgM. -/
import Derived.Test.YtpbgpdmffejdgabGreatDoorS01
import Derived.Laws.BitsAllLaws
namespace Go.Proofs.YtpbgpdmffejdgabGreatDoor
open Go.RowKit

/-- A width that is one. -/
def Kd (w e f P Q b : Int) : Prop := (w = 32 ∧ e = 8 ∧ f = 23 ∧ P = 8388608 ∧ Q = 256 ∧ b = 127) ∨ (w = 64 ∧ e = 11 ∧ f = 52 ∧ P = 4503599627370496 ∧ Q = 2048 ∧ b = 1023)
theorem Kd.wd {w e f P Q b : Int} (h : Kd w e f P Q b) : Wd w e f P Q b := by
  rcases h with h | h
  · exact Or.inl h
  · exact Or.inr (Or.inl h)
theorem Kd.f0 {w e f P Q b : Int} (h : Kd w e f P Q b) : f ≠ 0 := by rcases h with h | h <;> omega

theorem put_no {f P Q x y : Int} (hf : f ≠ 0) : put f P Q false x y = x * P + y := by unfold put; rw [if_neg hf]; simp
theorem put_yes {f P Q x y : Int} (hf : f ≠ 0) : put f P Q true x y = x * P + y + P * Q := by unfold put; rw [if_neg hf]; simp

theorem Kd.pos {w e f P Q b : Int} (h : Kd w e f P Q b) : 2 ≤ P ∧ P ≤ 4503599627370496 ∧ 2 ≤ Q ∧ Q ≤ 2048 := by rcases h with h | h <;> omega

end Go.Proofs.YtpbgpdmffejdgabGreatDoor
namespace Go.Proofs.YtpbgpdmffejdgabGreatDoor
open Go.RowKit

/-- The bit of a width's sign. -/
def sb (f P Q : Int) : Int := if f = 0 then 0 else P * Q
end Go.Proofs.YtpbgpdmffejdgabGreatDoor
