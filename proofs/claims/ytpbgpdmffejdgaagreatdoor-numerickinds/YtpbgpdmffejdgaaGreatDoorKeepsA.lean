/- What is a float is rounded to itself: the arithmetic; and Narrow's contract. -/
import Derived.Test.YtpbgpdmffejdgaaGreatDoorRisesMath
namespace Go.Proofs.YtpbgpdmffejdgaaGreatDoor
open Go.RowKit
open Go.Proofs.YtpbgpdmffejdgaaGreatDoor.W

theorem num_exact (s j : Nat) (E : Int) (h : -4999 ≤ E - j) : num (s * 2 ^ j) false (E - j) = s * 2 ^ (E + 5000).toNat := by
  unfold num
  rw [show 2 * (s * 2 ^ j) + Bool.toNat false = s * 2 ^ j * 2 ^ 1 by simp; omega, Nat.mul_assoc, Nat.mul_assoc, ← Nat.pow_add, ← Nat.pow_add, show j + (1 + (E - j + 4999).toNat) = (E + 5000).toNat by omega]
theorem num_plain (s : Nat) (E : Int) (h : -4999 ≤ E) : num s false E = s * 2 ^ (E + 5000).toNat := by
  have := num_exact s 0 E (by omega)
  simpa using this

theorem exact_code {w e f P Q b x y E S : Int} {n N : Bool} (k : Kd w e f P Q b) (ho : Opened f P Q b n x y N 1 E S) (x0 : 0 ≤ x) (x1 : x < Q) (y0 : 0 ≤ y) (y1 : y < P) :
    N = n ∧ -1200 ≤ E ∧ E ≤ 1100 ∧ 0 ≤ S ∧ S < 2 * P ∧ fl f P Q N (lid P Q (code f.toNat (lowN f b) (S.toNat * 2 ^ (E + 5000).toNat) : Nat)) = put f P Q n x y := by
  obtain ⟨hP, f0, f1, l0, l1, b0, b1⟩ := k.pow
  have key : ∀ (hS : 0 ≤ S) (hS1 : S < 2 * P) (hE : 1 - b - f ≤ E) (hE1 : E ≤ 1100) (hd : 1 - b - f < E → P ≤ S), ((code f.toNat (lowN f b) (S.toNat * 2 ^ (E + 5000).toNat) : Nat) : Int) = (E - (1 - b - f)) * P + S := by
    intro hS hS1 hE hE1 hd
    rw [code_exact f.toNat (lowN f b) S.toNat (E + 5000).toNat (by rw [Nat.pow_succ]; omega) (by unfold lowN; omega) (fun h => by have := hd (by unfold lowN at h; omega); omega)]
    rw [hP, show E - (1 - b - f) = (((E + 5000).toNat - lowN f b : Nat) : Int) by unfold lowN; omega]
    simp
    omega
  rcases ho with ⟨a, -⟩ | ⟨-, c, d, -, h, -⟩ | ⟨-, c, d, -, h, -⟩ | ⟨-, c, d, rfl, -, rfl, rfl⟩ | ⟨-, c, d, g, rfl, -, rfl, rfl⟩ | ⟨-, c, d, g, -, h, -⟩
  · exact absurd a k.f0
  · omega
  · omega
  · have hr : -1200 ≤ x - b - f ∧ x - b - f ≤ 1100 := by rcases k with k | k <;> omega
    refine ⟨rfl, hr.1, hr.2, by omega, by omega, ?_⟩
    rw [key (by omega) (by omega) (by omega) (by omega) (by omega)]
    clear key hP
    rcases k with ⟨rfl, rfl, rfl, rfl, rfl, rfl⟩ | ⟨rfl, rfl, rfl, rfl, rfl, rfl⟩
    · unfold lid
      rw [if_neg (by omega), fl_eq N (x := x) (y := y) (by omega) (by omega)]
    · unfold lid
      rw [if_neg (by omega), fl_eq N (x := x) (y := y) (by omega) (by omega)]
  · refine ⟨rfl, by omega, by omega, by omega, by omega, ?_⟩
    rw [key (by omega) (by omega) (by omega) (by omega) (by omega)]
    clear key hP
    subst d
    rcases k with ⟨rfl, rfl, rfl, rfl, rfl, rfl⟩ | ⟨rfl, rfl, rfl, rfl, rfl, rfl⟩
    · unfold lid
      rw [if_neg (by omega), fl_eq N (x := 0) (y := S) (by omega) (by omega)]
    · unfold lid
      rw [if_neg (by omega), fl_eq N (x := 0) (y := S) (by omega) (by omega)]
  · omega

theorem cap_id {X : Int} (h0 : -4096 ≤ X) (h1 : X ≤ 4096) : cap X = X := by
  unfold cap
  rw [if_neg (by omega), if_neg (by omega)]

/-- The sign's bit is laid on top. -/
theorem or_sign {w e f P Q b c : Int} (k : Kd w e f P Q b) (c0 : 0 ≤ c) (c1 : c ≤ (Q - 1) * P) : bits .or .u64 (fl f P Q false c) (put f P Q true 0 0) = fl f P Q true c := by
  have e1 := fl_val k c
  have e2 : fl f P Q true c = c + P * Q := by
    unfold fl
    rw [put_yes k.f0]
    rcases k with ⟨-, -, -, rfl, rfl, -⟩ | ⟨-, -, -, rfl, rfl, -⟩ <;> omega
  rw [e1, e2, put_yes k.f0]
  rcases k with ⟨-, -, -, rfl, rfl, -⟩ | ⟨-, -, -, rfl, rfl, -⟩
  · exact or_sum' 31 _ _ (by omega) (by omega) (by decide +kernel) c0 (by simp; omega) (by omega)
  · exact or_sum' 63 _ _ (by omega) (by omega) (by decide +kernel) c0 (by simp; omega) (by omega)
theorem lid_in {w e f P Q b : Int} (k : Kd w e f P Q b) (c : Nat) : 0 ≤ lid P Q c ∧ lid P Q c ≤ (Q - 1) * P := by
  have : 0 ≤ (Q - 1) * P := by rcases k with ⟨-, -, -, rfl, rfl, -⟩ | ⟨-, -, -, rfl, rfl, -⟩ <;> omega
  unfold lid
  generalize (Q - 1) * P = I at *
  split <;> omega

end Go.Proofs.YtpbgpdmffejdgaaGreatDoor
