/- WRefB. -/
import Derived.Test.YtpbgpdmffejdgaaGreatDoorS10
namespace Go.Proofs.YtpbgpdmffejdgaaGreatDoor.W
open Go.RowKit

/-- A digit of a number. -/
def dgt (x k : Nat) : Nat := x / pw k % 4294967296
theorem dgt_lt (x k : Nat) : dgt x k < 4294967296 := Nat.mod_lt _ (by omega)

theorem at_n (s : Value) (x k : Nat) (w : World) (h : IsNat w s x) (hk : k ≤ 1000000) :
    Calls Tryz.prog 56 #[s, .int .i64 (k : Int)] w fun e w' => e = .returned (.int .u64 ((dgt x k : Nat) : Int)) ∧ w' = w := by
  obtain ⟨D, h1, h2, h3, rfl⟩ := h
  have := at_any s D k w h1 hk
  rw [at_val D k h2] at this
  exact this
theorem IsNat.drewN {w : World} {s : Value} {x : Nat} (h : IsNat w s x) (n : Nat) : IsNat (w.drewN n) s x := h.below (below_drewN (Below.refl _ _) n)
theorem IsNat.alloc {w : World} {s : Value} {x : Nat} (h : IsNat w s x) (o : Obj) : IsNat (w.alloc o) s x := h.below (below1 _ _)

theorem bitLen_half {t : Nat} (h : ¬ t = 0) : Go.bitLen t = 1 + Go.bitLen (t / 2) := by
  by_cases h2 : t / 2 = 0
  · have : t = 1 := by omega
    subst this; rfl
  · have := Go.bitLen_shift t 1 (by simpa using h2)
    simpa using this

end Go.Proofs.YtpbgpdmffejdgaaGreatDoor.W
