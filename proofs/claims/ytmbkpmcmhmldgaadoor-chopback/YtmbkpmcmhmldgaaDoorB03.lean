/- WDigits. -/
import Derived.Test.YtmbkpmcmhmldgaaDoorB02
namespace Go.Proofs.YtmbkpmcmhmldgaaDoor.W

/-- The number of a list of digits. -/
def val : List Nat → Nat
  | [] => 0
  | d :: r => d + 4294967296 * val r
/-- A digit, nought beyond the end. -/
def dg (D : List Nat) (i : Nat) : Nat := D.getD i 0
/-- The power of a place. -/
def pw (i : Nat) : Nat := 4294967296 ^ i
/-- Each is a digit. -/
def Small (D : List Nat) : Prop := ∀ d ∈ D, d < 4294967296
/-- No nought at the upper end. -/
def Canon (D : List Nat) : Prop := D = [] ∨ pw (D.length - 1) ≤ val D

theorem pw_pos (i : Nat) : 0 < pw i := Nat.pow_pos (by omega)
theorem pw_0 : pw 0 = 1 := rfl
theorem pw_succ (i : Nat) : pw (i + 1) = pw i * 4294967296 := Nat.pow_succ _ _
theorem pw_le {i j : Nat} (h : i ≤ j) : pw i ≤ pw j := Nat.pow_le_pow_right (by omega) h
theorem val_lt {D : List Nat} (h : Small D) : val D < pw D.length := by
  induction D with
  | nil => exact pw_pos 0
  | cons d r ih =>
    have h1 := ih (fun x hx => h x (List.mem_cons_of_mem _ hx))
    have h2 := h d List.mem_cons_self
    simp only [val, List.length_cons, pw_succ]
    rw [Nat.mul_comm (pw r.length)]
    omega
theorem at_val0 : ∀ (D : List Nat) (i : Nat), Small D → D.getD i 0 = val D / pw i % 4294967296
  | [], i, _ => by simp [val]
  | d :: r, 0, h => by
    have := h d List.mem_cons_self
    simp [val, pw]
    omega
  | d :: r, i + 1, h => by
    have h2 := h d List.mem_cons_self
    have ih := at_val0 r i (fun x hx => h x (List.mem_cons_of_mem _ hx))
    simp only [List.getD_cons_succ, ih, val, pw_succ]
    rw [Nat.mul_comm (pw i), ← Nat.div_div_eq_div_mul, show (d + 4294967296 * val r) / 4294967296 = val r by omega]
theorem at_val (D : List Nat) (i : Nat) (h : Small D) : dg D i = val D / pw i % 4294967296 := at_val0 D i h
theorem canon_len {D : List Nat} {k : Nat} (h : Canon D) (hx : val D < pw k) : D.length ≤ k := by
  rcases h with h | h
  · subst h; simp
  · refine Decidable.byContradiction fun hn => ?_
    have := pw_le (show k ≤ D.length - 1 by omega)
    omega
end Go.Proofs.YtmbkpmcmhmldgaaDoor.W
