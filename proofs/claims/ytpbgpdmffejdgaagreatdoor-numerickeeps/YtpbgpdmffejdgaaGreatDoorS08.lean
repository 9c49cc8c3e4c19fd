/- WDigits. -/
import Derived.Test.YtpbgpdmffejdgaaGreatDoorS04
namespace Go.Proofs.YtpbgpdmffejdgaaGreatDoor.W

/-- The number of a list of digits. -/
def val : List Nat → Nat
  | [] => 0
  | d :: r => d + 4294967296 * val r
/-- A digit, nought beyond the end. -/
def dg (D : List Nat) (i : Nat) : Nat := D.getD i 0
/-- The power of a place. -/
def pw (i : Nat) : Nat := 4294967296 ^ i
/-- Each is a digit. -/
def Small (D : List Nat) : Prop := ∀ d ∈ D, d < 4294967296
/-- No nought at the upper end. -/
def Canon (D : List Nat) : Prop := D = [] ∨ pw (D.length - 1) ≤ val D

theorem pw_pos (i : Nat) : 0 < pw i := Nat.pow_pos (by omega)
theorem pw_0 : pw 0 = 1 := rfl
theorem pw_succ (i : Nat) : pw (i + 1) = pw i * 4294967296 := Nat.pow_succ _ _
theorem pw_add (i j : Nat) : pw (i + j) = pw i * pw j := Nat.pow_add _ _ _
theorem pw_le {i j : Nat} (h : i ≤ j) : pw i ≤ pw j := Nat.pow_le_pow_right (by omega) h
theorem pw_two (i : Nat) : pw i = 2 ^ (32 * i) := by unfold pw; rw [Nat.pow_mul]

theorem val_append (D E : List Nat) : val (D ++ E) = val D + pw D.length * val E := by
  induction D with
  | nil => simp [val, pw]
  | cons d r ih =>
    simp only [List.cons_append, val, ih, List.length_cons, pw_succ]
    rw [Nat.mul_add, Nat.mul_comm (pw r.length) 4294967296, Nat.mul_assoc]
    omega
theorem val_snoc (D : List Nat) (d : Nat) : val (D ++ [d]) = val D + pw D.length * d := by rw [val_append]; simp [val]
theorem small_snoc {D : List Nat} {d : Nat} (h : Small D) (hd : d < 4294967296) : Small (D ++ [d]) := by
  intro x hx
  rcases List.mem_append.1 hx with hx | hx
  · exact h x hx
  · simp at hx; subst hx; exact hd
theorem val_lt {D : List Nat} (h : Small D) : val D < pw D.length := by
  induction D with
  | nil => exact pw_pos 0
  | cons d r ih =>
    have h1 := ih (fun x hx => h x (List.mem_cons_of_mem _ hx))
    have h2 := h d List.mem_cons_self
    simp only [val, List.length_cons, pw_succ]
    rw [Nat.mul_comm (pw r.length)]
    omega
theorem val_zeros (k : Nat) : val (List.replicate k 0) = 0 := by
  induction k with
  | zero => rfl
  | succ k ih => simp [List.replicate_succ, val, ih]
theorem at_val0 : ∀ (D : List Nat) (i : Nat), Small D → D.getD i 0 = val D / pw i % 4294967296
  | [], i, _ => by simp [val]
  | d :: r, 0, h => by
    have := h d List.mem_cons_self
    simp [val, pw]
    omega
  | d :: r, i + 1, h => by
    have h2 := h d List.mem_cons_self
    have ih := at_val0 r i (fun x hx => h x (List.mem_cons_of_mem _ hx))
    simp only [List.getD_cons_succ, ih, val, pw_succ]
    rw [Nat.mul_comm (pw i), ← Nat.div_div_eq_div_mul, show (d + 4294967296 * val r) / 4294967296 = val r by omega]
theorem at_val (D : List Nat) (i : Nat) (h : Small D) : dg D i = val D / pw i % 4294967296 := at_val0 D i h
theorem dg_out {D : List Nat} {i : Nat} (h : ¬ i < D.length) : dg D i = 0 := by
  unfold dg
  rw [List.getD_eq_getElem?_getD, List.getElem?_eq_none (by omega)]
  rfl
theorem canon_len {D : List Nat} {k : Nat} (h : Canon D) (hx : val D < pw k) : D.length ≤ k := by
  rcases h with h | h
  · subst h; simp
  · refine Decidable.byContradiction fun hn => ?_
    have := pw_le (show k ≤ D.length - 1 by omega)
    omega
/-- The last digit of a list that is not empty. -/
theorem top_digit {D : List Nat} (hs : Small D) (hne : 0 < D.length) : dg D (D.length - 1) = val D / pw (D.length - 1) := by
  rw [at_val D _ hs, Nat.mod_eq_of_lt]
  have h := val_lt hs
  rw [show D.length = (D.length - 1) + 1 by omega, pw_succ] at h
  exact Nat.div_lt_of_lt_mul h
theorem canon_of_top {D : List Nat} (hs : Small D) (h : dg D (D.length - 1) ≠ 0) : Canon D := by
  rcases Nat.eq_zero_or_pos D.length with h0 | h0
  · exact Or.inl (List.eq_nil_of_length_eq_zero h0)
  · rw [top_digit hs h0] at h
    refine Or.inr (Decidable.byContradiction fun hn => h (Nat.div_eq_of_lt (by omega)))
theorem small_take {D : List Nat} (h : Small D) (m : Nat) : Small (D.take m) := fun x hx => h x (List.mem_of_mem_take hx)
theorem take_dg {D : List Nat} {m j : Nat} (h : j < m) : dg (D.take m) j = dg D j := by
  unfold dg
  simp [List.getD_eq_getElem?_getD, h]

end Go.Proofs.YtpbgpdmffejdgaaGreatDoor.W
