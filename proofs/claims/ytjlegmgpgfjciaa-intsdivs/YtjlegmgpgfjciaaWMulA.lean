/- A product by rows of digits: plain arithmetic, no program in sight. -/
import Derived.Test.YtjlegmgpgfjciaaWRefE
namespace Go.Proofs.Ytjlegmgpgfjciaa.W

theorem val_set : ∀ (D : List Nat) (j e : Nat), j < D.length → val (D.set j e) + dg D j * pw j = val D + e * pw j
  | [], j, e, h => by simp at h
  | d :: r, 0, e, _ => by simp [val, dg, pw_0]; omega
  | d :: r, j + 1, e, h => by
    have ih := val_set r j e (by simpa using h)
    simp only [List.set_cons_succ, val, dg, List.getD_cons_succ, pw_succ] at ih ⊢
    have e1 : r.getD j 0 * (pw j * 4294967296) = 4294967296 * (r.getD j 0 * pw j) := by rw [← Nat.mul_assoc, Nat.mul_comm]
    have e2 : e * (pw j * 4294967296) = 4294967296 * (e * pw j) := by rw [← Nat.mul_assoc, Nat.mul_comm]
    rw [e1, e2]
    omega
theorem small_set {D : List Nat} {j e : Nat} (h : Small D) (he : e < 4294967296) : Small (D.set j e) := by
  intro x hx
  rcases List.mem_or_eq_of_mem_set hx with hx | rfl
  · exact h x hx
  · exact he
theorem dg_lt {D : List Nat} (h : Small D) (j : Nat) : dg D j < 4294967296 := by
  rw [at_val D j h]; exact Nat.mod_lt _ (by omega)
theorem dg_set {D : List Nat} {j e i : Nat} (h : j < D.length) : dg (D.set j e) i = if j = i then e else dg D i := by
  unfold dg
  by_cases hji : j = i
  · subst hji
    simp [List.getD_eq_getElem?_getD, h]
  · simp [List.getD_eq_getElem?_getD, hji]

/-- Row i of the product, up to digit k. -/
def MulTo (x y i k cy : Nat) (D : List Nat) : Prop := Small D ∧ cy < 4294967296 ∧ val D + cy * pw (i + k) + dgt x i * (y / pw k) * pw (i + k) = x % pw (i + 1) * y

theorem mod_next (x i : Nat) : x % pw (i + 1) = x % pw i + dgt x i * pw i := by
  unfold dgt
  rw [pw_succ, Nat.mod_mul, Nat.mul_comm (pw i)]
theorem mulTo_start {x y i : Nat} {D : List Nat} (hs : Small D) (h : val D = x % pw i * y) : MulTo x y i 0 0 D := by
  refine ⟨hs, by omega, ?_⟩
  rw [mod_next, Nat.add_mul, h, pw_0, Nat.div_one, Nat.zero_mul, Nat.add_zero, Nat.add_zero]
  congr 1
  rw [Nat.mul_assoc, Nat.mul_comm y, ← Nat.mul_assoc]
theorem mul_fits {d a b c : Nat} (hd : d < 4294967296) (ha : a < 4294967296) (hb : b < 4294967296) (hc : c < 4294967296) : d + a * b + c < 18446744073709551616 := by
  have := Nat.mul_le_mul (show a ≤ 4294967295 by omega) (show b ≤ 4294967295 by omega)
  omega
theorem mulTo_step {x y i k cy : Nat} {D : List Nat} (h : MulTo x y i k cy D) (hj : i + k < D.length) :
    MulTo x y i (k + 1) ((dg D (i + k) + dgt x i * dgt y k + cy) / 4294967296) (D.set (i + k) ((dg D (i + k) + dgt x i * dgt y k + cy) % 4294967296)) := by
  obtain ⟨hs, hc, he⟩ := h
  have hf := mul_fits (dg_lt hs (i + k)) (dgt_lt x i) (dgt_lt y k) hc
  refine ⟨small_set hs (Nat.mod_lt _ (by omega)), by omega, ?_⟩
  have hv := val_set D (i + k) ((dg D (i + k) + dgt x i * dgt y k + cy) % 4294967296) hj
  have hy := div_pw_succ y k
  generalize hS : dg D (i + k) + dgt x i * dgt y k + cy = s at *
  rw [← he, hy, ← Nat.add_assoc, pw_succ]
  generalize y / pw (k + 1) = Y at *
  generalize pw (i + k) = p at *
  generalize val (D.set (i + k) (s % 4294967296)) = V at *
  generalize dgt x i = A at *
  generalize dgt y k = b at *
  have e1 : s / 4294967296 * (p * 4294967296) = (4294967296 * (s / 4294967296)) * p := by
    rw [Nat.mul_comm p, ← Nat.mul_assoc, Nat.mul_comm (s / 4294967296)]
  have e2 : (s % 4294967296) * p + (4294967296 * (s / 4294967296)) * p = s * p := by rw [← Nat.add_mul, Nat.mod_add_div]
  have e3 : s * p = dg D (i + k) * p + A * b * p + cy * p := by rw [← hS, Nat.add_mul, Nat.add_mul]
  have e4 : A * Y * (p * 4294967296) = A * (Y * 4294967296) * p := by
    rw [Nat.mul_comm p, ← Nat.mul_assoc, Nat.mul_assoc A]
  have e5 : A * (Y * 4294967296 + b) * p = A * (Y * 4294967296) * p + A * b * p := by rw [Nat.mul_add, Nat.add_mul]
  rw [e1, e4]
  first
  | rw [e5]; omega
  | (rw [Nat.mul_comm 4294967296 Y, Nat.add_comm b, e5]; omega)
  | (rw [Nat.mul_comm 4294967296 Y, e5]; omega)
theorem mulTo_end {x y i k m : Nat} {D : List Nat} (h : MulTo x y i k 0 D) (hk : m ≤ k) (hy : y < pw m) : val D = x % pw (i + 1) * y := by
  obtain ⟨_, _, he⟩ := h
  rw [Nat.div_eq_of_lt (Nat.lt_of_lt_of_le hy (pw_le hk)), Nat.mul_zero, Nat.zero_mul, Nat.add_zero] at he
  omega
theorem pw_lt_of {i j : Nat} (h : pw i < pw j) : i < j := by
  refine Decidable.byContradiction fun hn => ?_
  have := pw_le (show j ≤ i by omega)
  omega
theorem mulTo_in {x y i k m cy : Nat} {D : List Nat} (h : MulTo x y i k cy D) (h0 : 0 < cy) (hy : y < pw m) : k ≤ m := by
  obtain ⟨_, _, he⟩ := h
  have h1 : x % pw (i + 1) * y < pw (i + 1) * pw m := by
    have a1 := Nat.mod_lt x (pw_pos (i + 1))
    exact Nat.mul_lt_mul'' a1 hy
  rw [← pw_add] at h1
  have h2 : pw (i + k) ≤ cy * pw (i + k) := Nat.le_mul_of_pos_left _ h0
  have := pw_lt_of (show pw (i + k) < pw (i + 1 + m) by omega)
  omega
theorem mul_wraps (d a b c : Nat) (hd : d < 4294967296) (ha : a < 4294967296) (hb : b < 4294967296) (hc : c < 4294967296) :
    IntKind.u64.wrap (IntKind.u64.wrap ((d : Int) + IntKind.u64.wrap ((a : Int) * (b : Int))) + (c : Int)) = ((d + a * b + c : Nat) : Int) := by
  have h := mul_fits hd ha hb hc
  rw [← Int.natCast_mul]
  generalize a * b = t at *
  rw [IntKind.wrap_u64, IntKind.wrap_u64, IntKind.wrap_u64]
  omega

end Go.Proofs.Ytjlegmgpgfjciaa.W
