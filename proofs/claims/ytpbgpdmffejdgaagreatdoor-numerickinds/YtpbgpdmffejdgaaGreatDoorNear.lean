/- Rounding, as an arithmetic of whole numbers: what a quotient's nearest whole number is, ties to even, and the code of the float that is nearest to a number X times 2^-5000. -/
import Derived.Laws.MathBits
namespace Go.Proofs.YtpbgpdmffejdgaaGreatDoor

/-- a by b to the nearest whole number, ties to even. -/
def near (a b : Nat) : Nat := if b < 2 * (a % b) ∨ (2 * (a % b) = b ∧ a / b % 2 = 1) then a / b + 1 else a / b

theorem near_scale (a b c : Nat) (hc : 0 < c) : near (a * c) (b * c) = near a b := by
  unfold near
  rw [Nat.mul_mod_mul_right, Nat.mul_div_mul_right _ _ hc]
  have e1 : (b * c < 2 * (a % b * c)) = (b < 2 * (a % b)) := by
    rw [← Nat.mul_assoc]
    exact propext (Nat.mul_lt_mul_right hc)
  have e2 : (2 * (a % b * c) = b * c) = (2 * (a % b) = b) := by
    rw [← Nat.mul_assoc]
    exact propext (Nat.mul_right_cancel_iff hc)
  simp only [e1, e2]
theorem near_ge {a b k : Nat} (hb : 0 < b) (h : k * b ≤ a) : k ≤ near a b := by
  have := (Nat.le_div_iff_mul_le hb).2 h
  unfold near
  split <;> omega
theorem near_le {a b k : Nat} (hb : 0 < b) (h : a ≤ k * b) : near a b ≤ k := by
  unfold near
  have h1 : a / b ≤ k := Nat.div_le_of_le_mul (by rw [Nat.mul_comm]; exact h)
  split
  · rename_i hc
    refine Decidable.byContradiction fun hn => ?_
    have he : a / b = k := by omega
    have h2 := Nat.div_add_mod a b
    rw [he, Nat.mul_comm b k] at h2
    omega
  · exact h1
theorem near_mono {a c b : Nat} (h : a ≤ c) : near a b ≤ near c b := by
  have h1 : a / b ≤ c / b := Nat.div_le_div_right h
  by_cases he : a / b = c / b
  · have ha := Nat.div_add_mod a b
    have hc := Nat.div_add_mod c b
    rw [← he] at hc
    have hr : a % b ≤ c % b := by omega
    unfold near
    rw [← he]
    split
    · rw [if_pos (by omega)]
      omega
    · split <;> omega
  · unfold near
    split <;> split <;> omega
theorem near_one (a : Nat) : near a 1 = a := by
  unfold near
  rw [Nat.mod_one, if_neg (by omega), Nat.div_one]
theorem near_zero (b : Nat) : near 0 b = 0 := by
  unfold near
  rw [Nat.zero_mod, Nat.zero_div, if_neg (by omega)]
theorem near_mul (a b : Nat) (hb : 0 < b) : near (a * b) b = a := by
  have := near_scale a 1 b hb
  rw [Nat.one_mul, near_one] at this
  exact this

theorem bl_lt {x k : Nat} (h : Go.bitLen x ≤ k) : x < 2 ^ k := Nat.lt_of_lt_of_le (Go.bitLen_spec x).1 (Nat.pow_le_pow_right (by omega) h)
theorem bl_ge {x k : Nat} (h : k < Go.bitLen x) : 2 ^ k ≤ x := by
  have hx : x ≠ 0 := fun h0 => by rw [h0] at h; exact absurd h (by rw [show Go.bitLen 0 = 0 from rfl]; omega)
  exact Nat.le_trans (Nat.pow_le_pow_right (by omega) (by omega)) ((Go.bitLen_spec x).2 hx)
theorem bl_mono {x y : Nat} (h : x ≤ y) : Go.bitLen x ≤ Go.bitLen y := by
  refine Decidable.byContradiction fun hn => ?_
  have h1 := bl_ge (x := x) (k := Go.bitLen y) (by omega)
  have h2 := (Go.bitLen_spec y).1
  omega
theorem bl_shl (x k : Nat) (h : x ≠ 0) : Go.bitLen (x * 2 ^ k) = k + Go.bitLen x := by
  have h1 := Nat.mul_div_cancel x (Nat.two_pow_pos k)
  rw [Go.bitLen_shift (x * 2 ^ k) k (by rw [h1]; exact h), h1]
theorem bl_pos {x : Nat} (h : x ≠ 0) : 0 < Go.bitLen x := by
  unfold Go.bitLen
  rw [if_neg h]
  omega
theorem bl_two (v m : Nat) (hm : m ≤ 1) (h : 2 * v + m ≠ 0) : Go.bitLen (2 * v + m) = Go.bitLen v + 1 := by
  by_cases hv : v = 0
  · subst hv
    have : m = 1 := by omega
    subst this
    decide +kernel
  · have h1 : (2 * v + m) / 2 ^ 1 = v := by omega
    rw [Go.bitLen_shift (2 * v + m) 1 (by rw [h1]; exact hv), h1]
    omega

/-- The place of the last bit of the float that is nearest to X. -/
def unitOf (f L X : Nat) : Nat := max (Go.bitLen X - (f + 1)) L
/-- That float's number among the floats. -/
def code (f L X : Nat) : Nat := (unitOf f L X - L) * 2 ^ f + near X (2 ^ unitOf f L X)

theorem unit_le (f L X : Nat) : L ≤ unitOf f L X := by unfold unitOf; omega
theorem unit_up (f L X : Nat) : near X (2 ^ unitOf f L X) ≤ 2 * 2 ^ f := by
  refine near_le (Nat.two_pow_pos _) ?_
  rw [show 2 * 2 ^ f = 2 ^ (f + 1) by rw [Nat.pow_succ]; omega, ← Nat.pow_add]
  exact Nat.le_of_lt (bl_lt (by unfold unitOf; omega))
theorem unit_dn {f L X : Nat} (h : L < unitOf f L X) : 2 ^ f ≤ near X (2 ^ unitOf f L X) := by
  refine near_ge (Nat.two_pow_pos _) ?_
  rw [← Nat.pow_add]
  exact bl_ge (by unfold unitOf at h ⊢; omega)

theorem code_mono (f L : Nat) {X Y : Nat} (h : X ≤ Y) : code f L X ≤ code f L Y := by
  have hu : unitOf f L X ≤ unitOf f L Y := by have := bl_mono h; unfold unitOf; omega
  unfold code
  by_cases he : unitOf f L X = unitOf f L Y
  · rw [he]
    exact Nat.add_le_add_left (near_mono h) _
  · have h1 := unit_up f L X
    have h2 := unit_dn (f := f) (L := L) (X := Y) (by have := unit_le f L X; omega)
    have h3 := unit_le f L X
    generalize unitOf f L X = u at *
    generalize unitOf f L Y = v at *
    generalize near X (2 ^ u) = s at *
    generalize near Y (2 ^ v) = t at *
    have h4 : (u - L + 1) * 2 ^ f ≤ (v - L) * 2 ^ f := Nat.mul_le_mul_right _ (by omega)
    rw [Nat.add_mul, Nat.one_mul] at h4
    omega
theorem code_zero (f L : Nat) : code f L 0 = 0 := by
  have : unitOf f L 0 = L := by unfold unitOf; rw [show Go.bitLen 0 = 0 from rfl]; omega
  unfold code
  rw [near_zero, this, Nat.sub_self, Nat.zero_mul]
/-- A number that has no more bits than a float is its own. -/
theorem code_exact (f L s k : Nat) (h1 : s < 2 ^ (f + 1)) (hk : L ≤ k) (h2 : L < k → 2 ^ f ≤ s) : code f L (s * 2 ^ k) = (k - L) * 2 ^ f + s := by
  by_cases hs : s = 0
  · subst hs
    have hL : ¬ L < k := fun h => by have := h2 h; have := Nat.two_pow_pos f; omega
    rw [Nat.zero_mul, code_zero f L, show k - L = 0 by omega, Nat.zero_mul]
  have hb1 : Go.bitLen s ≤ f + 1 := by
    refine Decidable.byContradiction fun hn => ?_
    have := bl_ge (x := s) (k := f + 1) (by omega)
    omega
  have hu : unitOf f L (s * 2 ^ k) = k := by
    unfold unitOf
    rw [bl_shl s k hs]
    by_cases hL : L < k
    · have h3 := h2 hL
      have : f < Go.bitLen s := Decidable.byContradiction fun hn => by
        have := bl_lt (x := s) (k := f) (by omega)
        omega
      omega
    · omega
  unfold code
  rw [hu, near_mul _ _ (Nat.two_pow_pos k)]

/-- What the halves tell: by a unit above the number's own last bit. -/
theorem near_halves (v m j n r : Nat) (hm : m ≤ 1) (hn : n = v / 2 ^ j) (hr : r = v % 2 ^ j) :
    near (2 * v + m) (2 ^ (j + 2)) = if n % 2 = 1 ∧ ((r ≠ 0 ∨ m = 1) ∨ n / 2 % 2 = 1) then n / 2 + 1 else n / 2 := by
  have hc := Nat.two_pow_pos j
  have hv := Nat.div_add_mod v (2 ^ j)
  have hlt := Nat.mod_lt v hc
  rw [← hn, ← hr] at hv
  rw [← hr] at hlt
  have e4 : 2 ^ (j + 2) = 4 * 2 ^ j := by rw [Nat.pow_add]; omega
  clear hn hr
  generalize 2 ^ j = c at *
  have hns : n = 2 * (n / 2) + n % 2 := by omega
  have hh : n % 2 < 2 := Nat.mod_lt _ (by omega)
  generalize n / 2 = s at *
  generalize n % 2 = h at *
  subst hns
  have hN : 2 * v + m = 4 * c * s + (2 * c * h + 2 * r + m) := by
    rw [← hv, Nat.mul_add c, show c * (2 * s) = 2 * (c * s) by rw [Nat.mul_left_comm], show 4 * c * s = 4 * (c * s) by rw [Nat.mul_assoc], show 2 * c * h = 2 * (c * h) by rw [Nat.mul_assoc]]
    omega
  have hR : 2 * c * h + 2 * r + m < 4 * c := by
    rcases (show h = 0 ∨ h = 1 by omega) with h0 | h0 <;> subst h0
    · omega
    · omega
  have hq : (2 * v + m) / (4 * c) = s := by
    rw [hN, Nat.mul_add_div (by omega), Nat.div_eq_of_lt hR]
    rfl
  have hr2 : (2 * v + m) % (4 * c) = 2 * c * h + 2 * r + m := by
    rw [hN, Nat.mul_add_mod, Nat.mod_eq_of_lt hR]
  unfold near
  rw [e4, hq, hr2]
  rcases (show h = 0 ∨ h = 1 by omega) with h0 | h0 <;> subst h0
  · rw [if_neg (by omega), if_neg (by omega)]
  · by_cases hl : r ≠ 0 ∨ m = 1
    · rw [if_pos (by omega), if_pos (by omega)]
    · by_cases ho : s % 2 = 1
      · rw [if_pos (by omega), if_pos (by omega)]
      · rw [if_neg (by omega), if_neg (by omega)]
/-- By a unit that isn't. -/
theorem near_two (n : Nat) : near n 2 = if n % 2 = 1 ∧ n / 2 % 2 = 1 then n / 2 + 1 else n / 2 := by
  unfold near
  by_cases h : n % 2 = 1 ∧ n / 2 % 2 = 1
  · rw [if_pos (by omega), if_pos h]
  · rw [if_neg (by omega), if_neg h]

end Go.Proofs.YtpbgpdmffejdgaaGreatDoor
