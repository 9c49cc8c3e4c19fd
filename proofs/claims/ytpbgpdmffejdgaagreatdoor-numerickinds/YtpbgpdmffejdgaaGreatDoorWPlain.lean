/- Plain arithmetic of numbers of two words: no program in sight. -/
import Derived.Laws.MathBits
import Derived.Laws.BitsAllLaws
namespace Go.Proofs.YtpbgpdmffejdgaaGreatDoor.W

/-- The upper and the lower word of a number. -/
def hi (v : Nat) : Int := ((v / 18446744073709551616 : Nat) : Int)
def lo (v : Nat) : Int := ((v % 18446744073709551616 : Nat) : Int)
/-- A number of two words. -/
def W2 (v : Nat) : Prop := v < 340282366920938463463374607431768211456

theorem hi_0 (v : Nat) : 0 ≤ hi v := by unfold hi; omega
theorem lo_0 (v : Nat) : 0 ≤ lo v := by unfold lo; omega
theorem lo_1 (v : Nat) : lo v < 18446744073709551616 := by unfold lo; omega
theorem hi_1 {v : Nat} (h : W2 v) : hi v < 18446744073709551616 := by unfold W2 at h; unfold hi; omega
theorem of_words (h l : Int) (h0 : 0 ≤ h) (h1 : h < 18446744073709551616) (l0 : 0 ≤ l) (l1 : l < 18446744073709551616) : ∃ v, W2 v ∧ hi v = h ∧ lo v = l :=
  ⟨h.toNat * 18446744073709551616 + l.toNat, by unfold W2; omega, by unfold hi; omega, by unfold lo; omega⟩
theorem words_inj {v u : Nat} (h : hi v = hi u) (l : lo v = lo u) : v = u := by unfold hi at h; unfold lo at l; omega
theorem hi_small {v : Nat} (h : v < 18446744073709551616) : hi v = 0 := by unfold hi; omega
theorem lo_small {v : Nat} (h : v < 18446744073709551616) : lo v = (v : Int) := by unfold lo; omega
theorem words_of (n : Int) (h0 : 0 ≤ n) (h1 : n < 18446744073709551616) : hi n.toNat = 0 ∧ lo n.toNat = n := by
  constructor
  · rw [hi_small (by omega)]
  · rw [lo_small (by omega)]; omega

/-- Held against each other. -/
def cmpN (v u : Nat) : Int := if v < u then -1 else if u < v then 1 else 0

theorem pow_split (n : Nat) (h : n ≤ 64) : 2 ^ n * 2 ^ (64 - n) = 18446744073709551616 := by
  rw [← Nat.pow_add, show n + (64 - n) = 64 by omega]

theorem or_join (n x y : Nat) (hx : x % 2 ^ n = 0) (hy : y < 2 ^ n) : x ||| y = x + y := Go.nat_join n x y hx hy

theorem mod_mod_p (x : Nat) : x % 340282366920938463463374607431768211456 % 18446744073709551616 = x % 18446744073709551616 := by omega

/-- A product by a power of two: its lower word. -/
theorem left_lo (v k : Nat) : (v % 18446744073709551616 * 2 ^ k) % 18446744073709551616 = v * 2 ^ k % 340282366920938463463374607431768211456 % 18446744073709551616 := by
  rw [mod_mod_p, Nat.mod_mul_mod]

theorem join_core (a b h l : Nat) (ha : 0 < a) (hb : 0 < b) (hs : a * b = 18446744073709551616) (hl : l < 18446744073709551616) :
    h * a % 18446744073709551616 = (h % b) * a ∧ l / b < a ∧ (h * 18446744073709551616 + l) * a % 340282366920938463463374607431768211456 / 18446744073709551616 = (h % b) * a + l / b := by
  have e1 : h * a % 18446744073709551616 = (h % b) * a := by rw [← hs, Nat.mul_comm a b, Nat.mul_mod_mul_right]
  have e2 : l / b < a := Nat.div_lt_of_lt_mul (by rw [Nat.mul_comm, hs]; exact hl)
  refine ⟨e1, e2, ?_⟩
  have e3 : (h * 18446744073709551616 + l) * a % 340282366920938463463374607431768211456 / 18446744073709551616 = (h * 18446744073709551616 + l) * a / 18446744073709551616 % 18446744073709551616 :=
    Nat.mod_mul_right_div_self _ 18446744073709551616 18446744073709551616
  have e4 : (h * 18446744073709551616 + l) * a / 18446744073709551616 = h * a + l / b := by
    have : (h * 18446744073709551616 + l) * a / 18446744073709551616 = (h * 18446744073709551616 + l) / b := by
      rw [show (18446744073709551616 : Nat) = b * a by rw [Nat.mul_comm]; exact hs.symm]
      exact Nat.mul_div_mul_right _ _ ha
    rw [this, show h * 18446744073709551616 = b * (h * a) by rw [← hs, ← Nat.mul_assoc, Nat.mul_comm b (h * a)], Nat.mul_add_div hb]
  rw [e3, e4, ← Nat.mod_add_mod, e1]
  refine Nat.mod_eq_of_lt ?_
  have h1 : h % b < b := Nat.mod_lt _ hb
  have h2 : (h % b + 1) * a ≤ b * a := Nat.mul_le_mul_right a h1
  rw [Nat.add_mul, Nat.one_mul, Nat.mul_comm b a, hs] at h2
  omega

theorem left_hi (v k : Nat) (hk' : k < 64) :
    (v / 18446744073709551616 * 2 ^ k % 18446744073709551616 ||| v % 18446744073709551616 / 2 ^ (64 - k)) = v * 2 ^ k % 340282366920938463463374607431768211456 / 18446744073709551616 := by
  obtain ⟨c1, c2, c3⟩ := join_core (2 ^ k) (2 ^ (64 - k)) (v / 18446744073709551616) (v % 18446744073709551616) (Nat.two_pow_pos _) (Nat.two_pow_pos _) (pow_split k (by omega)) (by omega)
  rw [c1, or_join k _ _ (Nat.mul_mod_left _ _) c2, ← c3]
  congr 3
  omega

theorem left_hi64 (v k : Nat) : (v % 18446744073709551616 * 2 ^ k) % 18446744073709551616 = v * 2 ^ (64 + k) % 340282366920938463463374607431768211456 / 18446744073709551616 := by
  have e3 : v * 2 ^ (64 + k) % 340282366920938463463374607431768211456 / 18446744073709551616 = v * 2 ^ (64 + k) / 18446744073709551616 % 18446744073709551616 :=
    Nat.mod_mul_right_div_self _ 18446744073709551616 18446744073709551616
  have e4 : v * 2 ^ (64 + k) = 18446744073709551616 * (v * 2 ^ k) := by rw [Nat.pow_add, show (2 : Nat) ^ 64 = 18446744073709551616 from rfl, Nat.mul_left_comm]
  rw [e3, e4, Nat.mul_div_cancel_left _ (by omega), Nat.mod_mul_mod]

theorem left_lo64 (v k : Nat) : v * 2 ^ (64 + k) % 340282366920938463463374607431768211456 % 18446744073709551616 = 0 := by
  rw [mod_mod_p, Nat.pow_add, show (2 : Nat) ^ 64 = 18446744073709551616 from rfl, Nat.mul_left_comm, Nat.mul_mod_right]

theorem left_128 (v k : Nat) : v * 2 ^ (128 + k) % 340282366920938463463374607431768211456 = 0 := by
  rw [Nat.pow_add, show (2 : Nat) ^ 128 = 340282366920938463463374607431768211456 from rfl, Nat.mul_left_comm, Nat.mul_mod_right]

/-- A number by a power of two: the lower word. -/
theorem right_lo (v k : Nat) (hk' : k < 64) :
    (v % 18446744073709551616 / 2 ^ k ||| v / 18446744073709551616 * 2 ^ (64 - k) % 18446744073709551616) = v / 2 ^ k % 18446744073709551616 := by
  have hs := pow_split k (by omega)
  obtain ⟨c1, c2, c3⟩ := join_core (2 ^ (64 - k)) (2 ^ k) (v / 18446744073709551616) (v % 18446744073709551616) (Nat.two_pow_pos _) (Nat.two_pow_pos _) (by rw [Nat.mul_comm]; exact hs) (by omega)
  rw [Nat.or_comm, c1, or_join (64 - k) _ _ (Nat.mul_mod_left _ _) c2, ← c3]
  have ev : v / 18446744073709551616 * 18446744073709551616 + v % 18446744073709551616 = v := by omega
  have e3 : v * 2 ^ (64 - k) % 340282366920938463463374607431768211456 / 18446744073709551616 = v * 2 ^ (64 - k) / 18446744073709551616 % 18446744073709551616 :=
    Nat.mod_mul_right_div_self _ 18446744073709551616 18446744073709551616
  rw [ev, e3]
  congr 1
  rw [← hs]
  exact Nat.mul_div_mul_right _ _ (Nat.two_pow_pos _)

theorem right_hi (v k : Nat) : v / 18446744073709551616 / 2 ^ k = v / 2 ^ k / 18446744073709551616 := by
  rw [Nat.div_div_eq_div_mul, Nat.div_div_eq_div_mul, Nat.mul_comm]

theorem right_64 (v k : Nat) : v / 18446744073709551616 / 2 ^ k = v / 2 ^ (64 + k) := by
  rw [Nat.div_div_eq_div_mul, Nat.pow_add]

theorem right_128 (v k : Nat) (hv : W2 v) : v / 2 ^ (128 + k) = 0 := by
  unfold W2 at hv
  rw [Nat.pow_add, ← Nat.div_div_eq_div_mul, Nat.div_eq_of_lt (show v < 2 ^ 128 from hv), Nat.zero_div]

theorem bitLen_2 (v : Nat) : (Go.bitLen v : Int) = if hi v = 0 then (Go.bitLen (lo v).toNat : Int) else 64 + (Go.bitLen (hi v).toNat : Int) := by
  unfold hi lo
  by_cases h : v / 18446744073709551616 = 0
  · rw [if_pos (by omega)]
    have e : v % 18446744073709551616 = v := by omega
    rw [Int.toNat_natCast, e]
  · rw [if_neg (by omega), Int.toNat_natCast]
    have := Go.bitLen_shift v 64 h
    rw [this]
    rw [show (2 : Nat) ^ 64 = 18446744073709551616 from rfl]
    omega

theorem cmp_2 (v u : Nat) : cmpN v u = if hi v < hi u then -1 else if hi u < hi v then 1 else if lo v < lo u then -1 else if lo u < lo v then 1 else 0 := by
  unfold cmpN hi lo
  by_cases a : v < u
  · rw [if_pos a]
    by_cases b : v / 18446744073709551616 < u / 18446744073709551616
    · rw [if_pos (by omega)]
    · rw [if_neg (by omega), if_neg (by omega), if_pos (by omega)]
  · rw [if_neg a]
    by_cases c : u < v
    · rw [if_pos c]
      by_cases b : u / 18446744073709551616 < v / 18446744073709551616
      · rw [if_neg (by omega), if_pos (by omega)]
      · rw [if_neg (by omega), if_neg (by omega), if_neg (by omega), if_pos (by omega)]
    · rw [if_neg c, if_neg (by omega), if_neg (by omega), if_neg (by omega), if_neg (by omega)]

end Go.Proofs.YtpbgpdmffejdgaaGreatDoor.W
