/- InM, RadC, RadS, CsC. -/
import Derived.Test.YtpbgpdmffejdgaaGreatDoorS16
import Derived.Test.YtpbgpdmffejdgaaGreatDoorS18
import Derived.Test.YtpbgpdmffejdgaaGreatDoorS19
import Derived.Test.YtpbgpdmffejdgaaGreatDoorS24
import Derived.Test.YtpbgpdmffejdgaaGreatDoorS36
import Derived.Laws.MathBits
import Derived.WalkMore
import Derived.Deep.Cut
import Derived.Deep.DeepCutAuto
namespace Go.Proofs.YtpbgpdmffejdgaaGreatDoor

theorem tb_div (x i : Nat) : x.testBit i = decide (x / 2 ^ i % 2 = 1) := by
  rw [Nat.testBit_eq_decide_div_mod_eq]
/-- The number of so many bits. -/
def numI (g : Nat → Bool) : Nat → Nat
  | 0 => 0
  | n + 1 => numI g n + (g n).toNat * 2 ^ n
theorem num_lt (g : Nat → Bool) : ∀ n, numI g n < 2 ^ n
  | 0 => by simp [numI]
  | n + 1 => by
    have := num_lt g n
    have h : (g n).toNat ≤ 1 := by cases g n <;> simp
    have := Nat.mul_le_mul_right (2 ^ n) h
    simp only [numI, Nat.pow_succ]
    omega
theorem num_bit (g : Nat → Bool) (n i : Nat) : (numI g n).testBit i = (decide (i < n) && g i) := by
  induction n with
  | zero => simp [numI]
  | succ n ih =>
    have h := Nat.testBit_two_pow_mul_add ((g n).toNat) (num_lt g n) i
    simp only [numI]
    rw [Nat.mul_comm, Nat.add_comm, h]
    by_cases hi : i < n
    · rw [if_pos hi, ih]
      simp [hi, show i < n + 1 by omega]
    · rw [if_neg hi]
      by_cases he : i = n
      · subst he
        cases g i <;> simp
      · rw [show decide (i < n + 1) = false from decide_eq_false (by omega)]
        have : i - n ≠ 0 := by omega
        have h1 : (g n).toNat < 2 ^ (i - n) := by
          have := Nat.pow_le_pow_right (show 0 < 2 by omega) (show 1 ≤ i - n by omega)
          have h : (g n).toNat ≤ 1 := by cases g n <;> simp
          omega
        rw [Nat.testBit_lt_two_pow h1]
        rfl
theorem num_eq {g : Nat → Bool} {n x : Nat} (hx : x < 2 ^ n) (h : ∀ i, i < n → x.testBit i = g i) : numI g n = x := by
  apply Nat.eq_of_testBit_eq
  intro i
  rw [num_bit]
  by_cases hi : i < n
  · rw [h i hi]; simp [hi]
  · have : x < 2 ^ i := Nat.lt_of_lt_of_le hx (Nat.pow_le_pow_right (by omega) (by omega))
    rw [Nat.testBit_lt_two_pow this]; simp [hi]
/-- Shifts of a number of w bits. -/
def shlI (A w n : Nat) : Nat := A * 2 ^ n % 2 ^ w
def shrI (A n : Nat) : Nat := A / 2 ^ n
def sarN (A w n : Nat) : Nat := if A < 2 ^ (w - 1) then A / 2 ^ n else A / 2 ^ n + (2 ^ w - 2 ^ (w - n))
theorem shl_bit (A w n i : Nat) : (shlI A w n).testBit i = (decide (i < w) && (decide (n ≤ i) && A.testBit (i - n))) := by
  unfold shlI
  rw [Nat.testBit_mod_two_pow, Nat.testBit_mul_two_pow]
theorem shr_bit (A n i : Nat) : (shrI A n).testBit i = A.testBit (i + n) := by
  unfold shrI
  rw [Nat.testBit_div_two_pow, Nat.add_comm]
theorem bit_out {A w i : Nat} (h : A < 2 ^ w) (hi : w ≤ i) : A.testBit i = false :=
  Nat.testBit_lt_two_pow (Nat.lt_of_lt_of_le h (Nat.pow_le_pow_right (by omega) hi))
theorem top_bit {A w : Nat} (h : A < 2 ^ w) (hw : 0 < w) : A.testBit (w - 1) = decide (2 ^ (w - 1) ≤ A) := by
  rw [tb_div]
  have e : 2 ^ w = 2 ^ (w - 1) * 2 := by rw [← Nat.pow_succ]; congr 1; omega
  have h2 : A / 2 ^ (w - 1) < 2 := Nat.div_lt_of_lt_mul (by rw [← e]; exact h)
  by_cases hA : 2 ^ (w - 1) ≤ A
  · have : 1 ≤ A / 2 ^ (w - 1) := (Nat.le_div_iff_mul_le (Nat.two_pow_pos _)).2 (by omega)
    rw [decide_eq_true hA]
    exact decide_eq_true (by omega)
  · have : A / 2 ^ (w - 1) = 0 := Nat.div_eq_of_lt (by omega)
    rw [decide_eq_false hA, this]
    rfl
theorem sar_bit {A w n i : Nat} (h : A < 2 ^ w) (hn : n < w) (hi : i < w) : (sarN A w n).testBit i = if i + n < w then A.testBit (i + n) else A.testBit (w - 1) := by
  rw [top_bit h (by omega)]
  unfold sarN
  by_cases hA : A < 2 ^ (w - 1)
  · rw [if_pos hA, show decide (2 ^ (w - 1) ≤ A) = false from decide_eq_false (by omega)]
    have := shr_bit A n i
    unfold shrI at this
    rw [this]
    split
    · rfl
    · exact bit_out h (by omega)
  · rw [if_neg hA, show decide (2 ^ (w - 1) ≤ A) = true from decide_eq_true (by omega)]
    have e : 2 ^ w - 2 ^ (w - n) = 2 ^ (w - n) * (2 ^ n - 1) := by
      rw [Nat.mul_sub, ← Nat.pow_add, Nat.mul_one]; congr 2; omega
    have hlt : A / 2 ^ n < 2 ^ (w - n) := Nat.div_lt_of_lt_mul (by rw [← Nat.pow_add]; rw [show n + (w - n) = w by omega]; exact h)
    rw [e, Nat.add_comm, Nat.testBit_two_pow_mul_add _ hlt]
    by_cases hc : i + n < w
    · rw [if_pos hc, if_pos (by omega)]
      exact shr_bit A n i
    · rw [if_neg hc, if_neg (by omega), Nat.testBit_two_pow_sub_one]
      exact decide_eq_true (by omega)
theorem shl_lt (A w n : Nat) : shlI A w n < 2 ^ w := Nat.mod_lt _ (Nat.two_pow_pos _)
theorem shr_lt {A w : Nat} (n : Nat) (h : A < 2 ^ w) : shrI A n < 2 ^ w := Nat.lt_of_le_of_lt (Nat.div_le_self _ _) h
theorem sar_lt {A w n : Nat} (h : A < 2 ^ w) (hn : n < w) : sarN A w n < 2 ^ w := by
  unfold sarN
  split
  · exact shr_lt n h
  · have hlt : A / 2 ^ n < 2 ^ (w - n) := Nat.div_lt_of_lt_mul (by rw [← Nat.pow_add]; rw [show n + (w - n) = w by omega]; exact h)
    have : 2 ^ (w - n) ≤ 2 ^ w := Nat.pow_le_pow_right (by omega) (by omega)
    omega

/-- Turned left by n places. -/
def rotN (A w n : Nat) : Nat := shlI A w n ||| shrI A ((w - n) % w)
theorem rot_lt {A w n : Nat} (hA : A < 2 ^ w) : rotN A w n < 2 ^ w := Nat.or_lt_two_pow (shl_lt _ _ _) (shr_lt _ hA)
theorem mod_one {k w : Nat} (h : k < w) : k % w = k := Nat.mod_eq_of_lt h
/-- How many of the lowest n bits are 1. -/
def pop : Nat → Nat → Nat
  | 0, _ => 0
  | n + 1, x => x % 2 + pop n (x / 2)
theorem pop_le : ∀ n x, pop n x ≤ n
  | 0, _ => Nat.le_refl _
  | n + 1, x => by have := pop_le n (x / 2); simp only [pop]; omega
theorem pop_add : ∀ n m x, pop (n + m) x = pop n x + pop m (x / 2 ^ n)
  | 0, m, x => by simp [pop]
  | n + 1, m, x => by
    have := pop_add n m (x / 2)
    rw [show n + 1 + m = (n + m) + 1 by omega]
    simp only [pop]
    rw [this, Nat.div_div_eq_div_mul, Nat.pow_succ, Nat.mul_comm 2]
    omega
theorem pop_mod : ∀ n x, pop n (x % 2 ^ n) = pop n x
  | 0, x => rfl
  | n + 1, x => by
    simp only [pop]
    rw [Nat.pow_succ, Nat.mul_comm, Nat.mod_mul]
    have e1 : (x % 2 + 2 * (x / 2 % 2 ^ n)) % 2 = x % 2 := by omega
    have e2 : (x % 2 + 2 * (x / 2 % 2 ^ n)) / 2 = x / 2 % 2 ^ n := by omega
    rw [e1, e2, pop_mod n (x / 2)]
theorem pop_zero : ∀ n x, pop n x = 0 ↔ x % 2 ^ n = 0
  | 0, x => by simp [pop, Nat.mod_one]
  | n + 1, x => by
    have := pop_zero n (x / 2)
    simp only [pop]
    rw [Nat.pow_succ, Nat.mul_comm, Nat.mod_mul]
    omega
theorem and_parts (k x c m : Nat) (hc : c < 2 ^ k) : x &&& (c + 2 ^ k * m) = (x % 2 ^ k &&& c) + 2 ^ k * (x / 2 ^ k &&& m) := by
  apply Nat.eq_of_testBit_eq
  intro i
  have h1 : (x % 2 ^ k &&& c) < 2 ^ k := Nat.and_lt_two_pow _ hc
  rw [Nat.add_comm c, Nat.add_comm (x % 2 ^ k &&& c), Nat.testBit_and, Nat.testBit_two_pow_mul_add _ hc, Nat.testBit_two_pow_mul_add _ h1]
  by_cases hi : i < k
  · simp only [if_pos hi]
    rw [Nat.testBit_and, Nat.testBit_mod_two_pow]
    simp [hi]
  · simp only [if_neg hi]
    rw [Nat.testBit_and, Nat.testBit_div_two_pow]
    congr 2; omega
/-- A byte, n times. -/
def repI (c : Nat) : Nat → Nat
  | 0 => 0
  | n + 1 => c + 256 * repI c n
theorem and_rep (x c n : Nat) (hc : c < 256) : x &&& repI c (n + 1) = (x % 256 &&& c) + 256 * (x / 256 &&& repI c n) := and_parts 8 x c (repI c n) hc
def f1 (c : Nat) : Nat := (c / 2 &&& 85) + (c &&& 85)
def f2 (c : Nat) : Nat := (c / 4 &&& 51) + (c &&& 51)
def F1 (n x : Nat) : Nat := (x / 2 &&& repI 85 n) + (x &&& repI 85 n)
def F2 (n x : Nat) : Nat := (x / 4 &&& repI 51 n) + (x &&& repI 51 n)
def F3 (n x : Nat) : Nat := (x / 16 + x) &&& repI 15 n
theorem t1 : (List.range 512).all (fun d => d / 2 &&& 85 == (d % 256) / 2 &&& 85) = true := by decide +kernel
theorem t2 : (List.range 1024).all (fun d => d / 4 &&& 51 == (d % 256) / 4 &&& 51) = true := by decide +kernel
theorem t3 : (List.range 256).all (fun d => f1 d < 256 && f2 (f1 d) < 256 && f2 (f1 d) / 16 + f2 (f1 d) % 16 == pop 8 d && f2 (f1 d) / 16 ≤ 4 && f2 (f1 d) % 16 ≤ 4) = true := by decide +kernel
theorem of_range {n : Nat} {p : Nat → Bool} (h : (List.range n).all p = true) {d : Nat} (hd : d < n) : p d = true := List.all_eq_true.1 h d (List.mem_range.2 hd)
theorem F1_succ (n x : Nat) : F1 (n + 1) x = f1 (x % 256) + 256 * F1 n (x / 256) := by
  unfold F1 f1
  rw [and_rep _ _ _ (by omega), and_rep _ _ _ (by omega)]
  have h := of_range t1 (show x % 512 < 512 by omega)
  simp only [beq_iff_eq] at h
  rw [show x / 2 % 256 = x % 512 / 2 by omega, h, show x % 512 % 256 = x % 256 by omega, show x / 2 / 256 = x / 256 / 2 by omega]
  omega
theorem F2_succ (n x : Nat) : F2 (n + 1) x = f2 (x % 256) + 256 * F2 n (x / 256) := by
  unfold F2 f2
  rw [and_rep _ _ _ (by omega), and_rep _ _ _ (by omega)]
  have h := of_range t2 (show x % 1024 < 1024 by omega)
  simp only [beq_iff_eq] at h
  rw [show x / 4 % 256 = x % 1024 / 4 by omega, h, show x % 1024 % 256 = x % 256 by omega, show x / 4 / 256 = x / 256 / 4 by omega]
  omega
theorem byte_all {d : Nat} (hd : d < 256) : f1 d < 256 ∧ f2 (f1 d) < 256 ∧ f2 (f1 d) / 16 + f2 (f1 d) % 16 = pop 8 d ∧ f2 (f1 d) / 16 ≤ 4 ∧ f2 (f1 d) % 16 ≤ 4 := by
  have := of_range t3 hd
  simp at this
  omega
/-- What stands in the bytes behind the first two steps. -/
def G2 : Nat → Nat → Nat
  | 0, _ => 0
  | n + 1, x => f2 (f1 (x % 256)) + 256 * G2 n (x / 256)
def G3 : Nat → Nat → Nat
  | 0, _ => 0
  | n + 1, x => pop 8 (x % 256) + 256 * G3 n (x / 256)
theorem F_G2 : ∀ n x, F2 n (F1 n x) = G2 n x
  | 0, x => by simp [F2, F1, G2, repI]
  | n + 1, x => by
    rw [F2_succ, F1_succ]
    have h := (byte_all (show x % 256 < 256 by omega)).1
    rw [show (f1 (x % 256) + 256 * F1 n (x / 256)) % 256 = f1 (x % 256) by omega, show (f1 (x % 256) + 256 * F1 n (x / 256)) / 256 = F1 n (x / 256) by omega, F_G2 n]
    rfl
theorem G2_low (n x : Nat) : G2 n x % 16 ≤ 4 := by
  cases n with
  | zero => simp [G2]
  | succ n =>
    have h := byte_all (show x % 256 < 256 by omega)
    simp only [G2]
    omega
theorem F_G3 : ∀ n x, F3 n (G2 n x) = G3 n x
  | 0, x => by simp [F3, G3, repI]
  | n + 1, x => by
    have h := byte_all (show x % 256 < 256 by omega)
    have hl := G2_low n (x / 256)
    have ih := F_G3 n (x / 256)
    unfold F3 at ih ⊢
    simp only [G2, G3]
    rw [← ih, and_rep _ _ _ (by omega)]
    generalize f2 (f1 (x % 256)) = c at *
    generalize G2 n (x / 256) = z at *
    have e : ((c + 256 * z) / 16 + (c + 256 * z)) % 256 = c / 16 + c + 16 * (z % 16) := by omega
    have e2 : ((c + 256 * z) / 16 + (c + 256 * z)) / 256 = z / 16 + z := by omega
    rw [e, e2, show (15 : Nat) = 2 ^ 4 - 1 from rfl, Nat.and_two_pow_sub_one_eq_mod]
    omega
theorem pop_8 (n x : Nat) : pop (8 + n) x = pop 8 (x % 256) + pop n (x / 256) := by
  rw [pop_add, ← pop_mod 8 x]
theorem ones_eq (x : Nat) : ∃ y1 y2 y3 y4 y5 y6 p0 p1 p2 p3 p4 p5 p6 p7 : Nat, p0 ≤ 8 ∧ p1 ≤ 8 ∧ p2 ≤ 8 ∧ p3 ≤ 8 ∧ p4 ≤ 8 ∧ p5 ≤ 8 ∧ p6 ≤ 8 ∧ p7 ≤ 8 ∧
    y6 = p6 + 256 * p7 ∧ y5 = p5 + 256 * y6 ∧ y4 = p4 + 256 * y5 ∧ y3 = p3 + 256 * y4 ∧ y2 = p2 + 256 * y3 ∧ y1 = p1 + 256 * y2 ∧ F3 8 (F2 8 (F1 8 x)) = p0 + 256 * y1 ∧ pop 64 x = p0 + p1 + p2 + p3 + p4 + p5 + p6 + p7 := by
  have e1 : pop 64 x = _ := pop_8 56 x
  rw [F_G2, F_G3, e1, pop_8 48 (x / 256), pop_8 40, pop_8 32, pop_8 24, pop_8 16, pop_8 8]
  clear e1
  simp only [G3, Nat.mul_zero, Nat.add_zero]
  generalize x / 256 = x1
  generalize x1 / 256 = x2
  generalize x2 / 256 = x3
  generalize x3 / 256 = x4
  generalize x4 / 256 = x5
  generalize x5 / 256 = x6
  generalize x6 / 256 = x7
  exact ⟨_, _, _, _, _, _, _, _, _, _, _, _, _, _, pop_le 8 (x % 256), pop_le 8 (x1 % 256), pop_le 8 (x2 % 256), pop_le 8 (x3 % 256), pop_le 8 (x4 % 256), pop_le 8 (x5 % 256), pop_le 8 (x6 % 256), pop_le 8 (x7 % 256), rfl, rfl, rfl, rfl, rfl, rfl, rfl, by simp only [Nat.add_assoc]; rw [← pop_mod 8 x7]⟩
theorem sum_steps {y y1 y2 y3 y4 y5 y6 p0 p1 p2 p3 p4 p5 p6 p7 : Nat} (h0 : p0 ≤ 8) (h1 : p1 ≤ 8) (h2 : p2 ≤ 8) (h3 : p3 ≤ 8) (h4 : p4 ≤ 8) (h5 : p5 ≤ 8) (h6 : p6 ≤ 8) (h7 : p7 ≤ 8)
    (f6 : y6 = p6 + 256 * p7) (f5 : y5 = p5 + 256 * y6) (f4 : y4 = p4 + 256 * y5) (f3 : y3 = p3 + 256 * y4) (f2 : y2 = p2 + 256 * y3) (f1 : y1 = p1 + 256 * y2) (f0 : y = p0 + 256 * y1) :
    y / 256 = y1 ∧ y + y1 < 18446744073709551616 ∧ (y + y1) / 65536 = y2 + y3 ∧ y + y1 + (y2 + y3) < 18446744073709551616 ∧ (y + y1 + (y2 + y3)) / 4294967296 = y4 + y5 + (y6 + p7) ∧ y + y1 + (y2 + y3) + (y4 + y5 + (y6 + p7)) < 18446744073709551616 ∧ (y + y1 + (y2 + y3) + (y4 + y5 + (y6 + p7))) % 128 = p0 + p1 + p2 + p3 + p4 + p5 + p6 + p7 := by
  have b6 : y6 ≤ 2056 := by omega
  have b5 : y5 ≤ 526344 := by omega
  have b4 : y4 ≤ 134744072 := by omega
  have b3 : y3 ≤ 34494482440 := by omega
  have b2 : y2 ≤ 8830587504648 := by omega
  have b1 : y1 ≤ 2260630401189896 := by omega
  have b0 : y ≤ 578721382704613384 := by omega
  have k0 : y + y1 = (p0 + p1) + 256 * (p1 + p2) + 65536 * (y2 + y3) := by omega
  have k1 : y2 + y3 = (p2 + p3) + 256 * (p3 + p4) + 65536 * (y4 + y5) := by omega
  have k2 : y4 + y5 = (p4 + p5) + 256 * (p5 + p6) + 65536 * (y6 + p7) := by omega
  have k3 : y6 + p7 = (p6 + p7) + 256 * p7 := by omega
  have k4 : y / 256 = y1 := by omega
  clear f0 f1 f2 f3 f4 f5 f6
  refine ⟨k4, by omega, by omega, by omega, ?_, by omega, ?_⟩
  · generalize y2 + y3 = u at *
    generalize y4 + y5 = v at *
    generalize y6 + p7 = t at *
    omega
  · generalize y2 + y3 = u at *
    generalize y4 + y5 = v at *
    generalize y6 + p7 = t at *
    omega
theorem rep_85 : repI 85 8 = 6148914691236517205 := by decide
theorem rep_51 : repI 51 8 = 3689348814741910323 := by decide
theorem rep_15 : repI 15 8 = 1085102592571150095 := by decide
end Go.Proofs.YtpbgpdmffejdgaaGreatDoor
namespace Go.Proofs.YtpbgpdmffejdgaaGreatDoor
open Go.RowKit
open Go.Proofs.YtpbgpdmffejdgaaGreatDoor.W

theorem even_iff (x : Int) : x.tmod 2 = 0 ↔ x % 2 = 0 := by
  have h := Int.tmod_add_mul_tdiv x 2
  constructor
  · intro h0
    omega
  · intro h0
    by_cases hx : 0 ≤ x
    · rw [Int.tmod_eq_emod_of_nonneg hx]
      exact h0
    · have h1 : (-x).tmod 2 = -(x.tmod 2) := Int.neg_tmod x 2
      rw [Int.tmod_eq_emod_of_nonneg (by omega)] at h1
      omega
/-- Behind k rounds: no bit is lost, and one more than 127 bits are there only with an even power. -/
def Ev (v : Nat) (X : Int) (k : Nat) : Prop := Go.bitLen v + k ≤ 127 ∨ (Go.bitLen v + k = 128 ∧ (X - k).tmod 2 = 0)
theorem ev_fit {v k : Nat} {X : Int} (h : Ev v X k) : W2 (v * 2 ^ k) := by
  unfold W2
  by_cases h0 : v = 0
  · rw [h0, Nat.zero_mul]; omega
  · have := bl_lt (x := v * 2 ^ k) (k := 128) (by rw [bl_shl _ _ h0]; unfold Ev at h; omega)
    omega
theorem ev_next {v k : Nat} {X : Int} (h : Ev v X k) (hc : Go.bitLen v + k < 127 ∨ (X - k).tmod 2 ≠ 0) : Ev v X (k + 1) ∧ shlN (v * 2 ^ k) 1 = v * 2 ^ (k + 1) := by
  have h' : Ev v X (k + 1) := by
    unfold Ev at *
    rcases h with h | h
    · by_cases hl : Go.bitLen v + k < 127
      · exact Or.inl (by omega)
      · refine Or.inr ⟨by omega, ?_⟩
        have e1 := even_iff (X - (k : Int))
        have e2 := even_iff (X - ((k + 1 : Nat) : Int))
        omega
    · omega
  refine ⟨h', ?_⟩
  have := ev_fit h'
  unfold W2 at this
  unfold shlN
  rw [show (1 : Int).toNat = 1 from rfl, Nat.mul_assoc, ← Nat.pow_add, Nat.mod_eq_of_lt (by omega)]

set_option maxRecDepth 100000 in
set_option maxHeartbeats 2000000 in
theorem evened_any {K X : Int} {v : Nat} {n : Bool} (W : World) (v0 : v ≠ 0) (v1 : v < 18446744073709551616) (x0 : -4000 ≤ X) (x1 : X ≤ 4000) :
    Calls Tryz.prog 158 #[.agg #[.bool n, .int .i64 K, .int .i64 X, .int .u64 (v : Int)]] W fun r W' => ∃ k : Nat, r = .returned (.tuple #[.agg #[.int .u64 (hi (v * 2 ^ k)), .int .u64 (lo (v * 2 ^ k))], .int .i64 (X - k)]) ∧ (127 ≤ Go.bitLen v + k ∧ Go.bitLen v + k ≤ 128 ∧ (X - k).tmod 2 = 0) ∧ Below W.heap.size W W' := by
  have HO := fun W => of_n (v : Int) W (by omega) (by omega)
  rw [Int.toNat_natCast] at HO
  have HO := hide HO
  have HE : Hid (Ev v X 0) := Or.inl (by have := bitLen_of (k := 64) v1; omega)
  go_enter Tryz.func158, Tryz.ntmps158
  go_wp2_with fail
  have HB := hide (below2 W (.cells #[.bool n, .int .i64 K, .int .i64 X, .int .u64 (v : Int)] 37) (.cells #[.int .u64 0, .int .u64 0] 135)).drew
  have HA := hide ((at4_new2a W (.bool n) (.int .i64 K) (.int .i64 X) (.int .u64 (v : Int)) 37 (.cells #[.int .u64 0, .int .u64 0] 135)).below ((Below.refl _ _).drew))
  have HR : Hid (Room (W.heap.size + 1) 2 ((W.alloc (.cells #[.bool n, .int .i64 K, .int .i64 X, .int .u64 (v : Int)] 37)).alloc (.cells #[.int .u64 0, .int .u64 0] 135)).drew) := by
    have := room2_new (W.alloc (.cells #[.bool n, .int .i64 K, .int .i64 X, .int .u64 (v : Int)] 37)) (.int .u64 0) (.int .u64 0) 135
    rw [show (W.alloc (.cells #[.bool n, .int .i64 K, .int .i64 X, .int .u64 (v : Int)] 37)).heap.size = W.heap.size + 1 by simp] at this
    exact this.drew
  go_step3
  go_wp2_with fail
  go_cut [3] (fun t wx => t = .int .i64 X ∧ At2 (W.heap.size + 1) (.int .u64 (hi v)) (.int .u64 (lo v)) wx ∧ Room (W.heap.size + 1) 2 wx ∧ Below W.heap.size W wx)
  case first =>
    obtain ⟨c0, c1, c2, c3⟩ := unhide HA
    obtain ⟨⟨y0, f0⟩, r0⟩ := (unhide HR) 0 (by omega)
    obtain ⟨⟨y1, f1⟩, r1⟩ := (unhide HR) 1 (by omega)
    go_region_with (first
      | (go_at_call 161; refine (unhide HO _).mono ?_; rintro e w8 ⟨rfl, hbl⟩; have HB8 := hide (bthen (unhide HB) hbl); have HR8 := hide ((unhide HR).below hbl); obtain ⟨e0, e1, e2, e3⟩ := (unhide HA).below hbl; obtain ⟨⟨v0, g0⟩, s0⟩ := (unhide HR8) 0 (by omega); obtain ⟨⟨v1, g1⟩, s1⟩ := (unhide HR8) 1 (by omega); clear hbl))
    all_goals
      go_wp2_with fail
      go_meet
      exact ⟨rfl, at2_set2 (unhide HR8) _ _, (unhide HR8).set2 _ _, bset2 (unhide HB8) (by omega) _ _⟩
  case rest =>
    obtain ⟨rfl, H2, HR, HB⟩ := hcut
    clear HA HO
    go_wp2_with fail
    go_step3
    go_wp2_with fail
    go_loopw [3] (fun x wr => ∃ k : Nat, x = .int .i64 (X - k) ∧ Ev v X k ∧ At2 (W.heap.size + 1) (.int .u64 (hi (v * 2 ^ k))) (.int .u64 (lo (v * 2 ^ k))) wr ∧ Room (W.heap.size + 1) 2 wr ∧ Below W.heap.size W wr) (fun x _ => (intOf x - (X - 128)).toNat)
    case atStart =>
      refine ⟨0, by rw [show X - ((0 : Nat) : Int) = X by omega], unhide HE, ?_, HR, HB⟩
      rw [Nat.pow_zero, Nat.mul_one]
      exact H2
    case round =>
      clear H2 HR HB HE
      obtain ⟨k, rfl, he, h2, hr, hb⟩ := hrel
      have H2 := hide h2
      have HR := hide hr
      have HB := hide hb
      clear h2 hr hb
      have hk : k ≤ 128 := by unfold Ev at he; omega
      have hw := ev_fit he
      have hlen : Go.bitLen (v * 2 ^ k) = Go.bitLen v + k := by rw [bl_shl _ _ v0]; omega
      have HN := fun W => len_n (v * 2 ^ k) W hw
      rw [hlen] at HN
      obtain ⟨L, hL⟩ : ∃ L : Int, ((Go.bitLen v + k : Nat) : Int) = L := ⟨_, rfl⟩
      rw [hL] at HN
      have HN := hide HN
      obtain ⟨u, hu⟩ : ∃ u : Nat, v * 2 ^ k = u := ⟨_, rfl⟩
      have ZN := hide (fun hc => ev_next he hc)
      rw [hu] at HN H2 hw ZN
      have HV := hide hu
      have HE := hide he
      have HW := hide hw
      clear hu hlen he hw
      obtain ⟨d0, d1⟩ := unhide H2
      by_cases hc : L < 127
      · have HX := hide (unhide ZN (Or.inl (by omega)))
        have hk2 : k + 1 ≤ 128 := by have := (unhide HX).1; unfold Ev at this; omega
        have HS := fun W => left_n u 1 W (unhide HW)
        rw [(unhide HX).2] at HS
        have HS := hide HS
        have k1 : IntKind.i64.wrap (X - (k : Int) - 1) = X - ((k + 1 : Nat) : Int) := by rw [i64_id (by omega) (by omega)]; omega
        go_wp2_with fail
        clear d0 d1
        refine (unhide HN _).mono ?_
        rintro _ w2 ⟨rfl, hb⟩
        have HB := hide (bthen (unhide HB) hb)
        have H2 := hide ((unhide H2).below hb)
        have HR := hide ((unhide HR).below hb)
        clear hb
        obtain ⟨d0, d1⟩ := unhide H2
        obtain ⟨⟨y0, g0⟩, s0⟩ := (unhide HR) 0 (by omega)
        obtain ⟨⟨y1, g1⟩, s1⟩ := (unhide HR) 1 (by omega)
        go_wp2_with fail
        clear d0 d1 g0 g1 s0 s1 y0 y1
        refine (unhide HS _).mono ?_
        rintro _ w3 ⟨rfl, hb⟩
        have HB := hide (bthen (unhide HB) hb)
        have H2 := hide ((unhide H2).below hb)
        have HR := hide ((unhide HR).below hb)
        clear hb
        obtain ⟨d0, d1⟩ := unhide H2
        obtain ⟨⟨y0, g0⟩, s0⟩ := (unhide HR) 0 (by omega)
        obtain ⟨⟨y1, g1⟩, s1⟩ := (unhide HR) 1 (by omega)
        have RX := hide (And.intro (unhide HX).1 (And.intro (at2_set2 (unhide HR) (.int .u64 (hi (v * 2 ^ (k + 1)))) (.int .u64 (lo (v * 2 ^ (k + 1))))) (And.intro ((unhide HR).set2 (.int .u64 (hi (v * 2 ^ (k + 1)))) (.int .u64 (lo (v * 2 ^ (k + 1))))) (bset2 (unhide HB) (show W.heap.size ≤ W.heap.size + 1 by omega) (.int .u64 (hi (v * 2 ^ (k + 1)))) (.int .u64 (lo (v * 2 ^ (k + 1))))))))
        go_wp2
        exact ⟨⟨k + 1, rfl, unhide RX⟩, by simp only [intOf]; omega⟩
      · by_cases hp : (X - (k : Int)).tmod 2 = 0
        · have q1 : (IntKind.i64.wrap ((X - (k : Int)).tmod 2) != 0) = false := by rw [hp]; decide
          have HP := hide hp
          go_wp2_with fail
          clear d0 d1
          refine (unhide HN _).mono ?_
          rintro _ w2 ⟨rfl, hb⟩
          have HB := hide (bthen (unhide HB) hb)
          have H2 := hide ((unhide H2).below hb)
          have HR := hide ((unhide HR).below hb)
          clear hb
          obtain ⟨d0, d1⟩ := unhide H2
          obtain ⟨⟨y0, g0⟩, s0⟩ := (unhide HR) 0 (by omega)
          obtain ⟨⟨y1, g1⟩, s1⟩ := (unhide HR) 1 (by omega)
          go_wp2_with fail
          rw [Exit.noGoto_ret]
          exact bodyPost_ret (v := .tuple #[.agg #[.int .u64 (hi u), .int .u64 (lo u)], .int .i64 (X - k)]) (by simp (maxDischargeDepth := 8) [results, Tryz.results158, go_sem, g0, g1]) rfl ⟨k, by rw [unhide HV], ⟨by omega, by have := unhide HE; unfold Ev at this; omega, unhide HP⟩, bset2 (unhide HB) (by omega) _ _⟩
        · have q1 : (X - (k : Int)).tmod 2 = 1 ∨ (X - (k : Int)).tmod 2 = -1 := by
            have h1 := Int.tmod_add_mul_tdiv (X - (k : Int)) 2
            have h2 := Int.tmod_lt_of_pos (X - (k : Int)) (show (0 : Int) < 2 by omega)
            have h3 := Int.neg_tmod (X - (k : Int)) 2
            have h4 := Int.tmod_lt_of_pos (-(X - (k : Int))) (show (0 : Int) < 2 by omega)
            omega
          have q2 : (IntKind.i64.wrap ((X - (k : Int)).tmod 2) != 0) = true := by rw [i64_id (by omega) (by omega)]; exact ne_t hp
          have HX := hide (unhide ZN (Or.inr hp))
          have hk2 : k + 1 ≤ 128 := by have := (unhide HX).1; unfold Ev at this; omega
          have HS := fun W => left_n u 1 W (unhide HW)
          rw [(unhide HX).2] at HS
          have HS := hide HS
          have k1 : IntKind.i64.wrap (X - (k : Int) - 1) = X - ((k + 1 : Nat) : Int) := by rw [i64_id (by omega) (by omega)]; omega
          go_wp2_with fail
          clear d0 d1
          refine (unhide HN _).mono ?_
          rintro _ w2 ⟨rfl, hb⟩
          have HB := hide (bthen (unhide HB) hb)
          have H2 := hide ((unhide H2).below hb)
          have HR := hide ((unhide HR).below hb)
          clear hb
          obtain ⟨d0, d1⟩ := unhide H2
          obtain ⟨⟨y0, g0⟩, s0⟩ := (unhide HR) 0 (by omega)
          obtain ⟨⟨y1, g1⟩, s1⟩ := (unhide HR) 1 (by omega)
          go_wp2_with fail
          clear d0 d1 g0 g1 s0 s1 y0 y1
          refine (unhide HS _).mono ?_
          rintro _ w3 ⟨rfl, hb⟩
          have HB := hide (bthen (unhide HB) hb)
          have H2 := hide ((unhide H2).below hb)
          have HR := hide ((unhide HR).below hb)
          clear hb
          obtain ⟨d0, d1⟩ := unhide H2
          obtain ⟨⟨y0, g0⟩, s0⟩ := (unhide HR) 0 (by omega)
          obtain ⟨⟨y1, g1⟩, s1⟩ := (unhide HR) 1 (by omega)
          have RX := hide (And.intro (unhide HX).1 (And.intro (at2_set2 (unhide HR) (.int .u64 (hi (v * 2 ^ (k + 1)))) (.int .u64 (lo (v * 2 ^ (k + 1))))) (And.intro ((unhide HR).set2 (.int .u64 (hi (v * 2 ^ (k + 1)))) (.int .u64 (lo (v * 2 ^ (k + 1))))) (bset2 (unhide HB) (show W.heap.size ≤ W.heap.size + 1 by omega) (.int .u64 (hi (v * 2 ^ (k + 1)))) (.int .u64 (lo (v * 2 ^ (k + 1))))))))
          go_wp2
          exact ⟨⟨k + 1, rfl, unhide RX⟩, by simp only [intOf]; omega⟩

end Go.Proofs.YtpbgpdmffejdgaaGreatDoor
namespace Go.Proofs.YtpbgpdmffejdgaaGreatDoor
open Go.RowKit
open Go.Proofs.YtpbgpdmffejdgaaGreatDoor.W

set_option maxRecDepth 100000 in
set_option maxHeartbeats 2000000 in
theorem sqrt_z {w x K X S V : Int} {n : Bool} (W : World) (HO : Ct 15 #[.int .i64 w, .int .u64 x] (.agg #[.bool n, .int .i64 K, .int .i64 X, .int .u64 S])) (a0 : (K == 0) = true) (HC : Ct 155 #[.int .i64 w, .bool n] (.int .u64 V)) :
    Calls Tryz.prog 84 #[.int .i64 w, .int .u64 x] W fun r W' => r = .returned (.int .u64 V) ∧ Below W.heap.size W W' := by
  go_enter Tryz.func84, Tryz.ntmps84
  go_wp2_with fail
  refine (unhide HO _).mono ?_
  rintro _ w1 ⟨rfl, hb⟩
  have HB := hide (balloc hb (.cells #[.bool n, .int .i64 K, .int .i64 X, .int .u64 S] 37))
  have HA := hide (at4_new w1 (.bool n) (.int .i64 K) (.int .i64 X) (.int .u64 S) 37)
  clear hb
  obtain ⟨c0, c1, c2, c3⟩ := unhide HA
  go_wp2_with fail
  refine (unhide HC _).mono ?_
  rintro _ w2 ⟨rfl, hb⟩
  have HB := hide (bthen (unhide HB) hb)
  go_wp2_with fail
  go_ret
  exact ⟨rfl, unhide HB⟩
set_option maxRecDepth 100000 in
set_option maxHeartbeats 2000000 in
theorem sqrt_n {w x K X S V : Int} {n : Bool} (W : World) (HO : Ct 15 #[.int .i64 w, .int .u64 x] (.agg #[.bool n, .int .i64 K, .int .i64 X, .int .u64 S])) (a0 : (K == 0) = false) (a3 : (K == 3) = true) (HC : Ct 156 #[.int .i64 w] (.int .u64 V)) :
    Calls Tryz.prog 84 #[.int .i64 w, .int .u64 x] W fun r W' => r = .returned (.int .u64 V) ∧ Below W.heap.size W W' := by
  go_enter Tryz.func84, Tryz.ntmps84
  go_wp2_with fail
  refine (unhide HO _).mono ?_
  rintro _ w1 ⟨rfl, hb⟩
  have HB := hide (balloc hb (.cells #[.bool n, .int .i64 K, .int .i64 X, .int .u64 S] 37))
  have HA := hide (at4_new w1 (.bool n) (.int .i64 K) (.int .i64 X) (.int .u64 S) 37)
  clear hb
  obtain ⟨c0, c1, c2, c3⟩ := unhide HA
  go_wp2_with fail
  refine (unhide HC _).mono ?_
  rintro _ w2 ⟨rfl, hb⟩
  have HB := hide (bthen (unhide HB) hb)
  go_wp2_with fail
  go_ret
  exact ⟨rfl, unhide HB⟩
set_option maxRecDepth 100000 in
set_option maxHeartbeats 2000000 in
theorem sqrt_m {w x K X S V : Int} (W : World) (HO : Ct 15 #[.int .i64 w, .int .u64 x] (.agg #[.bool true, .int .i64 K, .int .i64 X, .int .u64 S])) (a0 : (K == 0) = false) (a3 : (K == 3) = false) (HC : Ct 156 #[.int .i64 w] (.int .u64 V)) :
    Calls Tryz.prog 84 #[.int .i64 w, .int .u64 x] W fun r W' => r = .returned (.int .u64 V) ∧ Below W.heap.size W W' := by
  go_enter Tryz.func84, Tryz.ntmps84
  go_wp2_with fail
  refine (unhide HO _).mono ?_
  rintro _ w1 ⟨rfl, hb⟩
  have HB := hide (balloc hb (.cells #[.bool true, .int .i64 K, .int .i64 X, .int .u64 S] 37))
  have HA := hide (at4_new w1 (.bool true) (.int .i64 K) (.int .i64 X) (.int .u64 S) 37)
  clear hb
  obtain ⟨c0, c1, c2, c3⟩ := unhide HA
  go_wp2_with fail
  refine (unhide HC _).mono ?_
  rintro _ w2 ⟨rfl, hb⟩
  have HB := hide (bthen (unhide HB) hb)
  go_wp2_with fail
  go_ret
  exact ⟨rfl, unhide HB⟩
set_option maxRecDepth 100000 in
set_option maxHeartbeats 2000000 in
theorem sqrt_i {w x K X S V : Int} (W : World) (HO : Ct 15 #[.int .i64 w, .int .u64 x] (.agg #[.bool false, .int .i64 K, .int .i64 X, .int .u64 S])) (a0 : (K == 0) = false) (a3 : (K == 3) = false) (a2 : (K == 2) = true) (HC : Ct 157 #[.int .i64 w, .bool false] (.int .u64 V)) :
    Calls Tryz.prog 84 #[.int .i64 w, .int .u64 x] W fun r W' => r = .returned (.int .u64 V) ∧ Below W.heap.size W W' := by
  go_enter Tryz.func84, Tryz.ntmps84
  go_wp2_with fail
  refine (unhide HO _).mono ?_
  rintro _ w1 ⟨rfl, hb⟩
  have HB := hide (balloc hb (.cells #[.bool false, .int .i64 K, .int .i64 X, .int .u64 S] 37))
  have HA := hide (at4_new w1 (.bool false) (.int .i64 K) (.int .i64 X) (.int .u64 S) 37)
  clear hb
  obtain ⟨c0, c1, c2, c3⟩ := unhide HA
  go_wp2_with fail
  refine (unhide HC _).mono ?_
  rintro _ w2 ⟨rfl, hb⟩
  have HB := hide (bthen (unhide HB) hb)
  go_wp2_with fail
  go_ret
  exact ⟨rfl, unhide HB⟩
set_option maxRecDepth 100000 in
set_option maxHeartbeats 2000000 in
theorem sqrt_f {w x X S V : Int} (W : World) (HO : Ct 15 #[.int .i64 w, .int .u64 x] (.agg #[.bool false, .int .i64 1, .int .i64 X, .int .u64 S])) (G : Nat → Int → Prop) (H : Int → Nat → Bool → Prop) (HE : Hid (∀ W, Calls Tryz.prog 158 #[.agg #[.bool false, .int .i64 1, .int .i64 X, .int .u64 S]] W fun r W' => ∃ (v : Nat) (E Y : Int), r = .returned (.tuple #[.agg #[.int .u64 (hi v), .int .u64 (lo v)], .int .i64 E]) ∧ IntKind.i64.wrap (E.tdiv 2) = Y ∧ G v Y ∧ Below W.heap.size W W')) (HR : Hid (∀ (v : Nat) (E : Int) (W : World), G v E → Calls Tryz.prog 159 #[.agg #[.int .u64 (hi v), .int .u64 (lo v)]] W fun r W' => ∃ (q : Nat) (m : Bool), r = .returned (.tuple #[.int .u64 (q : Int), .bool m]) ∧ H E q m ∧ Below W.heap.size W W')) (HF : Hid (∀ (E : Int) (q : Nat) (m : Bool) (W : World), H E q m → Calls Tryz.prog 161 #[.int .u64 (q : Int)] W fun r W' => r = .returned (.agg #[.int .u64 (hi q), .int .u64 (lo q)]) ∧ Below W.heap.size W W')) (HP : Hid (∀ (E : Int) (q : Nat) (m : Bool) (W : World), H E q m → Calls Tryz.prog 160 #[.int .i64 w, .bool false, .agg #[.int .u64 (hi q), .int .u64 (lo q)], .int .i64 E, .bool m] W fun r W' => r = .returned (.int .u64 V) ∧ Below W.heap.size W W')) :
    Calls Tryz.prog 84 #[.int .i64 w, .int .u64 x] W fun r W' => r = .returned (.int .u64 V) ∧ Below W.heap.size W W' := by
  go_enter Tryz.func84, Tryz.ntmps84
  go_wp2_with fail
  refine (unhide HO _).mono ?_
  rintro _ w1 ⟨rfl, hb⟩
  have HB := hide (balloc hb (.cells #[.bool false, .int .i64 1, .int .i64 X, .int .u64 S] 37))
  have HA := hide (at4_new w1 (.bool false) (.int .i64 1) (.int .i64 X) (.int .u64 S) 37)
  clear hb
  obtain ⟨c0, c1, c2, c3⟩ := unhide HA
  go_wp2_with fail
  clear c0 c1 c2 c3
  refine (unhide HE _).mono ?_
  rintro _ w2 ⟨v, E, Y, rfl, kq, hG, hb⟩
  have HB := hide (balloc (bthen (unhide HB) hb) (.cells #[.int .u64 (hi v), .int .u64 (lo v)] 135))
  have H2 := hide (at2_new w2 (.int .u64 (hi v)) (.int .u64 (lo v)) 135)
  clear hb
  obtain ⟨d0, d1⟩ := unhide H2
  go_wp2_with fail
  refine (unhide HR v Y _ hG).mono ?_
  rintro _ w3 ⟨q, m, rfl, hH, hb⟩
  have HB := hide (bthen (unhide HB) hb)
  clear hb
  go_wp2_with fail
  refine (unhide HF Y q m _ hH).mono ?_
  rintro _ w4 ⟨rfl, hb⟩
  have HB := hide (bthen (unhide HB) hb)
  clear hb
  go_wp2_with fail
  refine (unhide HP Y q m _ hH).mono ?_
  rintro _ w5 ⟨rfl, hb⟩
  have HB := hide (bthen (unhide HB) hb)
  clear hb
  go_wp2_with fail
  go_ret
  exact ⟨rfl, unhide HB⟩

end Go.Proofs.YtpbgpdmffejdgaaGreatDoor
namespace Go.Proofs.YtpbgpdmffejdgaaGreatDoor
open Go.RowKit
open Go.Proofs.YtpbgpdmffejdgaaGreatDoor.W

theorem i32_low (x : Int) : IntKind.i32.wrap x = if 2147483648 ≤ x % 4294967296 then x % 4294967296 - 4294967296 else x % 4294967296 := by
  simp only [IntKind.wrap, IntKind.bits, IntKind.signed]
  simp
theorem i64_low (x : Int) : IntKind.i64.wrap x = if 9223372036854775808 ≤ x % 18446744073709551616 then x % 18446744073709551616 - 18446744073709551616 else x % 18446744073709551616 := by
  simp only [IntKind.wrap, IntKind.bits, IntKind.signed]
  simp
theorem u32_low (x : Int) : IntKind.u32.wrap x = x % 4294967296 := by
  simp only [IntKind.wrap, IntKind.bits, IntKind.signed]
  simp
theorem number_any {k e f P Q b x : Int} (kd : Kd k e f P Q b) (s : Bool) (x0 : 0 ≤ x) (x1 : x < 18446744073709551616) : Ct 249 #[.int .i64 k, .int .u64 x, .bool s] (.tuple #[.bool (ngs (P * Q) s x), .int .u64 (amt (P * Q) s x)]) := by
  rcases kd_half kd with ⟨rfl, h⟩ | ⟨rfl, h⟩ <;> rw [h] <;> clear h kd
  · cases s
    · rw [ngs_f, amt_f]
      exact hide (fun W => number_32_f W (u32_low x) (hide (fun W => split_u32_p W (by omega) (by rw [IntKind.wrap_u64]; omega))))
    · by_cases g : 2147483648 ≤ x % (2 * 2147483648)
      · rw [ngs_t g, amt_t g]
        exact hide (fun W => number_32_t W (y := x % 4294967296 - 4294967296) (by rw [i32_low, if_pos (by omega)]) (hide (fun W => split_i32_n W (by omega) rfl (by rw [IntKind.wrap_u64, IntKind.wrap_u64]; omega))))
      · rw [ngs_p g, amt_p g]
        exact hide (fun W => number_32_t W (y := x % 4294967296) (by rw [i32_low, if_neg (by omega)]) (hide (fun W => split_i32_p W (by omega) (by rw [IntKind.wrap_u64]; omega))))
  · cases s
    · rw [ngs_f, amt_f, show x % (2 * 9223372036854775808) = x by omega]
      exact hide (fun W => number_64_f W (hide (fun W => split_u64_p W (by omega))))
    · by_cases g : 9223372036854775808 ≤ x % (2 * 9223372036854775808)
      · rw [ngs_t g, amt_t g]
        exact hide (fun W => number_64_t W (y := x % 18446744073709551616 - 18446744073709551616) (by rw [i64_low, if_pos (by omega)]) (hide (fun W => split_i64_n W (by omega) rfl (by rw [IntKind.wrap_u64, IntKind.wrap_u64]; omega))))
      · rw [ngs_p g, amt_p g]
        exact hide (fun W => number_64_t W (y := x % 18446744073709551616) (by rw [i64_low, if_neg (by omega)]) (hide (fun W => split_i64_p W (by omega) (by rw [IntKind.wrap_u64]; omega))))
theorem whole_any {w e f P Q b a : Int} (k : Kd w e f P Q b) (n : Bool) (a0 : 0 ≤ a) (a1 : a < 18446744073709551616) (hn : n = true → a ≠ 0) : Ct 250 #[.int .i64 w, .bool n, .int .u64 a] (.int .u64 (rd f P Q b n (a.toNat * 2 ^ Z5))) := by
  have hp := fun W => pack_at (E := 0) k n a.toNat (small_w2 a0 a1) (by omega) (by omega) W
  rw [Z5_at] at hp
  cases n
  · exact hide (fun W => whole_f W (hide (fun W => of_n a W a0 a1)) (hide hp))
  · exact hide (fun W => whole_t W (nb := true) (ne_t (hn rfl)) (hide (fun W => of_n a W a0 a1)) (hide hp))
theorem from_any {w e f P Q b k e' f' P' Q' b' x : Int} (kw : Kd w e f P Q b) (kk : Kd k e' f' P' Q' b') (s : Bool) (x0 : 0 ≤ x) (x1 : x < 18446744073709551616) : Ct 169 #[.int .i64 w, .int .i64 k, .int .u64 x, .bool s] (.int .u64 (makC f P Q b (P' * Q') s x)) := by
  obtain ⟨a0, a1, a2⟩ := amt_in kk s x
  exact hide (fun W => nearest_l W (number_any kk s x0 x1) (whole_any kw _ a0 a1 a2))
theorem fromU_any {w e f P Q b k e' f' P' Q' b' x : Int} (kw : Kd w e f P Q b) (kk : Kd k e' f' P' Q' b') (x0 : 0 ≤ x) (x1 : x < 18446744073709551616) : Ct 94 #[.int .i64 w, .int .i64 k, .int .u64 x] (.int .u64 (makC f P Q b (P' * Q') false x)) := hide (fun W => fromUint_l W (from_any kw kk false x0 x1))
theorem fromI_any {w e f P Q b k e' f' P' Q' b' x : Int} (kw : Kd w e f P Q b) (kk : Kd k e' f' P' Q' b') (x0 : 0 ≤ x) (x1 : x < 18446744073709551616) : Ct 93 #[.int .i64 w, .int .i64 k, .int .u64 x] (.int .u64 (makC f P Q b (P' * Q') true x)) := hide (fun W => fromInt_l W (from_any kw kk true x0 x1))

theorem narrow_turn {w e f P Q b w' e' f' P' Q' b' K X S : Int} (k : Kd w e f P Q b) (k' : Kd w' e' f' P' Q' b') (n : Bool) (h : Prt f P Q b K X S) : narrowN f' P' Q' b' n K X S = turnB f' P' Q' b' n K (mag X S) := by
  obtain ⟨a, c, -⟩ := h.in k
  unfold narrowN turnB nanB
  rw [num_mag S a c]
  have hK : K = 0 ∨ K = 1 ∨ K = 2 ∨ K = 3 := by unfold Prt at h; omega
  rcases hK with rfl | rfl | rfl | rfl
  · rw [if_pos rfl, if_neg (by decide), if_neg (by decide), h.mag0 (by decide), rd_zero k']
  · rw [if_neg (by decide), if_pos rfl, if_neg (by decide), if_neg (by decide)]
    rfl
  · simp
  · simp
theorem promote_any {x : Int} (x0 : 0 ≤ x) (x1 : x < 18446744073709551616) : Ct 96 #[.int .u64 x] (.int .u64 (turnB 52 4503599627370496 2048 1023 (oN 8388608 256 x) (oK 8388608 256 x) (oM 23 8388608 256 127 x))) := by
  obtain ⟨X, S, ho, hp, hm⟩ := open_kd kd_32 x
  obtain ⟨-, -, s0, -, s1⟩ := hp.in kd_32
  have hn := fun W => narrow_any kd_64 (oN 8388608 256 x) (oK 8388608 256 x) X S s0 (by omega) W
  rw [narrow_turn kd_32 kd_64 _ hp, hm] at hn
  exact hide (fun W => promote_l W (hide (fun W => open_any x kd_32.wd W x0 x1 ho)) (hide hn))
theorem demote_any {x : Int} (x0 : 0 ≤ x) (x1 : x < 18446744073709551616) : Ct 95 #[.int .u64 x] (.int .u64 (turnB 23 8388608 256 127 (oN 4503599627370496 2048 x) (oK 4503599627370496 2048 x) (oM 52 4503599627370496 2048 1023 x))) := by
  obtain ⟨X, S, ho, hp, hm⟩ := open_kd kd_64 x
  obtain ⟨-, -, s0, -, s1⟩ := hp.in kd_64
  have hn := fun W => narrow_any kd_32 (oN 4503599627370496 2048 x) (oK 4503599627370496 2048 x) X S s0 (by omega) W
  rw [narrow_turn kd_64 kd_32 _ hp, hm] at hn
  exact hide (fun W => demote_l W (hide (fun W => open_any x kd_64.wd W x0 x1 ho)) (hide hn))

end Go.Proofs.YtpbgpdmffejdgaaGreatDoor
