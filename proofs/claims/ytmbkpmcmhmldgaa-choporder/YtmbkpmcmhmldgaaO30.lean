/- OrdF, WhM, ChM, ChS. -/
import Derived.Test.YtmbkpmcmhmldgaaO01
import Derived.Test.YtmbkpmcmhmldgaaO11
import Derived.Test.YtmbkpmcmhmldgaaO16
import Derived.Test.YtmbkpmcmhmldgaaO21
import Derived.Test.YtmbkpmcmhmldgaaO22
import Derived.Test.YtmbkpmcmhmldgaaO23
import Derived.Test.YtmbkpmcmhmldgaaO24
import Derived.Test.YtmbkpmcmhmldgaaO25
import Derived.Test.YtmbkpmcmhmldgaaO26
import Derived.Test.YtmbkpmcmhmldgaaO27
import Derived.Test.YtmbkpmcmhmldgaaO28
import Derived.Test.YtmbkpmcmhmldgaaO29
namespace Go.Proofs.Ytmbkpmcmhmldgaa
open Go.RowKit
open Go.Proofs.Ytmbkpmcmhmldgaa.W

theorem cmp_scale (x y t : Nat) : cmpN (x * 2 ^ t) (y * 2 ^ t) = cmpN x y := by
  have h := Nat.two_pow_pos t
  unfold cmpN
  simp only [Nat.mul_lt_mul_right h]
/-- A number's sign. -/
def sgn (n : Bool) (K : Int) : Int := if K = 0 then 0 else if n then -1 else 1
theorem sign_any (n : Bool) (K X S : Int) (W : World) : Calls Try.prog 23 #[.agg #[.bool n, .int .i64 K, .int .i64 X, .int .u64 S]] W fun r W' => r = .returned (.int .i64 (sgn n K)) ∧ Below W.heap.size W W' := by
  unfold sgn
  by_cases h : K = 0
  · rw [if_pos h]
    exact sign_z W (eq_t h)
  · rw [if_neg h]
    cases n
    · exact sign_p W (eq_f h)
    · exact sign_m W (eq_f h)

theorem mag_up {X1 X2 S : Int} (h : X1 ≤ X2) (l : -5000 ≤ X1) : mag X2 S = S.toNat * 2 ^ (X2 - X1).toNat * 2 ^ (X1 + 5000).toNat := by
  unfold mag
  rw [Nat.mul_assoc, ← Nat.pow_add]
  congr 2
  omega
theorem cmpN_fval (f L c d : Nat) : cmpN (fval f L c) (fval f L d) = cmpS (c : Int) (d : Int) := by
  have h1 := @fval_le f L c d
  have h2 := @fval_le f L d c
  unfold cmpN cmpS
  rcases Nat.lt_trichotomy c d with h | h | h
  · rw [if_pos (by omega), if_pos (by omega)]
  · rw [if_neg (by omega), if_neg (by omega), if_neg (by omega), if_pos (by omega)]
  · rw [if_neg (by omega), if_pos (by omega), if_neg (by omega), if_neg (by omega)]
theorem cmpS_neg (a b : Int) : cmpS (-a) (-b) = -cmpS a b := by
  rw [← cmpS_swap]
  unfold cmpS
  rcases Int.lt_trichotomy a b with h | h | h
  · rw [if_neg (by omega), if_neg (by omega), if_neg (by omega), if_neg (by omega)]
  · rw [if_neg (by omega), if_pos (by omega), if_neg (by omega), if_pos (by omega)]
  · rw [if_pos (by omega), if_pos (by omega)]

theorem refCmp8_any {w e f P Q b x y : Int} (k : Kd w e f P Q b) (W : World) (x0 : 0 ≤ x) (x1 : x < 18446744073709551616) (y0 : 0 ≤ y) (y1 : y < 18446744073709551616) :
    Calls Try.prog 13 #[.int .i64 w, .int .u64 x, .int .u64 y] W fun r W' => r = .returned (.int .i64 (cmpB P Q x y)) ∧ Below W.heap.size W W' := by
  obtain ⟨X1, S1, o1, t1, m1⟩ := open_kd k x
  obtain ⟨X2, S2, o2, t2, m2⟩ := open_kd k y
  have HO1 := hide (fun W => refOpen_any x k W x0 x1 o1)
  have HO2 := hide (fun W => refOpen_any y k W y0 y1 o2)
  by_cases a3 : oK P Q x = 3
  · rw [cmpB_nan (Or.inl a3)]
    exact cmp_n1 W HO1 HO2 (eq_t a3)
  by_cases b3 : oK P Q y = 3
  · rw [cmpB_nan (Or.inr b3)]
    exact cmp_n2 W HO1 HO2 (eq_f a3) (eq_t b3)
  rw [cmpB_num a3 b3]
  have ka := kind_oc k x
  have kb := kind_oc k y
  have HS1 := hide (sign_any (oN P Q x) (oK P Q x) X1 S1)
  have HS2 := hide (sign_any (oN P Q y) (oK P Q y) X2 S2)
  have tp := top_pos k
  by_cases h1 : sgn (oN P Q x) (oK P Q x) < sgn (oN P Q y) (oK P Q y)
  · have hc : sc P Q x < sc P Q y := by
      unfold sc
      unfold sgn at h1
      cases hn : oN P Q x <;> cases hm : oN P Q y <;> rw [hn, hm] at h1 <;> simp at h1 ⊢ <;> (try split at h1) <;> (try split at h1) <;> omega
    rw [show cmpS (sc P Q x) (sc P Q y) = -1 by unfold cmpS; rw [if_pos hc]]
    exact cmp_lt W HO1 HO2 (eq_f a3) (eq_f b3) HS1 HS2 h1
  by_cases h2 : sgn (oN P Q y) (oK P Q y) < sgn (oN P Q x) (oK P Q x)
  · have hc : sc P Q y < sc P Q x := by
      unfold sc
      unfold sgn at h2
      cases hn : oN P Q x <;> cases hm : oN P Q y <;> rw [hn, hm] at h2 <;> simp at h2 ⊢ <;> (try split at h2) <;> (try split at h2) <;> omega
    rw [show cmpS (sc P Q x) (sc P Q y) = 1 by unfold cmpS; rw [if_neg (by omega), if_neg (by omega)]]
    exact cmp_gt W HO1 HO2 (eq_f a3) (eq_f b3) HS1 HS2 h2
  by_cases h3 : sgn (oN P Q x) (oK P Q x) = 0
  · have h4 : sgn (oN P Q y) (oK P Q y) = 0 := by omega
    have kz : ∀ (n : Bool) (K : Int), sgn n K = 0 → K = 0 := by
      intro n K h
      unfold sgn at h
      by_cases hk : K = 0
      · exact hk
      · rw [if_neg hk] at h
        cases n <;> simp at h
    have q1 := kz _ _ h3
    have q2 := kz _ _ h4
    have c1 : oc P Q x = 0 := by omega
    have c2 : oc P Q y = 0 := by omega
    have hc : sc P Q x = sc P Q y := by
      unfold sc
      rw [c1, c2]
      simp
    rw [show cmpS (sc P Q x) (sc P Q y) = 0 by unfold cmpS; rw [if_neg (by omega), if_pos hc]]
    exact cmp_z W HO1 HO2 (eq_f a3) (eq_f b3) HS1 HS2 h1 h2 (eq_t h3)
  obtain ⟨q1, q2, hn⟩ : oK P Q x ≠ 0 ∧ oK P Q y ≠ 0 ∧ oN P Q x = oN P Q y := by
    unfold sgn at h1 h2 h3
    by_cases q1 : oK P Q x = 0
    · rw [if_pos q1] at h3; exact absurd rfl h3
    · rw [if_neg q1] at h1 h2 h3
      by_cases q2 : oK P Q y = 0
      · rw [if_pos q2] at h1 h2
        cases hh : oN P Q x <;> rw [hh] at h1 h2 <;> simp at h1 h2
      · rw [if_neg q2] at h1 h2
        refine ⟨q1, q2, ?_⟩
        revert h1 h2
        cases oN P Q x <;> cases oN P Q y <;> simp
  have E3 := eq_f h3
  have fin : ∀ d, cmpS (oc P Q x : Int) (oc P Q y : Int) = d → cmpS (sc P Q x) (sc P Q y) = (if oN P Q x then -d else d) := by
    intro d hd
    unfold sc
    rw [← hn]
    cases oN P Q x <;> simp
    · exact hd
    · rw [cmpS_neg, hd]
  have neg1 : ∀ d : Int, -1 ≤ d → d ≤ 1 → IntKind.i64.wrap (-d) = -d := fun d _ _ => i64_id (by omega) (by omega)
  by_cases i1 : oK P Q x = 2
  · obtain ⟨d, hd, hs, l1, l2⟩ : ∃ d, IntKind.i64.wrap (oK P Q x - oK P Q y) = d ∧ cmpS (oc P Q x : Int) (oc P Q y : Int) = d ∧ -1 ≤ d ∧ d ≤ 1 := by
      refine ⟨_, rfl, ?_⟩
      rw [i64_id (by omega) (by omega)]
      have := cmpS_in (oc P Q x : Int) (oc P Q y : Int)
      omega
    rw [fin d hs]
    cases hx : oN P Q x <;> rw [hx] at HO1 HS1 h1 h2 E3
    · exact cmp_i1f W HO1 HO2 (eq_f a3) (eq_f b3) HS1 HS2 h1 h2 E3 (eq_t i1) hd
    · exact cmp_i1t W HO1 HO2 (eq_f a3) (eq_f b3) HS1 HS2 h1 h2 E3 (eq_t i1) hd (neg1 d l1 l2)
  by_cases i2 : oK P Q y = 2
  · obtain ⟨d, hd, hs, l1, l2⟩ : ∃ d, IntKind.i64.wrap (oK P Q x - oK P Q y) = d ∧ cmpS (oc P Q x : Int) (oc P Q y : Int) = d ∧ -1 ≤ d ∧ d ≤ 1 := by
      refine ⟨_, rfl, ?_⟩
      rw [i64_id (by omega) (by omega)]
      have := cmpS_in (oc P Q x : Int) (oc P Q y : Int)
      omega
    rw [fin d hs]
    cases hx : oN P Q x <;> rw [hx] at HO1 HS1 h1 h2 E3
    · exact cmp_i2f W HO1 HO2 (eq_f a3) (eq_f b3) HS1 HS2 h1 h2 E3 (eq_f i1) (eq_t i2) hd
    · exact cmp_i2t W HO1 HO2 (eq_f a3) (eq_f b3) HS1 HS2 h1 h2 E3 (eq_f i1) (eq_t i2) hd (neg1 d l1 l2)
  have kz : IntKind.i64.wrap 0 = 0 := by decide
  obtain ⟨p1, p2, p3, p4⟩ := k.pos
  have hb : 0 ≤ b ∧ b ≤ 1023 ∧ 0 ≤ f ∧ f ≤ 52 := by rcases k with h | h <;> omega
  have f1 : -5000 ≤ X1 ∧ X1 ≤ 4000 ∧ 0 ≤ S1 ∧ S1 < 18446744073709551616 := by unfold Prt at t1; omega
  have f2 : -5000 ≤ X2 ∧ X2 ≤ 4000 ∧ 0 ≤ S2 ∧ S2 < 18446744073709551616 := by unfold Prt at t2; omega
  have P1 : Hid (S1.toNat < pw 2) := by unfold pw; exact (by omega : S1.toNat < 18446744073709551616)
  have P2 : Hid (S2.toNat < pw 2) := by unfold pw; exact (by omega : S2.toNat < 18446744073709551616)
  have L1 := hide f1.2.2
  have L2 := hide f2.2.2
  rw [(oM_fin k ⟨a3, i1⟩).1] at m1
  rw [(oM_fin k ⟨b3, i2⟩).1] at m2
  have hcm := cmpN_fval f.toNat (lowN f b) (oc P Q x) (oc P Q y)
  rw [← m1, ← m2] at hcm
  have hin := cmpS_in (oc P Q x : Int) (oc P Q y : Int)
  have hl1 : -1 ≤ cmpS (oc P Q x : Int) (oc P Q y : Int) := by omega
  have hl2 : cmpS (oc P Q x : Int) (oc P Q y : Int) ≤ 1 := by omega
  rw [fin _ rfl]
  by_cases h6 : X2 < X1
  · have e1 : cmpN (S1.toNat * 2 ^ (X1 - X2).toNat) S2.toNat = cmpS (oc P Q x : Int) (oc P Q y : Int) := by
      rw [← hcm, mag_up (X1 := X2) (X2 := X1) (by omega) f2.1]
      unfold mag
      rw [cmp_scale]
    generalize cmpS (oc P Q x : Int) (oc P Q y : Int) = d at *
    cases hx : oN P Q x <;> rw [hx] at HO1 HS1 h1 h2 E3
    · exact cmp_lof W HO1 HO2 (eq_f a3) (eq_f b3) HS1 HS2 h1 h2 E3 (eq_f i1) (eq_f i2) kz h6 (i64_id (by omega) (by omega)) (by omega) (by omega) L1 L2 P1 P2 e1
    · exact cmp_lot W HO1 HO2 (eq_f a3) (eq_f b3) HS1 HS2 h1 h2 E3 (eq_f i1) (eq_f i2) kz h6 (i64_id (by omega) (by omega)) (by omega) (by omega) L1 L2 P1 P2 e1 (neg1 d hl1 hl2)
  · have e1 : cmpN S1.toNat (S2.toNat * 2 ^ (X2 - X1).toNat) = cmpS (oc P Q x : Int) (oc P Q y : Int) := by
      rw [← hcm, mag_up (X1 := X1) (X2 := X2) (by omega) f1.1]
      unfold mag
      rw [cmp_scale]
    generalize cmpS (oc P Q x : Int) (oc P Q y : Int) = d at *
    cases hx : oN P Q x <;> rw [hx] at HO1 HS1 h1 h2 E3
    · exact cmp_hif W HO1 HO2 (eq_f a3) (eq_f b3) HS1 HS2 h1 h2 E3 (eq_f i1) (eq_f i2) kz h6 (i64_id (by omega) (by omega)) (by omega) (by omega) L1 L2 P1 P2 e1
    · exact cmp_hit W HO1 HO2 (eq_f a3) (eq_f b3) HS1 HS2 h1 h2 E3 (eq_f i1) (eq_f i2) kz h6 (i64_id (by omega) (by omega)) (by omega) (by omega) L1 L2 P1 P2 e1 (neg1 d hl1 hl2)

end Go.Proofs.Ytmbkpmcmhmldgaa
namespace Go.Proofs.Ytmbkpmcmhmldgaa
open Go.RowKit
open Go.Proofs.Ytmbkpmcmhmldgaa.W

/-- How many bits up the numbers lie. -/
def Z5 : Nat := 5000
/-- A number's whole part. -/
def wq (M : Nat) : Nat := M / 2 ^ Z5
/-- What it loses by that. -/
def wr (M : Nat) : Nat := M % 2 ^ Z5
/-- Twice what is lost, held against one. -/
def wh (M : Nat) : Int := cmpN (wr M * 2 ^ 1) (2 ^ Z5)
theorem mag_dn (k : Nat) (hk : k ≤ 5000) {X S : Int} (hX : X = -(k : Int)) : mag X S = S.toNat * 2 ^ (Z5 - k) ∧ 2 ^ Z5 = 2 ^ k * 2 ^ (Z5 - k) := by
  constructor
  · unfold mag
    rw [show (X + 5000).toNat = Z5 - k by unfold Z5; omega]
  · rw [← Nat.pow_add, show k + (Z5 - k) = Z5 by unfold Z5; omega]
theorem low_dn (k : Nat) (hk : k ≤ 5000) {X S : Int} (hX : X = -(k : Int)) : wq (mag X S) = S.toNat / 2 ^ k ∧ wr (mag X S) = S.toNat % 2 ^ k * 2 ^ (Z5 - k) ∧ wh (mag X S) = cmpN (S.toNat % 2 ^ k * 2 ^ 1) (2 ^ k) := by
  obtain ⟨h1, h2⟩ := mag_dn k hk (S := S) hX
  have hp := Nat.two_pow_pos (Z5 - k)
  have hr : wr (mag X S) = S.toNat % 2 ^ k * 2 ^ (Z5 - k) := by
    unfold wr
    rw [h1, h2, Nat.mul_mod_mul_right]
  refine ⟨?_, hr, ?_⟩
  · unfold wq
    rw [h1, h2, Nat.mul_div_mul_right _ _ hp]
  · unfold wh
    rw [hr, h2, Nat.mul_right_comm]
    exact cmp_scale _ _ _
theorem low_up {X S : Int} (hX : 0 ≤ X) : wq (mag X S) = S.toNat * 2 ^ X.toNat ∧ wr (mag X S) = 0 ∧ wh (mag X S) = -1 := by
  have hm : mag X S = S.toNat * 2 ^ X.toNat * 2 ^ Z5 := by
    unfold mag
    rw [show (X + 5000).toNat = X.toNat + Z5 by unfold Z5; omega, Nat.pow_add, Nat.mul_assoc]
  have hp := Nat.two_pow_pos Z5
  have hr : wr (mag X S) = 0 := by unfold wr; rw [hm, Nat.mul_mod_left]
  refine ⟨by unfold wq; rw [hm, Nat.mul_div_cancel _ hp], hr, ?_⟩
  unfold wh cmpN
  rw [hr, Nat.zero_mul, if_pos hp]
end Go.Proofs.Ytmbkpmcmhmldgaa
namespace Go.Proofs.Ytmbkpmcmhmldgaa
open Go.RowKit
open Go.Proofs.Ytmbkpmcmhmldgaa.W

/-- What half of a width's room is. -/
theorem kd_half {w e f P Q b : Int} (k : Kd w e f P Q b) : (w = 32 ∧ P * Q = 2147483648) ∨ (w = 64 ∧ P * Q = 9223372036854775808) := by
  rcases k with ⟨rfl, -, -, rfl, rfl, -⟩ | ⟨rfl, -, -, rfl, rfl, -⟩
  · exact Or.inl ⟨rfl, rfl⟩
  · exact Or.inr ⟨rfl, rfl⟩
theorem wq_zero : wq 0 = 0 := by unfold wq; exact Nat.zero_div _
/-- How far a number may go below nought, above it: H is half of what there is room for. -/
def lowE (H : Int) (s : Bool) : Int := if s then H else 0
def highE (H : Int) (s : Bool) : Int := if s then H - 1 else 2 * H - 1
/-- The end on the side of a sign. -/
def endE (H : Int) (s n : Bool) : Int := if n then lowE H s else highE H s
/-- The number of that sign and amount. -/
def sgd (H : Int) (n : Bool) (m : Int) : Int := if n then -m % (2 * H) else m
/-- The trap, and the number, of a float of that sign and kind, whose whole part is z. -/
def chT (H : Int) (s n : Bool) (K : Int) (z : Nat) : Int := if K = 3 then 4 else if K = 2 then 3 else if (z : Int) ≤ endE H s n then 0 else 3
def chV (H : Int) (s n : Bool) (K : Int) (z : Nat) : Int := if K = 3 then 0 else if K = 2 then endE H s n else if (z : Int) ≤ endE H s n then sgd H n z else endE H s n

theorem chT_le {H : Int} {s n : Bool} {z : Nat} (h : (z : Int) ≤ endE H s n) : chT H s n 1 z = 0 := by unfold chT; rw [if_neg (by decide), if_neg (by decide), if_pos h]
theorem chV_le {H : Int} {s n : Bool} {z : Nat} (h : (z : Int) ≤ endE H s n) : chV H s n 1 z = sgd H n z := by unfold chV; rw [if_neg (by decide), if_neg (by decide), if_pos h]
theorem chT_gt {H : Int} {s n : Bool} {z : Nat} (h : ¬ (z : Int) ≤ endE H s n) : chT H s n 1 z = 3 := by unfold chT; rw [if_neg (by decide), if_neg (by decide), if_neg h]
theorem chV_gt {H : Int} {s n : Bool} {z : Nat} (h : ¬ (z : Int) ≤ endE H s n) : chV H s n 1 z = endE H s n := by unfold chV; rw [if_neg (by decide), if_neg (by decide), if_neg h]
theorem ends_in {w e f P Q b : Int} (k : Kd w e f P Q b) (s n : Bool) : 0 ≤ endE (P * Q) s n ∧ endE (P * Q) s n < 18446744073709551616 := by
  have h := kd_half k
  unfold endE lowE highE
  cases n <;> cases s <;> simp only [if_true, if_false, Bool.false_eq_true] <;> omega

/-- What is left of a great amount. -/
theorem am_hi {X S : Int} (h : 64 < X) (s0 : 0 < S) (s1 : S < 9007199254740992) : W2 (shrN (shlN S.toNat 64) (-X)) ∧ ∀ E : Nat, E < 18446744073709551616 → ¬ shrN (shlN S.toNat 64) (-X) ≤ E ∧ ¬ wq (mag X S) ≤ E := by
  have e1 : shlN S.toNat 64 = S.toNat * 18446744073709551616 := by
    unfold shlN
    rw [show (2 : Nat) ^ (64 : Int).toNat = 18446744073709551616 by decide, Nat.mod_eq_of_lt (by omega)]
  have e2 : shrN (shlN S.toNat 64) (-X) = S.toNat * 18446744073709551616 := by
    unfold shrN
    rw [e1, show (-X).toNat = 0 by omega, Nat.pow_zero, Nat.div_one]
  have e3 := (low_up (S := S) (show 0 ≤ X by omega)).1
  obtain ⟨j, hj⟩ : ∃ j, X.toNat = j + 64 := ⟨X.toNat - 64, by omega⟩
  rw [hj, Nat.pow_add, ← Nat.mul_assoc] at e3
  have hp := Nat.le_mul_of_pos_right S.toNat (Nat.two_pow_pos j)
  rw [e2, e3]
  generalize S.toNat * 2 ^ j = y at *
  have hS : 1 ≤ S.toNat := by omega
  exact ⟨by unfold W2; omega, fun E hE => ⟨by omega, by omega⟩⟩
theorem am_lo {X S : Int} (h : ¬ 64 < X) (x0 : -1200 ≤ X) (s0 : 0 ≤ S) (s1 : S < 9007199254740992) : shrN (shlN S.toNat X) (-X) = wq (mag X S) := by
  by_cases hX : 0 ≤ X
  · rw [(low_up (S := S) hX).1]
    have hp : 2 ^ X.toNat ≤ 2 ^ 64 := Nat.pow_le_pow_right (by omega) (by omega)
    have hm := Nat.mul_le_mul (show S.toNat ≤ 9007199254740992 by omega) hp
    unfold shrN shlN
    rw [show (-X).toNat = 0 by omega, Nat.pow_zero, Nat.div_one, Nat.mod_eq_of_lt (by omega)]
  · rw [(low_dn (-X).toNat (by omega) (X := X) (S := S) (by omega)).1]
    unfold shrN shlN
    rw [show X.toNat = 0 by omega, Nat.pow_zero, Nat.mul_one, Nat.mod_eq_of_lt (show S.toNat < 340282366920938463463374607431768211456 by omega)]
theorem neg_id {X : Int} (h0 : -1200 ≤ X) (h1 : X ≤ 1100) : IntKind.i64.wrap (-X) = -X := i64_id (by omega) (by omega)
theorem amount_any {w e f P Q b X S : Int} (k : Kd w e f P Q b) (n : Bool) (h : Prt f P Q b 1 X S) :
    ∃ a : Nat, W2 a ∧ Ct 27 #[.agg #[.bool n, .int .i64 1, .int .i64 X, .int .u64 S]] (.agg #[.int .u64 (hi a), .int .u64 (lo a)]) ∧ ∀ E : Nat, E < 18446744073709551616 → (a ≤ E ∧ a = wq (mag X S) ∨ ¬ a ≤ E ∧ ¬ wq (mag X S) ≤ E) := by
  obtain ⟨x0, x1, s0, -, s2⟩ := h.in k
  have sp : 0 < S := by unfold Prt at h; omega
  have HO := hide (fun W => of_n S W s0 (by omega))
  have hv := small_w2 s0 (show S < 18446744073709551616 by omega)
  by_cases g : 64 < X
  · obtain ⟨h1, h2⟩ := am_hi g sp s2
    refine ⟨_, h1, hide (fun W => amount_hi W HO g (hide (fun W => left_n S.toNat 64 W hv)) (neg_id x0 x1) (hide (fun W => right_n _ (-X) W (shlN_w _ _)))), fun E hE => Or.inr (h2 E hE)⟩
  · have h1 := am_lo g x0 s0 s2
    refine ⟨_, shrN_w (-X) (shlN_w S.toNat X), hide (fun W => amount_lo W HO g (hide (fun W => left_n S.toNat X W hv)) (neg_id x0 x1) (hide (fun W => right_n _ (-X) W (shlN_w _ _)))), fun E hE => ?_⟩
    rw [h1]
    by_cases q : wq (mag X S) ≤ E
    · exact Or.inl ⟨q, rfl⟩
    · exact Or.inr ⟨q, q⟩
theorem kn_any {w e f P Q b : Int} (h : Wd w e f P Q b) : Ct 25 #[.int .i64 w] (.bool (f != 0)) := by
  have hk := fun W => kn_l W (hide (fun W => fields_any h W))
  rw [show (e != 0) = (f != 0) by rcases h with ⟨-, rfl, rfl, -⟩ | ⟨-, rfl, rfl, -⟩ | ⟨-, rfl, rfl, -⟩ <;> decide] at hk
  exact hide hk
theorem cut_kd {w e f P Q b x : Int} (k : Kd w e f P Q b) : cutN f P Q x = x % (2 * (P * Q)) := by unfold cutN; rw [if_neg k.f0]
theorem ends_any {w e f P Q b : Int} (k : Kd w e f P Q b) (s : Bool) : Ct 8 #[.int .i64 w, .bool s] (.tuple #[.int .u64 (lowE (P * Q) s), .int .u64 (highE (P * Q) s)]) := by
  have HC := hide (fun W => cut_any 18446744073709551615 k.wd W (by omega) (by omega))
  rw [cut_kd k] at HC
  have h := kd_half k
  have hm : 18446744073709551615 % (2 * (P * Q)) = 2 * (P * Q) - 1 := by
    rcases h with ⟨-, h⟩ | ⟨-, h⟩ <;> rw [h] <;> decide
  rw [hm] at HC
  generalize P * Q = H at *
  cases s
  · exact hide (fun W => ends_f W HC)
  · exact hide (fun W => ends_t W HC (show (2 * H - 1) / 2 = H - 1 by omega) (by show IntKind.u64.wrap (2 * H - 1 - (H - 1)) = H; rw [show 2 * H - 1 - (H - 1) = H by omega, IntKind.wrap_u64]; exact Int.emod_eq_of_lt (by omega) (by omega)))
theorem neg_mod {H x : Int} (h : H = 2147483648 ∨ H = 9223372036854775808) : IntKind.u64.wrap (-x) % (2 * H) = -x % (2 * H) := by
  rw [IntKind.wrap_u64]
  rcases h with rfl | rfl <;> omega
theorem wrap_in (x : Int) : 0 ≤ IntKind.u64.wrap x ∧ IntKind.u64.wrap x < 18446744073709551616 := by
  rw [IntKind.wrap_u64]
  omega
theorem with_any {w e f P Q b x : Int} (k : Kd w e f P Q b) (n : Bool) : Ct 30 #[.int .i64 w, .bool n, .int .u64 x] (.int .u64 (sgd (P * Q) n x)) := by
  have h : P * Q = 2147483648 ∨ P * Q = 9223372036854775808 := by have := kd_half k; omega
  cases n
  · exact hide (fun W => with_f W)
  · obtain ⟨h0, h1⟩ := wrap_in (-x)
    have HC := hide (fun W => cut_any (IntKind.u64.wrap (-x)) k.wd W h0 h1)
    rw [cut_kd k, neg_mod h] at HC
    exact hide (fun W => with_t W rfl HC)
/-- The answer of chopped, by a float's parts. -/
theorem chopped_parts {w k e' f' P' Q' b' e f P Q b x X S K : Int} {n : Bool} (kw : Kd w e f P Q b) (kk : Kd k e' f' P' Q' b') (s : Bool) (h : Prt f P Q b K X S) (HO : Ct 26 #[.int .i64 w, .int .u64 x] (.agg #[.bool n, .int .i64 K, .int .i64 X, .int .u64 S])) :
    Ct 14 #[.int .i64 w, .int .i64 k, .int .u64 x, .bool s] (.tuple #[.int .u64 (chV (P' * Q') s n K (wq (mag X S))), .int .i64 (chT (P' * Q') s n K (wq (mag X S)))]) := by
  have HK := kn_any kk.wd
  rw [ne_t kk.f0] at HK
  have HE := ends_any kk s
  obtain ⟨e0, e1⟩ := ends_in kk s n
  have hK : K = 0 ∨ K = 1 ∨ K = 2 ∨ K = 3 := by unfold Prt at h; omega
  rcases hK with rfl | rfl | rfl | rfl
  · rw [h.mag0 (by decide), wq_zero]
    have hT : chT (P' * Q') s n 0 0 = 0 := by unfold chT; rw [if_neg (by decide), if_neg (by decide), if_pos (by omega)]
    have hV : chV (P' * Q') s n 0 0 = 0 := by
      unfold chV
      rw [if_neg (by decide), if_neg (by decide), if_pos (by omega)]
      unfold sgd
      cases n <;> simp
    rw [hT, hV]
    cases n
    · exact hide (fun W => chopped_zero_f W HK HO HE)
    · exact hide (fun W => chopped_zero_t W HK HO HE)
  · obtain ⟨a, w2, HM, ha⟩ := amount_any kw n h
    obtain ⟨E, hE⟩ := Int.eq_ofNat_of_zero_le e0
    have hv := ha E (by omega)
    have HF := hide (fun W => of_n (endE (P' * Q') s n) W e0 e1)
    have HC := hide (fun W => cmp_n a E W)
    have HS := with_any (x := lo a) kk n
    rw [hE, Int.toNat_natCast] at HF
    rcases hv with ⟨g, h1⟩ | ⟨g, h1⟩
    · rw [← h1, chT_le (by omega), chV_le (by omega)]
      have hc : cmpN a E ≤ 0 := by unfold cmpN; split <;> (try split) <;> omega
      have hl : lo a = (a : Int) := by unfold lo; omega
      rw [hl] at HS
      rw [hl] at HM HC
      cases n
      · rw [show endE (P' * Q') s false = highE (P' * Q') s from rfl] at hE
        rw [← hE] at HF
        exact hide (fun W => chopped_le_f W HK HO HE HM HF HC hc HS)
      · rw [show endE (P' * Q') s true = lowE (P' * Q') s from rfl] at hE
        rw [← hE] at HF
        exact hide (fun W => chopped_le_t W HK HO HE HM HF HC hc HS)
    · rw [chT_gt (by omega), chV_gt (by omega)]
      have hc : ¬ cmpN a E ≤ 0 := by unfold cmpN; split <;> (try split) <;> omega
      cases n
      · rw [show endE (P' * Q') s false = highE (P' * Q') s from rfl] at hE ⊢
        rw [← hE] at HF
        exact hide (fun W => chopped_gt_f W HK HO HE HM HF HC hc)
      · rw [show endE (P' * Q') s true = lowE (P' * Q') s from rfl] at hE ⊢
        rw [← hE] at HF
        exact hide (fun W => chopped_gt_t W HK HO HE HM HF HC hc)
  · have hT : chT (P' * Q') s n 2 (wq (mag X S)) = 3 := by unfold chT; rw [if_neg (by decide), if_pos rfl]
    have hV : chV (P' * Q') s n 2 (wq (mag X S)) = endE (P' * Q') s n := by unfold chV; rw [if_neg (by decide), if_pos rfl]
    rw [hT, hV]
    cases n
    · exact hide (fun W => chopped_inf_f W HK HO HE)
    · exact hide (fun W => chopped_inf_t W HK HO HE)
  · have hT : chT (P' * Q') s n 3 (wq (mag X S)) = 4 := by unfold chT; rw [if_pos rfl]
    have hV : chV (P' * Q') s n 3 (wq (mag X S)) = 0 := by unfold chV; rw [if_pos rfl]
    rw [hT, hV]
    cases n
    · exact hide (fun W => chopped_nan_f W HK HO HE)
    · exact hide (fun W => chopped_nan_t W HK HO HE)
/-- The trap and the number of a float's bits. -/
def trN (f P Q b H : Int) (s : Bool) (x : Int) : Int := chT H s (oN P Q x) (oK P Q x) (wq (oM f P Q b x))
def vaN (f P Q b H : Int) (s : Bool) (x : Int) : Int := chV H s (oN P Q x) (oK P Q x) (wq (oM f P Q b x))
theorem chopped_any {w e f P Q b k e' f' P' Q' b' x : Int} (kw : Kd w e f P Q b) (kk : Kd k e' f' P' Q' b') (s : Bool) (x0 : 0 ≤ x) (x1 : x < 18446744073709551616) :
    Ct 14 #[.int .i64 w, .int .i64 k, .int .u64 x, .bool s] (.tuple #[.int .u64 (vaN f P Q b (P' * Q') s x), .int .i64 (trN f P Q b (P' * Q') s x)]) := by
  obtain ⟨X, S, ho, hp, hm⟩ := open_kd kw x
  have := chopped_parts kw kk s hp (hide (fun W => open_any x kw.wd W x0 x1 ho))
  rw [hm] at this
  exact this
/-- What Trap tells. -/
def tvN (f P Q b H : Int) (s : Bool) (x : Int) : Int := if trN f P Q b H s x = 0 then vaN f P Q b H s x else 0
theorem trap_any {w e f P Q b k e' f' P' Q' b' x : Int} (kw : Kd w e f P Q b) (kk : Kd k e' f' P' Q' b') (s : Bool) (x0 : 0 ≤ x) (x1 : x < 18446744073709551616) :
    Ct 6 #[.int .i64 w, .int .i64 k, .int .u64 x, .bool s] (.tuple #[.int .u64 (tvN f P Q b (P' * Q') s x), .int .i64 (trN f P Q b (P' * Q') s x)]) := by
  have HC := chopped_any kw kk s x0 x1
  unfold tvN
  generalize trN f P Q b (P' * Q') s x = t at *
  by_cases h : t = 0
  · subst h
    rw [if_pos rfl]
    exact hide (fun W => trap_n W HC)
  · rw [if_neg h]
    exact hide (fun W => trap_y W HC (ne_t h))
theorem sat_any {w e f P Q b k e' f' P' Q' b' x : Int} (kw : Kd w e f P Q b) (kk : Kd k e' f' P' Q' b') (s : Bool) (x0 : 0 ≤ x) (x1 : x < 18446744073709551616) :
    Ct 7 #[.int .i64 w, .int .i64 k, .int .u64 x, .bool s] (.int .u64 (vaN f P Q b (P' * Q') s x)) := hide (fun W => sat_l W (chopped_any kw kk s x0 x1))
end Go.Proofs.Ytmbkpmcmhmldgaa
namespace Go.Proofs.Ytmbkpmcmhmldgaa
open Go.RowKit
open Go.Proofs.Ytmbkpmcmhmldgaa.W

theorem caw_1 : trN 52 4503599627370496 2048 1023 (8388608 * 256) false 13829653735729319117 = 0 ∧ tvN 52 4503599627370496 2048 1023 (8388608 * 256) false 13829653735729319117 = 0 := by decide +kernel
theorem caw_2 : trN 52 4503599627370496 2048 1023 (8388608 * 256) false 13840687554816376832 = 3 ∧ tvN 52 4503599627370496 2048 1023 (8388608 * 256) false 13840687554816376832 = 0 ∧ vaN 52 4503599627370496 2048 1023 (8388608 * 256) false 13840687554816376832 = 0 := by decide +kernel
theorem caw_3 : vaN 52 4503599627370496 2048 1023 (8388608 * 256) true 4617315517961601024 = 5 := by decide +kernel
theorem awake_any : Ct 5 #[] (.bool true) := by
  have h1 := trap_any kd_64 kd_32 false (x := 13829653735729319117) (by omega) (by omega)
  have h2 := trap_any kd_64 kd_32 false (x := 13840687554816376832) (by omega) (by omega)
  have h3 := sat_any kd_64 kd_32 false (x := 13840687554816376832) (by omega) (by omega)
  have h4 := sat_any kd_64 kd_32 true (x := 4617315517961601024) (by omega) (by omega)
  rw [caw_1.1, caw_1.2] at h1
  rw [caw_2.1, caw_2.2.1] at h2
  rw [caw_2.2.2] at h3
  rw [caw_3] at h4
  exact hide (fun W => awake_l W h1 h2 h3 h4)

end Go.Proofs.Ytmbkpmcmhmldgaa
