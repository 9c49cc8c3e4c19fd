/- OrdF, WhM, WhN, WhO, LawA, WhP, LawM, WhQ, LawHa, WhR. -/
import Derived.Test.YtepdmpcgkecjiaaG28
import Derived.Test.YtepdmpcgkecjiaaG30
import Derived.Test.YtepdmpcgkecjiaaG31
import Derived.Test.YtepdmpcgkecjiaaG33
import Derived.Test.YtepdmpcgkecjiaaG34
import Derived.Test.YtepdmpcgkecjiaaG35
import Derived.Test.YtepdmpcgkecjiaaG36
import Derived.Test.YtepdmpcgkecjiaaG37
import Derived.Test.YtepdmpcgkecjiaaG38
import Derived.Test.YtepdmpcgkecjiaaG39
import Derived.Test.YtepdmpcgkecjiaaG40
import Derived.LoopN
namespace Go.Proofs.Ytepdmpcgkecjiaa
open Go.RowKit
open Go.Proofs.Ytepdmpcgkecjiaa.W

theorem cmp_scale (x y t : Nat) : cmpN (x * 2 ^ t) (y * 2 ^ t) = cmpN x y := by
  have h := Nat.two_pow_pos t
  unfold cmpN
  simp only [Nat.mul_lt_mul_right h]
/-- A number's sign. -/
def sgn (n : Bool) (K : Int) : Int := if K = 0 then 0 else if n then -1 else 1
theorem sign_any (n : Bool) (K X S : Int) (W : World) : Calls Try.prog 59 #[.agg #[.bool n, .int .i64 K, .int .i64 X, .int .u64 S]] W fun r W' => r = .returned (.int .i64 (sgn n K)) ∧ Below W.heap.size W W' := by
  unfold sgn
  by_cases h : K = 0
  · rw [if_pos h]
    exact sign_z W (eq_t h)
  · rw [if_neg h]
    cases n
    · exact sign_p W (eq_f h)
    · exact sign_m W (eq_f h)

theorem mag_up {X1 X2 S : Int} (h : X1 ≤ X2) (l : -5000 ≤ X1) : mag X2 S = S.toNat * 2 ^ (X2 - X1).toNat * 2 ^ (X1 + 5000).toNat := by
  unfold mag
  rw [Nat.mul_assoc, ← Nat.pow_add]
  congr 2
  omega
theorem cmpN_fval (f L c d : Nat) : cmpN (fval f L c) (fval f L d) = cmpS (c : Int) (d : Int) := by
  have h1 := @fval_le f L c d
  have h2 := @fval_le f L d c
  unfold cmpN cmpS
  rcases Nat.lt_trichotomy c d with h | h | h
  · rw [if_pos (by omega), if_pos (by omega)]
  · rw [if_neg (by omega), if_neg (by omega), if_neg (by omega), if_pos (by omega)]
  · rw [if_neg (by omega), if_pos (by omega), if_neg (by omega), if_neg (by omega)]
theorem cmpS_neg (a b : Int) : cmpS (-a) (-b) = -cmpS a b := by
  rw [← cmpS_swap]
  unfold cmpS
  rcases Int.lt_trichotomy a b with h | h | h
  · rw [if_neg (by omega), if_neg (by omega), if_neg (by omega), if_neg (by omega)]
  · rw [if_neg (by omega), if_pos (by omega), if_neg (by omega), if_pos (by omega)]
  · rw [if_pos (by omega), if_pos (by omega)]

theorem refCmp8_any {w e f P Q b x y : Int} (k : Kd w e f P Q b) (W : World) (x0 : 0 ≤ x) (x1 : x < 18446744073709551616) (y0 : 0 ≤ y) (y1 : y < 18446744073709551616) :
    Calls Try.prog 24 #[.int .i64 w, .int .u64 x, .int .u64 y] W fun r W' => r = .returned (.int .i64 (cmpB P Q x y)) ∧ Below W.heap.size W W' := by
  obtain ⟨X1, S1, o1, t1, m1⟩ := open_kd k x
  obtain ⟨X2, S2, o2, t2, m2⟩ := open_kd k y
  have HO1 := hide (fun W => refOpen_any x k W x0 x1 o1)
  have HO2 := hide (fun W => refOpen_any y k W y0 y1 o2)
  by_cases a3 : oK P Q x = 3
  · rw [cmpB_nan (Or.inl a3)]
    exact cmp_n1 W HO1 HO2 (eq_t a3)
  by_cases b3 : oK P Q y = 3
  · rw [cmpB_nan (Or.inr b3)]
    exact cmp_n2 W HO1 HO2 (eq_f a3) (eq_t b3)
  rw [cmpB_num a3 b3]
  have ka := kind_oc k x
  have kb := kind_oc k y
  have HS1 := hide (sign_any (oN P Q x) (oK P Q x) X1 S1)
  have HS2 := hide (sign_any (oN P Q y) (oK P Q y) X2 S2)
  have tp := top_pos k
  by_cases h1 : sgn (oN P Q x) (oK P Q x) < sgn (oN P Q y) (oK P Q y)
  · have hc : sc P Q x < sc P Q y := by
      unfold sc
      unfold sgn at h1
      cases hn : oN P Q x <;> cases hm : oN P Q y <;> rw [hn, hm] at h1 <;> simp at h1 ⊢ <;> (try split at h1) <;> (try split at h1) <;> omega
    rw [show cmpS (sc P Q x) (sc P Q y) = -1 by unfold cmpS; rw [if_pos hc]]
    exact cmp_lt W HO1 HO2 (eq_f a3) (eq_f b3) HS1 HS2 h1
  by_cases h2 : sgn (oN P Q y) (oK P Q y) < sgn (oN P Q x) (oK P Q x)
  · have hc : sc P Q y < sc P Q x := by
      unfold sc
      unfold sgn at h2
      cases hn : oN P Q x <;> cases hm : oN P Q y <;> rw [hn, hm] at h2 <;> simp at h2 ⊢ <;> (try split at h2) <;> (try split at h2) <;> omega
    rw [show cmpS (sc P Q x) (sc P Q y) = 1 by unfold cmpS; rw [if_neg (by omega), if_neg (by omega)]]
    exact cmp_gt W HO1 HO2 (eq_f a3) (eq_f b3) HS1 HS2 h2
  by_cases h3 : sgn (oN P Q x) (oK P Q x) = 0
  · have h4 : sgn (oN P Q y) (oK P Q y) = 0 := by omega
    have kz : ∀ (n : Bool) (K : Int), sgn n K = 0 → K = 0 := by
      intro n K h
      unfold sgn at h
      by_cases hk : K = 0
      · exact hk
      · rw [if_neg hk] at h
        cases n <;> simp at h
    have q1 := kz _ _ h3
    have q2 := kz _ _ h4
    have c1 : oc P Q x = 0 := by omega
    have c2 : oc P Q y = 0 := by omega
    have hc : sc P Q x = sc P Q y := by
      unfold sc
      rw [c1, c2]
      simp
    rw [show cmpS (sc P Q x) (sc P Q y) = 0 by unfold cmpS; rw [if_neg (by omega), if_pos hc]]
    exact cmp_z W HO1 HO2 (eq_f a3) (eq_f b3) HS1 HS2 h1 h2 (eq_t h3)
  obtain ⟨q1, q2, hn⟩ : oK P Q x ≠ 0 ∧ oK P Q y ≠ 0 ∧ oN P Q x = oN P Q y := by
    unfold sgn at h1 h2 h3
    by_cases q1 : oK P Q x = 0
    · rw [if_pos q1] at h3; exact absurd rfl h3
    · rw [if_neg q1] at h1 h2 h3
      by_cases q2 : oK P Q y = 0
      · rw [if_pos q2] at h1 h2
        cases hh : oN P Q x <;> rw [hh] at h1 h2 <;> simp at h1 h2
      · rw [if_neg q2] at h1 h2
        refine ⟨q1, q2, ?_⟩
        revert h1 h2
        cases oN P Q x <;> cases oN P Q y <;> simp
  have E3 := eq_f h3
  have fin : ∀ d, cmpS (oc P Q x : Int) (oc P Q y : Int) = d → cmpS (sc P Q x) (sc P Q y) = (if oN P Q x then -d else d) := by
    intro d hd
    unfold sc
    rw [← hn]
    cases oN P Q x <;> simp
    · exact hd
    · rw [cmpS_neg, hd]
  have neg1 : ∀ d : Int, -1 ≤ d → d ≤ 1 → IntKind.i64.wrap (-d) = -d := fun d _ _ => i64_id (by omega) (by omega)
  by_cases i1 : oK P Q x = 2
  · obtain ⟨d, hd, hs, l1, l2⟩ : ∃ d, IntKind.i64.wrap (oK P Q x - oK P Q y) = d ∧ cmpS (oc P Q x : Int) (oc P Q y : Int) = d ∧ -1 ≤ d ∧ d ≤ 1 := by
      refine ⟨_, rfl, ?_⟩
      rw [i64_id (by omega) (by omega)]
      have := cmpS_in (oc P Q x : Int) (oc P Q y : Int)
      omega
    rw [fin d hs]
    cases hx : oN P Q x <;> rw [hx] at HO1 HS1 h1 h2 E3
    · exact cmp_i1f W HO1 HO2 (eq_f a3) (eq_f b3) HS1 HS2 h1 h2 E3 (eq_t i1) hd
    · exact cmp_i1t W HO1 HO2 (eq_f a3) (eq_f b3) HS1 HS2 h1 h2 E3 (eq_t i1) hd (neg1 d l1 l2)
  by_cases i2 : oK P Q y = 2
  · obtain ⟨d, hd, hs, l1, l2⟩ : ∃ d, IntKind.i64.wrap (oK P Q x - oK P Q y) = d ∧ cmpS (oc P Q x : Int) (oc P Q y : Int) = d ∧ -1 ≤ d ∧ d ≤ 1 := by
      refine ⟨_, rfl, ?_⟩
      rw [i64_id (by omega) (by omega)]
      have := cmpS_in (oc P Q x : Int) (oc P Q y : Int)
      omega
    rw [fin d hs]
    cases hx : oN P Q x <;> rw [hx] at HO1 HS1 h1 h2 E3
    · exact cmp_i2f W HO1 HO2 (eq_f a3) (eq_f b3) HS1 HS2 h1 h2 E3 (eq_f i1) (eq_t i2) hd
    · exact cmp_i2t W HO1 HO2 (eq_f a3) (eq_f b3) HS1 HS2 h1 h2 E3 (eq_f i1) (eq_t i2) hd (neg1 d l1 l2)
  have kz : IntKind.i64.wrap 0 = 0 := by decide
  obtain ⟨p1, p2, p3, p4⟩ := k.pos
  have hb : 0 ≤ b ∧ b ≤ 1023 ∧ 0 ≤ f ∧ f ≤ 52 := by rcases k with h | h <;> omega
  have f1 : -5000 ≤ X1 ∧ X1 ≤ 4000 ∧ 0 ≤ S1 ∧ S1 < 18446744073709551616 := by unfold Prt at t1; omega
  have f2 : -5000 ≤ X2 ∧ X2 ≤ 4000 ∧ 0 ≤ S2 ∧ S2 < 18446744073709551616 := by unfold Prt at t2; omega
  have P1 : Hid (S1.toNat < pw 2) := by unfold pw; exact (by omega : S1.toNat < 18446744073709551616)
  have P2 : Hid (S2.toNat < pw 2) := by unfold pw; exact (by omega : S2.toNat < 18446744073709551616)
  have L1 := hide f1.2.2
  have L2 := hide f2.2.2
  rw [(oM_fin k ⟨a3, i1⟩).1] at m1
  rw [(oM_fin k ⟨b3, i2⟩).1] at m2
  have hcm := cmpN_fval f.toNat (lowN f b) (oc P Q x) (oc P Q y)
  rw [← m1, ← m2] at hcm
  have hin := cmpS_in (oc P Q x : Int) (oc P Q y : Int)
  have hl1 : -1 ≤ cmpS (oc P Q x : Int) (oc P Q y : Int) := by omega
  have hl2 : cmpS (oc P Q x : Int) (oc P Q y : Int) ≤ 1 := by omega
  rw [fin _ rfl]
  by_cases h6 : X2 < X1
  · have e1 : cmpN (S1.toNat * 2 ^ (X1 - X2).toNat) S2.toNat = cmpS (oc P Q x : Int) (oc P Q y : Int) := by
      rw [← hcm, mag_up (X1 := X2) (X2 := X1) (by omega) f2.1]
      unfold mag
      rw [cmp_scale]
    generalize cmpS (oc P Q x : Int) (oc P Q y : Int) = d at *
    cases hx : oN P Q x <;> rw [hx] at HO1 HS1 h1 h2 E3
    · exact cmp_lof W HO1 HO2 (eq_f a3) (eq_f b3) HS1 HS2 h1 h2 E3 (eq_f i1) (eq_f i2) kz h6 (i64_id (by omega) (by omega)) (by omega) (by omega) L1 L2 P1 P2 e1
    · exact cmp_lot W HO1 HO2 (eq_f a3) (eq_f b3) HS1 HS2 h1 h2 E3 (eq_f i1) (eq_f i2) kz h6 (i64_id (by omega) (by omega)) (by omega) (by omega) L1 L2 P1 P2 e1 (neg1 d hl1 hl2)
  · have e1 : cmpN S1.toNat (S2.toNat * 2 ^ (X2 - X1).toNat) = cmpS (oc P Q x : Int) (oc P Q y : Int) := by
      rw [← hcm, mag_up (X1 := X1) (X2 := X2) (by omega) f1.1]
      unfold mag
      rw [cmp_scale]
    generalize cmpS (oc P Q x : Int) (oc P Q y : Int) = d at *
    cases hx : oN P Q x <;> rw [hx] at HO1 HS1 h1 h2 E3
    · exact cmp_hif W HO1 HO2 (eq_f a3) (eq_f b3) HS1 HS2 h1 h2 E3 (eq_f i1) (eq_f i2) kz h6 (i64_id (by omega) (by omega)) (by omega) (by omega) L1 L2 P1 P2 e1
    · exact cmp_hit W HO1 HO2 (eq_f a3) (eq_f b3) HS1 HS2 h1 h2 E3 (eq_f i1) (eq_f i2) kz h6 (i64_id (by omega) (by omega)) (by omega) (by omega) L1 L2 P1 P2 e1 (neg1 d hl1 hl2)

end Go.Proofs.Ytepdmpcgkecjiaa
namespace Go.Proofs.Ytepdmpcgkecjiaa
open Go.RowKit
open Go.Proofs.Ytepdmpcgkecjiaa.W

/-- How many bits up the numbers lie. -/
def Z5 : Nat := 5000
theorem Z5_at : ((0 : Int) + 5000).toNat = Z5 := rfl
/-- A number's whole part. -/
def wq (M : Nat) : Nat := M / 2 ^ Z5
/-- What it loses by that. -/
def wr (M : Nat) : Nat := M % 2 ^ Z5
/-- Twice what is lost, held against one. -/
def wh (M : Nat) : Int := cmpN (wr M * 2 ^ 1) (2 ^ Z5)
/-- Whether it goes away from nought: 1 above, 2 below, 3 toward nought, 4 to what is nearest. -/
def upN (way : Int) (n : Bool) (M : Nat) : Bool :=
  if way = 1 then decide (wr M ≠ 0) && !n else if way = 2 then decide (wr M ≠ 0) && n else if way = 4 then (decide (wh M = 1) || (decide (wh M = 0) && decide (wq M % 2 = 1))) else false
def wholeN (way : Int) (n : Bool) (M : Nat) : Nat := wq M + (upN way n M).toNat
/-- The float that is made whole. -/
def makeB (f P Q b way x : Int) : Int :=
  if oK P Q x = 3 then nanB f P Q else if oK P Q x ≠ 1 then cutN f P Q x else rd f P Q b (oN P Q x) (wholeN way (oN P Q x) (oM f P Q b x) * 2 ^ Z5)

theorem w_split (M : Nat) : wq M * 2 ^ Z5 + wr M = M := by
  unfold wq wr
  rw [Nat.mul_comm]
  exact Nat.div_add_mod M (2 ^ Z5)
theorem wr_lt (M : Nat) : wr M < 2 ^ Z5 := Nat.mod_lt _ (Nat.two_pow_pos _)
theorem cmpN_in (v u : Nat) : cmpN v u = -1 ∧ v < u ∨ cmpN v u = 0 ∧ v = u ∨ cmpN v u = 1 ∧ u < v := by
  unfold cmpN
  by_cases h : v < u
  · rw [if_pos h]; exact Or.inl ⟨rfl, h⟩
  · rw [if_neg h]
    by_cases g : u < v
    · rw [if_pos g]; exact Or.inr (Or.inr ⟨rfl, g⟩)
    · rw [if_neg g]; exact Or.inr (Or.inl ⟨rfl, by omega⟩)

theorem mag_dn (k : Nat) (hk : k ≤ 5000) {X S : Int} (hX : X = -(k : Int)) : mag X S = S.toNat * 2 ^ (Z5 - k) ∧ 2 ^ Z5 = 2 ^ k * 2 ^ (Z5 - k) := by
  constructor
  · unfold mag
    rw [show (X + 5000).toNat = Z5 - k by unfold Z5; omega]
  · rw [← Nat.pow_add, show k + (Z5 - k) = Z5 by unfold Z5; omega]
theorem low_dn (k : Nat) (hk : k ≤ 5000) {X S : Int} (hX : X = -(k : Int)) : wq (mag X S) = S.toNat / 2 ^ k ∧ wr (mag X S) = S.toNat % 2 ^ k * 2 ^ (Z5 - k) ∧ wh (mag X S) = cmpN (S.toNat % 2 ^ k * 2 ^ 1) (2 ^ k) := by
  obtain ⟨h1, h2⟩ := mag_dn k hk (S := S) hX
  have hp := Nat.two_pow_pos (Z5 - k)
  have hr : wr (mag X S) = S.toNat % 2 ^ k * 2 ^ (Z5 - k) := by
    unfold wr
    rw [h1, h2, Nat.mul_mod_mul_right]
  refine ⟨?_, hr, ?_⟩
  · unfold wq
    rw [h1, h2, Nat.mul_div_mul_right _ _ hp]
  · unfold wh
    rw [hr, h2, Nat.mul_right_comm]
    exact cmp_scale _ _ _
theorem low_dn0 (k : Nat) (hk : k ≤ 5000) {X S : Int} (hX : X = -(k : Int)) : (wr (mag X S) ≠ 0) = (S.toNat % 2 ^ k ≠ 0) := by
  obtain ⟨-, h, -⟩ := low_dn k hk (S := S) hX
  have hp := Nat.two_pow_pos (Z5 - k)
  rw [h]
  refine propext ⟨fun a e => a (by rw [e, Nat.zero_mul]), fun a e => ?_⟩
  rcases Nat.mul_eq_zero.mp e with h | h
  · exact a h
  · omega
theorem low_up {X S : Int} (hX : 0 ≤ X) : wq (mag X S) = S.toNat * 2 ^ X.toNat ∧ wr (mag X S) = 0 ∧ wh (mag X S) = -1 := by
  have hm : mag X S = S.toNat * 2 ^ X.toNat * 2 ^ Z5 := by
    unfold mag
    rw [show (X + 5000).toNat = X.toNat + Z5 by unfold Z5; omega, Nat.pow_add, Nat.mul_assoc]
  have hp := Nat.two_pow_pos Z5
  have hr : wr (mag X S) = 0 := by unfold wr; rw [hm, Nat.mul_mod_left]
  refine ⟨by unfold wq; rw [hm, Nat.mul_div_cancel _ hp], hr, ?_⟩
  unfold wh cmpN
  rw [hr, Nat.zero_mul, if_pos hp]
theorem wh_none {M : Nat} (h : wr M = 0) : wh M = -1 := by
  unfold wh cmpN
  rw [h, Nat.zero_mul, if_pos (Nat.two_pow_pos Z5)]
theorem up_none {M : Nat} (way : Int) (n : Bool) (h : wr M = 0) : upN way n M = false := by
  unfold upN
  rw [wh_none h, h]
  simp
theorem whole_none {M : Nat} (way : Int) (n : Bool) (h : wr M = 0) : wholeN way n M * 2 ^ Z5 = M := by
  have h1 := w_split M
  rw [h, Nat.add_zero] at h1
  unfold wholeN
  rw [up_none way n h, show false.toNat = 0 from rfl, Nat.add_zero]
  exact h1

/-- The halves of 2^k in S, what is lost below them. -/
theorem near_half (S k : Nat) : (decide (S / 2 ^ k % 2 = 1) && (decide (S % 2 ^ k ≠ 0) || decide (S / 2 ^ (k + 1) % 2 = 1))) = (decide (cmpN (S % 2 ^ (k + 1) * 2 ^ 1) (2 ^ (k + 1)) = 1) || (decide (cmpN (S % 2 ^ (k + 1) * 2 ^ 1) (2 ^ (k + 1)) = 0) && decide (S / 2 ^ (k + 1) % 2 = 1))) := by
  have hp := Nat.two_pow_pos k
  have e1 : S / 2 ^ k / 2 = S / 2 ^ (k + 1) := by rw [Nat.div_div_eq_div_mul, Nat.pow_succ]
  have e2 : S % 2 ^ (k + 1) = S / 2 ^ k % 2 * 2 ^ k + S % 2 ^ k := by
    have := Nat.mod_pow_succ (x := S) (b := 2) (k := k)
    rw [this, Nat.mul_comm]; omega
  have hl := Nat.mod_lt S hp
  rw [e2, Nat.pow_succ 2 k]
  generalize S / (2 ^ k * 2) % 2 = o
  generalize S % 2 ^ k = r at *
  generalize hb : S / 2 ^ k % 2 = a
  generalize 2 ^ k = p at *
  have ha : a = 0 ∨ a = 1 := by omega
  rcases ha with rfl | rfl
  · rcases cmpN_in ((0 * p + r) * 2 ^ 1) (p * 2) with ⟨e, h⟩ | ⟨e, h⟩ | ⟨e, h⟩ <;> rw [e]
    · simp
    · exfalso; omega
    · exfalso; omega
  · rcases cmpN_in ((1 * p + r) * 2 ^ 1) (p * 2) with ⟨e, h⟩ | ⟨e, h⟩ | ⟨e, h⟩ <;> rw [e]
    · exfalso; omega
    · have : r = 0 := by omega
      subst this
      simp
    · have : r ≠ 0 := by omega
      simp [this]

end Go.Proofs.Ytepdmpcgkecjiaa
namespace Go.Proofs.Ytepdmpcgkecjiaa
open Go.RowKit
open Go.Proofs.Ytepdmpcgkecjiaa.W

theorem broken_any {w e f P Q b K X S : Int} (k : Kd w e f P Q b) (n : Bool) (h : Prt f P Q b K X S) (W : World) :
    Calls Try.prog 37 #[.agg #[.bool n, .int .i64 K, .int .i64 X, .int .u64 S]] W fun r W' => r = .returned (.bool (decide (wr (mag X S) ≠ 0))) ∧ Below W.heap.size W W' := by
  obtain ⟨x0, x1, s0, s1, s2⟩ := h.in k
  have hv := small_w2 s0 (by omega)
  have e : decide (wr (mag X S) ≠ 0) = lostB S.toNat (-X) := by
    unfold lostB
    by_cases hX : 0 ≤ X
    · rw [(low_up hX).2.1, show (-X).toNat = 0 by omega]
      simp [Nat.mod_one]
    · have := low_dn0 (-X).toNat (by omega) (X := X) (S := S) (by omega)
      simp only [this]
  rw [e]
  exact broken_l W (hide (fun W => of_n S W s0 (by omega))) (i64_id (x := -X) (by omega) (by omega)) (hide (fun W => right_n S.toNat (-X) W hv))

theorem and_1 {z : Int} (h0 : 0 ≤ z) (h1 : z < 18446744073709551616) : bits .and .u64 z 1 = z % 2 := and_mask 1 z 1 h0 h1 (by decide) (by omega)
theorem odd_b (v : Nat) : ((v : Int) % 2 == 1) = decide (v % 2 = 1) := by
  by_cases h : v % 2 = 1
  · have : (v : Int) % 2 = 1 := by omega
    simp [h, this]
  · have : (v : Int) % 2 = 0 := by omega
    simp [h, this]
theorem split_any {w e f P Q b X S : Int} (k : Kd w e f P Q b) (n : Bool) (h : Prt f P Q b 1 X S) (hb : wr (mag X S) ≠ 0) :
    ∃ a m o : Bool, (a && (m || o)) = upN 4 n (mag X S) ∧ wq (mag X S) < 9007199254740992 ∧ wq (mag X S) + 1 ≤ 2 ^ f.toNat ∧ Hid (∀ W, Calls Try.prog 61 #[.agg #[.bool n, .int .i64 1, .int .i64 X, .int .u64 S]] W fun r W' => r = .returned (.tuple #[.int .u64 (wq (mag X S) : Nat), .agg #[.bool a, .bool m, .bool o]]) ∧ Below W.heap.size W W') := by
  obtain ⟨x0, x1, s0, s1, s2⟩ := h.in k
  have hX : X < 0 := by
    refine Decidable.byContradiction fun hc => hb ?_
    exact (low_up (by omega)).2.1
  obtain ⟨j, hj⟩ : ∃ j : Nat, X = -((j + 1 : Nat) : Int) := ⟨(-X).toNat - 1, by omega⟩
  obtain ⟨hq, hr, hh⟩ := low_dn (j + 1) (by omega) (S := S) hj
  have hp := Nat.two_pow_pos j
  have hS := pow_int k.pow.1 s0 s1
  have hhv : S.toNat / 2 ^ j < 18446744073709551616 := Nat.lt_of_le_of_lt (Nat.div_le_self _ _) (by omega)
  have hq2 : S.toNat / 2 ^ (j + 1) = S.toNat / 2 ^ j / 2 := by rw [Nat.div_div_eq_div_mul, Nat.pow_succ]
  have hqb : S.toNat / 2 ^ (j + 1) < 2 ^ f.toNat := by
    rw [Nat.div_lt_iff_lt_mul (Nat.two_pow_pos _)]
    have h1 : 2 ^ (f.toNat + 1) ≤ 2 ^ f.toNat * 2 ^ (j + 1) := by
      rw [Nat.pow_succ 2 j, Nat.pow_succ 2 f.toNat]
      have : 2 ^ f.toNat * 1 ≤ 2 ^ f.toNat * 2 ^ j := Nat.mul_le_mul_left _ hp
      rw [← Nat.mul_assoc]
      omega
    omega
  refine ⟨decide (S.toNat / 2 ^ j % 2 = 1), decide (S.toNat % 2 ^ j ≠ 0), decide (S.toNat / 2 ^ (j + 1) % 2 = 1), ?_, ?_, by rw [hq]; omega, ?_⟩
  · have := near_half S.toNat j
    rw [this]
    unfold upN
    rw [if_neg (by omega), if_neg (by omega), if_pos rfl, hh, hq]
  · rw [hq, hq2]
    have := Nat.div_le_self S.toNat (2 ^ j)
    omega
  · have HR := fun W => right_n S.toNat (j : Int) W (small_w2 s0 (by omega))
    have e1 : shrN S.toNat (j : Int) = S.toNat / 2 ^ j := by unfold shrN; rw [Int.toNat_natCast]
    have e2 : lostB S.toNat (j : Int) = decide (S.toNat % 2 ^ j ≠ 0) := by unfold lostB; rw [Int.toNat_natCast]
    rw [e1, e2, lo_small hhv] at HR
    have := fun W => split_l (n1 := n) (K1 := 1) (X1 := X) (S1 := S) (E := -X) (E1 := (j : Int)) (n := ((wq (mag X S) : Nat) : Int)) (a := ((S.toNat / 2 ^ j : Nat) : Int) % 2) (o := ((wq (mag X S) : Nat) : Int) % 2) W (hide (fun W => of_n S W s0 (by omega))) (i64_id (by omega) (by omega))
      (by rw [show -X - 1 = (j : Int) by omega]; exact i64_id (by omega) (by omega)) (hide HR) (by rw [hq, hq2]; omega) (and_1 (by omega) (by omega)) (and_1 (by omega) (by rw [hq]; have := Nat.div_le_self S.toNat (2 ^ (j + 1)); omega))
    rw [odd_b, odd_b, hq] at this
    rw [hq]
    exact this

theorem make_keep {w e f P Q b X S : Int} (k : Kd w e f P Q b) (x way : Int) (h : Prt f P Q b (oK P Q x) X S) (hm : mag X S = oM f P Q b x) (hb : wr (mag X S) = 0) :
    narrowN f P Q b (oN P Q x) (oK P Q x) X S = makeB f P Q b way x := by
  rw [narrow_rd k _ h]
  unfold makeB
  rcases kind_oc k x with ⟨h1, -, -⟩ | ⟨h1, h2, -⟩ | ⟨h1, -, -, -⟩ | ⟨h1, h2, -⟩
  · rw [if_neg (by omega), if_neg (by omega), if_neg (by omega), if_pos h1]; rfl
  · rw [if_neg (by omega), if_neg (by omega), if_pos h1, if_neg (by omega), if_pos (by omega), cut_fl k (by omega), h2]
    exact put_inf k _
  · rw [if_neg (by omega), if_pos h1, if_neg (by omega), if_neg (by omega), ← hm, whole_none way _ hb]
  · rw [if_pos h1, if_neg (by omega), if_pos (by omega), cut_fl k (by omega), h2]
    exact put_nought _

end Go.Proofs.Ytepdmpcgkecjiaa
namespace Go.Proofs.Ytepdmpcgkecjiaa
open Go.RowKit
open Go.Proofs.Ytepdmpcgkecjiaa.W

theorem pack_whole {w e f P Q b : Int} (k : Kd w e f P Q b) (n : Bool) (m : Nat) (hm : m < 18446744073709551616) : Hid (∀ W, Calls Try.prog 62 #[.int .i64 w, .bool n, .agg #[.int .u64 (hi m), .int .u64 (lo m)], .int .i64 0, .bool false] W fun r W' => r = .returned (.int .u64 (rd f P Q b n (m * 2 ^ Z5))) ∧ Below W.heap.size W W') := by
  have h := fun W => pack_at k n m (by unfold W2; omega) (E := 0) (by omega) (by omega) W
  rw [Z5_at] at h
  exact h
theorem of_whole (m : Nat) (hm : m < 18446744073709551616) : Hid (∀ W, Calls Try.prog 63 #[.int .u64 (m : Int)] W fun r W' => r = .returned (.agg #[.int .u64 (hi m), .int .u64 (lo m)]) ∧ Below W.heap.size W W') := fun W => by
  have h := of_n (m : Int) W (by omega) (by omega)
  rw [Int.toNat_natCast] at h
  exact h
theorem of_next (m : Nat) (hm : m + 1 < 18446744073709551616) : Hid (∀ W, Calls Try.prog 63 #[.int .u64 ((m : Int) + 1)] W fun r W' => r = .returned (.agg #[.int .u64 (hi (m + 1)), .int .u64 (lo (m + 1))]) ∧ Below W.heap.size W W') := fun W => by
  have h := of_n ((m : Int) + 1) W (by omega) (by omega)
  rw [show ((m : Int) + 1).toNat = m + 1 by omega] at h
  exact h
theorem near_c (n a m o : Bool) : Hid (∀ W, Calls Try.prog 29 #[.bool n, .agg #[.bool a, .bool m, .bool o]] W fun r W' => r = .returned (.bool (a && (m || o))) ∧ Below W.heap.size W W') := by
  cases a
  · exact fun W => near_c0 W
  · cases m
    · exact fun W => near_c2 W
    · exact fun W => near_c1 W
theorem broken_0 : Hid (∀ W, Calls Try.prog 37 #[.agg #[.bool false, .int .i64 0, .int .i64 0, .int .u64 0]] W fun r W' => r = .returned (.bool false) ∧ Below W.heap.size W W') := by
  have h := fun W => broken_any (K := 0) (X := 0) (S := 0) kd_64 false (Or.inr (Or.inr (Or.inl ⟨rfl, rfl, rfl⟩))) W
  rw [show decide (wr (mag 0 0) ≠ 0) = false from df (fun h => h (by rw [mag_zero]; exact Nat.zero_mod _))] at h
  exact h
theorem ceil_any {w e f P Q b x : Int} (k : Kd w e f P Q b) (W : World) (x0 : 0 ≤ x) (x1 : x < 18446744073709551616) :
    Calls Try.prog 7 #[.int .i64 w, .int .u64 x] W fun r W' => r = .returned (.int .u64 (makeB f P Q b 1 x)) ∧ Below W.heap.size W W' := by
  obtain ⟨X, S, ho, hp, hm⟩ := open_kd k x
  obtain ⟨-, -, s0, -, s2⟩ := hp.in k
  have HO := fun W => open_any x k.wd W x0 x1 ho
  have HK := fun W => broken_any k (oN P Q x) hp W
  refine ceil_l W (hide fun W => ?_)
  by_cases hb : wr (mag X S) = 0
  · rw [show decide (wr (mag X S) ≠ 0) = false from df (fun h => h hb)] at HK
    have HN := fun W => narrow_any k (oN P Q x) (oK P Q x) X S s0 (by omega) W
    rw [make_keep k x 1 hp hm hb] at HN
    exact next_ceil_w W (hide HO) (hide HK) (hide HN)
  · have hd : decide (wr (mag X S) ≠ 0) = true := dt hb
    rw [hd] at HK
    have hK : oK P Q x = 1 := by
      refine Decidable.byContradiction fun hc => hb ?_
      rw [hp.mag0 hc]
      exact Nat.zero_mod _
    have hB : makeB f P Q b 1 x = rd f P Q b (oN P Q x) (wholeN 1 (oN P Q x) (mag X S) * 2 ^ Z5) := by
      unfold makeB
      rw [if_neg (by omega), if_neg (by omega), hm]
    rw [hK] at hp HO HK
    obtain ⟨a, m, o, hu, hq, -, HS⟩ := split_any k (oN P Q x) hp hb
    have HF : Hid (∀ W, Calls Try.prog 26 #[.bool (oN P Q x), .agg #[.bool a, .bool m, .bool o]] W fun r W' => r = .returned (.bool (upN 1 (oN P Q x) (mag X S))) ∧ Below W.heap.size W W') := by
      rw [show upN 1 (oN P Q x) (mag X S) = !oN P Q x by unfold upN; rw [if_pos rfl, hd, Bool.true_and]]
      exact fun W => ceil_c W
    by_cases hup : upN 1 (oN P Q x) (mag X S) = true
    · rw [hup] at HF
      rw [hB, show wholeN 1 (oN P Q x) (mag X S) = wq (mag X S) + 1 by unfold wholeN; rw [hup]; rfl]
      exact next_ceil_t W (hide HO) (hide HK) HS HF (u64_id (by omega) (by omega)) (of_next _ (by omega)) (pack_whole k _ _ (by omega))
    · have hup := Bool.eq_false_iff.mpr hup
      rw [hup] at HF
      rw [hB, show wholeN 1 (oN P Q x) (mag X S) = wq (mag X S) by unfold wholeN; rw [hup]; rfl]
      exact next_ceil_f W (hide HO) (hide HK) HS HF (of_whole _ (by omega)) (pack_whole k _ _ (by omega))

theorem ceil_no {w e f P Q b x : Int} (k : Wd w e f P Q b) (hf : f = 0) (W : World) (x0 : 0 ≤ x) (x1 : x < 18446744073709551616) :
    Calls Try.prog 7 #[.int .i64 w, .int .u64 x] W fun r W' => r = .returned (.int .u64 0) ∧ Below W.heap.size W W' :=
  ceil_l W (hide fun W => next_ceil_w W (hide (fun W => open_none k hf x W x0 x1)) broken_0 (hide (fun W => narrow_no k hf false 0 0 0 (by omega) (by omega) W)))
theorem floor_any {w e f P Q b x : Int} (k : Kd w e f P Q b) (W : World) (x0 : 0 ≤ x) (x1 : x < 18446744073709551616) :
    Calls Try.prog 8 #[.int .i64 w, .int .u64 x] W fun r W' => r = .returned (.int .u64 (makeB f P Q b 2 x)) ∧ Below W.heap.size W W' := by
  obtain ⟨X, S, ho, hp, hm⟩ := open_kd k x
  obtain ⟨-, -, s0, -, s2⟩ := hp.in k
  have HO := fun W => open_any x k.wd W x0 x1 ho
  have HK := fun W => broken_any k (oN P Q x) hp W
  refine floor_l W (hide fun W => ?_)
  by_cases hb : wr (mag X S) = 0
  · rw [show decide (wr (mag X S) ≠ 0) = false from df (fun h => h hb)] at HK
    have HN := fun W => narrow_any k (oN P Q x) (oK P Q x) X S s0 (by omega) W
    rw [make_keep k x 2 hp hm hb] at HN
    exact next_floor_w W (hide HO) (hide HK) (hide HN)
  · have hd : decide (wr (mag X S) ≠ 0) = true := dt hb
    rw [hd] at HK
    have hK : oK P Q x = 1 := by
      refine Decidable.byContradiction fun hc => hb ?_
      rw [hp.mag0 hc]
      exact Nat.zero_mod _
    have hB : makeB f P Q b 2 x = rd f P Q b (oN P Q x) (wholeN 2 (oN P Q x) (mag X S) * 2 ^ Z5) := by
      unfold makeB
      rw [if_neg (by omega), if_neg (by omega), hm]
    rw [hK] at hp HO HK
    obtain ⟨a, m, o, hu, hq, -, HS⟩ := split_any k (oN P Q x) hp hb
    have HF : Hid (∀ W, Calls Try.prog 27 #[.bool (oN P Q x), .agg #[.bool a, .bool m, .bool o]] W fun r W' => r = .returned (.bool (upN 2 (oN P Q x) (mag X S))) ∧ Below W.heap.size W W') := by
      rw [show upN 2 (oN P Q x) (mag X S) = oN P Q x by unfold upN; rw [if_neg (by omega), if_pos rfl, hd, Bool.true_and]]
      exact fun W => floor_c W
    by_cases hup : upN 2 (oN P Q x) (mag X S) = true
    · rw [hup] at HF
      rw [hB, show wholeN 2 (oN P Q x) (mag X S) = wq (mag X S) + 1 by unfold wholeN; rw [hup]; rfl]
      exact next_floor_t W (hide HO) (hide HK) HS HF (u64_id (by omega) (by omega)) (of_next _ (by omega)) (pack_whole k _ _ (by omega))
    · have hup := Bool.eq_false_iff.mpr hup
      rw [hup] at HF
      rw [hB, show wholeN 2 (oN P Q x) (mag X S) = wq (mag X S) by unfold wholeN; rw [hup]; rfl]
      exact next_floor_f W (hide HO) (hide HK) HS HF (of_whole _ (by omega)) (pack_whole k _ _ (by omega))

theorem floor_no {w e f P Q b x : Int} (k : Wd w e f P Q b) (hf : f = 0) (W : World) (x0 : 0 ≤ x) (x1 : x < 18446744073709551616) :
    Calls Try.prog 8 #[.int .i64 w, .int .u64 x] W fun r W' => r = .returned (.int .u64 0) ∧ Below W.heap.size W W' :=
  floor_l W (hide fun W => next_floor_w W (hide (fun W => open_none k hf x W x0 x1)) broken_0 (hide (fun W => narrow_no k hf false 0 0 0 (by omega) (by omega) W)))
theorem trunc_any {w e f P Q b x : Int} (k : Kd w e f P Q b) (W : World) (x0 : 0 ≤ x) (x1 : x < 18446744073709551616) :
    Calls Try.prog 9 #[.int .i64 w, .int .u64 x] W fun r W' => r = .returned (.int .u64 (makeB f P Q b 3 x)) ∧ Below W.heap.size W W' := by
  obtain ⟨X, S, ho, hp, hm⟩ := open_kd k x
  obtain ⟨-, -, s0, -, s2⟩ := hp.in k
  have HO := fun W => open_any x k.wd W x0 x1 ho
  have HK := fun W => broken_any k (oN P Q x) hp W
  refine trunc_l W (hide fun W => ?_)
  by_cases hb : wr (mag X S) = 0
  · rw [show decide (wr (mag X S) ≠ 0) = false from df (fun h => h hb)] at HK
    have HN := fun W => narrow_any k (oN P Q x) (oK P Q x) X S s0 (by omega) W
    rw [make_keep k x 3 hp hm hb] at HN
    exact next_trunc_w W (hide HO) (hide HK) (hide HN)
  · have hd : decide (wr (mag X S) ≠ 0) = true := dt hb
    rw [hd] at HK
    have hK : oK P Q x = 1 := by
      refine Decidable.byContradiction fun hc => hb ?_
      rw [hp.mag0 hc]
      exact Nat.zero_mod _
    have hB : makeB f P Q b 3 x = rd f P Q b (oN P Q x) (wholeN 3 (oN P Q x) (mag X S) * 2 ^ Z5) := by
      unfold makeB
      rw [if_neg (by omega), if_neg (by omega), hm]
    rw [hK] at hp HO HK
    obtain ⟨a, m, o, hu, hq, -, HS⟩ := split_any k (oN P Q x) hp hb
    have HF : Hid (∀ W, Calls Try.prog 28 #[.bool (oN P Q x), .agg #[.bool a, .bool m, .bool o]] W fun r W' => r = .returned (.bool (upN 3 (oN P Q x) (mag X S))) ∧ Below W.heap.size W W') := by
      rw [show upN 3 (oN P Q x) (mag X S) = false by unfold upN; rw [if_neg (by omega), if_neg (by omega), if_neg (by omega)]]
      exact fun W => trunc_c W
    have hup : upN 3 (oN P Q x) (mag X S) = false := by unfold upN; rw [if_neg (by omega), if_neg (by omega), if_neg (by omega)]
    rw [hup] at HF
    rw [hB, show wholeN 3 (oN P Q x) (mag X S) = wq (mag X S) by unfold wholeN; rw [hup]; rfl]
    exact next_trunc_f W (hide HO) (hide HK) HS HF (of_whole _ (by omega)) (pack_whole k _ _ (by omega))

theorem trunc_no {w e f P Q b x : Int} (k : Wd w e f P Q b) (hf : f = 0) (W : World) (x0 : 0 ≤ x) (x1 : x < 18446744073709551616) :
    Calls Try.prog 9 #[.int .i64 w, .int .u64 x] W fun r W' => r = .returned (.int .u64 0) ∧ Below W.heap.size W W' :=
  trunc_l W (hide fun W => next_trunc_w W (hide (fun W => open_none k hf x W x0 x1)) broken_0 (hide (fun W => narrow_no k hf false 0 0 0 (by omega) (by omega) W)))
theorem near_any {w e f P Q b x : Int} (k : Kd w e f P Q b) (W : World) (x0 : 0 ≤ x) (x1 : x < 18446744073709551616) :
    Calls Try.prog 10 #[.int .i64 w, .int .u64 x] W fun r W' => r = .returned (.int .u64 (makeB f P Q b 4 x)) ∧ Below W.heap.size W W' := by
  obtain ⟨X, S, ho, hp, hm⟩ := open_kd k x
  obtain ⟨-, -, s0, -, s2⟩ := hp.in k
  have HO := fun W => open_any x k.wd W x0 x1 ho
  have HK := fun W => broken_any k (oN P Q x) hp W
  refine near_l W (hide fun W => ?_)
  by_cases hb : wr (mag X S) = 0
  · rw [show decide (wr (mag X S) ≠ 0) = false from df (fun h => h hb)] at HK
    have HN := fun W => narrow_any k (oN P Q x) (oK P Q x) X S s0 (by omega) W
    rw [make_keep k x 4 hp hm hb] at HN
    exact next_near_w W (hide HO) (hide HK) (hide HN)
  · have hd : decide (wr (mag X S) ≠ 0) = true := dt hb
    rw [hd] at HK
    have hK : oK P Q x = 1 := by
      refine Decidable.byContradiction fun hc => hb ?_
      rw [hp.mag0 hc]
      exact Nat.zero_mod _
    have hB : makeB f P Q b 4 x = rd f P Q b (oN P Q x) (wholeN 4 (oN P Q x) (mag X S) * 2 ^ Z5) := by
      unfold makeB
      rw [if_neg (by omega), if_neg (by omega), hm]
    rw [hK] at hp HO HK
    obtain ⟨a, m, o, hu, hq, -, HS⟩ := split_any k (oN P Q x) hp hb
    have HF := near_c (oN P Q x) a m o
    rw [hu] at HF
    by_cases hup : upN 4 (oN P Q x) (mag X S) = true
    · rw [hup] at HF
      rw [hB, show wholeN 4 (oN P Q x) (mag X S) = wq (mag X S) + 1 by unfold wholeN; rw [hup]; rfl]
      exact next_near_t W (hide HO) (hide HK) HS HF (u64_id (by omega) (by omega)) (of_next _ (by omega)) (pack_whole k _ _ (by omega))
    · have hup := Bool.eq_false_iff.mpr hup
      rw [hup] at HF
      rw [hB, show wholeN 4 (oN P Q x) (mag X S) = wq (mag X S) by unfold wholeN; rw [hup]; rfl]
      exact next_near_f W (hide HO) (hide HK) HS HF (of_whole _ (by omega)) (pack_whole k _ _ (by omega))

theorem near_no {w e f P Q b x : Int} (k : Wd w e f P Q b) (hf : f = 0) (W : World) (x0 : 0 ≤ x) (x1 : x < 18446744073709551616) :
    Calls Try.prog 10 #[.int .i64 w, .int .u64 x] W fun r W' => r = .returned (.int .u64 0) ∧ Below W.heap.size W W' :=
  near_l W (hide fun W => next_near_w W (hide (fun W => open_none k hf x W x0 x1)) broken_0 (hide (fun W => narrow_no k hf false 0 0 0 (by omega) (by omega) W)))
theorem okw_any {w e f P Q b : Int} (h : Wd w e f P Q b) (W : World) : Calls Try.prog 36 #[.int .i64 w] W fun r W' => r = .returned (.bool (f != 0)) ∧ Below W.heap.size W W' := by
  have := okw_l W (hide (fun W => fields_any h W))
  rw [show (e != 0) = (f != 0) by rcases h with ⟨_, rfl, rfl, _⟩ | ⟨_, rfl, rfl, _⟩ | ⟨_, rfl, rfl, _⟩ <;> rfl] at this
  exact this
/-- Whether a float is a whole number. -/
def isW (f P Q b x : Int) : Bool := decide (oK P Q x ≠ 3 ∧ oK P Q x ≠ 2 ∧ wr (oM f P Q b x) = 0)
theorem isw_any {w e f P Q b x : Int} (k : Kd w e f P Q b) (W : World) (x0 : 0 ≤ x) (x1 : x < 18446744073709551616) :
    Calls Try.prog 13 #[.int .i64 w, .int .u64 x] W fun r W' => r = .returned (.bool (isW f P Q b x)) ∧ Below W.heap.size W W' := by
  obtain ⟨X, S, ho, hp, hm⟩ := open_kd k x
  have HO := hide (fun W => open_any x k.wd W x0 x1 ho)
  have hw0 : oK P Q x ≠ 1 → wr (oM f P Q b x) = 0 := fun hc => by
    rw [← hm, hp.mag0 hc]
    exact Nat.zero_mod _
  have HK := fun W => broken_any k (oN P Q x) hp W
  unfold isW
  rcases kind_oc k x with ⟨h1, -, -⟩ | ⟨h1, -, -⟩ | ⟨h1, -, -, -⟩ | ⟨h1, -, -⟩
  · rw [df (by omega)]
    exact isw_n W HO (eq_f (by omega)) (eq_f (by omega))
  · rw [df (by omega)]
    exact isw_n W HO (eq_f (by omega)) (eq_f (by omega))
  · have e : decide (oK P Q x ≠ 3 ∧ oK P Q x ≠ 2 ∧ wr (oM f P Q b x) = 0) = !decide (wr (mag X S) ≠ 0) := by
      rw [hm]
      by_cases hc : wr (oM f P Q b x) = 0
      · rw [dt ⟨by omega, by omega, hc⟩, df (fun h => h hc)]; rfl
      · rw [df (fun h => hc h.2.2), dt hc]; rfl
    rw [e]
    exact isw_f W HO (eq_f (by omega)) (eq_t h1) (hide HK)
  · rw [dt ⟨by omega, by omega, hw0 (by omega)⟩]
    have := fun W => okw_any k.wd W
    rw [show (f != 0) = true by rcases k with ⟨_, _, rfl, _⟩ | ⟨_, _, rfl, _⟩ <;> rfl] at this
    exact isw_z W HO (eq_t h1) (hide this)
theorem isw_no {w e f P Q b x : Int} (k : Wd w e f P Q b) (hf : f = 0) (W : World) (x0 : 0 ≤ x) (x1 : x < 18446744073709551616) :
    Calls Try.prog 13 #[.int .i64 w, .int .u64 x] W fun r W' => r = .returned (.bool false) ∧ Below W.heap.size W W' := by
  have := fun W => okw_any k W
  rw [ne_f hf] at this
  exact isw_z W (hide (fun W => open_none k hf x W x0 x1)) (eq_t rfl) (hide this)

end Go.Proofs.Ytepdmpcgkecjiaa
namespace Go.Proofs.Ytepdmpcgkecjiaa
open Go.RowKit
open Go.Proofs.Ytepdmpcgkecjiaa.W

set_option maxRecDepth 100000 in
set_option maxHeartbeats 2000000 in
theorem awake_l (W : World) (H1 : Hid (∀ W, Calls Try.prog 10 #[.int .i64 64, .int .u64 4612811918334230528] W fun r W' => r = .returned (.int .u64 4611686018427387904) ∧ Below W.heap.size W W')) (H2 : Hid (∀ W, Calls Try.prog 10 #[.int .i64 64, .int .u64 13826050856027422720] W fun r W' => r = .returned (.int .u64 9223372036854775808) ∧ Below W.heap.size W W')) (H3 : Hid (∀ W, Calls Try.prog 7 #[.int .i64 64, .int .u64 13826050856027422720] W fun r W' => r = .returned (.int .u64 9223372036854775808) ∧ Below W.heap.size W W')) :
    Calls Try.prog 6 #[] W fun r W' => r = .returned (.bool true) ∧ Below W.heap.size W W' := by
  go_enter Try.func6, Try.ntmps6
  go_wp2_with fail
  refine (unhide H1 _).mono ?_
  rintro _ w1 ⟨rfl, hb⟩
  have HB := hide hb
  clear hb
  go_wp2_with fail
  refine (unhide H2 _).mono ?_
  rintro _ w2 ⟨rfl, hb⟩
  have HB := hide (bthen (unhide HB) hb)
  clear hb
  go_wp2_with fail
  refine (unhide H3 _).mono ?_
  rintro _ w3 ⟨rfl, hb⟩
  have HB := hide (bthen (unhide HB) hb)
  clear hb
  go_wp2_with fail
  go_ret
  exact ⟨rfl, unhide HB⟩
theorem awake_any (W : World) : Calls Try.prog 6 #[] W fun r W' => r = .returned (.bool true) ∧ Below W.heap.size W W' := by
  have h1 := fun W => near_any (x := 4612811918334230528) kd_64 W (by omega) (by omega)
  have h2 := fun W => near_any (x := 13826050856027422720) kd_64 W (by omega) (by omega)
  have h3 := fun W => ceil_any (x := 13826050856027422720) kd_64 W (by omega) (by omega)
  rw [show makeB 52 4503599627370496 2048 1023 4 4612811918334230528 = 4611686018427387904 by decide +kernel] at h1
  rw [show makeB 52 4503599627370496 2048 1023 4 13826050856027422720 = 9223372036854775808 by decide +kernel] at h2
  rw [show makeB 52 4503599627370496 2048 1023 1 13826050856027422720 = 9223372036854775808 by decide +kernel] at h3
  exact awake_l W (hide h1) (hide h2) (hide h3)

end Go.Proofs.Ytepdmpcgkecjiaa
namespace Go.Proofs.Ytepdmpcgkecjiaa
open Go.RowKit
open Go.Proofs.Ytepdmpcgkecjiaa.W

theorem refDown_any {w e f P Q b X S : Int} (k : Kd w e f P Q b) (n : Bool) (h : Prt f P Q b 1 X S) (W : World) :
    Calls Try.prog 15 #[.agg #[.bool n, .int .i64 1, .int .i64 X, .int .u64 S]] W fun e w' => ∃ s, e = .returned (.tuple #[.agg #[s], .int .i64 (wh (mag X S)), .bool (decide (wr (mag X S) ≠ 0))]) ∧ IsNat w' s (wq (mag X S)) ∧ Below W.heap.size W w' := by
  obtain ⟨x0, x1, s0, -, s2⟩ := h.in k
  by_cases hX : 0 ≤ X
  · obtain ⟨e1, e2, e3⟩ := low_up (S := S) hX
    have := down_up (K1 := 1) (X1 := X) (S1 := S) (n1 := n) W (hide ⟨s0, by omega, by omega⟩) hX
    rw [e1, e2, e3, show decide ((0 : Nat) ≠ 0) = false from rfl]
    exact this
  · obtain ⟨e1, -, e3⟩ := low_dn (-X).toNat (by omega) (X := X) (S := S) (by omega)
    have e2 := low_dn0 (-X).toNat (by omega) (X := X) (S := S) (by omega)
    have := down_dn (K1 := 1) (X1 := X) (S1 := S) (n1 := n) (-X).toNat W (hide ⟨s0, by omega, by omega⟩) hX (by rw [i64_id (by omega) (by omega)]; omega)
    rw [Nat.one_mul] at this
    rw [e1, e3]
    simp only [e2]
    exact this
theorem wq_pw {w e f P Q b X S : Int} (k : Kd w e f P Q b) (h : Prt f P Q b 1 X S) : wq (mag X S) < pw 100 := by
  obtain ⟨x0, x1, s0, -, s2⟩ := h.in k
  by_cases hX : 0 ≤ X
  · rw [(low_up hX).1]
    exact big_pw (by omega) (by omega)
  · rw [(low_dn (-X).toNat (by omega) (X := X) (S := S) (by omega)).1]
    have h1 := big_pw (S := S.toNat) (d := 0) (by omega) (by omega)
    rw [Nat.pow_zero, Nat.mul_one] at h1
    exact Nat.lt_of_le_of_lt (Nat.div_le_self _ _) h1
theorem pw_next {z : Nat} (h : z < pw 100) : z + 1 < pw 140 := by
  have h1 : pw 101 = _ := pw_succ 100
  have h2 := lt_pw (k := 101) 140 (x := z + 1) (by omega) (by omega)
  exact h2
theorem ex_whole {w e f P Q b : Int} (k : Kd w e f P Q b) (n : Bool) (z : Nat) (hz : z < pw 140) :
    Hid (∀ (a : Option Addr) (m c : Nat) (W : World), IsNat W (.slice a m c) z → Calls Try.prog 35 #[.int .i64 w, .bool n, .agg #[.slice a m c], .int .i64 0] W fun r W' => r = .returned (.int .u64 (rd f P Q b n (z * 2 ^ Z5))) ∧ Below W.heap.size W W') :=
  ex_at k n z (z * 2 ^ Z5) hz (by omega) (by omega) (by rw [Z5_at])
theorem refMake_1 {w e f P Q b x : Int} (k : Kd w e f P Q b) (W : World) (x0 : 0 ≤ x) (x1 : x < 18446744073709551616) :
    Calls Try.prog 12 #[.int .i64 w, .int .u64 x, .int .i64 1] W fun r W' => r = .returned (.int .u64 (makeB f P Q b 1 x)) ∧ Below W.heap.size W W' := by
  obtain ⟨X, S, ho, hp, hm⟩ := open_kd k x
  have HO := fun W => refOpen_any x k W x0 x1 ho
  by_cases h3 : oK P Q x = 3
  · unfold makeB
    rw [if_pos h3]
    exact rmake_nan W (hide HO) (eq_t h3) (hide (fun W => refNan_any k W))
  by_cases h1 : oK P Q x = 1
  · have hB : makeB f P Q b 1 x = rd f P Q b (oN P Q x) (wholeN 1 (oN P Q x) (mag X S) * 2 ^ Z5) := by
      unfold makeB
      rw [if_neg h3, if_neg (fun h => h h1), hm]
    rw [hB]
    rw [h1] at hp HO
    have HD := fun W => refDown_any k (oN P Q x) hp W
    have hz := wq_pw k hp
    have hz0 : wq (mag X S) < pw 140 := lt_pw 140 hz (by omega)
    have e0 := ex_whole k (oN P Q x) _ hz0
    have e1 := ex_whole k (oN P Q x) _ (pw_next hz)
    unfold wholeN
    generalize oN P Q x = nn at *
    by_cases hb : wr (mag X S) = 0
    · rw [up_none 1 nn hb]
      rw [df (fun h => h hb)] at HD
      exact rmake_1f W (hide HO) _ (eq_f (by omega)) (ne_f rfl) (hide HD) e0
    · rw [dt hb] at HD
      have hu : upN 1 nn (mag X S) = !nn := by unfold upN; rw [if_pos rfl, dt hb, Bool.true_and]
      rw [hu]
      cases nn
      · exact rmake_1u W (hide HO) _ (eq_f (by omega)) (ne_f rfl) (hide HD) (hide hz) e1
      · exact rmake_1n W (hide HO) _ (eq_f (by omega)) (ne_f rfl) (hide HD) e0
  · unfold makeB
    rw [if_neg h3, if_pos h1]
    exact rmake_cut W (hide HO) (eq_f h3) (ne_t h1) (hide (fun W => refCut_any x k W x0 x1))
theorem refMake_2 {w e f P Q b x : Int} (k : Kd w e f P Q b) (W : World) (x0 : 0 ≤ x) (x1 : x < 18446744073709551616) :
    Calls Try.prog 12 #[.int .i64 w, .int .u64 x, .int .i64 2] W fun r W' => r = .returned (.int .u64 (makeB f P Q b 2 x)) ∧ Below W.heap.size W W' := by
  obtain ⟨X, S, ho, hp, hm⟩ := open_kd k x
  have HO := fun W => refOpen_any x k W x0 x1 ho
  by_cases h3 : oK P Q x = 3
  · unfold makeB
    rw [if_pos h3]
    exact rmake_nan W (hide HO) (eq_t h3) (hide (fun W => refNan_any k W))
  by_cases h1 : oK P Q x = 1
  · have hB : makeB f P Q b 2 x = rd f P Q b (oN P Q x) (wholeN 2 (oN P Q x) (mag X S) * 2 ^ Z5) := by
      unfold makeB
      rw [if_neg h3, if_neg (fun h => h h1), hm]
    rw [hB]
    rw [h1] at hp HO
    have HD := fun W => refDown_any k (oN P Q x) hp W
    have hz := wq_pw k hp
    have hz0 : wq (mag X S) < pw 140 := lt_pw 140 hz (by omega)
    have e0 := ex_whole k (oN P Q x) _ hz0
    have e1 := ex_whole k (oN P Q x) _ (pw_next hz)
    unfold wholeN
    generalize oN P Q x = nn at *
    by_cases hb : wr (mag X S) = 0
    · rw [up_none 2 nn hb]
      rw [df (fun h => h hb)] at HD
      exact rmake_2f W (hide HO) _ (eq_f (by omega)) (ne_f rfl) (hide HD) e0
    · rw [dt hb] at HD
      have hu : upN 2 nn (mag X S) = nn := by unfold upN; rw [if_neg (by omega), if_pos rfl, dt hb, Bool.true_and]
      rw [hu]
      cases nn
      · exact rmake_2p W (hide HO) _ (eq_f (by omega)) (ne_f rfl) (hide HD) e0
      · exact rmake_2u W (hide HO) _ (eq_f (by omega)) (ne_f rfl) (hide HD) (hide hz) e1
  · unfold makeB
    rw [if_neg h3, if_pos h1]
    exact rmake_cut W (hide HO) (eq_f h3) (ne_t h1) (hide (fun W => refCut_any x k W x0 x1))
theorem refMake_3 {w e f P Q b x : Int} (k : Kd w e f P Q b) (W : World) (x0 : 0 ≤ x) (x1 : x < 18446744073709551616) :
    Calls Try.prog 12 #[.int .i64 w, .int .u64 x, .int .i64 3] W fun r W' => r = .returned (.int .u64 (makeB f P Q b 3 x)) ∧ Below W.heap.size W W' := by
  obtain ⟨X, S, ho, hp, hm⟩ := open_kd k x
  have HO := fun W => refOpen_any x k W x0 x1 ho
  by_cases h3 : oK P Q x = 3
  · unfold makeB
    rw [if_pos h3]
    exact rmake_nan W (hide HO) (eq_t h3) (hide (fun W => refNan_any k W))
  by_cases h1 : oK P Q x = 1
  · have hB : makeB f P Q b 3 x = rd f P Q b (oN P Q x) (wholeN 3 (oN P Q x) (mag X S) * 2 ^ Z5) := by
      unfold makeB
      rw [if_neg h3, if_neg (fun h => h h1), hm]
    rw [hB]
    rw [h1] at hp HO
    have HD := fun W => refDown_any k (oN P Q x) hp W
    have hz := wq_pw k hp
    have hz0 : wq (mag X S) < pw 140 := lt_pw 140 hz (by omega)
    have e0 := ex_whole k (oN P Q x) _ hz0
    have e1 := ex_whole k (oN P Q x) _ (pw_next hz)
    unfold wholeN
    rw [show upN 3 (oN P Q x) (mag X S) = false by unfold upN; rw [if_neg (by omega), if_neg (by omega), if_neg (by omega)]]
    exact rmake_3 W (hide HO) _ (eq_f (by omega)) (ne_f rfl) (hide HD) e0
  · unfold makeB
    rw [if_neg h3, if_pos h1]
    exact rmake_cut W (hide HO) (eq_f h3) (ne_t h1) (hide (fun W => refCut_any x k W x0 x1))
theorem refMake_4 {w e f P Q b x : Int} (k : Kd w e f P Q b) (W : World) (x0 : 0 ≤ x) (x1 : x < 18446744073709551616) :
    Calls Try.prog 12 #[.int .i64 w, .int .u64 x, .int .i64 4] W fun r W' => r = .returned (.int .u64 (makeB f P Q b 4 x)) ∧ Below W.heap.size W W' := by
  obtain ⟨X, S, ho, hp, hm⟩ := open_kd k x
  have HO := fun W => refOpen_any x k W x0 x1 ho
  by_cases h3 : oK P Q x = 3
  · unfold makeB
    rw [if_pos h3]
    exact rmake_nan W (hide HO) (eq_t h3) (hide (fun W => refNan_any k W))
  by_cases h1 : oK P Q x = 1
  · have hB : makeB f P Q b 4 x = rd f P Q b (oN P Q x) (wholeN 4 (oN P Q x) (mag X S) * 2 ^ Z5) := by
      unfold makeB
      rw [if_neg h3, if_neg (fun h => h h1), hm]
    rw [hB]
    rw [h1] at hp HO
    have HD := fun W => refDown_any k (oN P Q x) hp W
    have hz := wq_pw k hp
    have hz0 : wq (mag X S) < pw 140 := lt_pw 140 hz (by omega)
    have e0 := ex_whole k (oN P Q x) _ hz0
    have e1 := ex_whole k (oN P Q x) _ (pw_next hz)
    unfold wholeN
    have hu : upN 4 (oN P Q x) (mag X S) = (decide (wh (mag X S) = 1) || (decide (wh (mag X S) = 0) && decide (wq (mag X S) % 2 = 1))) := by unfold upN; rw [if_neg (by omega), if_neg (by omega), if_pos rfl]
    rw [hu]
    have hl : (lo (wq (mag X S))).tmod 2 = ((wq (mag X S) % 2 : Nat) : Int) := by
      have h0 := lo_0 (wq (mag X S))
      rw [Int.tmod_eq_emod_of_nonneg h0]
      unfold lo
      omega
    have hw : wh (mag X S) = -1 ∨ wh (mag X S) = 0 ∨ wh (mag X S) = 1 := by
      rcases cmpN_in (wr (mag X S) * 2 ^ 1) (2 ^ Z5) with ⟨h, -⟩ | ⟨h, -⟩ | ⟨h, -⟩
      · exact Or.inl h
      · exact Or.inr (Or.inl h)
      · exact Or.inr (Or.inr h)
    rcases hw with h | h | h <;> rw [h] at HD ⊢
    · rw [show (decide ((-1 : Int) = 1) || (decide ((-1 : Int) = 0) && decide (wq (mag X S) % 2 = 1))) = false by simp]
      exact rmake_4l W (hide HO) _ (eq_f (by omega)) (ne_f rfl) (hide HD) e0
    · by_cases hc : wq (mag X S) % 2 = 1
      · rw [show (decide ((0 : Int) = 1) || (decide ((0 : Int) = 0) && decide (wq (mag X S) % 2 = 1))) = true by simp [hc]]
        exact rmake_4o W (hide HO) _ (eq_f (by omega)) (ne_f rfl) (hide HD) (hide hz) (hide rfl) (by rw [hl, hc]; rfl) e1
      · rw [show (decide ((0 : Int) = 1) || (decide ((0 : Int) = 0) && decide (wq (mag X S) % 2 = 1))) = false by simp [hc]]
        exact rmake_4e W (hide HO) _ (eq_f (by omega)) (ne_f rfl) (hide HD) (hide rfl) (by rw [hl, show wq (mag X S) % 2 = 0 by omega]; rfl) e0
    · rw [show (decide ((1 : Int) = 1) || (decide ((1 : Int) = 0) && decide (wq (mag X S) % 2 = 1))) = true by simp]
      exact rmake_4u W (hide HO) _ (eq_f (by omega)) (ne_f rfl) (hide HD) (hide hz) e1
  · unfold makeB
    rw [if_neg h3, if_pos h1]
    exact rmake_cut W (hide HO) (eq_f h3) (ne_t h1) (hide (fun W => refCut_any x k W x0 x1))

end Go.Proofs.Ytepdmpcgkecjiaa
namespace Go.Proofs.Ytepdmpcgkecjiaa
open Go.RowKit
open Go.Proofs.Ytepdmpcgkecjiaa.W

set_option maxRecDepth 100000 in
set_option maxHeartbeats 2000000 in
theorem makes_no {w x : Int} (W : World) (HW : Hid (∀ W, Calls Try.prog 6 #[] W fun r W' => r = .returned (.bool true) ∧ Below W.heap.size W W')) (HC1 : Hid (∀ W, Calls Try.prog 7 #[.int .i64 w, .int .u64 x] W fun r W' => r = .returned (.int .u64 0) ∧ Below W.heap.size W W')) (HC2 : Hid (∀ W, Calls Try.prog 8 #[.int .i64 w, .int .u64 x] W fun r W' => r = .returned (.int .u64 0) ∧ Below W.heap.size W W')) (HC3 : Hid (∀ W, Calls Try.prog 9 #[.int .i64 w, .int .u64 x] W fun r W' => r = .returned (.int .u64 0) ∧ Below W.heap.size W W')) (HC4 : Hid (∀ W, Calls Try.prog 10 #[.int .i64 w, .int .u64 x] W fun r W' => r = .returned (.int .u64 0) ∧ Below W.heap.size W W')) (HK : Hid (∀ W, Calls Try.prog 11 #[.int .i64 w] W fun r W' => r = .returned (.bool false) ∧ Below W.heap.size W W')) (HI : Hid (∀ W, Calls Try.prog 13 #[.int .i64 w, .int .u64 x] W fun r W' => r = .returned (.bool false) ∧ Below W.heap.size W W')) :
    Calls Try.prog 3 #[.int .i64 w, .int .u64 x] W fun r W' => r = .returned (.bool true) ∧ Below W.heap.size W W' := by
  go_enter Try.func3, Try.ntmps3
  go_wp2_with fail
  refine (unhide HW _).mono ?_
  rintro _ w1 ⟨rfl, hb⟩
  have HB := hide hb
  clear hb
  go_wp2_with fail
  refine (unhide HC1 _).mono ?_
  rintro _ w2 ⟨rfl, hb⟩
  have HB := hide (bthen (unhide HB) hb)
  clear hb
  go_wp2_with fail
  refine (unhide HC2 _).mono ?_
  rintro _ w3 ⟨rfl, hb⟩
  have HB := hide (bthen (unhide HB) hb)
  clear hb
  go_wp2_with fail
  refine (unhide HC3 _).mono ?_
  rintro _ w4 ⟨rfl, hb⟩
  have HB := hide (bthen (unhide HB) hb)
  clear hb
  go_wp2_with fail
  refine (unhide HC4 _).mono ?_
  rintro _ w5 ⟨rfl, hb⟩
  have HB := hide (bthen (unhide HB) hb)
  clear hb
  go_wp2_with fail
  refine (unhide HK _).mono ?_
  rintro _ w6 ⟨rfl, hb⟩
  have HA := hide ((at4_new w5 (.int .u64 0) (.int .u64 0) (.int .u64 0) (.int .u64 0) _).below hb)
  have HB := hide (bthen (balloc (unhide HB) _) hb)
  clear hb
  obtain ⟨c0, c1, c2, c3⟩ := unhide HA
  go_wp2_with fail
  refine wp_loop_rounds 5 ?_
  rw [rounds_succ]
  go_wp2_with fail
  rw [rounds_succ]
  go_wp2_with fail
  rw [rounds_succ]
  go_wp2_with fail
  rw [rounds_succ]
  go_wp2_with fail
  rw [rounds_succ]
  go_wp2_with fail
  refine (unhide HI _).mono ?_
  rintro _ w11 ⟨rfl, hb⟩
  have HB := hide (bthen (unhide HB) hb)
  clear hb
  go_wp2_with fail
  go_ret
  exact ⟨rfl, unhide HB⟩
set_option maxRecDepth 100000 in
set_option maxHeartbeats 2000000 in
theorem makes_f {w x V1 V2 V3 V4 K1 X1 S1 h : Int} {n1 l : Bool} (W : World) (HW : Hid (∀ W, Calls Try.prog 6 #[] W fun r W' => r = .returned (.bool true) ∧ Below W.heap.size W W')) (HC1 : Hid (∀ W, Calls Try.prog 7 #[.int .i64 w, .int .u64 x] W fun r W' => r = .returned (.int .u64 V1) ∧ Below W.heap.size W W')) (HC2 : Hid (∀ W, Calls Try.prog 8 #[.int .i64 w, .int .u64 x] W fun r W' => r = .returned (.int .u64 V2) ∧ Below W.heap.size W W')) (HC3 : Hid (∀ W, Calls Try.prog 9 #[.int .i64 w, .int .u64 x] W fun r W' => r = .returned (.int .u64 V3) ∧ Below W.heap.size W W')) (HC4 : Hid (∀ W, Calls Try.prog 10 #[.int .i64 w, .int .u64 x] W fun r W' => r = .returned (.int .u64 V4) ∧ Below W.heap.size W W')) (HK : Hid (∀ W, Calls Try.prog 11 #[.int .i64 w] W fun r W' => r = .returned (.bool true) ∧ Below W.heap.size W W')) (HM1 : Hid (∀ W, Calls Try.prog 12 #[.int .i64 w, .int .u64 x, .int .i64 1] W fun r W' => r = .returned (.int .u64 V1) ∧ Below W.heap.size W W')) (HM2 : Hid (∀ W, Calls Try.prog 12 #[.int .i64 w, .int .u64 x, .int .i64 2] W fun r W' => r = .returned (.int .u64 V2) ∧ Below W.heap.size W W')) (HM3 : Hid (∀ W, Calls Try.prog 12 #[.int .i64 w, .int .u64 x, .int .i64 3] W fun r W' => r = .returned (.int .u64 V3) ∧ Below W.heap.size W W')) (HM4 : Hid (∀ W, Calls Try.prog 12 #[.int .i64 w, .int .u64 x, .int .i64 4] W fun r W' => r = .returned (.int .u64 V4) ∧ Below W.heap.size W W')) (z : Nat) (HO : Hid (∀ W, Calls Try.prog 14 #[.int .i64 w, .int .u64 x] W fun r W' => r = .returned (.agg #[.bool n1, .int .i64 K1, .int .i64 X1, .int .u64 S1]) ∧ Below W.heap.size W W')) (k1 : (K1 == 1) = true) (k2 : K1 < 2) (HD : Hid (∀ W, Calls Try.prog 15 #[.agg #[.bool n1, .int .i64 K1, .int .i64 X1, .int .u64 S1]] W fun e w' => ∃ s, e = .returned (.tuple #[.agg #[s], .int .i64 h, .bool l]) ∧ IsNat w' s z ∧ Below W.heap.size W w')) (HI : Hid (∀ W, Calls Try.prog 13 #[.int .i64 w, .int .u64 x] W fun r W' => r = .returned (.bool (!l)) ∧ Below W.heap.size W W')) :
    Calls Try.prog 3 #[.int .i64 w, .int .u64 x] W fun r W' => r = .returned (.bool true) ∧ Below W.heap.size W W' := by
  go_enter Try.func3, Try.ntmps3
  go_wp2_with fail
  refine (unhide HW _).mono ?_
  rintro _ w1 ⟨rfl, hb⟩
  have HB := hide hb
  clear hb
  go_wp2_with fail
  refine (unhide HC1 _).mono ?_
  rintro _ w2 ⟨rfl, hb⟩
  have HB := hide (bthen (unhide HB) hb)
  clear hb
  go_wp2_with fail
  refine (unhide HC2 _).mono ?_
  rintro _ w3 ⟨rfl, hb⟩
  have HB := hide (bthen (unhide HB) hb)
  clear hb
  go_wp2_with fail
  refine (unhide HC3 _).mono ?_
  rintro _ w4 ⟨rfl, hb⟩
  have HB := hide (bthen (unhide HB) hb)
  clear hb
  go_wp2_with fail
  refine (unhide HC4 _).mono ?_
  rintro _ w5 ⟨rfl, hb⟩
  have HB := hide (bthen (unhide HB) hb)
  clear hb
  go_wp2_with fail
  refine (unhide HK _).mono ?_
  rintro _ w6 ⟨rfl, hb⟩
  have HA := hide ((at4_new w5 (.int .u64 V1) (.int .u64 V2) (.int .u64 V3) (.int .u64 V4) _).below hb)
  have HB := hide (bthen (balloc (unhide HB) _) hb)
  clear hb
  obtain ⟨c0, c1, c2, c3⟩ := unhide HA
  go_wp2_with fail
  refine wp_loop_rounds 5 ?_
  rw [rounds_succ]
  go_wp2_with fail
  clear c0 c1 c2 c3
  refine (unhide HM1 _).mono ?_
  rintro _ w7 ⟨rfl, hb⟩
  have HB := hide (bthen (unhide HB) hb)
  have HA := hide ((unhide HA).below hb)
  clear hb
  obtain ⟨c0, c1, c2, c3⟩ := unhide HA
  go_wp2_with fail
  rw [rounds_succ]
  go_wp2_with fail
  clear c0 c1 c2 c3
  refine (unhide HM2 _).mono ?_
  rintro _ w8 ⟨rfl, hb⟩
  have HB := hide (bthen (unhide HB) hb)
  have HA := hide ((unhide HA).below hb)
  clear hb
  obtain ⟨c0, c1, c2, c3⟩ := unhide HA
  go_wp2_with fail
  rw [rounds_succ]
  go_wp2_with fail
  clear c0 c1 c2 c3
  refine (unhide HM3 _).mono ?_
  rintro _ w9 ⟨rfl, hb⟩
  have HB := hide (bthen (unhide HB) hb)
  have HA := hide ((unhide HA).below hb)
  clear hb
  obtain ⟨c0, c1, c2, c3⟩ := unhide HA
  go_wp2_with fail
  rw [rounds_succ]
  go_wp2_with fail
  clear c0 c1 c2 c3
  refine (unhide HM4 _).mono ?_
  rintro _ w10 ⟨rfl, hb⟩
  have HB := hide (bthen (unhide HB) hb)
  have HA := hide ((unhide HA).below hb)
  clear hb
  obtain ⟨c0, c1, c2, c3⟩ := unhide HA
  go_wp2_with fail
  rw [rounds_succ]
  go_wp2_with fail
  clear c0 c1 c2 c3
  refine (unhide HO _).mono ?_
  rintro _ w11 ⟨rfl, hb⟩
  have HB := hide (balloc (bthen (unhide HB) hb) (.cells #[.bool n1, .int .i64 K1, .int .i64 X1, .int .u64 S1] 30))
  have HP := hide (at4_new w11 (.bool n1) (.int .i64 K1) (.int .i64 X1) (.int .u64 S1) 30)
  clear hb HA
  obtain ⟨c0, c1, c2, c3⟩ := unhide HP
  go_wp2_with fail
  clear c0 c1 c2 c3
  refine (unhide HD _).mono ?_
  rintro _ w12 ⟨s12, rfl, hN, hb⟩
  obtain ⟨a12, m12, c12, rfl⟩ := hN.slice
  have HB := hide (bthen (unhide HB) hb)
  have HP := hide ((unhide HP).below hb)
  clear hb hN
  go_wp2_with fail
  have HB := hide (unhide HB).drew
  have HP := hide ((unhide HP).below ((Below.refl _ _).drew))
  refine wp_region_held_drew (S := fun w' => (w'.cell? ⟨w11.heap.size, 0, none⟩ = some (.bool n1) ∧ w'.cell? ⟨w11.heap.size, 1, none⟩ = some (.int .i64 K1) ∧ w'.cell? ⟨w11.heap.size, 2, none⟩ = some (.int .i64 X1) ∧ w'.cell? ⟨w11.heap.size, 3, none⟩ = some (.int .u64 S1))) (by kernel_rfl) ?_ (fun hHeld => ?_)
  · (try dsimp only)
    exact unhide HP
  refine lst0 12 (by kernel_rfl) ?_
  refine tkH 0 72 1 ?v0 rfl (by kernel_rfl) (by kernel_rfl) (fun _ _ _ h => h) (by assumption) (Or.inl ⟨by rfl, ?y0⟩) ?_
  case y0 => ((intro w hSw; (try dsimp only at hSw); go_simp) <;> with_reducible rfl)
  (try simp only [Act.put, List.setIfInBounds_toArray, List.set_cons_zero, List.set_cons_succ])
  refine tkH 1 73 3 ?v1 rfl (by kernel_rfl) (by kernel_rfl) (fun _ _ _ h => h) (by assumption) (Or.inl ⟨by rfl, ?y1⟩) ?_
  case y1 => ((intro w hSw; (try dsimp only at hSw); go_simp) <;> with_reducible rfl)
  (try simp only [Act.put, List.setIfInBounds_toArray, List.set_cons_zero, List.set_cons_succ])
  refine tkH 3 75 11 ?v3 rfl (by kernel_rfl) (by kernel_rfl) (fun _ _ _ h => h) (by assumption) (Or.inl ⟨by rfl, ?y3⟩) ?_
  case y3 => ((intro w hSw; (try dsimp only at hSw); go_simp) <;> with_reducible rfl)
  (try simp only [Act.put, List.setIfInBounds_toArray, List.set_cons_zero, List.set_cons_succ])
  refine tkH 4 76 27 ?v4 rfl (by kernel_rfl) (by kernel_rfl) (fun _ _ _ h => h) (by assumption) (Or.inl ⟨by rfl, ?y4⟩) ?_
  case y4 => ((intro w hSw; (try dsimp only at hSw); go_simp) <;> with_reducible rfl)
  (try simp only [Act.put, List.setIfInBounds_toArray, List.set_cons_zero, List.set_cons_succ])
  refine tkH 5 77 59 ?v5 rfl (by kernel_rfl) (by kernel_rfl) (fun _ _ _ h => h) (by assumption) (Or.inl ⟨by rfl, ?y5⟩) ?_
  case y5 => ((intro w hSw; (try dsimp only at hSw); go_simp) <;> with_reducible rfl)
  (try simp only [Act.put, List.setIfInBounds_toArray, List.set_cons_zero, List.set_cons_succ])
  refine rdH 2 63 rfl (by kernel_rfl) (by kernel_rfl) (fun Kk hKk => ?_)
  go_simp
  refine (unhide HI _).mono ?_
  rintro _ w13 ⟨rfl, hbl⟩
  have HB := hide (bthen (unhide HB) hbl)
  have HP := hide ((unhide HP).below hbl)
  clear hbl
  (try go_wp2_with fail)
  refine hKk.out _ _ ?_ (fun hHeld => ?_)
  · (try dsimp only)
    exact unhide HP
  clear hKk Kk
  (try simp only [List.setIfInBounds_toArray, List.set_cons_zero, List.set_cons_succ])
  refine tkH 6 78 127 ?v6 rfl (by kernel_rfl) (by kernel_rfl) (fun _ _ _ h => h) (by assumption) (Or.inl ⟨by rfl, ?y6⟩) ?_
  case y6 => ((intro w hSw; (try dsimp only at hSw); go_simp) <;> with_reducible rfl)
  (try simp only [Act.put, List.setIfInBounds_toArray, List.set_cons_zero, List.set_cons_succ])
  refine tkH 7 79 255 ?v7 rfl (by kernel_rfl) (by kernel_rfl) (fun _ _ _ h => h) (by assumption) (Or.inl ⟨by rfl, ?y7⟩) ?_
  case y7 => ((intro w hSw; (try dsimp only at hSw); go_simp) <;> with_reducible rfl)
  (try simp only [Act.put, List.setIfInBounds_toArray, List.set_cons_zero, List.set_cons_succ])
  refine tkH 8 80 511 ?v8 rfl (by kernel_rfl) (by kernel_rfl) (fun _ _ _ h => h) (by assumption) (Or.inl ⟨by rfl, ?y8⟩) ?_
  case y8 => ((intro w hSw; (try dsimp only at hSw); go_simp) <;> with_reducible rfl)
  (try simp only [Act.put, List.setIfInBounds_toArray, List.set_cons_zero, List.set_cons_succ])
  refine tkH 9 81 1023 ?v9 rfl (by kernel_rfl) (by kernel_rfl) (fun _ _ _ h => h) (by assumption) (Or.inl ⟨by rfl, ?y9⟩) ?_
  case y9 => ((intro w hSw; (try dsimp only at hSw); go_simp) <;> with_reducible rfl)
  (try simp only [Act.put, List.setIfInBounds_toArray, List.set_cons_zero, List.set_cons_succ])
  refine tkH 10 82 2047 ?v10 rfl (by kernel_rfl) (by kernel_rfl) (fun _ _ _ h => h) (by assumption) (Or.inl ⟨by rfl, ?y10⟩) ?_
  case y10 => ((intro w hSw; (try dsimp only at hSw); go_simp) <;> with_reducible rfl)
  (try simp only [Act.put, List.setIfInBounds_toArray, List.set_cons_zero, List.set_cons_succ])
  refine tkH 11 4 4095 ?v11 rfl (by kernel_rfl) (by kernel_rfl) (fun _ _ _ h => h) (by assumption) (Or.inl ⟨by rfl, ?y11⟩) ?_
  case y11 => ((intro w hSw; (try dsimp only at hSw); go_simp) <;> with_reducible rfl)
  (try simp only [Act.put, List.setIfInBounds_toArray, List.set_cons_zero, List.set_cons_succ])
  refine wpAnyH_done (by kernel_rfl) ?_ _
  go_wp2
  go_ret
  exact ⟨by simp, unhide HB⟩
set_option maxRecDepth 100000 in
set_option maxHeartbeats 2000000 in
theorem makes_z {w x V1 V2 V3 V4 K1 X1 S1 : Int} {n1 : Bool} (W : World) (HW : Hid (∀ W, Calls Try.prog 6 #[] W fun r W' => r = .returned (.bool true) ∧ Below W.heap.size W W')) (HC1 : Hid (∀ W, Calls Try.prog 7 #[.int .i64 w, .int .u64 x] W fun r W' => r = .returned (.int .u64 V1) ∧ Below W.heap.size W W')) (HC2 : Hid (∀ W, Calls Try.prog 8 #[.int .i64 w, .int .u64 x] W fun r W' => r = .returned (.int .u64 V2) ∧ Below W.heap.size W W')) (HC3 : Hid (∀ W, Calls Try.prog 9 #[.int .i64 w, .int .u64 x] W fun r W' => r = .returned (.int .u64 V3) ∧ Below W.heap.size W W')) (HC4 : Hid (∀ W, Calls Try.prog 10 #[.int .i64 w, .int .u64 x] W fun r W' => r = .returned (.int .u64 V4) ∧ Below W.heap.size W W')) (HK : Hid (∀ W, Calls Try.prog 11 #[.int .i64 w] W fun r W' => r = .returned (.bool true) ∧ Below W.heap.size W W')) (HM1 : Hid (∀ W, Calls Try.prog 12 #[.int .i64 w, .int .u64 x, .int .i64 1] W fun r W' => r = .returned (.int .u64 V1) ∧ Below W.heap.size W W')) (HM2 : Hid (∀ W, Calls Try.prog 12 #[.int .i64 w, .int .u64 x, .int .i64 2] W fun r W' => r = .returned (.int .u64 V2) ∧ Below W.heap.size W W')) (HM3 : Hid (∀ W, Calls Try.prog 12 #[.int .i64 w, .int .u64 x, .int .i64 3] W fun r W' => r = .returned (.int .u64 V3) ∧ Below W.heap.size W W')) (HM4 : Hid (∀ W, Calls Try.prog 12 #[.int .i64 w, .int .u64 x, .int .i64 4] W fun r W' => r = .returned (.int .u64 V4) ∧ Below W.heap.size W W')) (HO : Hid (∀ W, Calls Try.prog 14 #[.int .i64 w, .int .u64 x] W fun r W' => r = .returned (.agg #[.bool n1, .int .i64 K1, .int .i64 X1, .int .u64 S1]) ∧ Below W.heap.size W W')) (k1 : (K1 == 1) = false) (k2 : K1 < 2) (HI : Hid (∀ W, Calls Try.prog 13 #[.int .i64 w, .int .u64 x] W fun r W' => r = .returned (.bool true) ∧ Below W.heap.size W W')) :
    Calls Try.prog 3 #[.int .i64 w, .int .u64 x] W fun r W' => r = .returned (.bool true) ∧ Below W.heap.size W W' := by
  go_enter Try.func3, Try.ntmps3
  go_wp2_with fail
  refine (unhide HW _).mono ?_
  rintro _ w1 ⟨rfl, hb⟩
  have HB := hide hb
  clear hb
  go_wp2_with fail
  refine (unhide HC1 _).mono ?_
  rintro _ w2 ⟨rfl, hb⟩
  have HB := hide (bthen (unhide HB) hb)
  clear hb
  go_wp2_with fail
  refine (unhide HC2 _).mono ?_
  rintro _ w3 ⟨rfl, hb⟩
  have HB := hide (bthen (unhide HB) hb)
  clear hb
  go_wp2_with fail
  refine (unhide HC3 _).mono ?_
  rintro _ w4 ⟨rfl, hb⟩
  have HB := hide (bthen (unhide HB) hb)
  clear hb
  go_wp2_with fail
  refine (unhide HC4 _).mono ?_
  rintro _ w5 ⟨rfl, hb⟩
  have HB := hide (bthen (unhide HB) hb)
  clear hb
  go_wp2_with fail
  refine (unhide HK _).mono ?_
  rintro _ w6 ⟨rfl, hb⟩
  have HA := hide ((at4_new w5 (.int .u64 V1) (.int .u64 V2) (.int .u64 V3) (.int .u64 V4) _).below hb)
  have HB := hide (bthen (balloc (unhide HB) _) hb)
  clear hb
  obtain ⟨c0, c1, c2, c3⟩ := unhide HA
  go_wp2_with fail
  refine wp_loop_rounds 5 ?_
  rw [rounds_succ]
  go_wp2_with fail
  clear c0 c1 c2 c3
  refine (unhide HM1 _).mono ?_
  rintro _ w7 ⟨rfl, hb⟩
  have HB := hide (bthen (unhide HB) hb)
  have HA := hide ((unhide HA).below hb)
  clear hb
  obtain ⟨c0, c1, c2, c3⟩ := unhide HA
  go_wp2_with fail
  rw [rounds_succ]
  go_wp2_with fail
  clear c0 c1 c2 c3
  refine (unhide HM2 _).mono ?_
  rintro _ w8 ⟨rfl, hb⟩
  have HB := hide (bthen (unhide HB) hb)
  have HA := hide ((unhide HA).below hb)
  clear hb
  obtain ⟨c0, c1, c2, c3⟩ := unhide HA
  go_wp2_with fail
  rw [rounds_succ]
  go_wp2_with fail
  clear c0 c1 c2 c3
  refine (unhide HM3 _).mono ?_
  rintro _ w9 ⟨rfl, hb⟩
  have HB := hide (bthen (unhide HB) hb)
  have HA := hide ((unhide HA).below hb)
  clear hb
  obtain ⟨c0, c1, c2, c3⟩ := unhide HA
  go_wp2_with fail
  rw [rounds_succ]
  go_wp2_with fail
  clear c0 c1 c2 c3
  refine (unhide HM4 _).mono ?_
  rintro _ w10 ⟨rfl, hb⟩
  have HB := hide (bthen (unhide HB) hb)
  have HA := hide ((unhide HA).below hb)
  clear hb
  obtain ⟨c0, c1, c2, c3⟩ := unhide HA
  go_wp2_with fail
  rw [rounds_succ]
  go_wp2_with fail
  clear c0 c1 c2 c3
  refine (unhide HO _).mono ?_
  rintro _ w11 ⟨rfl, hb⟩
  have HB := hide (balloc (bthen (unhide HB) hb) (.cells #[.bool n1, .int .i64 K1, .int .i64 X1, .int .u64 S1] 30))
  have HP := hide (at4_new w11 (.bool n1) (.int .i64 K1) (.int .i64 X1) (.int .u64 S1) 30)
  clear hb HA
  obtain ⟨c0, c1, c2, c3⟩ := unhide HP
  go_wp2_with fail
  clear c0 c1 c2 c3
  have HB := hide (unhide HB).drew
  have HP := hide ((unhide HP).below ((Below.refl _ _).drew))
  refine wp_region_held_drew (S := fun w' => (w'.cell? ⟨w11.heap.size, 0, none⟩ = some (.bool n1) ∧ w'.cell? ⟨w11.heap.size, 1, none⟩ = some (.int .i64 K1) ∧ w'.cell? ⟨w11.heap.size, 2, none⟩ = some (.int .i64 X1) ∧ w'.cell? ⟨w11.heap.size, 3, none⟩ = some (.int .u64 S1))) (by kernel_rfl) ?_ (fun hHeld => ?_)
  · (try dsimp only)
    exact unhide HP
  refine lst0 12 (by kernel_rfl) ?_
  refine tkH 0 72 1 ?v0 rfl (by kernel_rfl) (by kernel_rfl) (fun _ _ _ h => h) (by assumption) (Or.inl ⟨by rfl, ?y0⟩) ?_
  case y0 => ((intro w hSw; (try dsimp only at hSw); go_simp) <;> with_reducible rfl)
  (try simp only [Act.put, List.setIfInBounds_toArray, List.set_cons_zero, List.set_cons_succ])
  refine tkH 1 73 3 ?v1 rfl (by kernel_rfl) (by kernel_rfl) (fun _ _ _ h => h) (by assumption) (Or.inl ⟨by rfl, ?y1⟩) ?_
  case y1 => ((intro w hSw; (try dsimp only at hSw); go_simp) <;> with_reducible rfl)
  (try simp only [Act.put, List.setIfInBounds_toArray, List.set_cons_zero, List.set_cons_succ])
  refine tkH 3 75 11 ?v3 rfl (by kernel_rfl) (by kernel_rfl) (fun _ _ _ h => h) (by assumption) (Or.inl ⟨by rfl, ?y3⟩) ?_
  case y3 => ((intro w hSw; (try dsimp only at hSw); go_simp) <;> with_reducible rfl)
  (try simp only [Act.put, List.setIfInBounds_toArray, List.set_cons_zero, List.set_cons_succ])
  refine tkH 4 76 27 ?v4 rfl (by kernel_rfl) (by kernel_rfl) (fun _ _ _ h => h) (by assumption) (Or.inl ⟨by rfl, ?y4⟩) ?_
  case y4 => ((intro w hSw; (try dsimp only at hSw); go_simp) <;> with_reducible rfl)
  (try simp only [Act.put, List.setIfInBounds_toArray, List.set_cons_zero, List.set_cons_succ])
  refine tkH 5 77 59 ?v5 rfl (by kernel_rfl) (by kernel_rfl) (fun _ _ _ h => h) (by assumption) (Or.inl ⟨by rfl, ?y5⟩) ?_
  case y5 => ((intro w hSw; (try dsimp only at hSw); go_simp) <;> with_reducible rfl)
  (try simp only [Act.put, List.setIfInBounds_toArray, List.set_cons_zero, List.set_cons_succ])
  refine rdH 2 63 rfl (by kernel_rfl) (by kernel_rfl) (fun Kk hKk => ?_)
  go_simp
  refine (unhide HI _).mono ?_
  rintro _ w13 ⟨rfl, hbl⟩
  have HB := hide (bthen (unhide HB) hbl)
  have HP := hide ((unhide HP).below hbl)
  clear hbl
  (try go_wp2_with fail)
  refine hKk.out _ _ ?_ (fun hHeld => ?_)
  · (try dsimp only)
    exact unhide HP
  clear hKk Kk
  (try simp only [List.setIfInBounds_toArray, List.set_cons_zero, List.set_cons_succ])
  refine tkH 6 78 127 ?v6 rfl (by kernel_rfl) (by kernel_rfl) (fun _ _ _ h => h) (by assumption) (Or.inl ⟨by rfl, ?y6⟩) ?_
  case y6 => ((intro w hSw; (try dsimp only at hSw); go_simp) <;> with_reducible rfl)
  (try simp only [Act.put, List.setIfInBounds_toArray, List.set_cons_zero, List.set_cons_succ])
  refine tkH 7 79 255 ?v7 rfl (by kernel_rfl) (by kernel_rfl) (fun _ _ _ h => h) (by assumption) (Or.inl ⟨by rfl, ?y7⟩) ?_
  case y7 => ((intro w hSw; (try dsimp only at hSw); go_simp) <;> with_reducible rfl)
  (try simp only [Act.put, List.setIfInBounds_toArray, List.set_cons_zero, List.set_cons_succ])
  refine tkH 8 80 511 ?v8 rfl (by kernel_rfl) (by kernel_rfl) (fun _ _ _ h => h) (by assumption) (Or.inl ⟨by rfl, ?y8⟩) ?_
  case y8 => ((intro w hSw; (try dsimp only at hSw); go_simp) <;> with_reducible rfl)
  (try simp only [Act.put, List.setIfInBounds_toArray, List.set_cons_zero, List.set_cons_succ])
  refine tkH 9 81 1023 ?v9 rfl (by kernel_rfl) (by kernel_rfl) (fun _ _ _ h => h) (by assumption) (Or.inl ⟨by rfl, ?y9⟩) ?_
  case y9 => ((intro w hSw; (try dsimp only at hSw); go_simp) <;> with_reducible rfl)
  (try simp only [Act.put, List.setIfInBounds_toArray, List.set_cons_zero, List.set_cons_succ])
  refine tkH 10 82 2047 ?v10 rfl (by kernel_rfl) (by kernel_rfl) (fun _ _ _ h => h) (by assumption) (Or.inl ⟨by rfl, ?y10⟩) ?_
  case y10 => ((intro w hSw; (try dsimp only at hSw); go_simp) <;> with_reducible rfl)
  (try simp only [Act.put, List.setIfInBounds_toArray, List.set_cons_zero, List.set_cons_succ])
  refine tkH 11 4 4095 ?v11 rfl (by kernel_rfl) (by kernel_rfl) (fun _ _ _ h => h) (by assumption) (Or.inl ⟨by rfl, ?y11⟩) ?_
  case y11 => ((intro w hSw; (try dsimp only at hSw); go_simp) <;> with_reducible rfl)
  (try simp only [Act.put, List.setIfInBounds_toArray, List.set_cons_zero, List.set_cons_succ])
  refine wpAnyH_done (by kernel_rfl) ?_ _
  go_wp2
  go_ret
  exact ⟨by simp, unhide HB⟩
set_option maxRecDepth 100000 in
set_option maxHeartbeats 2000000 in
theorem makes_n {w x V1 V2 V3 V4 K1 X1 S1 : Int} {n1 : Bool} (W : World) (HW : Hid (∀ W, Calls Try.prog 6 #[] W fun r W' => r = .returned (.bool true) ∧ Below W.heap.size W W')) (HC1 : Hid (∀ W, Calls Try.prog 7 #[.int .i64 w, .int .u64 x] W fun r W' => r = .returned (.int .u64 V1) ∧ Below W.heap.size W W')) (HC2 : Hid (∀ W, Calls Try.prog 8 #[.int .i64 w, .int .u64 x] W fun r W' => r = .returned (.int .u64 V2) ∧ Below W.heap.size W W')) (HC3 : Hid (∀ W, Calls Try.prog 9 #[.int .i64 w, .int .u64 x] W fun r W' => r = .returned (.int .u64 V3) ∧ Below W.heap.size W W')) (HC4 : Hid (∀ W, Calls Try.prog 10 #[.int .i64 w, .int .u64 x] W fun r W' => r = .returned (.int .u64 V4) ∧ Below W.heap.size W W')) (HK : Hid (∀ W, Calls Try.prog 11 #[.int .i64 w] W fun r W' => r = .returned (.bool true) ∧ Below W.heap.size W W')) (HM1 : Hid (∀ W, Calls Try.prog 12 #[.int .i64 w, .int .u64 x, .int .i64 1] W fun r W' => r = .returned (.int .u64 V1) ∧ Below W.heap.size W W')) (HM2 : Hid (∀ W, Calls Try.prog 12 #[.int .i64 w, .int .u64 x, .int .i64 2] W fun r W' => r = .returned (.int .u64 V2) ∧ Below W.heap.size W W')) (HM3 : Hid (∀ W, Calls Try.prog 12 #[.int .i64 w, .int .u64 x, .int .i64 3] W fun r W' => r = .returned (.int .u64 V3) ∧ Below W.heap.size W W')) (HM4 : Hid (∀ W, Calls Try.prog 12 #[.int .i64 w, .int .u64 x, .int .i64 4] W fun r W' => r = .returned (.int .u64 V4) ∧ Below W.heap.size W W')) (HO : Hid (∀ W, Calls Try.prog 14 #[.int .i64 w, .int .u64 x] W fun r W' => r = .returned (.agg #[.bool n1, .int .i64 K1, .int .i64 X1, .int .u64 S1]) ∧ Below W.heap.size W W')) (k1 : (K1 == 1) = false) (k2 : decide (K1 < 2) = false) (HI : Hid (∀ W, Calls Try.prog 13 #[.int .i64 w, .int .u64 x] W fun r W' => r = .returned (.bool false) ∧ Below W.heap.size W W')) :
    Calls Try.prog 3 #[.int .i64 w, .int .u64 x] W fun r W' => r = .returned (.bool true) ∧ Below W.heap.size W W' := by
  go_enter Try.func3, Try.ntmps3
  go_wp2_with fail
  refine (unhide HW _).mono ?_
  rintro _ w1 ⟨rfl, hb⟩
  have HB := hide hb
  clear hb
  go_wp2_with fail
  refine (unhide HC1 _).mono ?_
  rintro _ w2 ⟨rfl, hb⟩
  have HB := hide (bthen (unhide HB) hb)
  clear hb
  go_wp2_with fail
  refine (unhide HC2 _).mono ?_
  rintro _ w3 ⟨rfl, hb⟩
  have HB := hide (bthen (unhide HB) hb)
  clear hb
  go_wp2_with fail
  refine (unhide HC3 _).mono ?_
  rintro _ w4 ⟨rfl, hb⟩
  have HB := hide (bthen (unhide HB) hb)
  clear hb
  go_wp2_with fail
  refine (unhide HC4 _).mono ?_
  rintro _ w5 ⟨rfl, hb⟩
  have HB := hide (bthen (unhide HB) hb)
  clear hb
  go_wp2_with fail
  refine (unhide HK _).mono ?_
  rintro _ w6 ⟨rfl, hb⟩
  have HA := hide ((at4_new w5 (.int .u64 V1) (.int .u64 V2) (.int .u64 V3) (.int .u64 V4) _).below hb)
  have HB := hide (bthen (balloc (unhide HB) _) hb)
  clear hb
  obtain ⟨c0, c1, c2, c3⟩ := unhide HA
  go_wp2_with fail
  refine wp_loop_rounds 5 ?_
  rw [rounds_succ]
  go_wp2_with fail
  clear c0 c1 c2 c3
  refine (unhide HM1 _).mono ?_
  rintro _ w7 ⟨rfl, hb⟩
  have HB := hide (bthen (unhide HB) hb)
  have HA := hide ((unhide HA).below hb)
  clear hb
  obtain ⟨c0, c1, c2, c3⟩ := unhide HA
  go_wp2_with fail
  rw [rounds_succ]
  go_wp2_with fail
  clear c0 c1 c2 c3
  refine (unhide HM2 _).mono ?_
  rintro _ w8 ⟨rfl, hb⟩
  have HB := hide (bthen (unhide HB) hb)
  have HA := hide ((unhide HA).below hb)
  clear hb
  obtain ⟨c0, c1, c2, c3⟩ := unhide HA
  go_wp2_with fail
  rw [rounds_succ]
  go_wp2_with fail
  clear c0 c1 c2 c3
  refine (unhide HM3 _).mono ?_
  rintro _ w9 ⟨rfl, hb⟩
  have HB := hide (bthen (unhide HB) hb)
  have HA := hide ((unhide HA).below hb)
  clear hb
  obtain ⟨c0, c1, c2, c3⟩ := unhide HA
  go_wp2_with fail
  rw [rounds_succ]
  go_wp2_with fail
  clear c0 c1 c2 c3
  refine (unhide HM4 _).mono ?_
  rintro _ w10 ⟨rfl, hb⟩
  have HB := hide (bthen (unhide HB) hb)
  have HA := hide ((unhide HA).below hb)
  clear hb
  obtain ⟨c0, c1, c2, c3⟩ := unhide HA
  go_wp2_with fail
  rw [rounds_succ]
  go_wp2_with fail
  clear c0 c1 c2 c3
  refine (unhide HO _).mono ?_
  rintro _ w11 ⟨rfl, hb⟩
  have HB := hide (balloc (bthen (unhide HB) hb) (.cells #[.bool n1, .int .i64 K1, .int .i64 X1, .int .u64 S1] 30))
  have HP := hide (at4_new w11 (.bool n1) (.int .i64 K1) (.int .i64 X1) (.int .u64 S1) 30)
  clear hb HA
  obtain ⟨c0, c1, c2, c3⟩ := unhide HP
  go_wp2_with fail
  clear c0 c1 c2 c3
  have HB := hide (unhide HB).drew
  have HP := hide ((unhide HP).below ((Below.refl _ _).drew))
  refine wp_region_held_drew (S := fun w' => (w'.cell? ⟨w11.heap.size, 0, none⟩ = some (.bool n1) ∧ w'.cell? ⟨w11.heap.size, 1, none⟩ = some (.int .i64 K1) ∧ w'.cell? ⟨w11.heap.size, 2, none⟩ = some (.int .i64 X1) ∧ w'.cell? ⟨w11.heap.size, 3, none⟩ = some (.int .u64 S1))) (by kernel_rfl) ?_ (fun hHeld => ?_)
  · (try dsimp only)
    exact unhide HP
  refine lst0 12 (by kernel_rfl) ?_
  refine tkH 0 72 1 ?v0 rfl (by kernel_rfl) (by kernel_rfl) (fun _ _ _ h => h) (by assumption) (Or.inl ⟨by rfl, ?y0⟩) ?_
  case y0 => ((intro w hSw; (try dsimp only at hSw); go_simp) <;> with_reducible rfl)
  (try simp only [Act.put, List.setIfInBounds_toArray, List.set_cons_zero, List.set_cons_succ])
  refine tkH 1 73 3 ?v1 rfl (by kernel_rfl) (by kernel_rfl) (fun _ _ _ h => h) (by assumption) (Or.inl ⟨by rfl, ?y1⟩) ?_
  case y1 => ((intro w hSw; (try dsimp only at hSw); go_simp) <;> with_reducible rfl)
  (try simp only [Act.put, List.setIfInBounds_toArray, List.set_cons_zero, List.set_cons_succ])
  refine tkH 3 75 11 ?v3 rfl (by kernel_rfl) (by kernel_rfl) (fun _ _ _ h => h) (by assumption) (Or.inl ⟨by rfl, ?y3⟩) ?_
  case y3 => ((intro w hSw; (try dsimp only at hSw); go_simp) <;> with_reducible rfl)
  (try simp only [Act.put, List.setIfInBounds_toArray, List.set_cons_zero, List.set_cons_succ])
  refine tkH 4 76 27 ?v4 rfl (by kernel_rfl) (by kernel_rfl) (fun _ _ _ h => h) (by assumption) (Or.inl ⟨by rfl, ?y4⟩) ?_
  case y4 => ((intro w hSw; (try dsimp only at hSw); go_simp) <;> with_reducible rfl)
  (try simp only [Act.put, List.setIfInBounds_toArray, List.set_cons_zero, List.set_cons_succ])
  refine tkH 5 77 59 ?v5 rfl (by kernel_rfl) (by kernel_rfl) (fun _ _ _ h => h) (by assumption) (Or.inl ⟨by rfl, ?y5⟩) ?_
  case y5 => ((intro w hSw; (try dsimp only at hSw); go_simp) <;> with_reducible rfl)
  (try simp only [Act.put, List.setIfInBounds_toArray, List.set_cons_zero, List.set_cons_succ])
  refine rdH 2 63 rfl (by kernel_rfl) (by kernel_rfl) (fun Kk hKk => ?_)
  go_simp
  refine (unhide HI _).mono ?_
  rintro _ w13 ⟨rfl, hbl⟩
  have HB := hide (bthen (unhide HB) hbl)
  have HP := hide ((unhide HP).below hbl)
  clear hbl
  (try go_wp2_with fail)
  refine hKk.out _ _ ?_ (fun hHeld => ?_)
  · (try dsimp only)
    exact unhide HP
  clear hKk Kk
  (try simp only [List.setIfInBounds_toArray, List.set_cons_zero, List.set_cons_succ])
  refine tkH 6 78 127 ?v6 rfl (by kernel_rfl) (by kernel_rfl) (fun _ _ _ h => h) (by assumption) (Or.inl ⟨by rfl, ?y6⟩) ?_
  case y6 => ((intro w hSw; (try dsimp only at hSw); go_simp) <;> with_reducible rfl)
  (try simp only [Act.put, List.setIfInBounds_toArray, List.set_cons_zero, List.set_cons_succ])
  refine tkH 7 79 255 undef rfl (by kernel_rfl) (by kernel_rfl) (fun _ _ _ h => h) (by assumption) (Or.inr ⟨by rfl, rfl⟩) ?_
  (try simp only [Act.put, List.setIfInBounds_toArray, List.set_cons_zero, List.set_cons_succ])
  refine tkH 8 80 511 undef rfl (by kernel_rfl) (by kernel_rfl) (fun _ _ _ h => h) (by assumption) (Or.inr ⟨by rfl, rfl⟩) ?_
  (try simp only [Act.put, List.setIfInBounds_toArray, List.set_cons_zero, List.set_cons_succ])
  refine tkH 9 81 1023 ?v9 rfl (by kernel_rfl) (by kernel_rfl) (fun _ _ _ h => h) (by assumption) (Or.inl ⟨by rfl, ?y9⟩) ?_
  case y9 => ((intro w hSw; (try dsimp only at hSw); go_simp) <;> with_reducible rfl)
  (try simp only [Act.put, List.setIfInBounds_toArray, List.set_cons_zero, List.set_cons_succ])
  refine tkH 10 82 2047 ?v10 rfl (by kernel_rfl) (by kernel_rfl) (fun _ _ _ h => h) (by assumption) (Or.inl ⟨by rfl, ?y10⟩) ?_
  case y10 => ((intro w hSw; (try dsimp only at hSw); go_simp) <;> with_reducible rfl)
  (try simp only [Act.put, List.setIfInBounds_toArray, List.set_cons_zero, List.set_cons_succ])
  refine tkH 11 4 4095 ?v11 rfl (by kernel_rfl) (by kernel_rfl) (fun _ _ _ h => h) (by assumption) (Or.inl ⟨by rfl, ?y11⟩) ?_
  case y11 => ((intro w hSw; (try dsimp only at hSw); go_simp) <;> with_reducible rfl)
  (try simp only [Act.put, List.setIfInBounds_toArray, List.set_cons_zero, List.set_cons_succ])
  refine wpAnyH_done (by kernel_rfl) ?_ _
  go_wp2
  go_ret
  exact ⟨by simp, unhide HB⟩

end Go.Proofs.Ytepdmpcgkecjiaa
namespace Go.Proofs.Ytepdmpcgkecjiaa
open Go.RowKit
open Go.Proofs.Ytepdmpcgkecjiaa.W

theorem low_le {w e f P Q b : Int} (k : Kd w e f P Q b) : lowN f b ≤ Z5 := by
  rcases k with ⟨-, -, rfl, -, -, rfl⟩ | ⟨-, -, rfl, -, -, rfl⟩ <;> decide +kernel
theorem top_code {w e f P Q b : Int} (k : Kd w e f P Q b) : (((Z5 - lowN f b) * 2 ^ f.toNat + 2 ^ f.toNat : Nat) : Int) < top P Q := by
  rcases k with ⟨-, -, rfl, rfl, rfl, rfl⟩ | ⟨-, -, rfl, rfl, rfl, rfl⟩ <;> decide +kernel
theorem lt_fval {f L c d : Nat} (h : fval f L c < fval f L d) : c < d := by
  refine Decidable.byContradiction fun hc => ?_
  have := (fval_le (f := f) (L := L) (c := d) (d := c)).mpr (by omega)
  omega
theorem wr_whole (m : Nat) : wr (m * 2 ^ Z5) = 0 := Nat.mul_mod_left _ _
theorem whole_code {w e f P Q b : Int} (k : Kd w e f P Q b) (m : Nat) (hm : m ≤ 2 ^ f.toNat) :
    ∃ c : Nat, fval f.toNat (lowN f b) c = m * 2 ^ Z5 ∧ (c : Int) < top P Q ∧ ∀ n, rd f P Q b n (m * 2 ^ Z5) = fl f P Q n c := by
  have hp := Nat.two_pow_pos f.toNat
  have h2 : 2 ^ (f.toNat + 1) = 2 ^ f.toNat * 2 := Nat.pow_succ _ _
  obtain ⟨c, hc⟩ := rep_k (f := f.toNat) (L := lowN f b) (s := m) (k := Z5) (by omega) (low_le k)
  have hd := fval_norm f.toNat (lowN f b) (2 ^ f.toNat) Z5 (by omega) (low_le k) (fun _ => Nat.le_refl _)
  have hle : c ≤ (Z5 - lowN f b) * 2 ^ f.toNat + 2 ^ f.toNat := by
    refine (fval_le (f := f.toNat) (L := lowN f b)).mp ?_
    rw [← hc, hd]
    exact Nat.mul_le_mul_right _ hm
  have ht := top_code k
  have hlt : (c : Int) < top P Q := by omega
  refine ⟨c, hc.symm, hlt, fun n => ?_⟩
  rw [hc]
  exact rd_val k n hlt

theorem fl_parts {w e f P Q b : Int} (k : Kd w e f P Q b) (n : Bool) {c : Nat} (hc : (c : Int) < top P Q) :
    0 ≤ fl f P Q n c ∧ fl f P Q n c < 18446744073709551616 ∧ oc P Q (fl f P Q n c) = c ∧ oN P Q (fl f P Q n c) = n ∧ oK P Q (fl f P Q n c) ≠ 3 ∧ oK P Q (fl f P Q n c) ≠ 2 ∧ oM f P Q b (fl f P Q n c) = fval f.toNat (lowN f b) c := by
  obtain ⟨h0, h1, h2, h3, h4, h5⟩ := fl_facts k n (c := (c : Int)) (by omega) (by omega)
  have hoc : oc P Q (fl f P Q n c) = c := by omega
  have hK : oK P Q (fl f P Q n c) ≠ 3 ∧ oK P Q (fl f P Q n c) ≠ 2 := by
    rcases kind_oc k (fl f P Q n c) with ⟨-, g, -⟩ | ⟨-, g, -⟩ | ⟨g, -, -, -⟩ | ⟨g, -, -⟩
    · exfalso; omega
    · exfalso; omega
    · omega
    · omega
  refine ⟨h0, h1, hoc, h3, hK.1, hK.2, ?_⟩
  rw [(oM_fin k hK).1, hoc]
theorem fl_sc {w e f P Q b : Int} (k : Kd w e f P Q b) (n : Bool) {c : Nat} (hc : (c : Int) < top P Q) : sc P Q (fl f P Q n c) = if n then -(c : Int) else c := by
  obtain ⟨-, -, h1, h2, -⟩ := fl_parts k n hc
  unfold sc
  rw [h1, h2]
theorem fl_isW {w e f P Q b : Int} (k : Kd w e f P Q b) (n : Bool) {c m : Nat} (hc : (c : Int) < top P Q) (hm : fval f.toNat (lowN f b) c = m * 2 ^ Z5) : isW f P Q b (fl f P Q n c) = true := by
  obtain ⟨-, -, -, -, h3, h2, h4⟩ := fl_parts k n hc
  exact dt ⟨h3, h2, by rw [h4, hm]; exact wr_whole m⟩

/-- What is whole stays what it is. -/
theorem make_stay {w e f P Q b : Int} (k : Kd w e f P Q b) {x : Int} (way : Int) (h3 : oK P Q x ≠ 3) (hw : oK P Q x = 1 → wr (oM f P Q b x) = 0) : makeB f P Q b way x = cutN f P Q x := by
  unfold makeB
  rw [if_neg h3]
  by_cases h1 : oK P Q x = 1
  · obtain ⟨e1, e2⟩ := oM_fin k (x := x) ⟨h3, by omega⟩
    rw [if_neg (fun h => h h1), whole_none way _ (hw h1), e1, rd_val k _ e2, cut_fl k h3]
  · rw [if_pos h1]

/-- What is not whole lies between two floats that are. -/
theorem make_lost {w e f P Q b : Int} (k : Kd w e f P Q b) {x : Int} (h1 : oK P Q x = 1) (hb : wr (oM f P Q b x) ≠ 0) :
    ∃ c0 c1 : Nat, c0 < oc P Q x ∧ oc P Q x < c1 ∧ (c1 : Int) < top P Q ∧ fval f.toNat (lowN f b) c0 = wq (oM f P Q b x) * 2 ^ Z5 ∧ fval f.toNat (lowN f b) c1 = (wq (oM f P Q b x) + 1) * 2 ^ Z5 ∧
      ∀ way, makeB f P Q b way x = fl f P Q (oN P Q x) ((if upN way (oN P Q x) (oM f P Q b x) then c1 else c0 : Nat) : Int) := by
  obtain ⟨X, S, ho, hp, hm⟩ := open_kd k x
  rw [h1] at hp
  rw [← hm] at hb
  obtain ⟨-, -, -, -, -, hq, -⟩ := split_any k (oN P Q x) hp hb
  rw [hm] at hb hq
  obtain ⟨e1, e2⟩ := oM_fin k (x := x) ⟨by omega, by omega⟩
  obtain ⟨c0, f0, t0, r0⟩ := whole_code k (wq (oM f P Q b x)) (by omega)
  obtain ⟨c1, f1, t1, r1⟩ := whole_code k (wq (oM f P Q b x) + 1) hq
  have hs := w_split (oM f P Q b x)
  have hl := wr_lt (oM f P Q b x)
  refine ⟨c0, c1, lt_fval (f := f.toNat) (L := lowN f b) ?_, lt_fval (f := f.toNat) (L := lowN f b) ?_, t1, f0, f1, fun way => ?_⟩
  · rw [f0, ← e1]
    generalize wq (oM f P Q b x) * 2 ^ Z5 = A at *
    omega
  · rw [f1, ← e1, Nat.succ_mul]
    generalize wq (oM f P Q b x) * 2 ^ Z5 = A at *
    generalize 2 ^ Z5 = B at *
    omega
  · unfold makeB wholeN
    rw [if_neg (by omega), if_neg (fun h => h h1)]
    by_cases hu : upN way (oN P Q x) (oM f P Q b x) = true
    · rw [hu, if_pos rfl]
      exact r1 _
    · rw [Bool.eq_false_iff.mpr hu, if_neg (by simp)]
      exact r0 _

end Go.Proofs.Ytepdmpcgkecjiaa
namespace Go.Proofs.Ytepdmpcgkecjiaa
open Go.RowKit
open Go.Proofs.Ytepdmpcgkecjiaa.W

/-- Two variables of one cell, one behind the other. -/
def AtH (b : Nat) (x y : Value) (w : World) : Prop := w.cell? ⟨b, 0, none⟩ = some x ∧ w.cell? ⟨b + 1, 0, none⟩ = some y
theorem AtH.below {b : Nat} {x y : Value} {w w' : World} (h : AtH b x y w) (hb : Below w.heap.size w w') : AtH b x y w' := ⟨keep1 hb (lt_of_cell h.1) h.1, keep1 hb (lt_of_cell h.2) h.2⟩
theorem atH_new (w : World) (x y : Value) (t u : TypeId) : AtH w.heap.size x y ((w.alloc (.cells #[x] t)).alloc (.cells #[y] u)) := by unfold AtH; simp [go_sem]
def At3 (b : Nat) (x y z : Value) (w : World) : Prop := w.cell? ⟨b, 0, none⟩ = some x ∧ w.cell? ⟨b, 1, none⟩ = some y ∧ w.cell? ⟨b, 2, none⟩ = some z
theorem At3.below {b : Nat} {x y z : Value} {w w' : World} (h : At3 b x y z w) (hb : Below w.heap.size w w') : At3 b x y z w' :=
  have hz := lt_of_cell h.1
  ⟨keep1 hb hz h.1, keep1 hb hz h.2.1, keep1 hb hz h.2.2⟩
theorem at3_new (w : World) (x y z : Value) (t : TypeId) : At3 w.heap.size x y z (w.alloc (.cells #[x, y, z] t)) := by unfold At3; simp [go_sem]

set_option maxRecDepth 100000 in
set_option maxHeartbeats 2000000 in
theorem far_32 {n x s V : Int} (b : Nat) (W : World) (HA : Hid (AtH b (.int .i64 32) (.int .u64 x) W)) (HS : Hid (∀ W, Calls Try.prog 21 #[.int .i64 32, .int .u64 n, .int .u64 x] W fun r W' => r = .returned (.int .u64 s) ∧ Below W.heap.size W W')) (ka : bits .andNot .u64 s 2147483648 = V) :
    Calls Try.prog 20 #[.int .u64 n, .pointer (some ⟨b, 0, none⟩), .pointer (some ⟨b + 1, 0, none⟩)] W fun r W' => r = .returned (.int .u64 V) ∧ Below W.heap.size W W' := by
  have kw : IntKind.i64.wrap 31 = 31 := by decide
  have hu : IntKind.u64.wrap 2147483648 = 2147483648 := by decide +kernel
  go_enter Try.func20, Try.ntmps20
  go_wp2_with fail
  have HB := hide (Below.refl W.heap.size W).drew
  have HA := hide ((unhide HA).below ((Below.refl _ _).drew))
  refine wp_region_held_drew (S := fun w' => w'.cell? ⟨b, 0, none⟩ = some (.int .i64 32) ∧ w'.cell? ⟨b + 1, 0, none⟩ = some (.int .u64 x)) (by kernel_rfl) ?_ (fun hHeld => ?_)
  · (try dsimp only)
    exact unhide HA
  refine lst0 9 (by kernel_rfl) ?_
  refine tkH 0 5 1 ?v0 rfl (by kernel_rfl) (by kernel_rfl) (fun _ _ _ h => h) (by assumption) (Or.inl ⟨by rfl, ?y0⟩) ?_
  case y0 => ((intro w hSw; (try dsimp only at hSw); go_simp) <;> with_reducible rfl)
  (try simp only [Act.put, List.setIfInBounds_toArray, List.set_cons_zero, List.set_cons_succ])
  refine tkH 1 6 3 ?v1 rfl (by kernel_rfl) (by kernel_rfl) (fun _ _ _ h => h) (by assumption) (Or.inl ⟨by rfl, ?y1⟩) ?_
  case y1 => ((intro w hSw; (try dsimp only at hSw); go_simp) <;> with_reducible rfl)
  (try simp only [Act.put, List.setIfInBounds_toArray, List.set_cons_zero, List.set_cons_succ])
  refine tkH 2 7 7 ?v2 rfl (by kernel_rfl) (by kernel_rfl) (fun _ _ _ h => h) (by assumption) (Or.inl ⟨by rfl, ?y2⟩) ?_
  case y2 => ((intro w hSw; (try dsimp only at hSw); go_simp) <;> with_reducible rfl)
  (try simp only [Act.put, List.setIfInBounds_toArray, List.set_cons_zero, List.set_cons_succ])
  refine tkH 4 9 23 ?v4 rfl (by kernel_rfl) (by kernel_rfl) (fun _ _ _ h => h) (by assumption) (Or.inl ⟨by rfl, ?y4⟩) ?_
  case y4 => ((intro w hSw; (try dsimp only at hSw); go_simp) <;> with_reducible rfl)
  (try simp only [Act.put, List.setIfInBounds_toArray, List.set_cons_zero, List.set_cons_succ])
  refine tkH 5 10 55 ?v5 rfl (by kernel_rfl) (by kernel_rfl) (fun _ _ _ h => h) (by assumption) (Or.inl ⟨by rfl, ?y5⟩) ?_
  case y5 => ((intro w hSw; (try dsimp only at hSw); go_simp) <;> with_reducible rfl)
  (try simp only [Act.put, List.setIfInBounds_toArray, List.set_cons_zero, List.set_cons_succ])
  refine tkH 6 11 119 ?v6 rfl (by kernel_rfl) (by kernel_rfl) (fun _ _ _ h => h) (by assumption) (Or.inl ⟨by rfl, ?y6⟩) ?_
  case y6 => ((intro w hSw; (try dsimp only at hSw); go_simp) <;> with_reducible rfl)
  (try simp only [Act.put, List.setIfInBounds_toArray, List.set_cons_zero, List.set_cons_succ])
  refine rdH 3 127 rfl (by kernel_rfl) (by kernel_rfl) (fun Kk hKk => ?_)
  go_simp
  refine (unhide HS _).mono ?_
  rintro _ w1 ⟨rfl, hbl⟩
  have HB := hide (bthen (unhide HB) hbl)
  have HA := hide ((unhide HA).below hbl)
  clear hbl
  (try go_wp2_with fail)
  refine hKk.out _ _ ?_ (fun hHeld => ?_)
  · (try dsimp only)
    exact unhide HA
  clear hKk Kk
  (try simp only [List.setIfInBounds_toArray, List.set_cons_zero, List.set_cons_succ])
  refine tkH 7 12 255 ?v7 rfl (by kernel_rfl) (by kernel_rfl) (fun _ _ _ h => h) (by assumption) (Or.inl ⟨by rfl, ?y7⟩) ?_
  case y7 => ((intro w hSw; (try dsimp only at hSw); go_simp) <;> with_reducible rfl)
  (try simp only [Act.put, List.setIfInBounds_toArray, List.set_cons_zero, List.set_cons_succ])
  refine tkH 8 4 511 ?v8 rfl (by kernel_rfl) (by kernel_rfl) (fun _ _ _ h => h) (by assumption) (Or.inl ⟨by rfl, ?y8⟩) ?_
  case y8 => ((intro w hSw; (try dsimp only at hSw); go_simp) <;> with_reducible rfl)
  (try simp only [Act.put, List.setIfInBounds_toArray, List.set_cons_zero, List.set_cons_succ])
  refine wpAnyH_done (by kernel_rfl) ?_ _
  go_wp2
  go_ret
  exact ⟨rfl, unhide HB⟩
set_option maxRecDepth 100000 in
set_option maxHeartbeats 2000000 in
theorem far_64 {n x s V : Int} (b : Nat) (W : World) (HA : Hid (AtH b (.int .i64 64) (.int .u64 x) W)) (HS : Hid (∀ W, Calls Try.prog 21 #[.int .i64 64, .int .u64 n, .int .u64 x] W fun r W' => r = .returned (.int .u64 s) ∧ Below W.heap.size W W')) (ka : bits .andNot .u64 s 9223372036854775808 = V) :
    Calls Try.prog 20 #[.int .u64 n, .pointer (some ⟨b, 0, none⟩), .pointer (some ⟨b + 1, 0, none⟩)] W fun r W' => r = .returned (.int .u64 V) ∧ Below W.heap.size W W' := by
  have kw : IntKind.i64.wrap 63 = 63 := by decide
  have hu : IntKind.u64.wrap 9223372036854775808 = 9223372036854775808 := by decide +kernel
  go_enter Try.func20, Try.ntmps20
  go_wp2_with fail
  have HB := hide (Below.refl W.heap.size W).drew
  have HA := hide ((unhide HA).below ((Below.refl _ _).drew))
  refine wp_region_held_drew (S := fun w' => w'.cell? ⟨b, 0, none⟩ = some (.int .i64 64) ∧ w'.cell? ⟨b + 1, 0, none⟩ = some (.int .u64 x)) (by kernel_rfl) ?_ (fun hHeld => ?_)
  · (try dsimp only)
    exact unhide HA
  refine lst0 9 (by kernel_rfl) ?_
  refine tkH 0 5 1 ?v0 rfl (by kernel_rfl) (by kernel_rfl) (fun _ _ _ h => h) (by assumption) (Or.inl ⟨by rfl, ?y0⟩) ?_
  case y0 => ((intro w hSw; (try dsimp only at hSw); go_simp) <;> with_reducible rfl)
  (try simp only [Act.put, List.setIfInBounds_toArray, List.set_cons_zero, List.set_cons_succ])
  refine tkH 1 6 3 ?v1 rfl (by kernel_rfl) (by kernel_rfl) (fun _ _ _ h => h) (by assumption) (Or.inl ⟨by rfl, ?y1⟩) ?_
  case y1 => ((intro w hSw; (try dsimp only at hSw); go_simp) <;> with_reducible rfl)
  (try simp only [Act.put, List.setIfInBounds_toArray, List.set_cons_zero, List.set_cons_succ])
  refine tkH 2 7 7 ?v2 rfl (by kernel_rfl) (by kernel_rfl) (fun _ _ _ h => h) (by assumption) (Or.inl ⟨by rfl, ?y2⟩) ?_
  case y2 => ((intro w hSw; (try dsimp only at hSw); go_simp) <;> with_reducible rfl)
  (try simp only [Act.put, List.setIfInBounds_toArray, List.set_cons_zero, List.set_cons_succ])
  refine tkH 4 9 23 ?v4 rfl (by kernel_rfl) (by kernel_rfl) (fun _ _ _ h => h) (by assumption) (Or.inl ⟨by rfl, ?y4⟩) ?_
  case y4 => ((intro w hSw; (try dsimp only at hSw); go_simp) <;> with_reducible rfl)
  (try simp only [Act.put, List.setIfInBounds_toArray, List.set_cons_zero, List.set_cons_succ])
  refine tkH 5 10 55 ?v5 rfl (by kernel_rfl) (by kernel_rfl) (fun _ _ _ h => h) (by assumption) (Or.inl ⟨by rfl, ?y5⟩) ?_
  case y5 => ((intro w hSw; (try dsimp only at hSw); go_simp) <;> with_reducible rfl)
  (try simp only [Act.put, List.setIfInBounds_toArray, List.set_cons_zero, List.set_cons_succ])
  refine tkH 6 11 119 ?v6 rfl (by kernel_rfl) (by kernel_rfl) (fun _ _ _ h => h) (by assumption) (Or.inl ⟨by rfl, ?y6⟩) ?_
  case y6 => ((intro w hSw; (try dsimp only at hSw); go_simp) <;> with_reducible rfl)
  (try simp only [Act.put, List.setIfInBounds_toArray, List.set_cons_zero, List.set_cons_succ])
  refine rdH 3 127 rfl (by kernel_rfl) (by kernel_rfl) (fun Kk hKk => ?_)
  go_simp
  refine (unhide HS _).mono ?_
  rintro _ w1 ⟨rfl, hbl⟩
  have HB := hide (bthen (unhide HB) hbl)
  have HA := hide ((unhide HA).below hbl)
  clear hbl
  (try go_wp2_with fail)
  refine hKk.out _ _ ?_ (fun hHeld => ?_)
  · (try dsimp only)
    exact unhide HA
  clear hKk Kk
  (try simp only [List.setIfInBounds_toArray, List.set_cons_zero, List.set_cons_succ])
  refine tkH 7 12 255 ?v7 rfl (by kernel_rfl) (by kernel_rfl) (fun _ _ _ h => h) (by assumption) (Or.inl ⟨by rfl, ?y7⟩) ?_
  case y7 => ((intro w hSw; (try dsimp only at hSw); go_simp) <;> with_reducible rfl)
  (try simp only [Act.put, List.setIfInBounds_toArray, List.set_cons_zero, List.set_cons_succ])
  refine tkH 8 4 511 ?v8 rfl (by kernel_rfl) (by kernel_rfl) (fun _ _ _ h => h) (by assumption) (Or.inl ⟨by rfl, ?y8⟩) ?_
  case y8 => ((intro w hSw; (try dsimp only at hSw); go_simp) <;> with_reducible rfl)
  (try simp only [Act.put, List.setIfInBounds_toArray, List.set_cons_zero, List.set_cons_succ])
  refine wpAnyH_done (by kernel_rfl) ?_ _
  go_wp2
  go_ret
  exact ⟨rfl, unhide HB⟩

end Go.Proofs.Ytepdmpcgkecjiaa
namespace Go.Proofs.Ytepdmpcgkecjiaa
open Go.RowKit
open Go.Proofs.Ytepdmpcgkecjiaa.W

theorem make_form {w e f P Q b : Int} (k : Kd w e f P Q b) {x : Int} (way : Int) (h3 : oK P Q x ≠ 3) (h2 : oK P Q x ≠ 2) :
    0 ≤ makeB f P Q b way x ∧ makeB f P Q b way x < 18446744073709551616 ∧ oK P Q (makeB f P Q b way x) ≠ 3 ∧ oK P Q (makeB f P Q b way x) ≠ 2 ∧ oN P Q (makeB f P Q b way x) = oN P Q x ∧ oM f P Q b (makeB f P Q b way x) = wholeN way (oN P Q x) (oM f P Q b x) * 2 ^ Z5 := by
  obtain ⟨e1, e2⟩ := oM_fin k (x := x) ⟨h3, h2⟩
  by_cases hb : wr (oM f P Q b x) = 0
  · rw [make_stay k way h3 (fun _ => hb), whole_none way _ hb, cut_fl k h3]
    obtain ⟨a0, a1, -, a3, a4, a5, a6⟩ := fl_parts k (oN P Q x) e2
    exact ⟨a0, a1, a4, a5, a3, a6.trans e1.symm⟩
  · have h1 : oK P Q x = 1 := by
      rcases kind_oc k x with ⟨h, -, -⟩ | ⟨h, -, -⟩ | ⟨h, -, -, -⟩ | ⟨-, -, h⟩
      · exact absurd h h3
      · exact absurd h h2
      · exact h
      · exact absurd (by rw [h]; exact Nat.zero_mod _) hb
    obtain ⟨c0, c1, l0, l1, t1, f0, f1, hB⟩ := make_lost k h1 hb
    rw [hB way]
    unfold wholeN
    by_cases hu : upN way (oN P Q x) (oM f P Q b x) = true
    · rw [hu, if_pos rfl]
      obtain ⟨a0, a1, -, a3, a4, a5, a6⟩ := fl_parts k (oN P Q x) t1
      exact ⟨a0, a1, a4, a5, a3, a6.trans f1⟩
    · rw [Bool.eq_false_iff.mpr hu, if_neg (by simp)]
      obtain ⟨a0, a1, -, a3, a4, a5, a6⟩ := fl_parts k (oN P Q x) (c := c0) (by omega)
      exact ⟨a0, a1, a4, a5, a3, a6.trans f0⟩

theorem far_one (way : Int) (n : Bool) (M : Nat) : wholeN way n M * 2 ^ Z5 - M ≤ 2 ^ Z5 ∧ M - wholeN way n M * 2 ^ Z5 ≤ 2 ^ Z5 := by
  have hs := w_split M
  have hl := wr_lt M
  unfold wholeN
  generalize upN way n M = u
  rw [Nat.add_mul]
  generalize wq M * 2 ^ Z5 = A at *
  cases u
  · rw [show false.toNat = 0 from rfl, Nat.zero_mul]
    generalize 2 ^ Z5 = B at *
    omega
  · rw [show true.toNat = 1 from rfl, Nat.one_mul]
    generalize 2 ^ Z5 = B at *
    omega
theorem far_half (n : Bool) (M H : Nat) (hH : 2 ^ Z5 = 2 * H) : wholeN 4 n M * 2 ^ Z5 - M ≤ H ∧ M - wholeN 4 n M * 2 ^ Z5 ≤ H := by
  have hs := w_split M
  have hl := wr_lt M
  have hu : upN 4 n M = (decide (wh M = 1) || (decide (wh M = 0) && decide (wq M % 2 = 1))) := by unfold upN; rw [if_neg (by omega), if_neg (by omega), if_pos rfl]
  have hw : (wh M = -1 ∧ wr M * 2 ^ 1 < 2 ^ Z5) ∨ (wh M = 0 ∧ wr M * 2 ^ 1 = 2 ^ Z5) ∨ (wh M = 1 ∧ 2 ^ Z5 < wr M * 2 ^ 1) := cmpN_in _ _
  unfold wholeN
  rw [hu, Nat.add_mul]
  generalize wq M * 2 ^ Z5 = A at *
  generalize wq M % 2 = o at *
  generalize wh M = h at *
  generalize wr M = r at *
  generalize 2 ^ Z5 = B at *
  rw [Nat.pow_one] at hw
  rcases hw with ⟨rfl, g⟩ | ⟨rfl, g⟩ | ⟨rfl, g⟩
  · rw [show (decide ((-1 : Int) = 1) || (decide ((-1 : Int) = 0) && decide (o = 1))) = false by simp, show false.toNat = 0 from rfl, Nat.zero_mul]
    omega
  · by_cases ho : o = 1
    · rw [show (decide ((0 : Int) = 1) || (decide ((0 : Int) = 0) && decide (o = 1))) = true by simp [ho], show true.toNat = 1 from rfl, Nat.one_mul]
      omega
    · rw [show (decide ((0 : Int) = 1) || (decide ((0 : Int) = 0) && decide (o = 1))) = false by simp [ho], show false.toNat = 0 from rfl, Nat.zero_mul]
      omega
  · rw [show (decide ((1 : Int) = 1) || (decide ((1 : Int) = 0) && decide (o = 1))) = true by simp, show true.toNat = 1 from rfl, Nat.one_mul]
    omega

theorem pow_code {f b : Int} (j : Nat) (h : lowN f b < j - f.toNat) : code f.toNat (lowN f b) (2 ^ j) = (j - f.toNat - lowN f b) * 2 ^ f.toNat + 2 ^ f.toNat := by
  have hp := Nat.two_pow_pos f.toNat
  have := code_exact f.toNat (lowN f b) (2 ^ f.toNat) (j - f.toNat) (by rw [Nat.pow_succ]; omega) (by omega) (fun _ => Nat.le_refl _)
  rw [← Nat.pow_add, show f.toNat + (j - f.toNat) = j by omega] at this
  exact this
theorem half_code {w e f P Q b : Int} (k : Kd w e f P Q b) : ((code f.toNat (lowN f b) (2 ^ (Z5 - 1)) : Nat) : Int) = put f P Q false (b - 1) 0 ∧ ((code f.toNat (lowN f b) (2 ^ Z5) : Nat) : Int) = put f P Q false b 0 := by
  have h1 : lowN f b < Z5 - 1 - f.toNat := by rcases k with ⟨-, -, rfl, rfl, rfl, rfl⟩ | ⟨-, -, rfl, rfl, rfl, rfl⟩ <;> decide +kernel
  rw [pow_code (Z5 - 1) h1, pow_code Z5 (by omega)]
  rcases k with ⟨-, -, rfl, rfl, rfl, rfl⟩ | ⟨-, -, rfl, rfl, rfl, rfl⟩ <;> exact ⟨by decide +kernel, by decide +kernel⟩
theorem put_code {w e f P Q b c : Int} (k : Kd w e f P Q b) : fl f P Q false c = c := by
  have hf : f ≠ 0 := by rcases k with ⟨-, -, rfl, -⟩ | ⟨-, -, rfl, -⟩ <;> omega
  unfold fl put
  rw [if_neg hf]
  have := Int.ediv_mul_add_emod c P
  simp
  omega
theorem lid_le {P Q c : Int} : lid P Q c ≤ c := by unfold lid; split <;> omega
theorem rd_code {w e f P Q b : Int} (k : Kd w e f P Q b) (n : Bool) (D : Nat) {B : Nat} (h : D ≤ B) : ∃ c : Int, rd f P Q b n D = fl f P Q n c ∧ 0 ≤ c ∧ c ≤ top P Q ∧ c ≤ (code f.toNat (lowN f b) B : Nat) := by
  obtain ⟨h0, h1⟩ := lid_top k (code f.toNat (lowN f b) D)
  have h2 := lid_le (P := P) (Q := Q) (c := ((code f.toNat (lowN f b) D : Nat) : Int))
  have h3 := code_mono f.toNat (lowN f b) h
  exact ⟨_, rfl, h0, h1, by omega⟩
theorem sub_far {w e f P Q b x y : Int} (k : Kd w e f P Q b) (hx3 : oK P Q x ≠ 3) (hx2 : oK P Q x ≠ 2) (hy3 : oK P Q y ≠ 3) (hy2 : oK P Q y ≠ 2) (hn : oN P Q y = oN P Q x) {B : Nat}
    (h1 : oM f P Q b y - oM f P Q b x ≤ B) (h2 : oM f P Q b x - oM f P Q b y ≤ B) :
    ∃ c : Int, bits .andNot .u64 (subB f P Q b y x) (put f P Q true 0 0) = c ∧ 0 ≤ c ∧ c ≤ top P Q ∧ c ≤ (code f.toNat (lowN f b) B : Nat) := by
  have hform : ∃ n c, subB f P Q b y x = fl f P Q n c ∧ 0 ≤ c ∧ c ≤ top P Q ∧ c ≤ (code f.toNat (lowN f b) B : Nat) := by
    unfold subB addP
    rw [hn, if_neg (by omega), if_neg hy2, if_neg hx2, if_neg (by cases oN P Q x <;> simp)]
    by_cases he : oM f P Q b y = oM f P Q b x
    · rw [if_pos he, put_nought]
      have := top_pos k
      exact ⟨_, _, rfl, by omega, by omega, by omega⟩
    · rw [if_neg he]
      by_cases hl : oM f P Q b y < oM f P Q b x
      · rw [if_pos hl]
        exact ⟨_, rd_code k _ _ h2⟩
      · rw [if_neg hl]
        exact ⟨_, rd_code k _ _ h1⟩
  obtain ⟨n, c, e, c0, c1, c2⟩ := hform
  obtain ⟨-, -, e1, -, e2, e3⟩ := fl_facts k n c0 c1
  have hK : oK P Q (fl f P Q n c) ≠ 3 := fun h => by rw [nan_t h] at e3; cases e3
  obtain ⟨-, e4, -, -, -⟩ := rank_bits k hK
  rw [e2] at e4
  rw [e]
  exact ⟨c, e4.trans e1, c0, c1, c2⟩
theorem cmp_far {w e f P Q b c d : Int} (k : Kd w e f P Q b) (c0 : 0 ≤ c) (c1 : c ≤ top P Q) (d0 : 0 ≤ d) (d1 : d ≤ top P Q) (h : c ≤ d) : decide (0 < cmpB P Q c d) = false := by
  have hc := fl_facts k false c0 c1
  have hd := fl_facts k false d0 d1
  rw [put_code k] at hc hd
  have no : ∀ {z : Int}, (z / P % Q == Q - 1 && z % P != 0) = false → oK P Q z ≠ 3 := fun hz h => by
    rw [nan_t h] at hz
    cases hz
  have hk : oK P Q c ≠ 3 ∧ oK P Q d ≠ 3 := ⟨no hc.2.2.2.2.2, no hd.2.2.2.2.2⟩
  rw [cmpB_num hk.1 hk.2]
  have e1 : sc P Q c = c := by unfold sc; rw [hc.2.2.2.1]; exact hc.2.2.1
  have e2 : sc P Q d = d := by unfold sc; rw [hd.2.2.2.1]; exact hd.2.2.1
  rw [e1, e2]
  rcases cmpS_in c d with ⟨g, -⟩ | ⟨g, -⟩ | ⟨-, g⟩
  · rw [g]; rfl
  · rw [g]; rfl
  · exfalso; omega

theorem far_any {w e f P Q b x y D : Int} (k : Kd w e f P Q b) (x0 : 0 ≤ x) (x1 : x < 18446744073709551616) (y0 : 0 ≤ y) (y1 : y < 18446744073709551616) (hD : bits .andNot .u64 (subB f P Q b y x) (put f P Q true 0 0) = D) :
    Hid (∀ (b : Nat) (W : World), AtH b (.int .i64 w) (.int .u64 x) W → Calls Try.prog 20 #[.int .u64 y, .pointer (some ⟨b, 0, none⟩), .pointer (some ⟨b + 1, 0, none⟩)] W fun r W' => r = .returned (.int .u64 D) ∧ Below W.heap.size W W') := by
  intro bb W hA
  have HS := hide (fun W => sumSub_any k W y0 y1 x0 x1)
  rcases k with ⟨rfl, rfl, rfl, rfl, rfl, rfl⟩ | ⟨rfl, rfl, rfl, rfl, rfl, rfl⟩
  · rw [show put 23 8388608 256 true 0 0 = 2147483648 by decide +kernel] at hD
    exact far_32 bb W (hide hA) HS hD
  · rw [show put 52 4503599627370496 2048 true 0 0 = 9223372036854775808 by decide +kernel] at hD
    exact far_64 bb W (hide hA) HS hD

end Go.Proofs.Ytepdmpcgkecjiaa
