/- OrdD, OrdE, OrdF, LawA, LawPn. -/
import Derived.Test.YtefpknkbfmjajaaG25
import Derived.Test.YtefpknkbfmjajaaG27
import Derived.Test.YtefpknkbfmjajaaG28
import Derived.Test.YtefpknkbfmjajaaG29
import Derived.Test.YtefpknkbfmjajaaG30
import Derived.Test.YtefpknkbfmjajaaG31
import Derived.Test.YtefpknkbfmjajaaG32
import Derived.Test.YtefpknkbfmjajaaG33
import Derived.Test.YtefpknkbfmjajaaG34
import Derived.Test.YtefpknkbfmjajaaG35
import Derived.Laws.BitsAllLaws
namespace Go.Proofs.Ytefpknkbfmjajaa
open Go.RowKit
open Go.Proofs.Ytefpknkbfmjajaa.W

/-- A float's code with its sign. -/
def sc (P Q x : Int) : Int := if oN P Q x then -(oc P Q x : Int) else (oc P Q x : Int)
/-- How two whole numbers are to each other. -/
def cmpS (a b : Int) : Int := if a < b then -1 else if a = b then 0 else 1
/-- How two floats are to each other. -/
def cmpB (P Q x y : Int) : Int := if oK P Q x = 3 ∨ oK P Q y = 3 then 2 else cmpS (sc P Q x) (sc P Q y)
/-- The one of two that is wanted. -/
def pickB (f P Q t : Int) (n : Bool) (x y : Int) : Int := if cmpB P Q x y = 2 then nanB f P Q else if cmpB P Q x y = t ∨ (cmpB P Q x y = 0 ∧ sg P Q x = n) then cutN f P Q x else cutN f P Q y

theorem oK_nan (P Q x : Int) : (x / P % Q == Q - 1 && x % P != 0) = true ↔ oK P Q x = 3 := by
  unfold oK
  by_cases h : x / P % Q = Q - 1
  · rw [if_pos h, eq_t h]
    by_cases h2 : x % P = 0
    · rw [if_pos h2, ne_f h2]; simp
    · rw [if_neg h2, ne_t h2]; simp
  · rw [if_neg h, eq_f h]
    simp
    split <;> omega
theorem nan_t {P Q x : Int} (h : oK P Q x = 3) : (x / P % Q == Q - 1 && x % P != 0) = true := (oK_nan P Q x).2 h
theorem nan_f {P Q x : Int} (h : oK P Q x ≠ 3) : (x / P % Q == Q - 1 && x % P != 0) = false := by
  cases hh : (x / P % Q == Q - 1 && x % P != 0)
  · rfl
  · exact absurd ((oK_nan P Q x).1 hh) h
theorem oN_sg {P Q x : Int} (h : oK P Q x ≠ 3) : oN P Q x = sg P Q x := by
  unfold oN
  rw [if_neg]
  intro hh
  apply h
  unfold oK
  rw [if_pos hh.1, if_neg hh.2]

theorem sign_bit {k a : Nat} (ha : a < 2 ^ (k + 1)) : a &&& 2 ^ k = 0 ↔ a < 2 ^ k := by
  constructor
  · intro h
    refine Decidable.byContradiction fun hn => ?_
    obtain ⟨r, rfl⟩ : ∃ r, a = 2 ^ k + r := ⟨a - 2 ^ k, by omega⟩
    have hr : r < 2 ^ k := by rw [Nat.pow_succ] at ha; omega
    have h1 : ((2 ^ k + r) &&& 2 ^ k).testBit k = false := by rw [h]; exact Nat.zero_testBit k
    rw [Nat.testBit_and, Nat.testBit_two_pow_self, Nat.testBit_two_pow_add_eq, Nat.testBit_lt_two_pow hr] at h1
    exact absurd h1 (by decide)
  · intro h
    apply Nat.eq_of_testBit_eq
    intro i
    rw [Nat.testBit_and, Nat.zero_testBit, Nat.testBit_two_pow]
    by_cases hi : k = i
    · subst hi
      rw [Nat.testBit_lt_two_pow h]
      rfl
    · simp [hi]

/-- What Rank makes of the bits. -/
theorem rank_bits {w e f P Q b x : Int} (k : Kd w e f P Q b) (h : oK P Q x ≠ 3) :
    ∃ B, bits .andNot .u64 (cutN f P Q x) (put f P Q true 0 0) = (oc P Q x : Int) ∧ bits .and .u64 (cutN f P Q x) (put f P Q true 0 0) = B ∧ (B != 0) = oN P Q x ∧ (oc P Q x : Int) < 9223372036854775808 := by
  obtain ⟨p1, p2, q1, q2⟩ := k.pos
  obtain ⟨u, v⟩ := exp_in (x / P) (show 1 ≤ Q by omega)
  obtain ⟨u', v'⟩ := exp_in x (show 1 ≤ P by omega)
  have hn := oN_sg h
  have hc : ((oc P Q x : Nat) : Int) = x / P % Q * P + x % P := by
    unfold oc
    have := Int.mul_nonneg u (show 0 ≤ P by omega)
    omega
  have hcut := cut_put k.wd.sz x
  rw [← hcut, hn, put_yes k.f0, Int.zero_mul, Int.zero_add, Int.zero_add]
  rw [hn] at *
  clear hn hcut h
  generalize x / P % Q = E at *
  generalize x % P = F at *
  generalize sg P Q x = n at *
  generalize oc P Q x = c at *
  rcases k with ⟨-, -, rfl, rfl, rfl, -⟩ | ⟨-, -, rfl, rfl, rfl, -⟩
  · have hput : put 23 8388608 256 n E F = ((c + (if n then 2147483648 else 0) : Nat) : Int) := by
      unfold put
      cases n <;> simp <;> omega
    have hc2 : c < 2147483648 := by omega
    have ha : c + (if n then 2147483648 else 0) < 2 ^ 32 := by cases n <;> simp <;> omega
    rw [hput, show (8388608 * 256 : Int) = ((2147483648 : Nat) : Int) by decide]
    refine ⟨_, ?_, rfl, ?_, by omega⟩
    · rw [u64_andNot_nat _ _ (by omega) (by decide)]
      generalize hA : c + (if n then 2147483648 else 0) = a at *
      have e1 : a &&& 4294967295 = a := by
        rw [show 4294967295 = 2 ^ 32 - 1 by decide, Nat.and_two_pow_sub_one_eq_mod, Nat.mod_eq_of_lt ha]
      rw [← e1, Nat.and_assoc, show 4294967295 &&& (18446744073709551615 - 2147483648) = 2 ^ 31 - 1 by decide, Nat.and_two_pow_sub_one_eq_mod]
      cases n <;> simp at hA <;> omega
    · rw [Go.bits_and_u64_nat _ _ (by omega) (by decide)]
      have := sign_bit (k := 31) (a := c + (if n then 2147483648 else 0)) ha
      generalize hA : c + (if n then 2147483648 else 0) = a at *
      rw [show 2147483648 = 2 ^ 31 by decide]
      cases n
      · have : a &&& 2 ^ 31 = 0 := this.2 (by simp at hA; omega)
        rw [this]; rfl
      · have : ¬ a &&& 2 ^ 31 = 0 := fun hh => by have := this.1 hh; simp at hA; omega
        exact ne_t (by omega)
  · have hput : put 52 4503599627370496 2048 n E F = ((c + (if n then 9223372036854775808 else 0) : Nat) : Int) := by
      unfold put
      cases n <;> simp <;> omega
    have hc2 : c < 9223372036854775808 := by omega
    have ha : c + (if n then 9223372036854775808 else 0) < 2 ^ 64 := by cases n <;> simp <;> omega
    rw [hput, show (4503599627370496 * 2048 : Int) = ((9223372036854775808 : Nat) : Int) by decide]
    refine ⟨_, ?_, rfl, ?_, by omega⟩
    · rw [u64_andNot_nat _ _ (by omega) (by decide)]
      generalize hA : c + (if n then 9223372036854775808 else 0) = a at *
      rw [show (18446744073709551615 - 9223372036854775808) = 2 ^ 63 - 1 by decide, Nat.and_two_pow_sub_one_eq_mod]
      cases n <;> simp at hA <;> omega
    · rw [Go.bits_and_u64_nat _ _ (by omega) (by decide)]
      have := sign_bit (k := 63) (a := c + (if n then 9223372036854775808 else 0)) ha
      generalize hA : c + (if n then 9223372036854775808 else 0) = a at *
      rw [show 9223372036854775808 = 2 ^ 63 by decide]
      cases n
      · have : a &&& 2 ^ 63 = 0 := this.2 (by simp at hA; omega)
        rw [this]; rfl
      · have : ¬ a &&& 2 ^ 63 = 0 := fun hh => by have := this.1 hh; simp at hA; omega
        exact ne_t (by omega)

theorem okn_any {w e f P Q b : Int} (h : Wd w e f P Q b) (W : World) : Calls Try.prog 26 #[.int .i64 w] W fun r W' => r = .returned (.bool (f != 0)) ∧ Below W.heap.size W W' := by
  have := okn_l W (hide (fun W => fields_any h W))
  have he : (e != 0) = (f != 0) := by
    rcases h with ⟨-, rfl, rfl, -⟩ | ⟨-, rfl, rfl, -⟩ | ⟨-, rfl, rfl, -⟩ <;> rfl
  rw [he] at this
  exact this
theorem okn_t {w e f P Q b : Int} (k : Kd w e f P Q b) (W : World) : Calls Try.prog 26 #[.int .i64 w] W fun r W' => r = .returned (.bool true) ∧ Below W.heap.size W W' := by
  have := okn_any k.wd W
  rw [ne_t k.f0] at this
  exact this
theorem okn_no {w e f P Q b : Int} (h : Wd w e f P Q b) (hf : f = 0) (W : World) : Calls Try.prog 26 #[.int .i64 w] W fun r W' => r = .returned (.bool false) ∧ Below W.heap.size W W' := by
  have := okn_any h W
  rw [ne_f hf] at this
  exact this
theorem rank_no {w e f P Q b : Int} (h : Wd w e f P Q b) (hf : f = 0) (x : Int) (W : World) : Calls Try.prog 18 #[.int .i64 w, .int .u64 x] W fun r W' => r = .returned (.tuple #[.int .i64 0, .bool false]) ∧ Below W.heap.size W W' :=
  rank_f W (hide (okn_no h hf))
theorem rank_nan {w e f P Q b x : Int} (k : Kd w e f P Q b) (W : World) (x0 : 0 ≤ x) (x1 : x < 18446744073709551616) (h : oK P Q x = 3) : Calls Try.prog 18 #[.int .i64 w, .int .u64 x] W fun r W' => r = .returned (.tuple #[.int .i64 0, .bool false]) ∧ Below W.heap.size W W' := by
  have hi := fun W => isNanW_any x k.wd W x0 x1
  rw [nan_t h] at hi
  exact rank_n W (hide (okn_t k)) (hide hi)
theorem rank_any {w e f P Q b x : Int} (k : Kd w e f P Q b) (W : World) (x0 : 0 ≤ x) (x1 : x < 18446744073709551616) (h : oK P Q x ≠ 3) : Calls Try.prog 18 #[.int .i64 w, .int .u64 x] W fun r W' => r = .returned (.tuple #[.int .i64 (sc P Q x), .bool true]) ∧ Below W.heap.size W W' := by
  have hi := fun W => isNanW_any x k.wd W x0 x1
  rw [nan_f h] at hi
  obtain ⟨B, r1, r2, r3, r4⟩ := rank_bits k h
  unfold sc
  cases hn : oN P Q x
  · rw [hn] at r3
    exact rank_p W (hide (okn_t k)) (hide hi) (hide (fun W => zero_any true k.wd W)) (hide (fun W => cut_any x k.wd W x0 x1)) r1 (i64_id (by omega) (by omega)) r2 r3
  · rw [hn] at r3
    exact rank_m W (hide (okn_t k)) (hide hi) (hide (fun W => zero_any true k.wd W)) (hide (fun W => cut_any x k.wd W x0 x1)) r1 (i64_id (by omega) (by omega)) r2 r3 (i64_id (by omega) (by omega))

theorem cmpS_eq (a b : Int) : (a == b) = (cmpS a b == 0) := by
  unfold cmpS
  rcases Int.lt_trichotomy a b with h | h | h
  · rw [if_pos h, eq_f (by omega)]; rfl
  · rw [if_neg (by omega), if_pos h, eq_t h]; rfl
  · rw [if_neg (by omega), if_neg (by omega), eq_f (by omega)]; rfl
theorem cmpS_lt (a b : Int) : decide (a < b) = (cmpS a b == -1) := by
  unfold cmpS
  rcases Int.lt_trichotomy a b with h | h | h
  · rw [if_pos h, decide_eq_true h]; rfl
  · rw [if_neg (by omega), if_pos h, decide_eq_false (by omega)]; rfl
  · rw [if_neg (by omega), if_neg (by omega), decide_eq_false (by omega)]; rfl
theorem cmpS_gt (a b : Int) : decide (b < a) = (cmpS a b == 1) := by
  unfold cmpS
  rcases Int.lt_trichotomy a b with h | h | h
  · rw [if_pos h, decide_eq_false (by omega)]; rfl
  · rw [if_neg (by omega), if_pos h, decide_eq_false (by omega)]; rfl
  · rw [if_neg (by omega), if_neg (by omega), decide_eq_true h]; rfl
theorem cmpS_le (a b : Int) : decide (a ≤ b) = (cmpS a b == -1 || cmpS a b == 0) := by
  unfold cmpS
  rcases Int.lt_trichotomy a b with h | h | h
  · rw [if_pos h, decide_eq_true (by omega)]; rfl
  · rw [if_neg (by omega), if_pos h, decide_eq_true (by omega)]; rfl
  · rw [if_neg (by omega), if_neg (by omega), decide_eq_false (by omega)]; rfl
theorem cmpS_ge (a b : Int) : decide (b ≤ a) = (cmpS a b == 1 || cmpS a b == 0) := by
  unfold cmpS
  rcases Int.lt_trichotomy a b with h | h | h
  · rw [if_pos h, decide_eq_false (by omega)]; rfl
  · rw [if_neg (by omega), if_pos h, decide_eq_true (by omega)]; rfl
  · rw [if_neg (by omega), if_neg (by omega), decide_eq_true (by omega)]; rfl

theorem eq_no {w e f P Q b : Int} (h : Wd w e f P Q b) (hf : f = 0) (x y : Int) (W : World) : Calls Try.prog 8 #[.int .i64 w, .int .u64 x, .int .u64 y] W fun r W' => r = .returned (.bool false) ∧ Below W.heap.size W W' :=
  eq_l W (hide (fun W => ask_f1 W (hide (rank_no h hf x)) (hide (rank_no h hf y))))
theorem eq_any {w e f P Q b x y : Int} (k : Kd w e f P Q b) (W : World) (x0 : 0 ≤ x) (x1 : x < 18446744073709551616) (y0 : 0 ≤ y) (y1 : y < 18446744073709551616) : Calls Try.prog 8 #[.int .i64 w, .int .u64 x, .int .u64 y] W fun r W' => r = .returned (.bool (cmpB P Q x y == 0)) ∧ Below W.heap.size W W' := by
  unfold cmpB
  by_cases hx : oK P Q x = 3
  · rw [if_pos (Or.inl hx)]
    by_cases hy : oK P Q y = 3
    · exact eq_l W (hide (fun W => ask_f1 W (hide (fun W => rank_nan k W x0 x1 hx)) (hide (fun W => rank_nan k W y0 y1 hy))))
    · exact eq_l W (hide (fun W => ask_f1 W (hide (fun W => rank_nan k W x0 x1 hx)) (hide (fun W => rank_any k W y0 y1 hy))))
  · by_cases hy : oK P Q y = 3
    · rw [if_pos (Or.inr hy)]
      exact eq_l W (hide (fun W => ask_f2 W (hide (fun W => rank_any k W x0 x1 hx)) (hide (fun W => rank_nan k W y0 y1 hy))))
    · rw [if_neg (by omega), ← cmpS_eq]
      exact eq_l W (hide (fun W => ask_t_eq W (hide (fun W => rank_any k W x0 x1 hx)) (hide (fun W => rank_any k W y0 y1 hy)) (hide (fun W => eq_c W))))
theorem lt_no {w e f P Q b : Int} (h : Wd w e f P Q b) (hf : f = 0) (x y : Int) (W : World) : Calls Try.prog 10 #[.int .i64 w, .int .u64 x, .int .u64 y] W fun r W' => r = .returned (.bool false) ∧ Below W.heap.size W W' :=
  lt_l W (hide (fun W => ask_f1 W (hide (rank_no h hf x)) (hide (rank_no h hf y))))
theorem lt_any {w e f P Q b x y : Int} (k : Kd w e f P Q b) (W : World) (x0 : 0 ≤ x) (x1 : x < 18446744073709551616) (y0 : 0 ≤ y) (y1 : y < 18446744073709551616) : Calls Try.prog 10 #[.int .i64 w, .int .u64 x, .int .u64 y] W fun r W' => r = .returned (.bool (cmpB P Q x y == -1)) ∧ Below W.heap.size W W' := by
  unfold cmpB
  by_cases hx : oK P Q x = 3
  · rw [if_pos (Or.inl hx)]
    by_cases hy : oK P Q y = 3
    · exact lt_l W (hide (fun W => ask_f1 W (hide (fun W => rank_nan k W x0 x1 hx)) (hide (fun W => rank_nan k W y0 y1 hy))))
    · exact lt_l W (hide (fun W => ask_f1 W (hide (fun W => rank_nan k W x0 x1 hx)) (hide (fun W => rank_any k W y0 y1 hy))))
  · by_cases hy : oK P Q y = 3
    · rw [if_pos (Or.inr hy)]
      exact lt_l W (hide (fun W => ask_f2 W (hide (fun W => rank_any k W x0 x1 hx)) (hide (fun W => rank_nan k W y0 y1 hy))))
    · rw [if_neg (by omega), ← cmpS_lt]
      exact lt_l W (hide (fun W => ask_t_lt W (hide (fun W => rank_any k W x0 x1 hx)) (hide (fun W => rank_any k W y0 y1 hy)) (hide (fun W => lt_c W))))
theorem gt_no {w e f P Q b : Int} (h : Wd w e f P Q b) (hf : f = 0) (x y : Int) (W : World) : Calls Try.prog 11 #[.int .i64 w, .int .u64 x, .int .u64 y] W fun r W' => r = .returned (.bool false) ∧ Below W.heap.size W W' :=
  gt_l W (hide (fun W => ask_f1 W (hide (rank_no h hf x)) (hide (rank_no h hf y))))
theorem gt_any {w e f P Q b x y : Int} (k : Kd w e f P Q b) (W : World) (x0 : 0 ≤ x) (x1 : x < 18446744073709551616) (y0 : 0 ≤ y) (y1 : y < 18446744073709551616) : Calls Try.prog 11 #[.int .i64 w, .int .u64 x, .int .u64 y] W fun r W' => r = .returned (.bool (cmpB P Q x y == 1)) ∧ Below W.heap.size W W' := by
  unfold cmpB
  by_cases hx : oK P Q x = 3
  · rw [if_pos (Or.inl hx)]
    by_cases hy : oK P Q y = 3
    · exact gt_l W (hide (fun W => ask_f1 W (hide (fun W => rank_nan k W x0 x1 hx)) (hide (fun W => rank_nan k W y0 y1 hy))))
    · exact gt_l W (hide (fun W => ask_f1 W (hide (fun W => rank_nan k W x0 x1 hx)) (hide (fun W => rank_any k W y0 y1 hy))))
  · by_cases hy : oK P Q y = 3
    · rw [if_pos (Or.inr hy)]
      exact gt_l W (hide (fun W => ask_f2 W (hide (fun W => rank_any k W x0 x1 hx)) (hide (fun W => rank_nan k W y0 y1 hy))))
    · rw [if_neg (by omega), ← cmpS_gt]
      exact gt_l W (hide (fun W => ask_t_gt W (hide (fun W => rank_any k W x0 x1 hx)) (hide (fun W => rank_any k W y0 y1 hy)) (hide (fun W => gt_c W))))
theorem le_no {w e f P Q b : Int} (h : Wd w e f P Q b) (hf : f = 0) (x y : Int) (W : World) : Calls Try.prog 12 #[.int .i64 w, .int .u64 x, .int .u64 y] W fun r W' => r = .returned (.bool false) ∧ Below W.heap.size W W' :=
  le_l W (hide (fun W => ask_f1 W (hide (rank_no h hf x)) (hide (rank_no h hf y))))
theorem le_any {w e f P Q b x y : Int} (k : Kd w e f P Q b) (W : World) (x0 : 0 ≤ x) (x1 : x < 18446744073709551616) (y0 : 0 ≤ y) (y1 : y < 18446744073709551616) : Calls Try.prog 12 #[.int .i64 w, .int .u64 x, .int .u64 y] W fun r W' => r = .returned (.bool (cmpB P Q x y == -1 || cmpB P Q x y == 0)) ∧ Below W.heap.size W W' := by
  unfold cmpB
  by_cases hx : oK P Q x = 3
  · rw [if_pos (Or.inl hx)]
    by_cases hy : oK P Q y = 3
    · exact le_l W (hide (fun W => ask_f1 W (hide (fun W => rank_nan k W x0 x1 hx)) (hide (fun W => rank_nan k W y0 y1 hy))))
    · exact le_l W (hide (fun W => ask_f1 W (hide (fun W => rank_nan k W x0 x1 hx)) (hide (fun W => rank_any k W y0 y1 hy))))
  · by_cases hy : oK P Q y = 3
    · rw [if_pos (Or.inr hy)]
      exact le_l W (hide (fun W => ask_f2 W (hide (fun W => rank_any k W x0 x1 hx)) (hide (fun W => rank_nan k W y0 y1 hy))))
    · rw [if_neg (by omega), ← cmpS_le]
      exact le_l W (hide (fun W => ask_t_le W (hide (fun W => rank_any k W x0 x1 hx)) (hide (fun W => rank_any k W y0 y1 hy)) (hide (fun W => le_c W))))
theorem ge_no {w e f P Q b : Int} (h : Wd w e f P Q b) (hf : f = 0) (x y : Int) (W : World) : Calls Try.prog 13 #[.int .i64 w, .int .u64 x, .int .u64 y] W fun r W' => r = .returned (.bool false) ∧ Below W.heap.size W W' :=
  ge_l W (hide (fun W => ask_f1 W (hide (rank_no h hf x)) (hide (rank_no h hf y))))
theorem ge_any {w e f P Q b x y : Int} (k : Kd w e f P Q b) (W : World) (x0 : 0 ≤ x) (x1 : x < 18446744073709551616) (y0 : 0 ≤ y) (y1 : y < 18446744073709551616) : Calls Try.prog 13 #[.int .i64 w, .int .u64 x, .int .u64 y] W fun r W' => r = .returned (.bool (cmpB P Q x y == 1 || cmpB P Q x y == 0)) ∧ Below W.heap.size W W' := by
  unfold cmpB
  by_cases hx : oK P Q x = 3
  · rw [if_pos (Or.inl hx)]
    by_cases hy : oK P Q y = 3
    · exact ge_l W (hide (fun W => ask_f1 W (hide (fun W => rank_nan k W x0 x1 hx)) (hide (fun W => rank_nan k W y0 y1 hy))))
    · exact ge_l W (hide (fun W => ask_f1 W (hide (fun W => rank_nan k W x0 x1 hx)) (hide (fun W => rank_any k W y0 y1 hy))))
  · by_cases hy : oK P Q y = 3
    · rw [if_pos (Or.inr hy)]
      exact ge_l W (hide (fun W => ask_f2 W (hide (fun W => rank_any k W x0 x1 hx)) (hide (fun W => rank_nan k W y0 y1 hy))))
    · rw [if_neg (by omega), ← cmpS_ge]
      exact ge_l W (hide (fun W => ask_t_ge W (hide (fun W => rank_any k W x0 x1 hx)) (hide (fun W => rank_any k W y0 y1 hy)) (hide (fun W => ge_c W))))
theorem ne_no {w e f P Q b : Int} (h : Wd w e f P Q b) (hf : f = 0) (x y : Int) (W : World) : Calls Try.prog 9 #[.int .i64 w, .int .u64 x, .int .u64 y] W fun r W' => r = .returned (.bool false) ∧ Below W.heap.size W W' :=
  ne_wf W (hide (okn_no h hf))
theorem ne_any {w e f P Q b x y : Int} (k : Kd w e f P Q b) (W : World) (x0 : 0 ≤ x) (x1 : x < 18446744073709551616) (y0 : 0 ≤ y) (y1 : y < 18446744073709551616) : Calls Try.prog 9 #[.int .i64 w, .int .u64 x, .int .u64 y] W fun r W' => r = .returned (.bool (cmpB P Q x y != 0)) ∧ Below W.heap.size W W' :=
  ne_wt W (hide (okn_t k)) (hide (fun W => eq_any k W x0 x1 y0 y1))

end Go.Proofs.Ytefpknkbfmjajaa
namespace Go.Proofs.Ytefpknkbfmjajaa
open Go.RowKit
open Go.Proofs.Ytefpknkbfmjajaa.W

theorem cmpS_swap (a b : Int) : cmpS b a = -cmpS a b := by
  unfold cmpS
  rcases Int.lt_trichotomy a b with h | h | h
  · rw [if_pos h, if_neg (by omega), if_neg (by omega)]; rfl
  · subst h; rw [if_neg (by omega), if_pos rfl]; rfl
  · rw [if_pos h, if_neg (by omega), if_neg (by omega)]
theorem cmpS_in (a b : Int) : cmpS a b = -1 ∧ a < b ∨ cmpS a b = 0 ∧ a = b ∨ cmpS a b = 1 ∧ b < a := by
  unfold cmpS
  rcases Int.lt_trichotomy a b with h | h | h
  · rw [if_pos h]; exact Or.inl ⟨rfl, h⟩
  · rw [if_neg (by omega), if_pos h]; exact Or.inr (Or.inl ⟨rfl, h⟩)
  · rw [if_neg (by omega), if_neg (by omega)]; exact Or.inr (Or.inr ⟨rfl, h⟩)
theorem cmpB_num {P Q x y : Int} (hx : oK P Q x ≠ 3) (hy : oK P Q y ≠ 3) : cmpB P Q x y = cmpS (sc P Q x) (sc P Q y) := by
  unfold cmpB
  rw [if_neg (by omega)]
theorem cmpB_nan {P Q x y : Int} (h : oK P Q x = 3 ∨ oK P Q y = 3) : cmpB P Q x y = 2 := by
  unfold cmpB
  rw [if_pos h]
theorem cmpB_ways (P Q x y : Int) : cmpB P Q x y = 2 ∧ cmpB P Q y x = 2 ∧ (oK P Q x = 3 ∨ oK P Q y = 3) ∨ oK P Q x ≠ 3 ∧ oK P Q y ≠ 3 ∧ (cmpB P Q x y = -1 ∧ cmpB P Q y x = 1 ∧ sc P Q x < sc P Q y ∨ cmpB P Q x y = 0 ∧ cmpB P Q y x = 0 ∧ sc P Q x = sc P Q y ∨ cmpB P Q x y = 1 ∧ cmpB P Q y x = -1 ∧ sc P Q y < sc P Q x) := by
  by_cases hx : oK P Q x = 3
  · exact Or.inl ⟨cmpB_nan (Or.inl hx), cmpB_nan (Or.inr hx), Or.inl hx⟩
  · by_cases hy : oK P Q y = 3
    · exact Or.inl ⟨cmpB_nan (Or.inr hy), cmpB_nan (Or.inl hy), Or.inr hy⟩
    · refine Or.inr ⟨hx, hy, ?_⟩
      rw [cmpB_num hx hy, cmpB_num hy hx]
      have := cmpS_swap (sc P Q x) (sc P Q y)
      have := cmpS_in (sc P Q x) (sc P Q y)
      omega

/-- Two floats that are the same number are the same bits, or noughts. -/
theorem same_bits {w e f P Q b x y : Int} (k : Kd w e f P Q b) (hx : oK P Q x ≠ 3) (hy : oK P Q y ≠ 3) (h : sc P Q x = sc P Q y) :
    sg P Q x = sg P Q y ∧ cutN f P Q x = cutN f P Q y ∨ sg P Q x = true ∧ sg P Q y = false ∧ cutN f P Q x = P * Q ∧ cutN f P Q y = 0 ∨ sg P Q x = false ∧ sg P Q y = true ∧ cutN f P Q x = 0 ∧ cutN f P Q y = P * Q := by
  obtain ⟨p1, p2, q1, q2⟩ := k.pos
  have z : ∀ n : Bool, fl f P Q n ((0 : Nat) : Int) = if n then P * Q else 0 := by
    intro n
    unfold fl put
    rw [if_neg k.f0]
    cases n <;> simp
  rw [cut_fl k hx, cut_fl k hy, ← oN_sg hx, ← oN_sg hy]
  unfold sc at h
  cases hn : oN P Q x <;> cases hm : oN P Q y <;> rw [hn, hm] at h <;> simp at h
  · left; rw [h]; exact ⟨rfl, rfl⟩
  · right; right
    have h1 : oc P Q x = 0 := by omega
    have h2 : oc P Q y = 0 := by omega
    rw [h1, h2, z, z]
    exact ⟨rfl, rfl, rfl, rfl⟩
  · right; left
    have h1 : oc P Q x = 0 := by omega
    have h2 : oc P Q y = 0 := by omega
    rw [h1, h2, z, z]
    exact ⟨rfl, rfl, rfl, rfl⟩
  · left; rw [h]; exact ⟨rfl, rfl⟩

theorem cutN_mod {w e f P Q b : Int} (k : Kd w e f P Q b) : ∃ m : Nat, P * Q = ((2 ^ m : Nat) : Int) ∧ ∀ X : Nat, cutN f P Q (X : Int) = ((X % 2 ^ (m + 1) : Nat) : Int) := by
  rcases k with ⟨-, -, rfl, rfl, rfl, -⟩ | ⟨-, -, rfl, rfl, rfl, -⟩
  · refine ⟨31, by decide, fun X => ?_⟩
    show (if (23 : Int) = 0 then 0 else (X : Int) % 4294967296) = ((X % 4294967296 : Nat) : Int)
    rw [if_neg (by decide)]
    omega
  · refine ⟨63, by decide, fun X => ?_⟩
    show (if (52 : Int) = 0 then 0 else (X : Int) % 18446744073709551616) = ((X % 18446744073709551616 : Nat) : Int)
    rw [if_neg (by decide)]
    omega
/-- Of the same number's bits the ones that are in one of them, and in both. -/
theorem or_and_bits {w e f P Q b x y : Int} (k : Kd w e f P Q b) (x0 : 0 ≤ x) (x1 : x < 18446744073709551616) (y0 : 0 ≤ y) (y1 : y < 18446744073709551616) (hx : oK P Q x ≠ 3) (hy : oK P Q y ≠ 3) (h : sc P Q x = sc P Q y) :
    ∃ u v, bits .or .u64 x y = u ∧ bits .and .u64 x y = v ∧ 0 ≤ u ∧ u < 18446744073709551616 ∧ 0 ≤ v ∧ v < 18446744073709551616 ∧ cutN f P Q u = (if sg P Q x = true then cutN f P Q x else cutN f P Q y) ∧ cutN f P Q v = (if sg P Q x = false then cutN f P Q x else cutN f P Q y) := by
  have hs := same_bits k hx hy h
  obtain ⟨m, hm, hc⟩ := cutN_mod k
  clear h hx hy
  obtain ⟨X, rfl⟩ := Int.eq_ofNat_of_zero_le x0
  obtain ⟨Y, rfl⟩ := Int.eq_ofNat_of_zero_le y0
  have hX : X < 2 ^ 64 := by omega
  have hY : Y < 2 ^ 64 := by omega
  have ho : X ||| Y < 2 ^ 64 := Nat.or_lt_two_pow hX hY
  have ha : X &&& Y < 2 ^ 64 := Nat.and_lt_two_pow _ hY
  refine ⟨_, _, Go.bits_or_u64_nat X Y (by omega) (by omega), Go.bits_and_u64_nat X Y (by omega) (by omega), by omega, by omega, by omega, by omega, ?_, ?_⟩
  all_goals
    rw [hc, hc, hc] at *
    first | rw [Nat.or_mod_two_pow] | rw [Nat.and_mod_two_pow]
    generalize X % 2 ^ (m + 1) = A at *
    generalize Y % 2 ^ (m + 1) = B at *
    rw [hm] at hs
    rcases hs with ⟨h1, h2⟩ | ⟨h1, h2, h3, h4⟩ | ⟨h1, h2, h3, h4⟩
    · have : A = B := by omega
      subst this
      first | rw [Nat.or_self] | rw [Nat.and_self]
      split <;> rfl
    · have e1 : A = 2 ^ m := by omega
      have e2 : B = 0 := by omega
      rw [h1, e1, e2]
      simp
    · have e1 : A = 0 := by omega
      have e2 : B = 2 ^ m := by omega
      rw [h1, e1, e2]
      simp

theorem min_no {w e f P Q b : Int} (h : Wd w e f P Q b) (hf : f = 0) (x y : Int) (W : World) : Calls Try.prog 16 #[.int .i64 w, .int .u64 x, .int .u64 y] W fun r W' => r = .returned (.int .u64 0) ∧ Below W.heap.size W W' := by
  have hn := fun W => nan_any h W
  rw [put_0 hf] at hn
  exact min_l W (hide (fun W => pick_min_n W (hide (lt_no h hf x y)) (hide (lt_no h hf y x)) (hide (eq_no h hf x y)) (hide hn)))
theorem min_any {w e f P Q b x y : Int} (k : Kd w e f P Q b) (W : World) (x0 : 0 ≤ x) (x1 : x < 18446744073709551616) (y0 : 0 ≤ y) (y1 : y < 18446744073709551616) : Calls Try.prog 16 #[.int .i64 w, .int .u64 x, .int .u64 y] W fun r W' => r = .returned (.int .u64 (pickB f P Q (-1) true x y)) ∧ Below W.heap.size W W' := by
  have HL := fun W => lt_any k W x0 x1 y0 y1
  have HM := fun W => lt_any k W y0 y1 x0 x1
  have HE := fun W => eq_any k W x0 x1 y0 y1
  unfold pickB
  rcases cmpB_ways P Q x y with ⟨e1, e2, -⟩ | ⟨hx, hy, h⟩
  · rw [e1] at HL HE
    rw [e2] at HM
    rw [if_pos e1]
    exact min_l W (hide (fun W => pick_min_n W (hide HL) (hide HM) (hide HE) (hide (fun W => nan_any k.wd W))))
  · rcases h with ⟨e1, e2, h⟩ | ⟨e1, e2, h⟩ | ⟨e1, e2, h⟩ <;> rw [e1] at HL HE <;> rw [e2] at HM <;> rw [e1]
    · rw [if_neg (by omega), if_pos (Or.inl (by omega))]
      exact min_l W (hide (fun W => pick_min_a W (hide HL) (hide (fun W => cut_any x k.wd W x0 x1))))
    · obtain ⟨u, v, hu, hv, u0, u1, v0, v1, cu, cv⟩ := or_and_bits k x0 x1 y0 y1 hx hy h
      have e : (if (0 : Int) = 2 then nanB f P Q else if (0 : Int) = (-1) ∨ ((0 : Int) = 0 ∧ sg P Q x = true) then cutN f P Q x else cutN f P Q y) = cutN f P Q u := by
        rw [cu, if_neg (by omega)]
        cases sg P Q x <;> simp
      rw [e]
      exact min_l W (hide (fun W => pick_min_e W (hide HL) (hide HM) (hide HE) (hide (fun W => or_c W hu)) (hide (fun W => cut_any _ k.wd W u0 u1))))
    · rw [if_neg (by omega), if_neg (by omega)]
      exact min_l W (hide (fun W => pick_min_b W (hide HL) (hide HM) (hide (fun W => cut_any y k.wd W y0 y1))))
theorem max_no {w e f P Q b : Int} (h : Wd w e f P Q b) (hf : f = 0) (x y : Int) (W : World) : Calls Try.prog 17 #[.int .i64 w, .int .u64 x, .int .u64 y] W fun r W' => r = .returned (.int .u64 0) ∧ Below W.heap.size W W' := by
  have hn := fun W => nan_any h W
  rw [put_0 hf] at hn
  exact max_l W (hide (fun W => pick_max_n W (hide (gt_no h hf x y)) (hide (gt_no h hf y x)) (hide (eq_no h hf x y)) (hide hn)))
theorem max_any {w e f P Q b x y : Int} (k : Kd w e f P Q b) (W : World) (x0 : 0 ≤ x) (x1 : x < 18446744073709551616) (y0 : 0 ≤ y) (y1 : y < 18446744073709551616) : Calls Try.prog 17 #[.int .i64 w, .int .u64 x, .int .u64 y] W fun r W' => r = .returned (.int .u64 (pickB f P Q 1 false x y)) ∧ Below W.heap.size W W' := by
  have HL := fun W => gt_any k W x0 x1 y0 y1
  have HM := fun W => gt_any k W y0 y1 x0 x1
  have HE := fun W => eq_any k W x0 x1 y0 y1
  unfold pickB
  rcases cmpB_ways P Q x y with ⟨e1, e2, -⟩ | ⟨hx, hy, h⟩
  · rw [e1] at HL HE
    rw [e2] at HM
    rw [if_pos e1]
    exact max_l W (hide (fun W => pick_max_n W (hide HL) (hide HM) (hide HE) (hide (fun W => nan_any k.wd W))))
  · rcases h with ⟨e1, e2, h⟩ | ⟨e1, e2, h⟩ | ⟨e1, e2, h⟩ <;> rw [e1] at HL HE <;> rw [e2] at HM <;> rw [e1]
    · rw [if_neg (by omega), if_neg (by omega)]
      exact max_l W (hide (fun W => pick_max_b W (hide HL) (hide HM) (hide (fun W => cut_any y k.wd W y0 y1))))
    · obtain ⟨u, v, hu, hv, u0, u1, v0, v1, cu, cv⟩ := or_and_bits k x0 x1 y0 y1 hx hy h
      have e : (if (0 : Int) = 2 then nanB f P Q else if (0 : Int) = 1 ∨ ((0 : Int) = 0 ∧ sg P Q x = false) then cutN f P Q x else cutN f P Q y) = cutN f P Q v := by
        rw [cv, if_neg (by omega)]
        cases sg P Q x <;> simp
      rw [e]
      exact max_l W (hide (fun W => pick_max_e W (hide HL) (hide HM) (hide HE) (hide (fun W => and_c W hv)) (hide (fun W => cut_any _ k.wd W v0 v1))))
    · rw [if_neg (by omega), if_pos (Or.inl (by omega))]
      exact max_l W (hide (fun W => pick_max_a W (hide HL) (hide (fun W => cut_any x k.wd W x0 x1))))

end Go.Proofs.Ytefpknkbfmjajaa
namespace Go.Proofs.Ytefpknkbfmjajaa
open Go.RowKit
open Go.Proofs.Ytefpknkbfmjajaa.W

theorem cmp_scale (x y t : Nat) : cmpN (x * 2 ^ t) (y * 2 ^ t) = cmpN x y := by
  have h := Nat.two_pow_pos t
  unfold cmpN
  simp only [Nat.mul_lt_mul_right h]
/-- A number's sign. -/
def sgn (n : Bool) (K : Int) : Int := if K = 0 then 0 else if n then -1 else 1
theorem sign_any (n : Bool) (K X S : Int) (W : World) : Calls Try.prog 31 #[.agg #[.bool n, .int .i64 K, .int .i64 X, .int .u64 S]] W fun r W' => r = .returned (.int .i64 (sgn n K)) ∧ Below W.heap.size W W' := by
  unfold sgn
  by_cases h : K = 0
  · rw [if_pos h]
    exact sign_z W (eq_t h)
  · rw [if_neg h]
    cases n
    · exact sign_p W (eq_f h)
    · exact sign_m W (eq_f h)

theorem mag_up {X1 X2 S : Int} (h : X1 ≤ X2) (l : -5000 ≤ X1) : mag X2 S = S.toNat * 2 ^ (X2 - X1).toNat * 2 ^ (X1 + 5000).toNat := by
  unfold mag
  rw [Nat.mul_assoc, ← Nat.pow_add]
  congr 2
  omega
theorem cmpN_fval (f L c d : Nat) : cmpN (fval f L c) (fval f L d) = cmpS (c : Int) (d : Int) := by
  have h1 := @fval_le f L c d
  have h2 := @fval_le f L d c
  unfold cmpN cmpS
  rcases Nat.lt_trichotomy c d with h | h | h
  · rw [if_pos (by omega), if_pos (by omega)]
  · rw [if_neg (by omega), if_neg (by omega), if_neg (by omega), if_pos (by omega)]
  · rw [if_neg (by omega), if_pos (by omega), if_neg (by omega), if_neg (by omega)]
theorem cmpS_neg (a b : Int) : cmpS (-a) (-b) = -cmpS a b := by
  rw [← cmpS_swap]
  unfold cmpS
  rcases Int.lt_trichotomy a b with h | h | h
  · rw [if_neg (by omega), if_neg (by omega), if_neg (by omega), if_neg (by omega)]
  · rw [if_neg (by omega), if_pos (by omega), if_neg (by omega), if_pos (by omega)]
  · rw [if_pos (by omega), if_pos (by omega)]

theorem refCmp8_any {w e f P Q b x y : Int} (k : Kd w e f P Q b) (W : World) (x0 : 0 ≤ x) (x1 : x < 18446744073709551616) (y0 : 0 ≤ y) (y1 : y < 18446744073709551616) :
    Calls Try.prog 15 #[.int .i64 w, .int .u64 x, .int .u64 y] W fun r W' => r = .returned (.int .i64 (cmpB P Q x y)) ∧ Below W.heap.size W W' := by
  obtain ⟨X1, S1, o1, t1, m1⟩ := open_kd k x
  obtain ⟨X2, S2, o2, t2, m2⟩ := open_kd k y
  have HO1 := hide (fun W => refOpen_any x k W x0 x1 o1)
  have HO2 := hide (fun W => refOpen_any y k W y0 y1 o2)
  by_cases a3 : oK P Q x = 3
  · rw [cmpB_nan (Or.inl a3)]
    exact cmp_n1 W HO1 HO2 (eq_t a3)
  by_cases b3 : oK P Q y = 3
  · rw [cmpB_nan (Or.inr b3)]
    exact cmp_n2 W HO1 HO2 (eq_f a3) (eq_t b3)
  rw [cmpB_num a3 b3]
  have ka := kind_oc k x
  have kb := kind_oc k y
  have HS1 := hide (sign_any (oN P Q x) (oK P Q x) X1 S1)
  have HS2 := hide (sign_any (oN P Q y) (oK P Q y) X2 S2)
  have tp := top_pos k
  by_cases h1 : sgn (oN P Q x) (oK P Q x) < sgn (oN P Q y) (oK P Q y)
  · have hc : sc P Q x < sc P Q y := by
      unfold sc
      unfold sgn at h1
      cases hn : oN P Q x <;> cases hm : oN P Q y <;> rw [hn, hm] at h1 <;> simp at h1 ⊢ <;> (try split at h1) <;> (try split at h1) <;> omega
    rw [show cmpS (sc P Q x) (sc P Q y) = -1 by unfold cmpS; rw [if_pos hc]]
    exact cmp_lt W HO1 HO2 (eq_f a3) (eq_f b3) HS1 HS2 h1
  by_cases h2 : sgn (oN P Q y) (oK P Q y) < sgn (oN P Q x) (oK P Q x)
  · have hc : sc P Q y < sc P Q x := by
      unfold sc
      unfold sgn at h2
      cases hn : oN P Q x <;> cases hm : oN P Q y <;> rw [hn, hm] at h2 <;> simp at h2 ⊢ <;> (try split at h2) <;> (try split at h2) <;> omega
    rw [show cmpS (sc P Q x) (sc P Q y) = 1 by unfold cmpS; rw [if_neg (by omega), if_neg (by omega)]]
    exact cmp_gt W HO1 HO2 (eq_f a3) (eq_f b3) HS1 HS2 h2
  by_cases h3 : sgn (oN P Q x) (oK P Q x) = 0
  · have h4 : sgn (oN P Q y) (oK P Q y) = 0 := by omega
    have kz : ∀ (n : Bool) (K : Int), sgn n K = 0 → K = 0 := by
      intro n K h
      unfold sgn at h
      by_cases hk : K = 0
      · exact hk
      · rw [if_neg hk] at h
        cases n <;> simp at h
    have q1 := kz _ _ h3
    have q2 := kz _ _ h4
    have c1 : oc P Q x = 0 := by omega
    have c2 : oc P Q y = 0 := by omega
    have hc : sc P Q x = sc P Q y := by
      unfold sc
      rw [c1, c2]
      simp
    rw [show cmpS (sc P Q x) (sc P Q y) = 0 by unfold cmpS; rw [if_neg (by omega), if_pos hc]]
    exact cmp_z W HO1 HO2 (eq_f a3) (eq_f b3) HS1 HS2 h1 h2 (eq_t h3)
  obtain ⟨q1, q2, hn⟩ : oK P Q x ≠ 0 ∧ oK P Q y ≠ 0 ∧ oN P Q x = oN P Q y := by
    unfold sgn at h1 h2 h3
    by_cases q1 : oK P Q x = 0
    · rw [if_pos q1] at h3; exact absurd rfl h3
    · rw [if_neg q1] at h1 h2 h3
      by_cases q2 : oK P Q y = 0
      · rw [if_pos q2] at h1 h2
        cases hh : oN P Q x <;> rw [hh] at h1 h2 <;> simp at h1 h2
      · rw [if_neg q2] at h1 h2
        refine ⟨q1, q2, ?_⟩
        revert h1 h2
        cases oN P Q x <;> cases oN P Q y <;> simp
  have E3 := eq_f h3
  have fin : ∀ d, cmpS (oc P Q x : Int) (oc P Q y : Int) = d → cmpS (sc P Q x) (sc P Q y) = (if oN P Q x then -d else d) := by
    intro d hd
    unfold sc
    rw [← hn]
    cases oN P Q x <;> simp
    · exact hd
    · rw [cmpS_neg, hd]
  have neg1 : ∀ d : Int, -1 ≤ d → d ≤ 1 → IntKind.i64.wrap (-d) = -d := fun d _ _ => i64_id (by omega) (by omega)
  by_cases i1 : oK P Q x = 2
  · obtain ⟨d, hd, hs, l1, l2⟩ : ∃ d, IntKind.i64.wrap (oK P Q x - oK P Q y) = d ∧ cmpS (oc P Q x : Int) (oc P Q y : Int) = d ∧ -1 ≤ d ∧ d ≤ 1 := by
      refine ⟨_, rfl, ?_⟩
      rw [i64_id (by omega) (by omega)]
      have := cmpS_in (oc P Q x : Int) (oc P Q y : Int)
      omega
    rw [fin d hs]
    cases hx : oN P Q x <;> rw [hx] at HO1 HS1 h1 h2 E3
    · exact cmp_i1f W HO1 HO2 (eq_f a3) (eq_f b3) HS1 HS2 h1 h2 E3 (eq_t i1) hd
    · exact cmp_i1t W HO1 HO2 (eq_f a3) (eq_f b3) HS1 HS2 h1 h2 E3 (eq_t i1) hd (neg1 d l1 l2)
  by_cases i2 : oK P Q y = 2
  · obtain ⟨d, hd, hs, l1, l2⟩ : ∃ d, IntKind.i64.wrap (oK P Q x - oK P Q y) = d ∧ cmpS (oc P Q x : Int) (oc P Q y : Int) = d ∧ -1 ≤ d ∧ d ≤ 1 := by
      refine ⟨_, rfl, ?_⟩
      rw [i64_id (by omega) (by omega)]
      have := cmpS_in (oc P Q x : Int) (oc P Q y : Int)
      omega
    rw [fin d hs]
    cases hx : oN P Q x <;> rw [hx] at HO1 HS1 h1 h2 E3
    · exact cmp_i2f W HO1 HO2 (eq_f a3) (eq_f b3) HS1 HS2 h1 h2 E3 (eq_f i1) (eq_t i2) hd
    · exact cmp_i2t W HO1 HO2 (eq_f a3) (eq_f b3) HS1 HS2 h1 h2 E3 (eq_f i1) (eq_t i2) hd (neg1 d l1 l2)
  have kz : IntKind.i64.wrap 0 = 0 := by decide
  obtain ⟨p1, p2, p3, p4⟩ := k.pos
  have hb : 0 ≤ b ∧ b ≤ 1023 ∧ 0 ≤ f ∧ f ≤ 52 := by rcases k with h | h <;> omega
  have f1 : -5000 ≤ X1 ∧ X1 ≤ 4000 ∧ 0 ≤ S1 ∧ S1 < 18446744073709551616 := by unfold Prt at t1; omega
  have f2 : -5000 ≤ X2 ∧ X2 ≤ 4000 ∧ 0 ≤ S2 ∧ S2 < 18446744073709551616 := by unfold Prt at t2; omega
  have P1 : Hid (S1.toNat < pw 2) := by unfold pw; exact (by omega : S1.toNat < 18446744073709551616)
  have P2 : Hid (S2.toNat < pw 2) := by unfold pw; exact (by omega : S2.toNat < 18446744073709551616)
  have L1 := hide f1.2.2
  have L2 := hide f2.2.2
  rw [(oM_fin k ⟨a3, i1⟩).1] at m1
  rw [(oM_fin k ⟨b3, i2⟩).1] at m2
  have hcm := cmpN_fval f.toNat (lowN f b) (oc P Q x) (oc P Q y)
  rw [← m1, ← m2] at hcm
  have hin := cmpS_in (oc P Q x : Int) (oc P Q y : Int)
  have hl1 : -1 ≤ cmpS (oc P Q x : Int) (oc P Q y : Int) := by omega
  have hl2 : cmpS (oc P Q x : Int) (oc P Q y : Int) ≤ 1 := by omega
  rw [fin _ rfl]
  by_cases h6 : X2 < X1
  · have e1 : cmpN (S1.toNat * 2 ^ (X1 - X2).toNat) S2.toNat = cmpS (oc P Q x : Int) (oc P Q y : Int) := by
      rw [← hcm, mag_up (X1 := X2) (X2 := X1) (by omega) f2.1]
      unfold mag
      rw [cmp_scale]
    generalize cmpS (oc P Q x : Int) (oc P Q y : Int) = d at *
    cases hx : oN P Q x <;> rw [hx] at HO1 HS1 h1 h2 E3
    · exact cmp_lof W HO1 HO2 (eq_f a3) (eq_f b3) HS1 HS2 h1 h2 E3 (eq_f i1) (eq_f i2) kz h6 (i64_id (by omega) (by omega)) (by omega) (by omega) L1 L2 P1 P2 e1
    · exact cmp_lot W HO1 HO2 (eq_f a3) (eq_f b3) HS1 HS2 h1 h2 E3 (eq_f i1) (eq_f i2) kz h6 (i64_id (by omega) (by omega)) (by omega) (by omega) L1 L2 P1 P2 e1 (neg1 d hl1 hl2)
  · have e1 : cmpN S1.toNat (S2.toNat * 2 ^ (X2 - X1).toNat) = cmpS (oc P Q x : Int) (oc P Q y : Int) := by
      rw [← hcm, mag_up (X1 := X1) (X2 := X2) (by omega) f1.1]
      unfold mag
      rw [cmp_scale]
    generalize cmpS (oc P Q x : Int) (oc P Q y : Int) = d at *
    cases hx : oN P Q x <;> rw [hx] at HO1 HS1 h1 h2 E3
    · exact cmp_hif W HO1 HO2 (eq_f a3) (eq_f b3) HS1 HS2 h1 h2 E3 (eq_f i1) (eq_f i2) kz h6 (i64_id (by omega) (by omega)) (by omega) (by omega) L1 L2 P1 P2 e1
    · exact cmp_hit W HO1 HO2 (eq_f a3) (eq_f b3) HS1 HS2 h1 h2 E3 (eq_f i1) (eq_f i2) kz h6 (i64_id (by omega) (by omega)) (by omega) (by omega) L1 L2 P1 P2 e1 (neg1 d hl1 hl2)

/-- What is cut off is the same float. -/
theorem cut_same {w e f P Q b : Int} (k : Kd w e f P Q b) (x : Int) : 0 ≤ cutN f P Q x ∧ cutN f P Q x < 18446744073709551616 ∧ oK P Q (cutN f P Q x) = oK P Q x ∧ sg P Q (cutN f P Q x) = sg P Q x ∧ sc P Q (cutN f P Q x) = sc P Q x ∧ cutN f P Q (cutN f P Q x) = cutN f P Q x := by
  obtain ⟨p1, p2, q1, q2⟩ := k.pos
  obtain ⟨u, v⟩ := exp_in (x / P) (show 1 ≤ Q by omega)
  obtain ⟨u', v'⟩ := exp_in x (show 1 ≤ P by omega)
  obtain ⟨r0, r1, r2, r3, r4⟩ := put_in (n := sg P Q x) k u v u' v'
  rw [cut_put k.wd.sz] at r0 r1 r2 r3 r4
  refine ⟨r0, r1, ?_, r2, ?_, ?_⟩
  · unfold oK; rw [r3, r4]
  · unfold sc oN oc; rw [r2, r3, r4]
  · rw [← cut_put k.wd.sz (cutN f P Q x), r2, r3, r4, cut_put k.wd.sz]
theorem cmp_cut {w e f P Q b : Int} (k : Kd w e f P Q b) (x y : Int) : cmpB P Q (cutN f P Q x) (cutN f P Q y) = cmpB P Q x y := by
  obtain ⟨-, -, a1, -, a2, -⟩ := cut_same k x
  obtain ⟨-, -, b1, -, b2, -⟩ := cut_same k y
  unfold cmpB
  rw [a1, a2, b1, b2]

theorem refPick_any {w e f P Q b x y : Int} (k : Kd w e f P Q b) (t : Int) (n : Bool) (W : World) (x0 : 0 ≤ x) (x1 : x < 18446744073709551616) (y0 : 0 ≤ y) (y1 : y < 18446744073709551616) :
    Calls Try.prog 19 #[.int .i64 w, .int .u64 x, .int .u64 y, .int .i64 t, .bool n] W fun r W' => r = .returned (.int .u64 (pickB f P Q t n x y)) ∧ Below W.heap.size W W' := by
  obtain ⟨c0, c1, -, hs, -, -⟩ := cut_same k x
  obtain ⟨d0, d1, -, -, -, -⟩ := cut_same k y
  have H1 := hide (fun W => refCut_any x k W x0 x1)
  have H2 := hide (fun W => refCut_any y k W y0 y1)
  have H3 := fun W => refCmp8_any k W c0 c1 d0 d1
  rw [cmp_cut k] at H3
  have H4 := fun W => refNeg_any (cutN f P Q x) k W c0 c1
  rw [hs] at H4
  unfold pickB
  generalize cmpB P Q x y = c at *
  by_cases e2 : c = 2
  · rw [if_pos e2]
    exact rpick_n W H1 H2 (hide H3) (eq_t e2) (hide (fun W => refNan_any k W))
  rw [if_neg e2]
  by_cases e3 : c = t
  · rw [if_pos (Or.inl e3)]
    exact rpick_w W H1 H2 (hide H3) (eq_f e2) (eq_t e3)
  by_cases e0 : c = 0
  · by_cases hg : sg P Q x = n
    · rw [if_pos (Or.inr ⟨e0, hg⟩)]
      exact rpick_e W H1 H2 (hide H3) (hide H4) (eq_f e2) (eq_f e3) (eq_t e0) (by rw [hg]; cases n <;> rfl)
    · rw [if_neg (fun h => h.elim e3 (fun h => hg h.2))]
      exact rpick_f W H1 H2 (hide H3) (hide H4) (eq_f e2) (eq_f e3) (eq_t e0) (by revert hg; cases sg P Q x <;> cases n <;> simp)
  · rw [if_neg (fun h => h.elim e3 (fun h => e0 h.1))]
    exact rpick_o W H1 H2 (hide H3) (eq_f e2) (eq_f e3) (eq_f e0)

end Go.Proofs.Ytefpknkbfmjajaa
namespace Go.Proofs.Ytefpknkbfmjajaa
open Go.RowKit
open Go.Proofs.Ytefpknkbfmjajaa.W

set_option maxRecDepth 100000 in
set_option maxHeartbeats 2000000 in
theorem awake_l (W : World) (H1 : Hid (∀ W, Calls Try.prog 22 #[.int .i64 64] W fun r W' => r = .returned (.int .u64 9221120237041090560) ∧ Below W.heap.size W W')) (H2 : Hid (∀ W, Calls Try.prog 16 #[.int .i64 64, .int .u64 0, .int .u64 9223372036854775808] W fun r W' => r = .returned (.int .u64 9223372036854775808) ∧ Below W.heap.size W W')) (H3 : Hid (∀ W, Calls Try.prog 10 #[.int .i64 64, .int .u64 9221120237041090560, .int .u64 4607182418800017408] W fun r W' => r = .returned (.bool false) ∧ Below W.heap.size W W')) (H4 : Hid (∀ W, Calls Try.prog 9 #[.int .i64 64, .int .u64 9221120237041090560, .int .u64 9221120237041090560] W fun r W' => r = .returned (.bool true) ∧ Below W.heap.size W W')) (H5 : Hid (∀ W, Calls Try.prog 11 #[.int .i64 64, .int .u64 4607182418800017408, .int .u64 9223372036854775808] W fun r W' => r = .returned (.bool true) ∧ Below W.heap.size W W')) :
    Calls Try.prog 7 #[] W fun r W' => r = .returned (.bool true) ∧ Below W.heap.size W W' := by
  go_enter Try.func7, Try.ntmps7
  go_wp2_with fail
  refine (unhide H1 _).mono ?_
  rintro _ w1 ⟨rfl, hb⟩
  have HB := hide hb
  clear hb
  go_wp2_with fail
  refine (unhide H2 _).mono ?_
  rintro _ w2 ⟨rfl, hb⟩
  have HB := hide (bthen (unhide HB) hb)
  clear hb
  go_wp2_with fail
  refine (unhide H3 _).mono ?_
  rintro _ w3 ⟨rfl, hb⟩
  have HB := hide (bthen (unhide HB) hb)
  clear hb
  go_wp2_with fail
  refine (unhide H4 _).mono ?_
  rintro _ w4 ⟨rfl, hb⟩
  have HB := hide (bthen (unhide HB) hb)
  clear hb
  go_wp2_with fail
  refine (unhide H5 _).mono ?_
  rintro _ w5 ⟨rfl, hb⟩
  have HB := hide (bthen (unhide HB) hb)
  clear hb
  go_wp2_with fail
  go_ret
  exact ⟨rfl, unhide HB⟩
theorem kd_64s : Kd 64 11 52 4503599627370496 2048 1023 := Or.inr ⟨rfl, rfl, rfl, rfl, rfl, rfl⟩
theorem awake_any (W : World) : Calls Try.prog 7 #[] W fun r W' => r = .returned (.bool true) ∧ Below W.heap.size W W' := by
  have h1 := fun W => nan_any kd_64s.wd W
  have h2 := fun W => min_any (x := 0) (y := 9223372036854775808) kd_64s W (by omega) (by omega) (by omega) (by omega)
  have h3 := fun W => lt_any (x := 9221120237041090560) (y := 4607182418800017408) kd_64s W (by omega) (by omega) (by omega) (by omega)
  have h4 := fun W => ne_any (x := 9221120237041090560) (y := 9221120237041090560) kd_64s W (by omega) (by omega) (by omega) (by omega)
  have h5 := fun W => gt_any (x := 4607182418800017408) (y := 9223372036854775808) kd_64s W (by omega) (by omega) (by omega) (by omega)
  rw [show put 52 4503599627370496 2048 false (2048 - 1) (4503599627370496 / 2) = 9221120237041090560 by decide +kernel] at h1
  rw [show pickB 52 4503599627370496 2048 (-1) true 0 9223372036854775808 = 9223372036854775808 by decide +kernel] at h2
  rw [show (cmpB 4503599627370496 2048 9221120237041090560 4607182418800017408 == -1) = false by decide +kernel] at h3
  rw [show (cmpB 4503599627370496 2048 9221120237041090560 9221120237041090560 != 0) = true by decide +kernel] at h4
  rw [show (cmpB 4503599627370496 2048 4607182418800017408 9223372036854775808 == 1) = true by decide +kernel] at h5
  exact awake_l W (hide h1) (hide h2) (hide h3) (hide h4) (hide h5)
set_option maxRecDepth 100000 in
set_option maxHeartbeats 2000000 in
theorem asks_no {w x y : Int} (W : World) (HW : Hid (∀ W, Calls Try.prog 7 #[] W fun r W' => r = .returned (.bool true) ∧ Below W.heap.size W W')) (H0 : Hid (∀ W, Calls Try.prog 8 #[.int .i64 w, .int .u64 x, .int .u64 y] W fun r W' => r = .returned (.bool false) ∧ Below W.heap.size W W')) (H1 : Hid (∀ W, Calls Try.prog 9 #[.int .i64 w, .int .u64 x, .int .u64 y] W fun r W' => r = .returned (.bool false) ∧ Below W.heap.size W W')) (H2 : Hid (∀ W, Calls Try.prog 10 #[.int .i64 w, .int .u64 x, .int .u64 y] W fun r W' => r = .returned (.bool false) ∧ Below W.heap.size W W')) (H3 : Hid (∀ W, Calls Try.prog 11 #[.int .i64 w, .int .u64 x, .int .u64 y] W fun r W' => r = .returned (.bool false) ∧ Below W.heap.size W W')) (H4 : Hid (∀ W, Calls Try.prog 12 #[.int .i64 w, .int .u64 x, .int .u64 y] W fun r W' => r = .returned (.bool false) ∧ Below W.heap.size W W')) (H5 : Hid (∀ W, Calls Try.prog 13 #[.int .i64 w, .int .u64 x, .int .u64 y] W fun r W' => r = .returned (.bool false) ∧ Below W.heap.size W W')) (HK : Hid (∀ W, Calls Try.prog 14 #[.int .i64 w] W fun r W' => r = .returned (.bool false) ∧ Below W.heap.size W W')) :
    Calls Try.prog 3 #[.int .i64 w, .int .u64 x, .int .u64 y] W fun r W' => r = .returned (.bool true) ∧ Below W.heap.size W W' := by
  go_enter Try.func3, Try.ntmps3
  go_wp2_with fail
  refine (unhide HW _).mono ?_
  rintro _ w1 ⟨rfl, hb⟩
  have HB := hide hb
  clear hb
  go_wp2_with fail
  refine (unhide H0 _).mono ?_
  rintro _ w2 ⟨rfl, hb⟩
  have HB := hide (bthen (unhide HB) hb)
  clear hb
  go_wp2_with fail
  refine (unhide H1 _).mono ?_
  rintro _ w3 ⟨rfl, hb⟩
  have HB := hide (bthen (unhide HB) hb)
  clear hb
  go_wp2_with fail
  refine (unhide H2 _).mono ?_
  rintro _ w4 ⟨rfl, hb⟩
  have HB := hide (bthen (unhide HB) hb)
  clear hb
  go_wp2_with fail
  refine (unhide H3 _).mono ?_
  rintro _ w5 ⟨rfl, hb⟩
  have HB := hide (bthen (unhide HB) hb)
  clear hb
  go_wp2_with fail
  refine (unhide H4 _).mono ?_
  rintro _ w6 ⟨rfl, hb⟩
  have HB := hide (bthen (unhide HB) hb)
  clear hb
  go_wp2_with fail
  refine (unhide H5 _).mono ?_
  rintro _ w7 ⟨rfl, hb⟩
  have HB := hide (bthen (unhide HB) hb)
  clear hb
  go_wp2_with fail
  refine (unhide HK _).mono ?_
  rintro _ w8 ⟨rfl, hb⟩
  have HB := hide (bthen (unhide HB) hb)
  clear hb
  go_wp2_with fail
  go_ret
  exact ⟨rfl, unhide HB⟩
set_option maxRecDepth 100000 in
set_option maxHeartbeats 2000000 in
theorem asks_n {w x y : Int} (W : World) (HW : Hid (∀ W, Calls Try.prog 7 #[] W fun r W' => r = .returned (.bool true) ∧ Below W.heap.size W W')) (H0 : Hid (∀ W, Calls Try.prog 8 #[.int .i64 w, .int .u64 x, .int .u64 y] W fun r W' => r = .returned (.bool false) ∧ Below W.heap.size W W')) (H1 : Hid (∀ W, Calls Try.prog 9 #[.int .i64 w, .int .u64 x, .int .u64 y] W fun r W' => r = .returned (.bool true) ∧ Below W.heap.size W W')) (H2 : Hid (∀ W, Calls Try.prog 10 #[.int .i64 w, .int .u64 x, .int .u64 y] W fun r W' => r = .returned (.bool false) ∧ Below W.heap.size W W')) (H3 : Hid (∀ W, Calls Try.prog 11 #[.int .i64 w, .int .u64 x, .int .u64 y] W fun r W' => r = .returned (.bool false) ∧ Below W.heap.size W W')) (H4 : Hid (∀ W, Calls Try.prog 12 #[.int .i64 w, .int .u64 x, .int .u64 y] W fun r W' => r = .returned (.bool false) ∧ Below W.heap.size W W')) (H5 : Hid (∀ W, Calls Try.prog 13 #[.int .i64 w, .int .u64 x, .int .u64 y] W fun r W' => r = .returned (.bool false) ∧ Below W.heap.size W W')) (HK : Hid (∀ W, Calls Try.prog 14 #[.int .i64 w] W fun r W' => r = .returned (.bool true) ∧ Below W.heap.size W W')) (HC : Hid (∀ W, Calls Try.prog 15 #[.int .i64 w, .int .u64 x, .int .u64 y] W fun r W' => r = .returned (.int .i64 2) ∧ Below W.heap.size W W')) :
    Calls Try.prog 3 #[.int .i64 w, .int .u64 x, .int .u64 y] W fun r W' => r = .returned (.bool true) ∧ Below W.heap.size W W' := by
  go_enter Try.func3, Try.ntmps3
  go_wp2_with fail
  refine (unhide HW _).mono ?_
  rintro _ w1 ⟨rfl, hb⟩
  have HB := hide hb
  clear hb
  go_wp2_with fail
  refine (unhide H0 _).mono ?_
  rintro _ w2 ⟨rfl, hb⟩
  have HB := hide (bthen (unhide HB) hb)
  clear hb
  go_wp2_with fail
  refine (unhide H1 _).mono ?_
  rintro _ w3 ⟨rfl, hb⟩
  have HB := hide (bthen (unhide HB) hb)
  clear hb
  go_wp2_with fail
  refine (unhide H2 _).mono ?_
  rintro _ w4 ⟨rfl, hb⟩
  have HB := hide (bthen (unhide HB) hb)
  clear hb
  go_wp2_with fail
  refine (unhide H3 _).mono ?_
  rintro _ w5 ⟨rfl, hb⟩
  have HB := hide (bthen (unhide HB) hb)
  clear hb
  go_wp2_with fail
  refine (unhide H4 _).mono ?_
  rintro _ w6 ⟨rfl, hb⟩
  have HB := hide (bthen (unhide HB) hb)
  clear hb
  go_wp2_with fail
  refine (unhide H5 _).mono ?_
  rintro _ w7 ⟨rfl, hb⟩
  have HB := hide (bthen (unhide HB) hb)
  clear hb
  go_wp2_with fail
  refine (unhide HK _).mono ?_
  rintro _ w8 ⟨rfl, hb⟩
  have HB := hide (bthen (unhide HB) hb)
  clear hb
  go_wp2_with fail
  refine (unhide HC _).mono ?_
  rintro _ w9 ⟨rfl, hb⟩
  have HB := hide (bthen (unhide HB) hb)
  clear hb
  go_wp2_with fail
  go_ret
  exact ⟨rfl, unhide HB⟩
set_option maxRecDepth 100000 in
set_option maxHeartbeats 2000000 in
theorem asks_l {w x y : Int} (W : World) (HW : Hid (∀ W, Calls Try.prog 7 #[] W fun r W' => r = .returned (.bool true) ∧ Below W.heap.size W W')) (H0 : Hid (∀ W, Calls Try.prog 8 #[.int .i64 w, .int .u64 x, .int .u64 y] W fun r W' => r = .returned (.bool false) ∧ Below W.heap.size W W')) (H1 : Hid (∀ W, Calls Try.prog 9 #[.int .i64 w, .int .u64 x, .int .u64 y] W fun r W' => r = .returned (.bool true) ∧ Below W.heap.size W W')) (H2 : Hid (∀ W, Calls Try.prog 10 #[.int .i64 w, .int .u64 x, .int .u64 y] W fun r W' => r = .returned (.bool true) ∧ Below W.heap.size W W')) (H3 : Hid (∀ W, Calls Try.prog 11 #[.int .i64 w, .int .u64 x, .int .u64 y] W fun r W' => r = .returned (.bool false) ∧ Below W.heap.size W W')) (H4 : Hid (∀ W, Calls Try.prog 12 #[.int .i64 w, .int .u64 x, .int .u64 y] W fun r W' => r = .returned (.bool true) ∧ Below W.heap.size W W')) (H5 : Hid (∀ W, Calls Try.prog 13 #[.int .i64 w, .int .u64 x, .int .u64 y] W fun r W' => r = .returned (.bool false) ∧ Below W.heap.size W W')) (HK : Hid (∀ W, Calls Try.prog 14 #[.int .i64 w] W fun r W' => r = .returned (.bool true) ∧ Below W.heap.size W W')) (HC : Hid (∀ W, Calls Try.prog 15 #[.int .i64 w, .int .u64 x, .int .u64 y] W fun r W' => r = .returned (.int .i64 (-1)) ∧ Below W.heap.size W W')) :
    Calls Try.prog 3 #[.int .i64 w, .int .u64 x, .int .u64 y] W fun r W' => r = .returned (.bool true) ∧ Below W.heap.size W W' := by
  go_enter Try.func3, Try.ntmps3
  go_wp2_with fail
  refine (unhide HW _).mono ?_
  rintro _ w1 ⟨rfl, hb⟩
  have HB := hide hb
  clear hb
  go_wp2_with fail
  refine (unhide H0 _).mono ?_
  rintro _ w2 ⟨rfl, hb⟩
  have HB := hide (bthen (unhide HB) hb)
  clear hb
  go_wp2_with fail
  refine (unhide H1 _).mono ?_
  rintro _ w3 ⟨rfl, hb⟩
  have HB := hide (bthen (unhide HB) hb)
  clear hb
  go_wp2_with fail
  refine (unhide H2 _).mono ?_
  rintro _ w4 ⟨rfl, hb⟩
  have HB := hide (bthen (unhide HB) hb)
  clear hb
  go_wp2_with fail
  refine (unhide H3 _).mono ?_
  rintro _ w5 ⟨rfl, hb⟩
  have HB := hide (bthen (unhide HB) hb)
  clear hb
  go_wp2_with fail
  refine (unhide H4 _).mono ?_
  rintro _ w6 ⟨rfl, hb⟩
  have HB := hide (bthen (unhide HB) hb)
  clear hb
  go_wp2_with fail
  refine (unhide H5 _).mono ?_
  rintro _ w7 ⟨rfl, hb⟩
  have HB := hide (bthen (unhide HB) hb)
  clear hb
  go_wp2_with fail
  refine (unhide HK _).mono ?_
  rintro _ w8 ⟨rfl, hb⟩
  have HB := hide (bthen (unhide HB) hb)
  clear hb
  go_wp2_with fail
  refine (unhide HC _).mono ?_
  rintro _ w9 ⟨rfl, hb⟩
  have HB := hide (bthen (unhide HB) hb)
  clear hb
  go_wp2_with fail
  go_ret
  exact ⟨rfl, unhide HB⟩
set_option maxRecDepth 100000 in
set_option maxHeartbeats 2000000 in
theorem asks_e {w x y : Int} (W : World) (HW : Hid (∀ W, Calls Try.prog 7 #[] W fun r W' => r = .returned (.bool true) ∧ Below W.heap.size W W')) (H0 : Hid (∀ W, Calls Try.prog 8 #[.int .i64 w, .int .u64 x, .int .u64 y] W fun r W' => r = .returned (.bool true) ∧ Below W.heap.size W W')) (H1 : Hid (∀ W, Calls Try.prog 9 #[.int .i64 w, .int .u64 x, .int .u64 y] W fun r W' => r = .returned (.bool false) ∧ Below W.heap.size W W')) (H2 : Hid (∀ W, Calls Try.prog 10 #[.int .i64 w, .int .u64 x, .int .u64 y] W fun r W' => r = .returned (.bool false) ∧ Below W.heap.size W W')) (H3 : Hid (∀ W, Calls Try.prog 11 #[.int .i64 w, .int .u64 x, .int .u64 y] W fun r W' => r = .returned (.bool false) ∧ Below W.heap.size W W')) (H4 : Hid (∀ W, Calls Try.prog 12 #[.int .i64 w, .int .u64 x, .int .u64 y] W fun r W' => r = .returned (.bool true) ∧ Below W.heap.size W W')) (H5 : Hid (∀ W, Calls Try.prog 13 #[.int .i64 w, .int .u64 x, .int .u64 y] W fun r W' => r = .returned (.bool true) ∧ Below W.heap.size W W')) (HK : Hid (∀ W, Calls Try.prog 14 #[.int .i64 w] W fun r W' => r = .returned (.bool true) ∧ Below W.heap.size W W')) (HC : Hid (∀ W, Calls Try.prog 15 #[.int .i64 w, .int .u64 x, .int .u64 y] W fun r W' => r = .returned (.int .i64 0) ∧ Below W.heap.size W W')) :
    Calls Try.prog 3 #[.int .i64 w, .int .u64 x, .int .u64 y] W fun r W' => r = .returned (.bool true) ∧ Below W.heap.size W W' := by
  go_enter Try.func3, Try.ntmps3
  go_wp2_with fail
  refine (unhide HW _).mono ?_
  rintro _ w1 ⟨rfl, hb⟩
  have HB := hide hb
  clear hb
  go_wp2_with fail
  refine (unhide H0 _).mono ?_
  rintro _ w2 ⟨rfl, hb⟩
  have HB := hide (bthen (unhide HB) hb)
  clear hb
  go_wp2_with fail
  refine (unhide H1 _).mono ?_
  rintro _ w3 ⟨rfl, hb⟩
  have HB := hide (bthen (unhide HB) hb)
  clear hb
  go_wp2_with fail
  refine (unhide H2 _).mono ?_
  rintro _ w4 ⟨rfl, hb⟩
  have HB := hide (bthen (unhide HB) hb)
  clear hb
  go_wp2_with fail
  refine (unhide H3 _).mono ?_
  rintro _ w5 ⟨rfl, hb⟩
  have HB := hide (bthen (unhide HB) hb)
  clear hb
  go_wp2_with fail
  refine (unhide H4 _).mono ?_
  rintro _ w6 ⟨rfl, hb⟩
  have HB := hide (bthen (unhide HB) hb)
  clear hb
  go_wp2_with fail
  refine (unhide H5 _).mono ?_
  rintro _ w7 ⟨rfl, hb⟩
  have HB := hide (bthen (unhide HB) hb)
  clear hb
  go_wp2_with fail
  refine (unhide HK _).mono ?_
  rintro _ w8 ⟨rfl, hb⟩
  have HB := hide (bthen (unhide HB) hb)
  clear hb
  go_wp2_with fail
  refine (unhide HC _).mono ?_
  rintro _ w9 ⟨rfl, hb⟩
  have HB := hide (bthen (unhide HB) hb)
  clear hb
  go_wp2_with fail
  go_ret
  exact ⟨rfl, unhide HB⟩
set_option maxRecDepth 100000 in
set_option maxHeartbeats 2000000 in
theorem asks_g {w x y : Int} (W : World) (HW : Hid (∀ W, Calls Try.prog 7 #[] W fun r W' => r = .returned (.bool true) ∧ Below W.heap.size W W')) (H0 : Hid (∀ W, Calls Try.prog 8 #[.int .i64 w, .int .u64 x, .int .u64 y] W fun r W' => r = .returned (.bool false) ∧ Below W.heap.size W W')) (H1 : Hid (∀ W, Calls Try.prog 9 #[.int .i64 w, .int .u64 x, .int .u64 y] W fun r W' => r = .returned (.bool true) ∧ Below W.heap.size W W')) (H2 : Hid (∀ W, Calls Try.prog 10 #[.int .i64 w, .int .u64 x, .int .u64 y] W fun r W' => r = .returned (.bool false) ∧ Below W.heap.size W W')) (H3 : Hid (∀ W, Calls Try.prog 11 #[.int .i64 w, .int .u64 x, .int .u64 y] W fun r W' => r = .returned (.bool true) ∧ Below W.heap.size W W')) (H4 : Hid (∀ W, Calls Try.prog 12 #[.int .i64 w, .int .u64 x, .int .u64 y] W fun r W' => r = .returned (.bool false) ∧ Below W.heap.size W W')) (H5 : Hid (∀ W, Calls Try.prog 13 #[.int .i64 w, .int .u64 x, .int .u64 y] W fun r W' => r = .returned (.bool true) ∧ Below W.heap.size W W')) (HK : Hid (∀ W, Calls Try.prog 14 #[.int .i64 w] W fun r W' => r = .returned (.bool true) ∧ Below W.heap.size W W')) (HC : Hid (∀ W, Calls Try.prog 15 #[.int .i64 w, .int .u64 x, .int .u64 y] W fun r W' => r = .returned (.int .i64 1) ∧ Below W.heap.size W W')) :
    Calls Try.prog 3 #[.int .i64 w, .int .u64 x, .int .u64 y] W fun r W' => r = .returned (.bool true) ∧ Below W.heap.size W W' := by
  go_enter Try.func3, Try.ntmps3
  go_wp2_with fail
  refine (unhide HW _).mono ?_
  rintro _ w1 ⟨rfl, hb⟩
  have HB := hide hb
  clear hb
  go_wp2_with fail
  refine (unhide H0 _).mono ?_
  rintro _ w2 ⟨rfl, hb⟩
  have HB := hide (bthen (unhide HB) hb)
  clear hb
  go_wp2_with fail
  refine (unhide H1 _).mono ?_
  rintro _ w3 ⟨rfl, hb⟩
  have HB := hide (bthen (unhide HB) hb)
  clear hb
  go_wp2_with fail
  refine (unhide H2 _).mono ?_
  rintro _ w4 ⟨rfl, hb⟩
  have HB := hide (bthen (unhide HB) hb)
  clear hb
  go_wp2_with fail
  refine (unhide H3 _).mono ?_
  rintro _ w5 ⟨rfl, hb⟩
  have HB := hide (bthen (unhide HB) hb)
  clear hb
  go_wp2_with fail
  refine (unhide H4 _).mono ?_
  rintro _ w6 ⟨rfl, hb⟩
  have HB := hide (bthen (unhide HB) hb)
  clear hb
  go_wp2_with fail
  refine (unhide H5 _).mono ?_
  rintro _ w7 ⟨rfl, hb⟩
  have HB := hide (bthen (unhide HB) hb)
  clear hb
  go_wp2_with fail
  refine (unhide HK _).mono ?_
  rintro _ w8 ⟨rfl, hb⟩
  have HB := hide (bthen (unhide HB) hb)
  clear hb
  go_wp2_with fail
  refine (unhide HC _).mono ?_
  rintro _ w9 ⟨rfl, hb⟩
  have HB := hide (bthen (unhide HB) hb)
  clear hb
  go_wp2_with fail
  go_ret
  exact ⟨rfl, unhide HB⟩

end Go.Proofs.Ytefpknkbfmjajaa
namespace Go.Proofs.Ytefpknkbfmjajaa
open Go.RowKit
open Go.Proofs.Ytefpknkbfmjajaa.W

set_option maxRecDepth 100000 in
set_option maxHeartbeats 2000000 in
theorem picks_no {w x y : Int} (W : World) (HW : Hid (∀ W, Calls Try.prog 7 #[] W fun r W' => r = .returned (.bool true) ∧ Below W.heap.size W W')) (HM : Hid (∀ W, Calls Try.prog 16 #[.int .i64 w, .int .u64 x, .int .u64 y] W fun r W' => r = .returned (.int .u64 0) ∧ Below W.heap.size W W')) (HX : Hid (∀ W, Calls Try.prog 17 #[.int .i64 w, .int .u64 x, .int .u64 y] W fun r W' => r = .returned (.int .u64 0) ∧ Below W.heap.size W W')) (HR1 : Hid (∀ W, Calls Try.prog 18 #[.int .i64 w, .int .u64 x] W fun r W' => r = .returned (.tuple #[.int .i64 0, .bool false]) ∧ Below W.heap.size W W')) (HR2 : Hid (∀ W, Calls Try.prog 18 #[.int .i64 w, .int .u64 y] W fun r W' => r = .returned (.tuple #[.int .i64 0, .bool false]) ∧ Below W.heap.size W W')) (HK : Hid (∀ W, Calls Try.prog 14 #[.int .i64 w] W fun r W' => r = .returned (.bool false) ∧ Below W.heap.size W W')) :
    Calls Try.prog 4 #[.int .i64 w, .int .u64 x, .int .u64 y] W fun r W' => r = .returned (.bool true) ∧ Below W.heap.size W W' := by
  go_enter Try.func4, Try.ntmps4
  go_wp2_with fail
  refine (unhide HW _).mono ?_
  rintro _ w1 ⟨rfl, hb⟩
  have HB := hide hb
  clear hb
  go_wp2_with fail
  refine (unhide HM _).mono ?_
  rintro _ w2 ⟨rfl, hb⟩
  have HB := hide (bthen (unhide HB) hb)
  clear hb
  go_wp2_with fail
  refine (unhide HX _).mono ?_
  rintro _ w3 ⟨rfl, hb⟩
  have HB := hide (bthen (unhide HB) hb)
  clear hb
  go_wp2_with fail
  refine (unhide HR1 _).mono ?_
  rintro _ w4 ⟨rfl, hb⟩
  have HB := hide (bthen (unhide HB) hb)
  clear hb
  go_wp2_with fail
  refine (unhide HR2 _).mono ?_
  rintro _ w5 ⟨rfl, hb⟩
  have HB := hide (bthen (unhide HB) hb)
  clear hb
  go_wp2_with fail
  refine (unhide HK _).mono ?_
  rintro _ w6 ⟨rfl, hb⟩
  have HB := hide (bthen (unhide HB) hb)
  clear hb
  go_wp2_with fail
  go_ret
  exact ⟨rfl, unhide HB⟩
set_option maxRecDepth 100000 in
set_option maxHeartbeats 2000000 in
theorem picks_nn {w x y V1 V2 X1 S1 K2 X2 S2 K1 b c : Int} {n1 n2 : Bool} (W : World) (HW : Hid (∀ W, Calls Try.prog 7 #[] W fun r W' => r = .returned (.bool true) ∧ Below W.heap.size W W')) (HM : Hid (∀ W, Calls Try.prog 16 #[.int .i64 w, .int .u64 x, .int .u64 y] W fun r W' => r = .returned (.int .u64 V1) ∧ Below W.heap.size W W')) (HX : Hid (∀ W, Calls Try.prog 17 #[.int .i64 w, .int .u64 x, .int .u64 y] W fun r W' => r = .returned (.int .u64 V2) ∧ Below W.heap.size W W')) (HR1 : Hid (∀ W, Calls Try.prog 18 #[.int .i64 w, .int .u64 x] W fun r W' => r = .returned (.tuple #[.int .i64 0, .bool false]) ∧ Below W.heap.size W W')) (HR2 : Hid (∀ W, Calls Try.prog 18 #[.int .i64 w, .int .u64 y] W fun r W' => r = .returned (.tuple #[.int .i64 b, .bool false]) ∧ Below W.heap.size W W')) (HK : Hid (∀ W, Calls Try.prog 14 #[.int .i64 w] W fun r W' => r = .returned (.bool true) ∧ Below W.heap.size W W')) (HP1 : Hid (∀ W, Calls Try.prog 19 #[.int .i64 w, .int .u64 x, .int .u64 y, .int .i64 (-1), .bool true] W fun r W' => r = .returned (.int .u64 V1) ∧ Below W.heap.size W W')) (HP2 : Hid (∀ W, Calls Try.prog 19 #[.int .i64 w, .int .u64 x, .int .u64 y, .int .i64 1, .bool false] W fun r W' => r = .returned (.int .u64 V2) ∧ Below W.heap.size W W')) (HO1 : Hid (∀ W, Calls Try.prog 20 #[.int .i64 w, .int .u64 x] W fun r W' => r = .returned (.agg #[.bool n1, .int .i64 K1, .int .i64 X1, .int .u64 S1]) ∧ Below W.heap.size W W')) (HO2 : Hid (∀ W, Calls Try.prog 20 #[.int .i64 w, .int .u64 y] W fun r W' => r = .returned (.agg #[.bool n2, .int .i64 K2, .int .i64 X2, .int .u64 S2]) ∧ Below W.heap.size W W')) (HC : Hid (∀ W, Calls Try.prog 15 #[.int .i64 w, .int .u64 x, .int .u64 y] W fun r W' => r = .returned (.int .i64 c) ∧ Below W.heap.size W W')) (k1 : (K1 != 3) = false) (k2 : (K2 != 3) = false) :
    Calls Try.prog 4 #[.int .i64 w, .int .u64 x, .int .u64 y] W fun r W' => r = .returned (.bool true) ∧ Below W.heap.size W W' := by
  go_enter Try.func4, Try.ntmps4
  go_wp2_with fail
  refine (unhide HW _).mono ?_
  rintro _ w1 ⟨rfl, hb⟩
  have HB := hide hb
  clear hb
  go_wp2_with fail
  refine (unhide HM _).mono ?_
  rintro _ w2 ⟨rfl, hb⟩
  have HB := hide (bthen (unhide HB) hb)
  clear hb
  go_wp2_with fail
  refine (unhide HX _).mono ?_
  rintro _ w3 ⟨rfl, hb⟩
  have HB := hide (bthen (unhide HB) hb)
  clear hb
  go_wp2_with fail
  refine (unhide HR1 _).mono ?_
  rintro _ w4 ⟨rfl, hb⟩
  have HB := hide (bthen (unhide HB) hb)
  clear hb
  go_wp2_with fail
  refine (unhide HR2 _).mono ?_
  rintro _ w5 ⟨rfl, hb⟩
  have HB := hide (bthen (unhide HB) hb)
  clear hb
  go_wp2_with fail
  refine (unhide HK _).mono ?_
  rintro _ w6 ⟨rfl, hb⟩
  have HB := hide (bthen (unhide HB) hb)
  clear hb
  go_wp2_with fail
  refine (unhide HP1 _).mono ?_
  rintro _ w7 ⟨rfl, hb⟩
  have HB := hide (bthen (unhide HB) hb)
  clear hb
  go_wp2_with fail
  refine (unhide HP2 _).mono ?_
  rintro _ w8 ⟨rfl, hb⟩
  have HB := hide (bthen (unhide HB) hb)
  clear hb
  go_wp2_with fail
  refine (unhide HO1 _).mono ?_
  rintro _ w9 ⟨rfl, hb⟩
  have HB := hide (bthen (unhide HB) hb)
  clear hb
  go_wp2_with fail
  refine (unhide HO2 _).mono ?_
  rintro _ w10 ⟨rfl, hb⟩
  have HB := hide (bthen (unhide HB) hb)
  have HB := hide (balloc (balloc (unhide HB) (.cells #[.bool n1, .int .i64 K1, .int .i64 X1, .int .u64 S1] 32)) (.cells #[.bool n2, .int .i64 K2, .int .i64 X2, .int .u64 S2] 32))
  have H1 := hide (at4_new2a w10 (.bool n1) (.int .i64 K1) (.int .i64 X1) (.int .u64 S1) 32 (.cells #[.bool n2, .int .i64 K2, .int .i64 X2, .int .u64 S2] 32))
  have H2 := hide (at4_new2b w10 (.cells #[.bool n1, .int .i64 K1, .int .i64 X1, .int .u64 S1] 32) (.bool n2) (.int .i64 K2) (.int .i64 X2) (.int .u64 S2) 32)
  obtain ⟨c0, c1, c2, c3⟩ := unhide H1
  obtain ⟨d0, d1, d2, d3⟩ := unhide H2
  clear hb
  go_wp2_with fail
  refine (unhide HC _).mono ?_
  rintro _ w11 ⟨rfl, hb⟩
  have HB := hide (bthen (unhide HB) hb)
  have H1 := hide ((unhide H1).below hb)
  have H2 := hide ((unhide H2).below hb)
  clear c0 c1 c2 c3 d0 d1 d2 d3
  obtain ⟨c0, c1, c2, c3⟩ := unhide H1
  obtain ⟨d0, d1, d2, d3⟩ := unhide H2
  clear hb
  go_wp2_with fail
  go_ret
  exact ⟨by first | rfl | simp, unhide HB⟩
set_option maxRecDepth 100000 in
set_option maxHeartbeats 2000000 in
theorem picks_na {w x y V1 V2 X1 S1 K2 X2 S2 K1 b c : Int} {n1 n2 : Bool} (W : World) (HW : Hid (∀ W, Calls Try.prog 7 #[] W fun r W' => r = .returned (.bool true) ∧ Below W.heap.size W W')) (HM : Hid (∀ W, Calls Try.prog 16 #[.int .i64 w, .int .u64 x, .int .u64 y] W fun r W' => r = .returned (.int .u64 V1) ∧ Below W.heap.size W W')) (HX : Hid (∀ W, Calls Try.prog 17 #[.int .i64 w, .int .u64 x, .int .u64 y] W fun r W' => r = .returned (.int .u64 V2) ∧ Below W.heap.size W W')) (HR1 : Hid (∀ W, Calls Try.prog 18 #[.int .i64 w, .int .u64 x] W fun r W' => r = .returned (.tuple #[.int .i64 0, .bool false]) ∧ Below W.heap.size W W')) (HR2 : Hid (∀ W, Calls Try.prog 18 #[.int .i64 w, .int .u64 y] W fun r W' => r = .returned (.tuple #[.int .i64 b, .bool true]) ∧ Below W.heap.size W W')) (HK : Hid (∀ W, Calls Try.prog 14 #[.int .i64 w] W fun r W' => r = .returned (.bool true) ∧ Below W.heap.size W W')) (HP1 : Hid (∀ W, Calls Try.prog 19 #[.int .i64 w, .int .u64 x, .int .u64 y, .int .i64 (-1), .bool true] W fun r W' => r = .returned (.int .u64 V1) ∧ Below W.heap.size W W')) (HP2 : Hid (∀ W, Calls Try.prog 19 #[.int .i64 w, .int .u64 x, .int .u64 y, .int .i64 1, .bool false] W fun r W' => r = .returned (.int .u64 V2) ∧ Below W.heap.size W W')) (HO1 : Hid (∀ W, Calls Try.prog 20 #[.int .i64 w, .int .u64 x] W fun r W' => r = .returned (.agg #[.bool n1, .int .i64 K1, .int .i64 X1, .int .u64 S1]) ∧ Below W.heap.size W W')) (HO2 : Hid (∀ W, Calls Try.prog 20 #[.int .i64 w, .int .u64 y] W fun r W' => r = .returned (.agg #[.bool n2, .int .i64 K2, .int .i64 X2, .int .u64 S2]) ∧ Below W.heap.size W W')) (HC : Hid (∀ W, Calls Try.prog 15 #[.int .i64 w, .int .u64 x, .int .u64 y] W fun r W' => r = .returned (.int .i64 c) ∧ Below W.heap.size W W')) (k1 : (K1 != 3) = false) (k2 : (K2 != 3) = true) :
    Calls Try.prog 4 #[.int .i64 w, .int .u64 x, .int .u64 y] W fun r W' => r = .returned (.bool true) ∧ Below W.heap.size W W' := by
  go_enter Try.func4, Try.ntmps4
  go_wp2_with fail
  refine (unhide HW _).mono ?_
  rintro _ w1 ⟨rfl, hb⟩
  have HB := hide hb
  clear hb
  go_wp2_with fail
  refine (unhide HM _).mono ?_
  rintro _ w2 ⟨rfl, hb⟩
  have HB := hide (bthen (unhide HB) hb)
  clear hb
  go_wp2_with fail
  refine (unhide HX _).mono ?_
  rintro _ w3 ⟨rfl, hb⟩
  have HB := hide (bthen (unhide HB) hb)
  clear hb
  go_wp2_with fail
  refine (unhide HR1 _).mono ?_
  rintro _ w4 ⟨rfl, hb⟩
  have HB := hide (bthen (unhide HB) hb)
  clear hb
  go_wp2_with fail
  refine (unhide HR2 _).mono ?_
  rintro _ w5 ⟨rfl, hb⟩
  have HB := hide (bthen (unhide HB) hb)
  clear hb
  go_wp2_with fail
  refine (unhide HK _).mono ?_
  rintro _ w6 ⟨rfl, hb⟩
  have HB := hide (bthen (unhide HB) hb)
  clear hb
  go_wp2_with fail
  refine (unhide HP1 _).mono ?_
  rintro _ w7 ⟨rfl, hb⟩
  have HB := hide (bthen (unhide HB) hb)
  clear hb
  go_wp2_with fail
  refine (unhide HP2 _).mono ?_
  rintro _ w8 ⟨rfl, hb⟩
  have HB := hide (bthen (unhide HB) hb)
  clear hb
  go_wp2_with fail
  refine (unhide HO1 _).mono ?_
  rintro _ w9 ⟨rfl, hb⟩
  have HB := hide (bthen (unhide HB) hb)
  clear hb
  go_wp2_with fail
  refine (unhide HO2 _).mono ?_
  rintro _ w10 ⟨rfl, hb⟩
  have HB := hide (bthen (unhide HB) hb)
  have HB := hide (balloc (balloc (unhide HB) (.cells #[.bool n1, .int .i64 K1, .int .i64 X1, .int .u64 S1] 32)) (.cells #[.bool n2, .int .i64 K2, .int .i64 X2, .int .u64 S2] 32))
  have H1 := hide (at4_new2a w10 (.bool n1) (.int .i64 K1) (.int .i64 X1) (.int .u64 S1) 32 (.cells #[.bool n2, .int .i64 K2, .int .i64 X2, .int .u64 S2] 32))
  have H2 := hide (at4_new2b w10 (.cells #[.bool n1, .int .i64 K1, .int .i64 X1, .int .u64 S1] 32) (.bool n2) (.int .i64 K2) (.int .i64 X2) (.int .u64 S2) 32)
  obtain ⟨c0, c1, c2, c3⟩ := unhide H1
  obtain ⟨d0, d1, d2, d3⟩ := unhide H2
  clear hb
  go_wp2_with fail
  refine (unhide HC _).mono ?_
  rintro _ w11 ⟨rfl, hb⟩
  have HB := hide (bthen (unhide HB) hb)
  have H1 := hide ((unhide H1).below hb)
  have H2 := hide ((unhide H2).below hb)
  clear c0 c1 c2 c3 d0 d1 d2 d3
  obtain ⟨c0, c1, c2, c3⟩ := unhide H1
  obtain ⟨d0, d1, d2, d3⟩ := unhide H2
  clear hb
  go_wp2_with fail
  go_ret
  exact ⟨by first | rfl | simp, unhide HB⟩
set_option maxRecDepth 100000 in
set_option maxHeartbeats 2000000 in
theorem picks_nb {w x y V1 V2 X1 S1 K2 X2 S2 K1 a b c : Int} {n1 n2 : Bool} (W : World) (HW : Hid (∀ W, Calls Try.prog 7 #[] W fun r W' => r = .returned (.bool true) ∧ Below W.heap.size W W')) (HM : Hid (∀ W, Calls Try.prog 16 #[.int .i64 w, .int .u64 x, .int .u64 y] W fun r W' => r = .returned (.int .u64 V1) ∧ Below W.heap.size W W')) (HX : Hid (∀ W, Calls Try.prog 17 #[.int .i64 w, .int .u64 x, .int .u64 y] W fun r W' => r = .returned (.int .u64 V2) ∧ Below W.heap.size W W')) (HR1 : Hid (∀ W, Calls Try.prog 18 #[.int .i64 w, .int .u64 x] W fun r W' => r = .returned (.tuple #[.int .i64 a, .bool true]) ∧ Below W.heap.size W W')) (HR2 : Hid (∀ W, Calls Try.prog 18 #[.int .i64 w, .int .u64 y] W fun r W' => r = .returned (.tuple #[.int .i64 b, .bool false]) ∧ Below W.heap.size W W')) (HK : Hid (∀ W, Calls Try.prog 14 #[.int .i64 w] W fun r W' => r = .returned (.bool true) ∧ Below W.heap.size W W')) (HP1 : Hid (∀ W, Calls Try.prog 19 #[.int .i64 w, .int .u64 x, .int .u64 y, .int .i64 (-1), .bool true] W fun r W' => r = .returned (.int .u64 V1) ∧ Below W.heap.size W W')) (HP2 : Hid (∀ W, Calls Try.prog 19 #[.int .i64 w, .int .u64 x, .int .u64 y, .int .i64 1, .bool false] W fun r W' => r = .returned (.int .u64 V2) ∧ Below W.heap.size W W')) (HO1 : Hid (∀ W, Calls Try.prog 20 #[.int .i64 w, .int .u64 x] W fun r W' => r = .returned (.agg #[.bool n1, .int .i64 K1, .int .i64 X1, .int .u64 S1]) ∧ Below W.heap.size W W')) (HO2 : Hid (∀ W, Calls Try.prog 20 #[.int .i64 w, .int .u64 y] W fun r W' => r = .returned (.agg #[.bool n2, .int .i64 K2, .int .i64 X2, .int .u64 S2]) ∧ Below W.heap.size W W')) (HC : Hid (∀ W, Calls Try.prog 15 #[.int .i64 w, .int .u64 x, .int .u64 y] W fun r W' => r = .returned (.int .i64 c) ∧ Below W.heap.size W W')) (k1 : (K1 != 3) = true) (k2 : (K2 != 3) = false) :
    Calls Try.prog 4 #[.int .i64 w, .int .u64 x, .int .u64 y] W fun r W' => r = .returned (.bool true) ∧ Below W.heap.size W W' := by
  go_enter Try.func4, Try.ntmps4
  go_wp2_with fail
  refine (unhide HW _).mono ?_
  rintro _ w1 ⟨rfl, hb⟩
  have HB := hide hb
  clear hb
  go_wp2_with fail
  refine (unhide HM _).mono ?_
  rintro _ w2 ⟨rfl, hb⟩
  have HB := hide (bthen (unhide HB) hb)
  clear hb
  go_wp2_with fail
  refine (unhide HX _).mono ?_
  rintro _ w3 ⟨rfl, hb⟩
  have HB := hide (bthen (unhide HB) hb)
  clear hb
  go_wp2_with fail
  refine (unhide HR1 _).mono ?_
  rintro _ w4 ⟨rfl, hb⟩
  have HB := hide (bthen (unhide HB) hb)
  clear hb
  go_wp2_with fail
  refine (unhide HR2 _).mono ?_
  rintro _ w5 ⟨rfl, hb⟩
  have HB := hide (bthen (unhide HB) hb)
  clear hb
  go_wp2_with fail
  refine (unhide HK _).mono ?_
  rintro _ w6 ⟨rfl, hb⟩
  have HB := hide (bthen (unhide HB) hb)
  clear hb
  go_wp2_with fail
  refine (unhide HP1 _).mono ?_
  rintro _ w7 ⟨rfl, hb⟩
  have HB := hide (bthen (unhide HB) hb)
  clear hb
  go_wp2_with fail
  refine (unhide HP2 _).mono ?_
  rintro _ w8 ⟨rfl, hb⟩
  have HB := hide (bthen (unhide HB) hb)
  clear hb
  go_wp2_with fail
  refine (unhide HO1 _).mono ?_
  rintro _ w9 ⟨rfl, hb⟩
  have HB := hide (bthen (unhide HB) hb)
  clear hb
  go_wp2_with fail
  refine (unhide HO2 _).mono ?_
  rintro _ w10 ⟨rfl, hb⟩
  have HB := hide (bthen (unhide HB) hb)
  have HB := hide (balloc (balloc (unhide HB) (.cells #[.bool n1, .int .i64 K1, .int .i64 X1, .int .u64 S1] 32)) (.cells #[.bool n2, .int .i64 K2, .int .i64 X2, .int .u64 S2] 32))
  have H1 := hide (at4_new2a w10 (.bool n1) (.int .i64 K1) (.int .i64 X1) (.int .u64 S1) 32 (.cells #[.bool n2, .int .i64 K2, .int .i64 X2, .int .u64 S2] 32))
  have H2 := hide (at4_new2b w10 (.cells #[.bool n1, .int .i64 K1, .int .i64 X1, .int .u64 S1] 32) (.bool n2) (.int .i64 K2) (.int .i64 X2) (.int .u64 S2) 32)
  obtain ⟨c0, c1, c2, c3⟩ := unhide H1
  obtain ⟨d0, d1, d2, d3⟩ := unhide H2
  clear hb
  go_wp2_with fail
  refine (unhide HC _).mono ?_
  rintro _ w11 ⟨rfl, hb⟩
  have HB := hide (bthen (unhide HB) hb)
  have H1 := hide ((unhide H1).below hb)
  have H2 := hide ((unhide H2).below hb)
  clear c0 c1 c2 c3 d0 d1 d2 d3
  obtain ⟨c0, c1, c2, c3⟩ := unhide H1
  obtain ⟨d0, d1, d2, d3⟩ := unhide H2
  clear hb
  go_wp2_with fail
  go_ret
  exact ⟨by first | rfl | simp, unhide HB⟩

end Go.Proofs.Ytefpknkbfmjajaa
