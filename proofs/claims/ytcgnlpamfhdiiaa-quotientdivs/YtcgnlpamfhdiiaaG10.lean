/- SumD, RefOpen, WDigits, WRefA, WRefB. -/
import Derived.Test.YtcgnlpamfhdiiaaG04
import Derived.Test.YtcgnlpamfhdiiaaG06
import Derived.Test.YtcgnlpamfhdiiaaG09
namespace Go.Proofs.Ytcgnlpamfhdiiaa
open Go.RowKit
open Go.Proofs.Ytcgnlpamfhdiiaa.W

theorem put_in {w e f P Q b x y : Int} {n : Bool} (h : Kd w e f P Q b) (x0 : 0 ≤ x) (x1 : x < Q) (y0 : 0 ≤ y) (y1 : y < P) :
    0 ≤ put f P Q n x y ∧ put f P Q n x y < 18446744073709551616 ∧ sg P Q (put f P Q n x y) = n ∧ put f P Q n x y / P % Q = x ∧ put f P Q n x y % P = y := by
  unfold sg
  cases n
  · rw [put_no h.f0]
    rcases h with ⟨-, -, -, rfl, rfl, -⟩ | ⟨-, -, -, rfl, rfl, -⟩
    · refine ⟨by omega, by omega, ?_, by omega, by omega⟩
      show ((x * 8388608 + y) / 2147483648 % 2 == 1) = false
      exact eq_f (by omega)
    · refine ⟨by omega, by omega, ?_, by omega, by omega⟩
      show ((x * 4503599627370496 + y) / 9223372036854775808 % 2 == 1) = false
      exact eq_f (by omega)
  · rw [put_yes h.f0]
    rcases h with ⟨-, -, -, rfl, rfl, -⟩ | ⟨-, -, -, rfl, rfl, -⟩
    · refine ⟨by omega, by omega, ?_, by omega, by omega⟩
      show ((x * 8388608 + y + 2147483648) / 2147483648 % 2 == 1) = true
      exact eq_t (by omega)
    · refine ⟨by omega, by omega, ?_, by omega, by omega⟩
      show ((x * 4503599627370496 + y + 9223372036854775808) / 9223372036854775808 % 2 == 1) = true
      exact eq_t (by omega)

/-- The infinite one's code. -/
def top (P Q : Int) : Int := (Q - 1) * P
theorem top_pos {w e f P Q b : Int} (k : Kd w e f P Q b) : 0 < top P Q := by
  unfold top
  rcases k with ⟨-, -, -, rfl, rfl, -⟩ | ⟨-, -, -, rfl, rfl, -⟩ <;> omega
/-- The canonical NaN. -/
def nanB (f P Q : Int) : Int := put f P Q false (Q - 1) (P / 2)

theorem code_parts {w e f P Q b c : Int} (k : Kd w e f P Q b) (c0 : 0 ≤ c) (c1 : c ≤ top P Q) : 0 ≤ c / P ∧ c / P < Q ∧ 0 ≤ c % P ∧ c % P < P ∧ c / P * P + c % P = c ∧ (c / P = Q - 1 ↔ c = top P Q) ∧ (c = top P Q → c % P = 0) := by
  unfold top at *
  rcases k with ⟨-, -, -, rfl, rfl, -⟩ | ⟨-, -, -, rfl, rfl, -⟩ <;> (refine ⟨?_, ?_, ?_, ?_, ?_, ?_, ?_⟩ <;> omega)

/-- A float's own code, sign and kind. -/
theorem fl_facts {w e f P Q b c : Int} (k : Kd w e f P Q b) (n : Bool) (c0 : 0 ≤ c) (c1 : c ≤ top P Q) :
    0 ≤ fl f P Q n c ∧ fl f P Q n c < 18446744073709551616 ∧ ((oc P Q (fl f P Q n c) : Nat) : Int) = c ∧ oN P Q (fl f P Q n c) = n ∧ cutN f P Q (fl f P Q n c) = fl f P Q n c ∧ (fl f P Q n c / P % Q == Q - 1 && fl f P Q n c % P != 0) = false := by
  obtain ⟨a0, a1, d0, d1, he, ht, hz⟩ := code_parts k c0 c1
  have hf : fl f P Q n c = put f P Q n (c / P) (c % P) := rfl
  obtain ⟨r0, r1, r2, r3, r4⟩ := put_in (n := n) k a0 a1 d0 d1
  rw [← hf] at r0 r1 r2 r3 r4
  refine ⟨r0, r1, ?_, ?_, ?_, ?_⟩
  · unfold oc
    rw [r3, r4, he, Int.toNat_of_nonneg c0]
  · unfold oN
    rw [r2, r3, r4, if_neg (fun h => h.2 (hz (ht.1 h.1)))]
  · rw [← cut_put k.wd.sz, r2, r3, r4]
    exact hf.symm
  · rw [r3, r4]
    by_cases h : c = top P Q
    · simp [hz h]
    · rw [eq_f (fun h' => h (ht.1 h'))]
      rfl
theorem nan_facts {w e f P Q b : Int} (k : Kd w e f P Q b) :
    0 ≤ nanB f P Q ∧ nanB f P Q < 18446744073709551616 ∧ oK P Q (nanB f P Q) = 3 ∧ cutN f P Q (nanB f P Q) = nanB f P Q ∧ (nanB f P Q / P % Q == Q - 1 && nanB f P Q % P != 0) = true := by
  obtain ⟨p1, p2, q1, q2⟩ := k.pos
  have h2 : P / 2 ≠ 0 := by omega
  obtain ⟨r0, r1, r2, r3, r4⟩ := put_in (x := Q - 1) (y := P / 2) (n := false) k (by omega) (by omega) (by omega) (by omega)
  unfold nanB
  refine ⟨r0, r1, ?_, ?_, ?_⟩
  · unfold oK
    rw [r3, r4, if_pos rfl, if_neg h2]
  · rw [← cut_put k.wd.sz, r2, r3, r4]
  · rw [r3, r4]
    simp [h2]

/-- A float by its code. -/
theorem kind_oc {w e f P Q b : Int} (k : Kd w e f P Q b) (x : Int) :
    (oK P Q x = 3 ∧ top P Q < oc P Q x ∧ oN P Q x = false) ∨ (oK P Q x = 2 ∧ (oc P Q x : Int) = top P Q ∧ oM f P Q b x = 0) ∨
    (oK P Q x = 1 ∧ 0 < oc P Q x ∧ (oc P Q x : Int) < top P Q ∧ oM f P Q b x = fval f.toNat (lowN f b) (oc P Q x)) ∨ (oK P Q x = 0 ∧ oc P Q x = 0 ∧ oM f P Q b x = 0) := by
  obtain ⟨p1, p2, q1, q2⟩ := k.pos
  obtain ⟨u, v⟩ := exp_in (x / P) (show 1 ≤ Q by omega)
  obtain ⟨u', v'⟩ := exp_in x (show 1 ≤ P by omega)
  unfold oM oN oK
  have hc : ((oc P Q x : Nat) : Int) = x / P % Q * P + x % P := by
    unfold oc
    have := Int.mul_nonneg u (show 0 ≤ P by omega)
    omega
  have hz := fval_zero f.toNat (lowN f b)
  generalize oc P Q x = c at *
  generalize x / P % Q = e at *
  generalize x % P = y at *
  generalize sg P Q x = n at *
  by_cases h1 : e = Q - 1
  · rw [if_pos h1, if_pos h1]
    by_cases h2 : y = 0
    · rw [if_pos h2]
      refine Or.inr (Or.inl ⟨rfl, ?_, rfl⟩)
      rw [hc, h1, h2]
      unfold top
      omega
    · rw [if_neg h2, if_pos ⟨h1, h2⟩]
      refine Or.inl ⟨rfl, ?_, rfl⟩
      rw [hc, h1]
      unfold top
      omega
  · rw [if_neg h1, if_neg h1]
    by_cases h2 : e = 0 ∧ y = 0
    · rw [if_pos h2]
      have : c = 0 := by
        rw [h2.1, h2.2] at hc
        omega
      subst this
      exact Or.inr (Or.inr (Or.inr ⟨rfl, rfl, hz⟩))
    · rw [if_neg h2]
      refine Or.inr (Or.inr (Or.inl ⟨rfl, ?_, ?_, rfl⟩))
      · rcases k with ⟨-, -, -, rfl, rfl, -⟩ | ⟨-, -, -, rfl, rfl, -⟩ <;> omega
      · unfold top
        rcases k with ⟨-, -, -, rfl, rfl, -⟩ | ⟨-, -, -, rfl, rfl, -⟩ <;> omega
theorem oM_fin {w e f P Q b : Int} (k : Kd w e f P Q b) {x : Int} (h : oK P Q x ≠ 3 ∧ oK P Q x ≠ 2) : oM f P Q b x = fval f.toNat (lowN f b) (oc P Q x) ∧ (oc P Q x : Int) < top P Q := by
  have ht := top_pos k
  rcases kind_oc k x with ⟨h1, _⟩ | ⟨h1, _⟩ | ⟨_, _, h2, h3⟩ | ⟨_, h2, h3⟩
  · exact absurd h1 h.1
  · exact absurd h1 h.2
  · exact ⟨h3, h2⟩
  · rw [h2, h3, fval_zero]
    exact ⟨rfl, ht⟩
/-- What a float's bits are by its sign and its code. -/
theorem cut_fl {w e f P Q b : Int} (k : Kd w e f P Q b) {x : Int} (h : oK P Q x ≠ 3) : cutN f P Q x = fl f P Q (oN P Q x) (oc P Q x : Int) := by
  obtain ⟨p1, p2, q1, q2⟩ := k.pos
  obtain ⟨u, v⟩ := exp_in (x / P) (show 1 ≤ Q by omega)
  obtain ⟨u', v'⟩ := exp_in x (show 1 ≤ P by omega)
  rw [← cut_put k.wd.sz]
  have hn : oN P Q x = sg P Q x := by
    unfold oN
    unfold oK at h
    by_cases h1 : x / P % Q = Q - 1
    · rw [if_pos h1] at h
      by_cases h2 : x % P = 0
      · rw [if_neg (fun h' => h'.2 h2)]
      · rw [if_neg h2] at h
        exact absurd rfl h
    · rw [if_neg (fun h' => h1 h'.1)]
  have hc : ((oc P Q x : Nat) : Int) = x / P % Q * P + x % P := by
    unfold oc
    have := Int.mul_nonneg u (show 0 ≤ P by omega)
    omega
  unfold fl
  rw [hn, hc]
  generalize x / P % Q = e at *
  generalize x % P = y at *
  congr 1
  · rw [Int.add_comm, Int.add_mul_ediv_right _ _ (by omega), Int.ediv_eq_zero_of_lt u' v', Int.zero_add]
  · rw [Int.add_comm, Int.add_mul_emod_self_right, Int.emod_eq_of_lt u' v']

theorem lid_top {w e f P Q b : Int} (k : Kd w e f P Q b) (c : Nat) : 0 ≤ lid P Q c ∧ lid P Q c ≤ top P Q := lid_in k c
theorem put_inf {w e f P Q b : Int} (k : Kd w e f P Q b) (n : Bool) : put f P Q n (Q - 1) 0 = fl f P Q n (top P Q) := by
  have ht := top_pos k
  obtain ⟨_, _, _, _, _, h1, h2⟩ := code_parts k (Int.le_of_lt ht) (Int.le_refl _)
  unfold fl
  rw [h1.2 rfl, h2 rfl]
theorem put_nought {f P Q : Int} (n : Bool) : put f P Q n 0 0 = fl f P Q n 0 := by
  unfold fl
  simp
/-- A float's number is rounded to itself. -/
theorem rd_val {w e f P Q b : Int} (_ : Kd w e f P Q b) (n : Bool) {c : Nat} (h : (c : Int) < top P Q) : rd f P Q b n (fval f.toNat (lowN f b) c) = fl f P Q n c := by
  unfold rd
  rw [fval_code]
  unfold lid
  rw [if_neg (show ¬ (Q - 1) * P ≤ (c : Int) by unfold top at h; omega)]

/-- A float less itself. -/
theorem sub_self {w e f P Q b : Int} (k : Kd w e f P Q b) {x : Int} : (oK P Q x = 2 → subB f P Q b x x = nanB f P Q) ∧ (oK P Q x ≠ 2 → oK P Q x ≠ 3 → subB f P Q b x x = 0) := by
  unfold subB addP
  refine ⟨fun h => ?_, fun h h3 => ?_⟩
  · rw [if_pos (Or.inr (Or.inr ⟨h, h, by cases oN P Q x <;> simp⟩))]
    rfl
  · rw [if_neg (by omega), if_neg h, if_neg h, if_neg (by cases oN P Q x <;> simp), if_pos rfl, put_no k.f0]
    omega
theorem xor_bit (m f e : Nat) : (m ^^^ 2 ^ (f + e)) % 2 ^ f = m % 2 ^ f ∧ (m ^^^ 2 ^ (f + e)) / 2 ^ f % 2 ^ e = m / 2 ^ f % 2 ^ e ∧ (m ^^^ 2 ^ (f + e)) / 2 ^ (f + e) % 2 = 1 - m / 2 ^ (f + e) % 2 := by
  refine ⟨?_, ?_, ?_⟩
  · rw [Nat.xor_mod_two_pow, Nat.pow_add, Nat.mul_mod_right, Nat.xor_zero]
  · rw [Nat.xor_div_two_pow, Nat.pow_add, Nat.mul_div_cancel_left _ (Nat.two_pow_pos f), Nat.xor_mod_two_pow, Nat.mod_self, Nat.xor_zero]
  · rw [Nat.xor_div_two_pow, Nat.div_self (Nat.two_pow_pos _)]
    have h := Nat.xor_mod_two_eq_one (a := m / 2 ^ (f + e)) (b := 1)
    generalize m / 2 ^ (f + e) = t at *
    have h1 := Nat.mod_two_eq_zero_or_one t
    have h2 := Nat.mod_two_eq_zero_or_one (t ^^^ 1)
    rcases h1 with h1 | h1 <;> rcases h2 with h2 | h2 <;> simp [h1, h2] at h ⊢
/-- A float with the other sign. -/
theorem other_sign {w e f P Q b x : Int} (k : Kd w e f P Q b) (x0 : 0 ≤ x) (x1 : x < 18446744073709551616) : ∃ x', bits .xor .u64 x (put f P Q true 0 0) = x' ∧ 0 ≤ x' ∧ x' < 18446744073709551616 ∧ x' / P % Q = x / P % Q ∧ x' % P = x % P ∧ sg P Q x' = !sg P Q x := by
  refine ⟨_, rfl, ?_⟩
  rw [put_yes k.f0]
  obtain ⟨m, rfl⟩ := Int.eq_ofNat_of_zero_le x0
  have hlt : m < 2 ^ 64 := by omega
  unfold sg
  rcases k with ⟨-, -, -, rfl, rfl, -⟩ | ⟨-, -, -, rfl, rfl, -⟩
  · rw [show (0 : Int) * 8388608 + 0 + 8388608 * 256 = ((2147483648 : Nat) : Int) from rfl, u64_xor_nat m 2147483648 (by omega) (by omega)]
    obtain ⟨a, c, d⟩ := xor_bit m 23 8
    have hb : m ^^^ 2 ^ (23 + 8) < 2 ^ 64 := Nat.xor_lt_two_pow hlt (by decide)
    rw [show 2147483648 = 2 ^ (23 + 8) from rfl]
    generalize m ^^^ 2 ^ (23 + 8) = t at *
    rw [show 2 ^ 23 = 8388608 from rfl] at a c
    rw [show 2 ^ 8 = 256 from rfl] at c
    rw [show 2 ^ (23 + 8) = 2147483648 from rfl] at d
    rw [show (8388608 : Int) * 256 = 2147483648 from rfl]
    refine ⟨by omega, by omega, by omega, by omega, ?_⟩
    rcases Nat.mod_two_eq_zero_or_one (m / 2147483648) with h | h
    · rw [eq_t (show (t : Int) / 2147483648 % 2 = 1 by omega), eq_f (show ¬ (m : Int) / 2147483648 % 2 = 1 by omega)]
      rfl
    · rw [eq_f (show ¬ (t : Int) / 2147483648 % 2 = 1 by omega), eq_t (show (m : Int) / 2147483648 % 2 = 1 by omega)]
      rfl
  · rw [show (0 : Int) * 4503599627370496 + 0 + 4503599627370496 * 2048 = ((9223372036854775808 : Nat) : Int) from rfl, u64_xor_nat m 9223372036854775808 (by omega) (by omega)]
    obtain ⟨a, c, d⟩ := xor_bit m 52 11
    have hb : m ^^^ 2 ^ (52 + 11) < 2 ^ 64 := Nat.xor_lt_two_pow hlt (by decide)
    rw [show 9223372036854775808 = 2 ^ (52 + 11) from rfl]
    generalize m ^^^ 2 ^ (52 + 11) = t at *
    rw [show 2 ^ 52 = 4503599627370496 from rfl] at a c
    rw [show 2 ^ 11 = 2048 from rfl] at c
    rw [show 2 ^ (52 + 11) = 9223372036854775808 from rfl] at d
    rw [show (4503599627370496 : Int) * 2048 = 9223372036854775808 from rfl]
    refine ⟨by omega, by omega, by omega, by omega, ?_⟩
    rcases Nat.mod_two_eq_zero_or_one (m / 9223372036854775808) with h | h
    · rw [eq_t (show (t : Int) / 9223372036854775808 % 2 = 1 by omega), eq_f (show ¬ (m : Int) / 9223372036854775808 % 2 = 1 by omega)]
      rfl
    · rw [eq_f (show ¬ (t : Int) / 9223372036854775808 % 2 = 1 by omega), eq_t (show (m : Int) / 9223372036854775808 % 2 = 1 by omega)]
      rfl
end Go.Proofs.Ytcgnlpamfhdiiaa
namespace Go.Proofs.Ytcgnlpamfhdiiaa
open Go.RowKit

set_option maxRecDepth 100000 in
set_option maxHeartbeats 2000000 in
theorem refOpen_nan {w e f P Q b x xx yy : Int} {n : Bool} (W : World)
    (HX : Hid (∀ W, Calls Try.prog 46 #[.int .i64 w, .int .u64 x] W fun r W' => r = .returned (.int .i64 xx) ∧ Below W.heap.size W W'))
    (HY : Hid (∀ W, Calls Try.prog 47 #[.int .i64 w, .int .u64 x] W fun r W' => r = .returned (.int .u64 yy) ∧ Below W.heap.size W W'))
    (HN : Hid (∀ W, Calls Try.prog 48 #[.int .i64 w, .int .u64 x] W fun r W' => r = .returned (.bool n) ∧ Below W.heap.size W W'))
    (h : Kd w e f P Q b) (h1 : (xx == Q - 1) = true) (h2 : (yy != 0) = true) :
    Calls Try.prog 22 #[.int .i64 w, .int .u64 x] W fun r W' => r = .returned (.agg #[.bool false, .int .i64 3, .int .i64 0, .int .u64 0]) ∧ Below W.heap.size W W' := by
  have HT := hide (fun W => refTop_any h W)
  clear h
  go_enter Try.func22, Try.ntmps22
  go_wp2_with fail
  refine (unhide HX _).mono ?_
  rintro _ w1 ⟨rfl, hbl⟩
  have HR := hide (room4 hbl)
  have HB := hide (bthen (below1 _ _) hbl)
  clear hbl
  go_wp2_with fail
  refine (unhide HY _).mono ?_
  rintro _ w2 ⟨rfl, hbl⟩
  have HR := hide ((unhide HR).below hbl)
  have HB := hide (bthen (unhide HB) hbl)
  clear hbl
  go_wp2_with fail
  refine (unhide HN _).mono ?_
  rintro _ w3 ⟨rfl, hbl⟩
  have HR := hide ((unhide HR).below hbl)
  have HB := hide (bthen (unhide HB) hbl)
  clear hbl
  go_wp2_with fail
  refine (unhide HT _).mono ?_
  rintro _ w4 ⟨rfl, hbl⟩
  have HR := hide ((unhide HR).below hbl)
  have HB := hide (bthen (unhide HB) hbl)
  clear hbl
  obtain ⟨⟨v0, c0⟩, f0⟩ := (unhide HR) 0 (by omega)
  obtain ⟨⟨v1, c1⟩, f1⟩ := (unhide HR) 1 (by omega)
  obtain ⟨⟨v2, c2⟩, f2⟩ := (unhide HR) 2 (by omega)
  obtain ⟨⟨v3, c3⟩, f3⟩ := (unhide HR) 3 (by omega)
  go_wp2_with fail
  exact bodyPost_ret (v := .agg #[.bool false, .int .i64 3, .int .i64 0, .int .u64 0]) (by simp (maxDischargeDepth := 8) [results, Try.results22, go_sem, c0, c1, c2, c3]) rfl ⟨rfl, bset4 (unhide HB) _ _ _ _⟩

set_option maxRecDepth 100000 in
set_option maxHeartbeats 2000000 in
theorem refOpen_inf {w e f P Q b x xx yy : Int} {n : Bool} (W : World)
    (HX : Hid (∀ W, Calls Try.prog 46 #[.int .i64 w, .int .u64 x] W fun r W' => r = .returned (.int .i64 xx) ∧ Below W.heap.size W W'))
    (HY : Hid (∀ W, Calls Try.prog 47 #[.int .i64 w, .int .u64 x] W fun r W' => r = .returned (.int .u64 yy) ∧ Below W.heap.size W W'))
    (HN : Hid (∀ W, Calls Try.prog 48 #[.int .i64 w, .int .u64 x] W fun r W' => r = .returned (.bool n) ∧ Below W.heap.size W W'))
    (h : Kd w e f P Q b) (h1 : (xx == Q - 1) = true) (h2 : (yy != 0) = false) :
    Calls Try.prog 22 #[.int .i64 w, .int .u64 x] W fun r W' => r = .returned (.agg #[.bool n, .int .i64 2, .int .i64 0, .int .u64 0]) ∧ Below W.heap.size W W' := by
  have HT := hide (fun W => refTop_any h W)
  clear h
  go_enter Try.func22, Try.ntmps22
  go_wp2_with fail
  refine (unhide HX _).mono ?_
  rintro _ w1 ⟨rfl, hbl⟩
  have HR := hide (room4 hbl)
  have HB := hide (bthen (below1 _ _) hbl)
  clear hbl
  go_wp2_with fail
  refine (unhide HY _).mono ?_
  rintro _ w2 ⟨rfl, hbl⟩
  have HR := hide ((unhide HR).below hbl)
  have HB := hide (bthen (unhide HB) hbl)
  clear hbl
  go_wp2_with fail
  refine (unhide HN _).mono ?_
  rintro _ w3 ⟨rfl, hbl⟩
  have HR := hide ((unhide HR).below hbl)
  have HB := hide (bthen (unhide HB) hbl)
  clear hbl
  go_wp2_with fail
  refine (unhide HT _).mono ?_
  rintro _ w4 ⟨rfl, hbl⟩
  have HR := hide ((unhide HR).below hbl)
  have HB := hide (bthen (unhide HB) hbl)
  clear hbl
  obtain ⟨⟨v0, c0⟩, f0⟩ := (unhide HR) 0 (by omega)
  obtain ⟨⟨v1, c1⟩, f1⟩ := (unhide HR) 1 (by omega)
  obtain ⟨⟨v2, c2⟩, f2⟩ := (unhide HR) 2 (by omega)
  obtain ⟨⟨v3, c3⟩, f3⟩ := (unhide HR) 3 (by omega)
  go_wp2_with fail
  exact bodyPost_ret (v := .agg #[.bool n, .int .i64 2, .int .i64 0, .int .u64 0]) (by simp (maxDischargeDepth := 8) [results, Try.results22, go_sem, c0, c1, c2, c3]) rfl ⟨rfl, bset4 (unhide HB) _ _ _ _⟩

set_option maxRecDepth 100000 in
set_option maxHeartbeats 2000000 in
theorem refOpen_zer {w e f P Q b x xx yy : Int} {n : Bool} (W : World)
    (HX : Hid (∀ W, Calls Try.prog 46 #[.int .i64 w, .int .u64 x] W fun r W' => r = .returned (.int .i64 xx) ∧ Below W.heap.size W W'))
    (HY : Hid (∀ W, Calls Try.prog 47 #[.int .i64 w, .int .u64 x] W fun r W' => r = .returned (.int .u64 yy) ∧ Below W.heap.size W W'))
    (HN : Hid (∀ W, Calls Try.prog 48 #[.int .i64 w, .int .u64 x] W fun r W' => r = .returned (.bool n) ∧ Below W.heap.size W W'))
    (h : Kd w e f P Q b) (h1 : (xx == Q - 1) = false) (h3 : (xx == 0) = true) (h2 : (yy == 0) = true) :
    Calls Try.prog 22 #[.int .i64 w, .int .u64 x] W fun r W' => r = .returned (.agg #[.bool n, .int .i64 0, .int .i64 0, .int .u64 0]) ∧ Below W.heap.size W W' := by
  have HT := hide (fun W => refTop_any h W)
  clear h
  go_enter Try.func22, Try.ntmps22
  go_wp2_with fail
  refine (unhide HX _).mono ?_
  rintro _ w1 ⟨rfl, hbl⟩
  have HR := hide (room4 hbl)
  have HB := hide (bthen (below1 _ _) hbl)
  clear hbl
  go_wp2_with fail
  refine (unhide HY _).mono ?_
  rintro _ w2 ⟨rfl, hbl⟩
  have HR := hide ((unhide HR).below hbl)
  have HB := hide (bthen (unhide HB) hbl)
  clear hbl
  go_wp2_with fail
  refine (unhide HN _).mono ?_
  rintro _ w3 ⟨rfl, hbl⟩
  have HR := hide ((unhide HR).below hbl)
  have HB := hide (bthen (unhide HB) hbl)
  clear hbl
  go_wp2_with fail
  refine (unhide HT _).mono ?_
  rintro _ w4 ⟨rfl, hbl⟩
  have HR := hide ((unhide HR).below hbl)
  have HB := hide (bthen (unhide HB) hbl)
  clear hbl
  obtain ⟨⟨v0, c0⟩, f0⟩ := (unhide HR) 0 (by omega)
  obtain ⟨⟨v1, c1⟩, f1⟩ := (unhide HR) 1 (by omega)
  obtain ⟨⟨v2, c2⟩, f2⟩ := (unhide HR) 2 (by omega)
  obtain ⟨⟨v3, c3⟩, f3⟩ := (unhide HR) 3 (by omega)
  go_wp2_with fail
  exact bodyPost_ret (v := .agg #[.bool n, .int .i64 0, .int .i64 0, .int .u64 0]) (by simp (maxDischargeDepth := 8) [results, Try.results22, go_sem, c0, c1, c2, c3]) rfl ⟨rfl, bset4 (unhide HB) _ _ _ _⟩

set_option maxRecDepth 100000 in
set_option maxHeartbeats 2000000 in
theorem refOpen_sub {w e f P Q b x xx yy : Int} {n : Bool} (W : World)
    (HX : Hid (∀ W, Calls Try.prog 46 #[.int .i64 w, .int .u64 x] W fun r W' => r = .returned (.int .i64 xx) ∧ Below W.heap.size W W'))
    (HY : Hid (∀ W, Calls Try.prog 47 #[.int .i64 w, .int .u64 x] W fun r W' => r = .returned (.int .u64 yy) ∧ Below W.heap.size W W'))
    (HN : Hid (∀ W, Calls Try.prog 48 #[.int .i64 w, .int .u64 x] W fun r W' => r = .returned (.bool n) ∧ Below W.heap.size W W'))
    (h : Kd w e f P Q b) (h1 : (xx == Q - 1) = false) (h3 : (xx == 0) = true) (h2 : (yy == 0) = false) (k1 : IntKind.i64.wrap (1 - b) = 1 - b) (k2 : IntKind.i64.wrap (1 - b - f) = 1 - b - f) :
    Calls Try.prog 22 #[.int .i64 w, .int .u64 x] W fun r W' => r = .returned (.agg #[.bool n, .int .i64 1, .int .i64 (1 - b - f), .int .u64 yy]) ∧ Below W.heap.size W W' := by
  have HT := hide (fun W => refTop_any h W)
  have HBb := hide (fun W => refB_any h W)
  have HF := hide (fun W => refF_any h W)
  clear h
  go_enter Try.func22, Try.ntmps22
  go_wp2_with fail
  refine (unhide HX _).mono ?_
  rintro _ w1 ⟨rfl, hbl⟩
  have HR := hide (room4 hbl)
  have HB := hide (bthen (below1 _ _) hbl)
  clear hbl
  go_wp2_with fail
  refine (unhide HY _).mono ?_
  rintro _ w2 ⟨rfl, hbl⟩
  have HR := hide ((unhide HR).below hbl)
  have HB := hide (bthen (unhide HB) hbl)
  clear hbl
  go_wp2_with fail
  refine (unhide HN _).mono ?_
  rintro _ w3 ⟨rfl, hbl⟩
  have HR := hide ((unhide HR).below hbl)
  have HB := hide (bthen (unhide HB) hbl)
  clear hbl
  go_wp2_with fail
  refine (unhide HT _).mono ?_
  rintro _ w4 ⟨rfl, hbl⟩
  have HR := hide ((unhide HR).below hbl)
  have HB := hide (bthen (unhide HB) hbl)
  clear hbl
  go_wp2_with fail
  refine (unhide HBb _).mono ?_
  rintro _ w5 ⟨rfl, hbl⟩
  have HR := hide ((unhide HR).below hbl)
  have HB := hide (bthen (unhide HB) hbl)
  clear hbl
  go_wp2_with fail
  refine (unhide HF _).mono ?_
  rintro _ w6 ⟨rfl, hbl⟩
  have HR := hide ((unhide HR).below hbl)
  have HB := hide (bthen (unhide HB) hbl)
  clear hbl
  obtain ⟨⟨v0, c0⟩, f0⟩ := (unhide HR) 0 (by omega)
  obtain ⟨⟨v1, c1⟩, f1⟩ := (unhide HR) 1 (by omega)
  obtain ⟨⟨v2, c2⟩, f2⟩ := (unhide HR) 2 (by omega)
  obtain ⟨⟨v3, c3⟩, f3⟩ := (unhide HR) 3 (by omega)
  go_wp2_with fail
  exact bodyPost_ret (v := .agg #[.bool n, .int .i64 1, .int .i64 (1 - b - f), .int .u64 yy]) (by simp (maxDischargeDepth := 8) [results, Try.results22, go_sem, c0, c1, c2, c3]) rfl ⟨rfl, bset4 (unhide HB) _ _ _ _⟩

set_option maxRecDepth 100000 in
set_option maxHeartbeats 2000000 in
theorem refOpen_nor {w e f P Q b x xx yy : Int} {n : Bool} (W : World)
    (HX : Hid (∀ W, Calls Try.prog 46 #[.int .i64 w, .int .u64 x] W fun r W' => r = .returned (.int .i64 xx) ∧ Below W.heap.size W W'))
    (HY : Hid (∀ W, Calls Try.prog 47 #[.int .i64 w, .int .u64 x] W fun r W' => r = .returned (.int .u64 yy) ∧ Below W.heap.size W W'))
    (HN : Hid (∀ W, Calls Try.prog 48 #[.int .i64 w, .int .u64 x] W fun r W' => r = .returned (.bool n) ∧ Below W.heap.size W W'))
    (h : Kd w e f P Q b) (h1 : (xx == Q - 1) = false) (h3 : (xx == 0) = false) (k1 : IntKind.i64.wrap (xx - b) = xx - b) (k2 : IntKind.i64.wrap (xx - b - f) = xx - b - f) (k3 : IntKind.u64.wrap (P + yy) = P + yy) :
    Calls Try.prog 22 #[.int .i64 w, .int .u64 x] W fun r W' => r = .returned (.agg #[.bool n, .int .i64 1, .int .i64 (xx - b - f), .int .u64 (P + yy)]) ∧ Below W.heap.size W W' := by
  have HT := hide (fun W => refTop_any h W)
  have HBb := hide (fun W => refB_any h W)
  have HF := hide (fun W => refF_any h W)
  have H2 := hide (fun W => two_f h W)
  clear h
  go_enter Try.func22, Try.ntmps22
  go_wp2_with fail
  refine (unhide HX _).mono ?_
  rintro _ w1 ⟨rfl, hbl⟩
  have HR := hide (room4 hbl)
  have HB := hide (bthen (below1 _ _) hbl)
  clear hbl
  go_wp2_with fail
  refine (unhide HY _).mono ?_
  rintro _ w2 ⟨rfl, hbl⟩
  have HR := hide ((unhide HR).below hbl)
  have HB := hide (bthen (unhide HB) hbl)
  clear hbl
  go_wp2_with fail
  refine (unhide HN _).mono ?_
  rintro _ w3 ⟨rfl, hbl⟩
  have HR := hide ((unhide HR).below hbl)
  have HB := hide (bthen (unhide HB) hbl)
  clear hbl
  go_wp2_with fail
  refine (unhide HT _).mono ?_
  rintro _ w4 ⟨rfl, hbl⟩
  have HR := hide ((unhide HR).below hbl)
  have HB := hide (bthen (unhide HB) hbl)
  clear hbl
  go_wp2_with fail
  refine (unhide HBb _).mono ?_
  rintro _ w5 ⟨rfl, hbl⟩
  have HR := hide ((unhide HR).below hbl)
  have HB := hide (bthen (unhide HB) hbl)
  clear hbl
  go_wp2_with fail
  refine (unhide HF _).mono ?_
  rintro _ w6 ⟨rfl, hbl⟩
  have HR := hide ((unhide HR).below hbl)
  have HB := hide (bthen (unhide HB) hbl)
  clear hbl
  go_wp2_with fail
  refine (unhide HF _).mono ?_
  rintro _ w7 ⟨rfl, hbl⟩
  have HR := hide ((unhide HR).below hbl)
  have HB := hide (bthen (unhide HB) hbl)
  clear hbl
  go_wp2_with fail
  refine (unhide H2 _).mono ?_
  rintro _ w8 ⟨rfl, hbl⟩
  have HR := hide ((unhide HR).below hbl)
  have HB := hide (bthen (unhide HB) hbl)
  clear hbl
  obtain ⟨⟨v0, c0⟩, f0⟩ := (unhide HR) 0 (by omega)
  obtain ⟨⟨v1, c1⟩, f1⟩ := (unhide HR) 1 (by omega)
  obtain ⟨⟨v2, c2⟩, f2⟩ := (unhide HR) 2 (by omega)
  obtain ⟨⟨v3, c3⟩, f3⟩ := (unhide HR) 3 (by omega)
  go_wp2_with fail
  exact bodyPost_ret (v := .agg #[.bool n, .int .i64 1, .int .i64 (xx - b - f), .int .u64 (P + yy)]) (by simp (maxDischargeDepth := 8) [results, Try.results22, go_sem, c0, c1, c2, c3]) rfl ⟨rfl, bset4 (unhide HB) _ _ _ _⟩

theorem refOpen_any {w e f P Q b : Int} (x : Int) {N : Bool} {K X S : Int} (h : Kd w e f P Q b) (W : World) (h0 : 0 ≤ x) (h1 : x < 18446744073709551616)
    (ho : Opened f P Q b (sg P Q x) (x / P % Q) (x % P) N K X S) :
    Calls Try.prog 22 #[.int .i64 w, .int .u64 x] W fun r W' => r = .returned (.agg #[.bool N, .int .i64 K, .int .i64 X, .int .u64 S]) ∧ Below W.heap.size W W' := by
  have HX := hide (fun W => refExp_any x h W h0 h1)
  have HY := hide (fun W => refFrac_any x h W h0)
  have HN := hide (fun W => refNeg_any x h W h0 h1)
  obtain ⟨p1, p2, q1, q2⟩ := h.wd.sz.pos
  obtain ⟨u, v⟩ := exp_in (x / P) q1
  obtain ⟨u', v'⟩ := exp_in x p1
  have hb : 0 ≤ b ∧ b ≤ 2000 ∧ 0 ≤ f ∧ f ≤ 60 := by rcases h with h | h <;> omega
  rcases ho with ⟨a, -⟩ | ⟨a, c, d, rfl, rfl, rfl, rfl⟩ | ⟨a, c, d, rfl, rfl, rfl, rfl⟩ | ⟨a, c, d, rfl, rfl, rfl, rfl⟩ | ⟨a, c, d, g, rfl, rfl, rfl, rfl⟩ | ⟨a, c, d, g, rfl, rfl, rfl, rfl⟩
  · exact absurd a h.f0
  · exact refOpen_nan W HX HY HN h (eq_t c) (ne_t d)
  · exact refOpen_inf W HX HY HN h (eq_t c) (ne_f d)
  · exact refOpen_nor W HX HY HN h (eq_f c) (eq_f d) (i64_id (by omega) (by omega)) (i64_id (by omega) (by omega)) (by rw [IntKind.wrap_u64]; omega)
  · exact refOpen_sub W HX HY HN h (eq_f c) (eq_t d) (eq_f g) (i64_id (by omega) (by omega)) (i64_id (by omega) (by omega))
  · exact refOpen_zer W HX HY HN h (eq_f c) (eq_t d) (eq_t g)

end Go.Proofs.Ytcgnlpamfhdiiaa
namespace Go.Proofs.Ytcgnlpamfhdiiaa.W

/-- The number of a list of digits. -/
def val : List Nat → Nat
  | [] => 0
  | d :: r => d + 4294967296 * val r
/-- A digit, nought beyond the end. -/
def dg (D : List Nat) (i : Nat) : Nat := D.getD i 0
/-- The power of a place. -/
def pw (i : Nat) : Nat := 4294967296 ^ i
/-- Each is a digit. -/
def Small (D : List Nat) : Prop := ∀ d ∈ D, d < 4294967296
/-- No nought at the upper end. -/
def Canon (D : List Nat) : Prop := D = [] ∨ pw (D.length - 1) ≤ val D

theorem pw_pos (i : Nat) : 0 < pw i := Nat.pow_pos (by omega)
theorem pw_0 : pw 0 = 1 := rfl
theorem pw_succ (i : Nat) : pw (i + 1) = pw i * 4294967296 := Nat.pow_succ _ _
theorem pw_add (i j : Nat) : pw (i + j) = pw i * pw j := Nat.pow_add _ _ _
theorem pw_le {i j : Nat} (h : i ≤ j) : pw i ≤ pw j := Nat.pow_le_pow_right (by omega) h
theorem pw_two (i : Nat) : pw i = 2 ^ (32 * i) := by unfold pw; rw [Nat.pow_mul]

theorem val_append (D E : List Nat) : val (D ++ E) = val D + pw D.length * val E := by
  induction D with
  | nil => simp [val, pw]
  | cons d r ih =>
    simp only [List.cons_append, val, ih, List.length_cons, pw_succ]
    rw [Nat.mul_add, Nat.mul_comm (pw r.length) 4294967296, Nat.mul_assoc]
    omega
theorem val_snoc (D : List Nat) (d : Nat) : val (D ++ [d]) = val D + pw D.length * d := by rw [val_append]; simp [val]
theorem small_snoc {D : List Nat} {d : Nat} (h : Small D) (hd : d < 4294967296) : Small (D ++ [d]) := by
  intro x hx
  rcases List.mem_append.1 hx with hx | hx
  · exact h x hx
  · simp at hx; subst hx; exact hd
theorem val_lt {D : List Nat} (h : Small D) : val D < pw D.length := by
  induction D with
  | nil => exact pw_pos 0
  | cons d r ih =>
    have h1 := ih (fun x hx => h x (List.mem_cons_of_mem _ hx))
    have h2 := h d List.mem_cons_self
    simp only [val, List.length_cons, pw_succ]
    rw [Nat.mul_comm (pw r.length)]
    omega
theorem at_val0 : ∀ (D : List Nat) (i : Nat), Small D → D.getD i 0 = val D / pw i % 4294967296
  | [], i, _ => by simp [val]
  | d :: r, 0, h => by
    have := h d List.mem_cons_self
    simp [val, pw]
    omega
  | d :: r, i + 1, h => by
    have h2 := h d List.mem_cons_self
    have ih := at_val0 r i (fun x hx => h x (List.mem_cons_of_mem _ hx))
    simp only [List.getD_cons_succ, ih, val, pw_succ]
    rw [Nat.mul_comm (pw i), ← Nat.div_div_eq_div_mul, show (d + 4294967296 * val r) / 4294967296 = val r by omega]
theorem at_val (D : List Nat) (i : Nat) (h : Small D) : dg D i = val D / pw i % 4294967296 := at_val0 D i h
theorem dg_out {D : List Nat} {i : Nat} (h : ¬ i < D.length) : dg D i = 0 := by
  unfold dg
  rw [List.getD_eq_getElem?_getD, List.getElem?_eq_none (by omega)]
  rfl
theorem canon_len {D : List Nat} {k : Nat} (h : Canon D) (hx : val D < pw k) : D.length ≤ k := by
  rcases h with h | h
  · subst h; simp
  · refine Decidable.byContradiction fun hn => ?_
    have := pw_le (show k ≤ D.length - 1 by omega)
    omega
/-- The last digit of a list that is not empty. -/
theorem top_digit {D : List Nat} (hs : Small D) (hne : 0 < D.length) : dg D (D.length - 1) = val D / pw (D.length - 1) := by
  rw [at_val D _ hs, Nat.mod_eq_of_lt]
  have h := val_lt hs
  rw [show D.length = (D.length - 1) + 1 by omega, pw_succ] at h
  exact Nat.div_lt_of_lt_mul h
theorem canon_of_top {D : List Nat} (hs : Small D) (h : dg D (D.length - 1) ≠ 0) : Canon D := by
  rcases Nat.eq_zero_or_pos D.length with h0 | h0
  · exact Or.inl (List.eq_nil_of_length_eq_zero h0)
  · rw [top_digit hs h0] at h
    refine Or.inr (Decidable.byContradiction fun hn => h (Nat.div_eq_of_lt (by omega)))
theorem small_take {D : List Nat} (h : Small D) (m : Nat) : Small (D.take m) := fun x hx => h x (List.mem_of_mem_take hx)
theorem take_dg {D : List Nat} {m j : Nat} (h : j < m) : dg (D.take m) j = dg D j := by
  unfold dg
  simp [List.getD_eq_getElem?_getD, h]

end Go.Proofs.Ytcgnlpamfhdiiaa.W
namespace Go.Proofs.Ytcgnlpamfhdiiaa.W
open Go.RowKit

/-- A slice of uint64 that holds these digits. -/
def Holds (w : World) (s : Value) (D : List Nat) : Prop :=
  (s = .slice none 0 0 ∧ D = []) ∨ ∃ g c, s = .slice (some ⟨g, 0, none⟩) D.length c ∧ g < w.heap.size ∧ D.length ≤ c ∧ D.length ≤ 1000000 ∧ ∀ i, i < D.length → w.cell? ⟨g, i, none⟩ = some (.int .u64 ((dg D i : Nat) : Int))

theorem Holds.below {w w' : World} {s : Value} {D : List Nat} (h : Holds w s D) (hb : Below w.heap.size w w') : Holds w' s D := by
  rcases h with h | ⟨g, c, h1, h2, h3, h4, h5⟩
  · exact Or.inl h
  · exact Or.inr ⟨g, c, h1, Nat.lt_of_lt_of_le h2 hb.size, h3, h4, fun i hi => by rw [hb.cell (p := ⟨g, i, none⟩) h2]; exact h5 i hi⟩

/-- A Nat of the reference: canonical digits of x. -/
def IsNat (w : World) (s : Value) (x : Nat) : Prop := ∃ D, Holds w s D ∧ Small D ∧ Canon D ∧ val D = x
theorem IsNat.below {w w' : World} {s : Value} {x : Nat} (h : IsNat w s x) (hb : Below w.heap.size w w') : IsNat w' s x := by
  obtain ⟨D, h1, h2⟩ := h
  exact ⟨D, h1.below hb, h2⟩

theorem IsNat.slice {w : World} {s : Value} {x : Nat} (h : IsNat w s x) : ∃ a n c, s = .slice a n c := by
  obtain ⟨D, h1 | ⟨g, c, h1, _⟩, _⟩ := h
  · exact ⟨_, _, _, h1.1⟩
  · exact ⟨_, _, _, h1⟩
/-- A store into a variable that holds a slice turns no digit. -/
theorem IsNat.store {w : World} {s : Value} {x : Nat} {b : Nat} {a : Option Addr} {n c : Nat} (h : IsNat w s x) (hc : w.cell? ⟨b, 0, none⟩ = some (.slice a n c)) (v : Value) : IsNat (w.setCell ⟨b, 0, none⟩ v) s x := by
  obtain ⟨D, h1 | ⟨g, c', h1, h2, h3, h4, h5⟩, hD⟩ := h
  · exact ⟨D, Or.inl h1, hD⟩
  · refine ⟨D, Or.inr ⟨g, c', h1, by simpa using h2, h3, h4, fun i hi => ?_⟩, hD⟩
    have hne : g ≠ b := by
      intro he
      subst he
      have := h5 0 (by omega)
      rw [hc] at this
      cases this
    rw [World.cell?_setCell_other _ _ _ _ (by intro he; injection he with he1; exact hne he1.symm)]
    exact h5 i hi

set_option maxHeartbeats 400000 in
theorem at_any (s : Value) (D : List Nat) (k : Nat) (w : World) (h : Holds w s D) (_hk : k ≤ 1000000) :
    Calls Try.prog 68 #[s, .int .i64 (k : Int)] w fun e w' => e = .returned (.int .u64 ((dg D k : Nat) : Int)) ∧ w' = w := by
  rcases h with ⟨rfl, rfl⟩ | ⟨g, c, rfl, h2, h3, h4, h5⟩
  · go_enter Try.func68, Try.ntmps68
    go_wp2
    all_goals (go_ret; exact ⟨rfl, rfl⟩)
  · by_cases hlt : k < D.length
    · have hc := h5 k hlt
      clear h5
      go_enter Try.func68, Try.ntmps68
      go_wp2
      go_ret
      exact ⟨rfl, rfl⟩
    · have e := dg_out hlt
      rw [e]
      clear h5 e
      go_enter Try.func68, Try.ntmps68
      go_wp2
      go_ret
      exact ⟨rfl, rfl⟩

set_option maxHeartbeats 400000 in
theorem trim_nil (w : World) : Calls Try.prog 56 #[.slice none 0 0] w fun e w' => e = .returned (.agg #[.slice none 0 0]) ∧ Below w.heap.size w w' := by
  go_enter Try.func56, Try.ntmps56
  go_wp2_with fail
  refine wp_loop_rounds 1 ?_
  rw [rounds_succ]
  go_wp2_with fail
  exact bodyPost_ret (v := .agg #[.slice none 0 0]) (by simp [results, Try.results56, go_sem]) rfl ⟨rfl, below1 _ _⟩

set_option maxHeartbeats 400000 in
theorem trim_row (g c : Nat) (D : List Nat) (w : World) (h2 : g < w.heap.size) (h3 : D.length ≤ c) (h4 : D.length ≤ 1000000) (h5 : ∀ i, i < D.length → w.cell? ⟨g, i, none⟩ = some (.int .u64 ((dg D i : Nat) : Int))) :
    Calls Try.prog 56 #[.slice (some ⟨g, 0, none⟩) D.length c] w fun e w' => ∃ m : Nat, m ≤ D.length ∧ e = .returned (.agg #[.slice (some ⟨g, 0, none⟩) m c]) ∧ (m = 0 ∨ dg D (m - 1) ≠ 0) ∧ (∀ j, m ≤ j → j < D.length → dg D j = 0) ∧ Below w.heap.size w w' := by
  have H5 := hide h5
  clear h5
  go_enter Try.func56, Try.ntmps56
  go_wp2_with fail
  go_loop [3] (fun t => ∃ m : Nat, m ≤ D.length ∧ t = .int .i64 m ∧ ∀ j, m ≤ j → j < D.length → dg D j = 0) (fun t => (intOf t).toNat)
  case atStart => exact ⟨D.length, by omega, rfl, fun j h h' => by omega⟩
  case round =>
    obtain ⟨m, hm, rfl, hz⟩ := hrel
    have HZ := hide hz
    clear hz
    by_cases h0 : m = 0
    · subst h0
      go_wp2_with fail
      exact bodyPost_ret (v := .agg #[.slice (some ⟨g, 0, none⟩) 0 c]) (by simp [results, Try.results56, go_sem]) rfl ⟨0, by omega, rfl, Or.inl rfl, unhide HZ, below1 _ _⟩
    · have hcm : (w.alloc (.cells #[.slice none 0 0] 50)).cell? ⟨g, m - 1, none⟩ = some (.int .u64 ((dg D (m - 1) : Nat) : Int)) := by
        rw [World.cell?_alloc_lt _ _ _ h2]; exact unhide H5 (m - 1) (by omega)
      go_wp2_with fail
      · have hd : dg D (m - 1) = 0 := by
          have h : (((dg D (m - 1) : Nat) : Int) == 0) = true := by assumption
          rw [beq_iff_eq] at h; omega
        refine ⟨⟨m - 1, by omega, by go_num, fun j h h' => ?_⟩, by simp [intOf]; omega⟩
        by_cases e : j = m - 1
        · rw [e]; exact hd
        · exact unhide HZ j (by omega) h'
      · have hd : dg D (m - 1) ≠ 0 := by
          have h : (((dg D (m - 1) : Nat) : Int) == 0) = false := by assumption
          rw [beq_eq_false_iff_ne] at h; omega
        exact bodyPost_ret (v := .agg #[.slice (some ⟨g, 0, none⟩) m c]) (by simp [results, Try.results56, go_sem]) rfl ⟨m, hm, rfl, Or.inr hd, unhide HZ, below1 _ _⟩

theorem val_of_zeros {D : List Nat} {m : Nat} (hm : m ≤ D.length) (hz : ∀ j, m ≤ j → j < D.length → dg D j = 0) : val (D.take m) = val D := by
  have key : ∀ k, m + k ≤ D.length → val (D.take (m + k)) = val (D.take m) := by
    intro k
    induction k with
    | zero => intro _; rfl
    | succ k ih =>
      intro hk
      have e : D.take (m + (k + 1)) = D.take (m + k) ++ [dg D (m + k)] := by
        rw [show m + (k + 1) = (m + k) + 1 by omega, List.take_succ_eq_append_getElem (by omega)]
        congr 2
        unfold dg
        rw [List.getD_eq_getElem?_getD, List.getElem?_eq_getElem (by omega)]
        rfl
      rw [e, val_snoc, hz (m + k) (by omega) (by omega), Nat.mul_zero, Nat.add_zero]
      exact ih (by omega)
  have h := key (D.length - m) (by omega)
  rw [show m + (D.length - m) = D.length by omega, List.take_of_length_le (Nat.le_refl _)] at h
  exact h.symm

/-- trim: the same number, canonical. -/
theorem trim_any (s : Value) (D : List Nat) (w : World) (h : Holds w s D) (hs : Small D) :
    Calls Try.prog 56 #[s] w fun e w' => ∃ s', e = .returned (.agg #[s']) ∧ IsNat w' s' (val D) ∧ Below w.heap.size w w' := by
  rcases h with ⟨rfl, rfl⟩ | ⟨g, c, rfl, h2, h3, h4, h5⟩
  · refine (trim_nil w).mono ?_
    rintro e w' ⟨rfl, hb⟩
    exact ⟨_, rfl, ⟨[], Or.inl ⟨rfl, rfl⟩, hs, Or.inl rfl, rfl⟩, hb⟩
  · refine (trim_row g c D w h2 h3 h4 h5).mono ?_
    rintro e w' ⟨m, hm, rfl, ht, hz, hb⟩
    have hl : (D.take m).length = m := by simp; omega
    refine ⟨_, rfl, ⟨D.take m, Or.inr ⟨g, c, by rw [hl], Nat.lt_of_lt_of_le h2 hb.size, by omega, by omega, fun i hi => ?_⟩, small_take hs m, ?_, val_of_zeros hm hz⟩, hb⟩
    · rw [hl] at hi
      rw [hb.cell (p := ⟨g, i, none⟩) h2, take_dg hi]
      exact h5 i (by omega)
    · rcases ht with ht | ht
      · subst ht; exact Or.inl (by simp)
      · rcases Nat.eq_zero_or_pos m with h0 | h0
        · subst h0; exact Or.inl (by simp)
        · exact canon_of_top (small_take hs m) (by rw [hl, take_dg (by omega)]; exact ht)

set_option maxHeartbeats 400000 in
theorem refOf_any (a : Int) (w : World) (a0 : 0 ≤ a) (a1 : a < 18446744073709551616) :
    Calls Try.prog 26 #[.int .u64 a] w fun e w' => ∃ s', e = .returned (.agg #[s']) ∧ IsNat w' s' a.toNat ∧ Below w.heap.size w w' := by
  go_enter Try.func26, Try.ntmps26
  go_wp2_with fail
  obtain ⟨A, rfl⟩ := Int.eq_ofNat_of_zero_le a0
  have hm : (A : Int) % 4294967296 = ((A % 4294967296 : Nat) : Int) := by omega
  have hd : (A : Int) / 4294967296 = ((A / 4294967296 : Nat) : Int) := by omega
  rw [hm, hd]
  refine (trim_any _ [A % 4294967296, A / 4294967296] _ (Or.inr ⟨w.heap.size + 1, 2, rfl, by simp, by simp, by simp, fun i hi => ?_⟩) (fun d hd => ?_)).mono ?_
  · have : i = 0 ∨ i = 1 := by simp at hi; omega
    rcases this with rfl | rfl
    · simp [dg]
    · simp [dg]
  · simp at hd; omega
  rintro e w1 ⟨s', rfl, hN, hb⟩
  obtain ⟨a, n, c, rfl⟩ := hN.slice
  have hc : w1.cell? ⟨w.heap.size, 0, none⟩ = some (.slice none 0 0) := by rw [hb.cell (by first | (simp; done) | (simp; omega))]; simp [go_sem]
  have hf : w1.frozen? ⟨w.heap.size, 0, none⟩ = false := by rw [hb.frozen (by first | (simp; done) | (simp; omega))]; simp [go_sem]
  have hv : val [A % 4294967296, A / 4294967296] = A := by simp [val]; omega
  rw [hv] at hN
  have HN := hide hN
  clear hN hv hm hd a0 a1
  go_wp2
  refine bodyPost_ret (v := .agg #[.slice a n c]) (by simp [results, Try.results26, go_sem, hc]) rfl ⟨_, rfl, ?_, ?_⟩
  · rw [Int.toNat_natCast]; exact (unhide HN).store hc _
  · exact (bthen (below2 _ _ _) hb).setCell (by simp) _

end Go.Proofs.Ytcgnlpamfhdiiaa.W
namespace Go.Proofs.Ytcgnlpamfhdiiaa.W
open Go.RowKit

/-- A digit of a number. -/
def dgt (x k : Nat) : Nat := x / pw k % 4294967296
theorem dgt_lt (x k : Nat) : dgt x k < 4294967296 := Nat.mod_lt _ (by omega)

theorem at_n (s : Value) (x k : Nat) (w : World) (h : IsNat w s x) (hk : k ≤ 1000000) :
    Calls Try.prog 68 #[s, .int .i64 (k : Int)] w fun e w' => e = .returned (.int .u64 ((dgt x k : Nat) : Int)) ∧ w' = w := by
  obtain ⟨D, h1, h2, h3, rfl⟩ := h
  have := at_any s D k w h1 hk
  rw [at_val D k h2] at this
  exact this
theorem at_0 (s : Value) (x : Nat) (w : World) (h : IsNat w s x) : Calls Try.prog 68 #[s, .int .i64 0] w fun e w' => e = .returned (.int .u64 ((dgt x 0 : Nat) : Int)) ∧ w' = w := at_n s x 0 w h (by omega)
theorem at_1 (s : Value) (x : Nat) (w : World) (h : IsNat w s x) : Calls Try.prog 68 #[s, .int .i64 1] w fun e w' => e = .returned (.int .u64 ((dgt x 1 : Nat) : Int)) ∧ w' = w := at_n s x 1 w h (by omega)
theorem IsNat.drewN {w : World} {s : Value} {x : Nat} (h : IsNat w s x) (n : Nat) : IsNat (w.drewN n) s x := h.below (below_drewN (Below.refl _ _) n)
theorem IsNat.alloc {w : World} {s : Value} {x : Nat} (h : IsNat w s x) (o : Obj) : IsNat (w.alloc o) s x := h.below (below1 _ _)

theorem digits_join (p q : Nat) (hp : p < 4294967296) (hq : q < 4294967296) : IntKind.u64.wrap (IntKind.u64.wrap ((p : Int) * 4294967296) + (q : Int)) = ((p * 4294967296 + q : Nat) : Int) := by
  rw [IntKind.wrap_u64, IntKind.wrap_u64]; omega
theorem pw_1 : pw 1 = 4294967296 := by decide +kernel
theorem lo_digits (x : Nat) : ((dgt x 1 * 4294967296 + dgt x 0 : Nat) : Int) = lo x := by
  unfold dgt lo; rw [pw_1, pw_0]; omega
set_option maxHeartbeats 400000 in
theorem uint_any (a : Option Addr) (n c x : Nat) (w : World) (h : IsNat w (.slice a n c) x) :
    Calls Try.prog 55 #[.agg #[.slice a n c]] w fun e w' => e = .returned (.int .u64 (lo x)) ∧ Below w.heap.size w w' := by
  have H := hide h
  clear h
  go_enter Try.func55, Try.ntmps55
  go_wp2_with fail
  go_quiet ((first | (go_at_call_of 68 (Value.int IntKind.i64 1); exact Calls.quiet_of_same (at_1 _ x _ (((unhide H).alloc _).drewN _))) | (go_at_call_of 68 (Value.int IntKind.i64 0); exact Calls.quiet_of_same (at_0 _ x _ (((unhide H).alloc _).drewN _)))))
  go_wp2
  go_ret
  exact ⟨ret1 ((digits_join _ _ (dgt_lt _ _) (dgt_lt _ _)).trans (lo_digits x)), below_drewN (below1 _ _) _⟩

theorem bitLen_top {D : List Nat} (hs : Small D) (hc : Canon D) (hl : 0 < D.length) : Go.bitLen (val D) = 32 * (D.length - 1) + Go.bitLen (dg D (D.length - 1)) := by
  rw [top_digit hs hl, pw_two]
  refine Go.bitLen_shift _ _ ?_
  rw [← pw_two]
  rcases hc with hc | hc
  · subst hc; simp at hl
  · have := Nat.div_pos hc (pw_pos _); omega

theorem bitLen_half {t : Nat} (h : ¬ t = 0) : Go.bitLen t = 1 + Go.bitLen (t / 2) := by
  by_cases h2 : t / 2 = 0
  · have : t = 1 := by omega
    subst this; rfl
  · have := Go.bitLen_shift t 1 (by simpa using h2)
    simpa using this

set_option maxHeartbeats 1000000 in
theorem refLen_any (a : Option Addr) (n c x : Nat) (w : World) (h : IsNat w (.slice a n c) x) :
    Calls Try.prog 50 #[.agg #[.slice a n c]] w fun e w' => e = .returned (.int .i64 (Go.bitLen x : Int)) ∧ Below w.heap.size w w' := by
  obtain ⟨D, hH, hs, hC, rfl⟩ := h
  by_cases hn : D.length = 0
  · have hD := List.eq_nil_of_length_eq_zero hn
    subst hD
    have e : n = 0 := by
      rcases hH with ⟨h1, _⟩ | ⟨g, c', h1, _⟩
      · injection h1
      · injection h1
    subst e
    go_enter Try.func50, Try.ntmps50
    go_wp2
    go_ret
    exact ⟨rfl, below1 _ _⟩
  · have hb := bitLen_top hs hC (by omega)
    have ht : dg D (D.length - 1) < 4294967296 := by rw [at_val D _ hs]; exact Nat.mod_lt _ (by omega)
    rcases hH with ⟨_, h1⟩ | ⟨g, c', h1, h2, h3, h4, h5⟩
    · subst h1; simp at hn
    · injection h1 with e1 e2 e3
      subst e1 e2 e3
      have hcell : (w.alloc (.cells #[.slice (some ⟨g, 0, none⟩) D.length c] 50)).cell? ⟨g, D.length - 1, none⟩ = some (.int .u64 ((dg D (D.length - 1) : Nat) : Int)) := by
        rw [World.cell?_alloc_lt _ _ _ h2]; exact h5 _ (by omega)
      have HB := hide hb
      have HT := hide ht
      have hbl : Go.bitLen (dg D (D.length - 1)) ≤ 32 := by
        have hp : (4294967296 : Nat) = 2 ^ 32 := rfl
        unfold Go.bitLen
        split
        · omega
        · rename_i h0
          have := (Nat.log2_lt h0).2 (show dg D (D.length - 1) < 2 ^ 32 from ht)
          omega
      have hl : 0 < D.length := by omega
      have hl' : D.length ≤ 1000000 := by omega
      have hb1 : ((D.length : Int) == 0) = false := by rw [beq_eq_false_iff_ne]; omega
      clear hb h5 hs hC ht
      generalize dg D (D.length - 1) = T at *
      generalize D.length = L at *
      generalize val D = x at *
      go_enter Try.func50, Try.ntmps50
      go_wp2_with fail
      go_loop [3, 4] (fun t3 t4 => ∃ j t : Nat, t3 = .int .i64 (32 * ((L : Int) - 1) + j) ∧ t4 = .int .u64 t ∧ t < 4294967296 ∧ j + Go.bitLen t = Go.bitLen T) (fun _ t4 => (intOf t4).toNat)
      case atStart => exact ⟨0, T, by simp, rfl, unhide HT, by omega⟩
      case round =>
        obtain ⟨j, t, rfl, rfl, htl, hj⟩ := hrel
        have HJ := hide hj
        have HL := hide htl
        have hj32 : j ≤ 32 := by omega
        clear hj htl
        by_cases h0 : t = 0
        · subst h0
          go_wp2_with fail
          go_ret
          exact ⟨ret1 (by have := unhide HJ; have := unhide HB; rw [show Go.bitLen 0 = 0 from rfl] at *; omega), below1 _ _⟩
        · go_wp2_with fail
          have e2 : IntKind.u64.wrap ((t : Int) / 2) = ((t / 2 : Nat) : Int) := by have := unhide HL; rw [IntKind.wrap_u64]; omega
          have e3 := bitLen_half h0
          have e4 := unhide HJ
          have e5 := unhide HL
          rw [e2]
          refine ⟨⟨j + 1, t / 2, ?_, rfl, by omega, by omega⟩, by simp [intOf]; omega⟩
          congr 1
          omega

end Go.Proofs.Ytcgnlpamfhdiiaa.W
