/- The reference's sums: what exact, parts, Add and Sub answer. -/
import Derived.Test.YticbhdgamblmbaaSumC
import Derived.Test.YticbhdgamblmbaaExB
import Derived.Test.YticbhdgamblmbaaExC
import Derived.Test.YticbhdgamblmbaaRefS
import Derived.Test.YticbhdgamblmbaaRefOpen
import Derived.Test.YticbhdgamblmbaaExactX
namespace Go.Proofs.Yticbhdgamblmbaa
open Go.RowKit
open Go.Proofs.Yticbhdgamblmbaa.W

theorem exact_rd {w e f P Q b low : Int} (k : Kd w e f P Q b) (n : Bool) (z : Nat) (h0 : -1200 ≤ low) (h1 : low ≤ 1100) : exactN f P Q b n z low = rd f P Q b n (z * 2 ^ (low + 5000).toNat) := by
  unfold exactN
  by_cases hz : z = 0
  · rw [if_pos (Or.inl hz), hz, Nat.zero_mul, rd_zero k]
  · rw [if_neg (by omega), if_neg (by omega)]
    rfl
theorem pow_dbl (j : Nat) : 2 ^ j + 2 ^ j = 2 ^ (j + 1) := by rw [Nat.pow_succ]; omega
theorem pow_bound {S d j k : Nat} (h : S < 2 ^ j) (hk : j + d ≤ k) : S * 2 ^ d < 2 ^ k := by
  have h1 : S * 2 ^ d < 2 ^ j * 2 ^ d := Nat.mul_lt_mul_of_pos_right h (Nat.two_pow_pos d)
  rw [← Nat.pow_add] at h1
  exact Nat.lt_of_lt_of_le h1 (Nat.pow_le_pow_right (by omega) hk)
theorem big_pwi {S d i : Nat} (h : S < 9007199254740992) (hd : 53 + d ≤ 32 * i) : S * 2 ^ d < pw i := by
  rw [pw_two]
  exact pow_bound (j := 53) (by omega) hd
theorem big_pw {S d : Nat} (h : S < 9007199254740992) (hd : d ≤ 2300) : S * 2 ^ d < pw 100 := big_pwi h (by omega)
theorem sum_pow {x y j k : Nat} (h1 : x < 2 ^ j) (h2 : y < 2 ^ j) (hk : j + 1 ≤ k) : x + y < 2 ^ k := by
  have h3 : 2 ^ (j + 1) ≤ 2 ^ k := Nat.pow_le_pow_right (by omega) hk
  rw [← pow_dbl] at h3
  omega
theorem sum_pwi {x y i k : Nat} (h1 : x < pw i) (h2 : y < pw i) (hk : 32 * i + 1 ≤ 32 * k) : x + y < pw k := by
  rw [pw_two] at *
  exact sum_pow h1 h2 hk
theorem sum_pw {x y : Nat} (h1 : x < pw 100) (h2 : y < pw 100) : x + y < pw 140 := sum_pwi h1 h2 (by omega)
theorem ex_at {w e f P Q b low : Int} (k : Kd w e f P Q b) (n : Bool) (z M : Nat) (hz : z < pw 140) (h0 : -1200 ≤ low) (h1 : low ≤ 1100) (hM : z * 2 ^ (low + 5000).toNat = M) :
    Hid (∀ (a : Option Addr) (m c : Nat) (W : World), IsNat W (.slice a m c) z → Calls Try.prog 55 #[.int .i64 w, .bool n, .agg #[.slice a m c], .int .i64 low] W fun r W' => r = .returned (.int .u64 (rd f P Q b n M)) ∧ Below W.heap.size W W') := by
  refine hide (fun a m c W hx => ?_)
  have := exact_any (n := n) (k := low) k z hz a m c W hx
  rw [exact_rd k n z h0 h1, hM] at this
  exact this

/-- Both at the lesser exponent, of any two that are finite. -/
theorem exsum_any {w e f P Q b K1 X1 S1 K2 X2 S2 : Int} (k : Kd w e f P Q b) (n1 n2 : Bool) (h1 : Prt f P Q b K1 X1 S1) (h2 : Prt f P Q b K2 X2 S2) (k1 : K1 ≠ 2 ∧ K1 ≠ 3) (k2 : K2 ≠ 2 ∧ K2 ≠ 3) (W : World) :
    Calls Try.prog 46 #[.int .i64 w, .agg #[.bool n1, .int .i64 K1, .int .i64 X1, .int .u64 S1], .agg #[.bool n2, .int .i64 K2, .int .i64 X2, .int .u64 S2]] W fun r W' => r = .returned (.int .u64 (addP f P Q b n1 K1 (mag X1 S1) n2 K2 (mag X2 S2))) ∧ Below W.heap.size W W' := by
  obtain ⟨x0, x1, s0, -, s1⟩ := h1.in k
  obtain ⟨y0, y1, t0, -, t1⟩ := h2.in k
  have HS : Hid (0 ≤ S1 ∧ S1 < 18446744073709551616 ∧ S1.toNat < pw 2 ∧ 0 ≤ S2 ∧ S2 < 18446744073709551616 ∧ S2.toNat < pw 2) := by
    rw [pw_2]
    exact ⟨s0, by omega, by omega, t0, by omega, by omega⟩
  have w0 : IntKind.i64.wrap 0 = ((0 : Nat) : Int) := i64_id (by omega) (by omega)
  unfold addP
  rw [if_neg (by omega), if_neg (by omega), if_neg (by omega)]
  by_cases hm : X1 ≤ X2
  · obtain ⟨d, hd⟩ : ∃ d : Nat, X2 - X1 = (d : Int) := ⟨(X2 - X1).toNat, by omega⟩
    have HD : Hid (IntKind.i64.wrap 0 = ((0 : Nat) : Int) ∧ 0 ≤ 10000 ∧ IntKind.i64.wrap (X2 - X1) = (d : Int) ∧ d ≤ 10000) := by
      rw [hd]
      exact ⟨w0, by omega, i64_id (by omega) (by omega), by omega⟩
    have b1 := big_pw (S := S1.toNat) (d := 0) (by omega) (by omega)
    have b2 := big_pw (S := S2.toNat) (d := d) (by omega) (by omega)
    have m1 : S1.toNat * 2 ^ 0 * 2 ^ (X1 + 5000).toNat = mag X1 S1 := by rw [Nat.pow_zero, Nat.mul_one]; rfl
    have m2 : S2.toNat * 2 ^ d * 2 ^ (X1 + 5000).toNat = mag X2 S2 := by
      unfold mag
      rw [Nat.mul_assoc, ← Nat.pow_add, show d + (X1 + 5000).toNat = (X2 + 5000).toNat by omega]
    have H3 : Hid (S1.toNat * 2 ^ 0 < pw 300 ∧ S2.toNat * 2 ^ d < pw 300) := ⟨lt_pw 300 b1 (by omega), lt_pw 300 b2 (by omega)⟩
    have hp := Nat.two_pow_pos (X1 + 5000).toNat
    rw [← m1, ← m2]
    by_cases hn : n1 = n2
    · rw [if_pos hn, ← Nat.add_mul]
      exact exsum_samea W hm HS HD (by simp [hn]) H3 (ex_at k n1 _ _ (sum_pw b1 b2) x0 x1 rfl)
    · rw [if_neg hn]
      have hn' : (n1 == n2) = false := by simp [hn]
      rcases Nat.lt_trichotomy (S1.toNat * 2 ^ 0) (S2.toNat * 2 ^ d) with hl | he | hl
      · rw [if_neg (Nat.ne_of_lt (Nat.mul_lt_mul_of_pos_right hl hp)), if_pos (Nat.mul_lt_mul_of_pos_right hl hp), ← Nat.sub_mul]
        exact exsum_lta W hm HS HD hn' (hide (by unfold cmpN; rw [if_pos hl])) (hide (Nat.le_of_lt hl)) H3 (ex_at k n2 _ _ (Nat.lt_of_le_of_lt (Nat.sub_le _ _) (lt_pw 140 b2 (by omega))) x0 x1 rfl)
      · rw [if_pos (by rw [he]), put_no k.f0, Int.zero_mul, Int.zero_add]
        exact exsum_eqa W hm HS HD hn' (hide (by unfold cmpN; rw [if_neg (by rw [he]; exact Nat.lt_irrefl _), if_neg (by rw [he]; exact Nat.lt_irrefl _)]))
      · have hg := Nat.mul_lt_mul_of_pos_right hl hp
        rw [if_neg (fun h => absurd hg (by rw [h]; exact Nat.lt_irrefl _)), if_neg (Nat.not_lt.2 (Nat.le_of_lt hg)), ← Nat.sub_mul]
        exact exsum_gta W hm HS HD hn' (hide (by unfold cmpN; rw [if_neg (Nat.not_lt.2 (Nat.le_of_lt hl)), if_pos hl])) (hide (Nat.le_of_lt hl)) H3 (ex_at k n1 _ _ (Nat.lt_of_le_of_lt (Nat.sub_le _ _) (lt_pw 140 b1 (by omega))) x0 x1 rfl)
  · obtain ⟨d, hd⟩ : ∃ d : Nat, X1 - X2 = (d : Int) := ⟨(X1 - X2).toNat, by omega⟩
    have HD : Hid (IntKind.i64.wrap (X1 - X2) = (d : Int) ∧ d ≤ 10000 ∧ IntKind.i64.wrap 0 = ((0 : Nat) : Int) ∧ 0 ≤ 10000) := by
      rw [hd]
      exact ⟨i64_id (by omega) (by omega), by omega, w0, by omega⟩
    have b1 := big_pw (S := S1.toNat) (d := d) (by omega) (by omega)
    have b2 := big_pw (S := S2.toNat) (d := 0) (by omega) (by omega)
    have m1 : S1.toNat * 2 ^ d * 2 ^ (X2 + 5000).toNat = mag X1 S1 := by
      unfold mag
      rw [Nat.mul_assoc, ← Nat.pow_add, show d + (X2 + 5000).toNat = (X1 + 5000).toNat by omega]
    have m2 : S2.toNat * 2 ^ 0 * 2 ^ (X2 + 5000).toNat = mag X2 S2 := by rw [Nat.pow_zero, Nat.mul_one]; rfl
    have H3 : Hid (S1.toNat * 2 ^ d < pw 300 ∧ S2.toNat * 2 ^ 0 < pw 300) := ⟨lt_pw 300 b1 (by omega), lt_pw 300 b2 (by omega)⟩
    have hp := Nat.two_pow_pos (X2 + 5000).toNat
    rw [← m1, ← m2]
    by_cases hn : n1 = n2
    · rw [if_pos hn, ← Nat.add_mul]
      exact exsum_sameb W hm HS HD (by simp [hn]) H3 (ex_at k n1 _ _ (sum_pw b1 b2) y0 y1 rfl)
    · rw [if_neg hn]
      have hn' : (n1 == n2) = false := by simp [hn]
      rcases Nat.lt_trichotomy (S1.toNat * 2 ^ d) (S2.toNat * 2 ^ 0) with hl | he | hl
      · rw [if_neg (Nat.ne_of_lt (Nat.mul_lt_mul_of_pos_right hl hp)), if_pos (Nat.mul_lt_mul_of_pos_right hl hp), ← Nat.sub_mul]
        exact exsum_ltb W hm HS HD hn' (hide (by unfold cmpN; rw [if_pos hl])) (hide (Nat.le_of_lt hl)) H3 (ex_at k n2 _ _ (Nat.lt_of_le_of_lt (Nat.sub_le _ _) (lt_pw 140 b2 (by omega))) y0 y1 rfl)
      · rw [if_pos (by rw [he]), put_no k.f0, Int.zero_mul, Int.zero_add]
        exact exsum_eqb W hm HS HD hn' (hide (by unfold cmpN; rw [if_neg (by rw [he]; exact Nat.lt_irrefl _), if_neg (by rw [he]; exact Nat.lt_irrefl _)]))
      · have hg := Nat.mul_lt_mul_of_pos_right hl hp
        rw [if_neg (fun h => absurd hg (by rw [h]; exact Nat.lt_irrefl _)), if_neg (Nat.not_lt.2 (Nat.le_of_lt hg)), ← Nat.sub_mul]
        exact exsum_gtb W hm HS HD hn' (hide (by unfold cmpN; rw [if_neg (Nat.not_lt.2 (Nat.le_of_lt hl)), if_pos hl])) (hide (Nat.le_of_lt hl)) H3 (ex_at k n1 _ _ (Nat.lt_of_le_of_lt (Nat.sub_le _ _) (lt_pw 140 b1 (by omega))) y0 y1 rfl)

theorem refParts_any {w e f P Q b K1 X1 S1 K2 X2 S2 : Int} (k : Kd w e f P Q b) (n1 n2 : Bool) (h1 : Prt f P Q b K1 X1 S1) (h2 : Prt f P Q b K2 X2 S2) (W : World) :
    Calls Try.prog 24 #[.int .i64 w, .agg #[.bool n1, .int .i64 K1, .int .i64 X1, .int .u64 S1], .agg #[.bool n2, .int .i64 K2, .int .i64 X2, .int .u64 S2]] W fun r W' => r = .returned (.int .u64 (addP f P Q b n1 K1 (mag X1 S1) n2 K2 (mag X2 S2))) ∧ Below W.heap.size W W' := by
  have HE := fun k1 k2 => hide (fun W => exsum_any k n1 n2 h1 h2 k1 k2 W)
  have HN := hide (fun W => refNan_any k W)
  have HI := fun n => hide (fun W => refInf_any n k W)
  by_cases a3 : K1 = 3
  · rw [show addP f P Q b n1 K1 (mag X1 S1) n2 K2 (mag X2 S2) = put f P Q false (Q - 1) (P / 2) by unfold addP; rw [if_pos (Or.inl a3)]]
    exact refParts_n1 W (eq_t a3) HN
  by_cases b3 : K2 = 3
  · rw [show addP f P Q b n1 K1 (mag X1 S1) n2 K2 (mag X2 S2) = put f P Q false (Q - 1) (P / 2) by unfold addP; rw [if_pos (Or.inr (Or.inl b3))]]
    exact refParts_n2 W (eq_f a3) (eq_t b3) HN
  by_cases a2 : K1 = 2
  · by_cases b2 : K2 = 2
    · by_cases hn : n1 = n2
      · rw [show addP f P Q b n1 K1 (mag X1 S1) n2 K2 (mag X2 S2) = put f P Q n1 (Q - 1) 0 by
          unfold addP
          rw [if_neg (by rintro (h | h | ⟨_, _, h⟩); exact a3 h; exact b3 h; exact h hn), if_pos a2]]
        exact refParts_i3 W (eq_f a3) (eq_f b3) (eq_t a2) (eq_t b2) (by simp [hn]) (HI n1)
      · rw [show addP f P Q b n1 K1 (mag X1 S1) n2 K2 (mag X2 S2) = put f P Q false (Q - 1) (P / 2) by unfold addP; rw [if_pos (Or.inr (Or.inr ⟨a2, b2, hn⟩))]]
        exact refParts_n3 W (eq_f a3) (eq_f b3) (eq_t a2) (eq_t b2) (by simp [hn]) HN
    · rw [show addP f P Q b n1 K1 (mag X1 S1) n2 K2 (mag X2 S2) = put f P Q n1 (Q - 1) 0 by
        unfold addP
        rw [if_neg (by omega), if_pos a2]]
      exact refParts_i1 W (eq_f a3) (eq_f b3) (eq_t a2) (eq_f b2) (HI n1)
  · by_cases b2 : K2 = 2
    · rw [show addP f P Q b n1 K1 (mag X1 S1) n2 K2 (mag X2 S2) = put f P Q n2 (Q - 1) 0 by
        unfold addP
        rw [if_neg (by omega), if_neg a2, if_pos b2]]
      exact refParts_i2 W (eq_f a3) (eq_f b3) (eq_f a2) (eq_t b2) (HI n2)
    · exact refParts_ex W (eq_f a3) (eq_f b3) (eq_f a2) (eq_f b2) (HE ⟨a2, a3⟩ ⟨b2, b3⟩)

theorem refSum_any {w e f P Q b x y : Int} (k : Kd w e f P Q b) (W : World) (x0 : 0 ≤ x) (x1 : x < 18446744073709551616) (y0 : 0 ≤ y) (y1 : y < 18446744073709551616) :
    Calls Try.prog 12 #[.int .i64 w, .int .u64 x, .int .u64 y] W fun r W' => r = .returned (.int .u64 (addB f P Q b x y)) ∧ Below W.heap.size W W' := by
  obtain ⟨X1, S1, o1, p1, m1⟩ := open_kd k x
  obtain ⟨X2, S2, o2, p2, m2⟩ := open_kd k y
  have HP := hide (fun W => refParts_any k (oN P Q x) (oN P Q y) p1 p2 W)
  unfold addB
  rw [m1, m2] at HP
  exact refAdd_l W (hide (fun W => refOpen_any x k W x0 x1 o1)) (hide (fun W => refOpen_any y k W y0 y1 o2)) HP
theorem refDif_any {w e f P Q b x y : Int} (k : Kd w e f P Q b) (W : World) (x0 : 0 ≤ x) (x1 : x < 18446744073709551616) (y0 : 0 ≤ y) (y1 : y < 18446744073709551616) :
    Calls Try.prog 13 #[.int .i64 w, .int .u64 x, .int .u64 y] W fun r W' => r = .returned (.int .u64 (subB f P Q b x y)) ∧ Below W.heap.size W W' := by
  obtain ⟨X1, S1, o1, p1, m1⟩ := open_kd k x
  obtain ⟨X2, S2, o2, p2, m2⟩ := open_kd k y
  have HP := hide (fun W => refParts_any k (oN P Q x) (!oN P Q y) p1 p2 W)
  unfold subB
  rw [m1, m2] at HP
  exact refSub_l W (hide (fun W => refOpen_any x k W x0 x1 o1)) (hide (fun W => refOpen_any y k W y0 y1 o2)) HP

end Go.Proofs.Yticbhdgamblmbaa
