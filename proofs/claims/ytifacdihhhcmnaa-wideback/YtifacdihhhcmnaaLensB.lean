/- The statement WideLens: its walk where the number is not nought and is shifted by 0 to 128. -/
import Derived.Test.YtifacdihhhcmnaaAwake
namespace Go.Proofs.Ytifacdihhhcmnaa
open Go.RowKit

theorem bitLen_of {v k : Nat} (h : v < 2 ^ k) : Go.bitLen v ≤ k := by
  unfold Go.bitLen
  split
  · omega
  · rename_i h0
    have := (Nat.log2_lt h0).2 h
    omega
theorem bitLen_128 {v : Nat} (hv : W2 v) : Go.bitLen v ≤ 128 := bitLen_of hv
theorem bitLen_shr (v k : Nat) : Go.bitLen (v / 2 ^ k) = Go.bitLen v - k := by
  by_cases h : v / 2 ^ k = 0
  · rw [h]
    have : v < 2 ^ k := by
      rcases Nat.div_eq_zero_iff.1 h with h | h
      · exact absurd h (Nat.ne_of_gt (Nat.two_pow_pos k))
      · exact h
    have := bitLen_of this
    rw [show Go.bitLen 0 = 0 from rfl]
    omega
  · rw [Go.bitLen_shift v k h]
    omega
theorem bitLen_shl (v k : Nat) (hv : v ≠ 0) : Go.bitLen (v * 2 ^ k) = k + Go.bitLen v := by
  have h := Nat.mul_div_cancel v (Nat.two_pow_pos k)
  rw [Go.bitLen_shift (v * 2 ^ k) k (by rw [h]; exact hv), h]
theorem shl_fits {v : Nat} {n : Int} (h0 : 0 ≤ n) (h : n ≤ 128 - (Go.bitLen v : Int)) : v * 2 ^ n.toNat < 340282366920938463463374607431768211456 := by
  have h1 := (Go.bitLen_spec v).1
  have h2 : v * 2 ^ n.toNat < 2 ^ Go.bitLen v * 2 ^ n.toNat := Nat.mul_lt_mul_of_pos_right h1 (Nat.two_pow_pos _)
  rw [← Nat.pow_add] at h2
  exact Nat.lt_of_lt_of_le h2 (Nat.pow_le_pow_right (by omega) (show Go.bitLen v + n.toNat ≤ 128 by omega))
theorem shlN_fits {v : Nat} {n : Int} (h0 : 0 ≤ n) (h : n ≤ 128 - (Go.bitLen v : Int)) : shlN v n = v * 2 ^ n.toNat := Nat.mod_eq_of_lt (shl_fits h0 h)
theorem bitLen_zero {v : Nat} : Go.bitLen v = 0 ↔ v = 0 := by
  unfold Go.bitLen
  split <;> omega

theorem i64_id {x : Int} (h1 : -9223372036854775808 ≤ x) (h2 : x < 9223372036854775808) : IntKind.i64.wrap x = x := by
  simp only [IntKind.wrap, IntKind.bits, IntKind.signed]
  simp
  omega

set_option maxHeartbeats 2000000 in
theorem lens_long (v : Nat) (n : Int) (w : World) (hv : W2 v) (t1 : ¬ n < 0) (t2 : ¬ 128 < n) (t3 : ((Go.bitLen v : Int) == 0) = false) :
    Calls Try.prog 8 #[.agg #[.int .u64 (hi v), .int .u64 (lo v)], .int .i64 n] w fun e w' => e = .returned (.bool true) ∧ Below w.heap.size w w' := by
  have hL : (Go.bitLen v : Int) ≤ 128 := by have := bitLen_128 hv; omega
  have hv0 : v ≠ 0 := by intro h; subst h; simp at t3; exact t3 rfl
  have hle : ¬ 0 < cmpN (shrN v n) v := by have := cmpN_le (Nat.div_le_self v (2 ^ n.toNat)); unfold shrN; omega
  have hm : ((Go.bitLen v : Int) - n < 0 ∧ Go.bitLen (shrN v n) = 0) ∨ (¬ (Go.bitLen v : Int) - n < 0 ∧ (Go.bitLen (shrN v n) : Int) = (Go.bitLen v : Int) - n) := by
    unfold shrN
    rw [bitLen_shr]
    omega
  have hk : (128 - (Go.bitLen v : Int) < n) ∨ (¬ 128 - (Go.bitLen v : Int) < n ∧ ((Go.bitLen (shlN v n) : Int) == IntKind.i64.wrap ((Go.bitLen v : Int) + n)) = true ∧ 0 ≤ cmpN (shlN v n) v) := by
    by_cases c : 128 - (Go.bitLen v : Int) < n
    · exact Or.inl c
    · refine Or.inr ⟨c, ?_, ?_⟩
      · rw [shlN_fits (by omega) (by omega), bitLen_shl _ _ hv0, beq_iff_eq, i64_id (by omega) (by omega)]; omega
      · rw [shlN_fits (by omega) (by omega)]
        have := Nat.le_mul_of_pos_right v (Nat.two_pow_pos n.toNat)
        unfold cmpN
        rw [if_neg (by omega)]
        split <;> omega
  clear hv0
  rcases hm with ⟨m1, m2⟩ | ⟨m1, m2⟩
  all_goals
    rcases hk with k1 | ⟨k1, k2, k3⟩
    all_goals
      go_enter Try.func8, Try.ntmps8
      go_wp2_with fail
      refine (awake_any _).mono ?_
      rintro e w1 ⟨rfl, hb1⟩
      have q : w1.cell? ⟨w.heap.size, 0, none⟩ = some (.int .u64 (hi v)) ∧ w1.cell? ⟨w.heap.size, 1, none⟩ = some (.int .u64 (lo v)) := keep2 hb1 (by simp) (by simp [go_sem])
      have hz1 : w.heap.size < w1.heap.size := by have := hb1.size; simp at this; omega
      obtain ⟨q0, q1⟩ := q
      go_wp2_with fail
      refine (len_n v _ hv).mono ?_
      rintro e w2 ⟨rfl, hb2⟩
      obtain ⟨r0, r1⟩ := keep2 hb2 hz1 ⟨q0, q1⟩
      have hz2 : w.heap.size < w2.heap.size := by have := hb2.size; omega
      go_wp2_with fail
      refine (right_n v n _ hv).mono ?_
      rintro e w3 ⟨rfl, hb3⟩
      obtain ⟨s0, s1⟩ := keep2 hb3 hz2 ⟨r0, r1⟩
      have hz3 : w.heap.size < w3.heap.size := by have := hb3.size; omega
      go_wp2_with fail
      refine (len_n (shrN v n) _ (shrN_w n hv)).mono ?_
      rintro e w4 ⟨rfl, hb4⟩
      obtain ⟨x0, x1⟩ := keep2 hb4 (b := w.heap.size) (x := .int .u64 (hi v)) (y := .int .u64 (lo v)) (by simp; omega) ⟨by simp [go_sem, s0, hz3], by simp [go_sem, s1, hz3]⟩
      obtain ⟨y0, y1⟩ := keep2 hb4 (b := w3.heap.size) (x := .int .u64 (hi (shrN v n))) (y := .int .u64 (lo (shrN v n))) (by simp) ⟨by simp [go_sem], by simp [go_sem]⟩
      have hz4 : w3.heap.size < w4.heap.size := by have := hb4.size; simp at this; omega
      go_wp2_with fail
      refine (cmp_n (shrN v n) v _).mono ?_
      rintro e w5 ⟨rfl, hb5⟩
      obtain ⟨v0, v1⟩ := keep2 hb5 (by omega) ⟨x0, x1⟩
      have hz5 : w.heap.size < w5.heap.size := by have := hb5.size; omega
      go_wp2_with fail
      first
      | (go_ret; exact ⟨rfl, bthen (bthen (balloc (bthen (bthen (bthen (below1 _ _) hb1) hb2) hb3) _) hb4) hb5⟩)
      | go_region_held3 (fun w' => w'.cell? ⟨w.heap.size, 0, none⟩ = some (.int .u64 (hi v)) ∧ w'.cell? ⟨w.heap.size, 1, none⟩ = some (.int .u64 (lo v))) (first | exact keep2 (by assumption) (by first | assumption | omega | (simp; omega)) (by assumption) | (simp [go_sem, v0, v1]; done))
          (first
            | (go_at_call 26; refine (left_n v n _ hv).mono ?_; rintro e w6 ⟨rfl, hb6⟩; have hz6 : w.heap.size < w6.heap.size := by have := hb6.size; first | omega | (simp at this; omega))
            | (go_at_call 27; refine (len_n (shlN v n) _ (shlN_w v n)).mono ?_; rintro e w7 ⟨rfl, hb7⟩; have hz7 : w.heap.size < w7.heap.size := by have := hb7.size; first | omega | (simp at this; omega))
            | (go_at_call 21; refine (cmp_n (shlN v n) v _).mono ?_; rintro e w8 ⟨rfl, hb8⟩; have hz8 : w.heap.size < w8.heap.size := by have := hb8.size; first | omega | (simp at this; omega)))
        go_wp2
        go_ret
        exact ⟨rfl, bthen (bthen (bthen (bthen (bthen (bthen (balloc (bthen (bthen (bthen (below1 _ _) hb1) hb2) hb3) _) hb4) hb5).drew (by assumption)) hb7) hb6) hb8⟩

end Go.Proofs.Ytifacdihhhcmnaa
