/- LbD. -/
import Derived.Test.YtjoonmpjcophnaaGreatDoorLo11
namespace Go.Proofs.YtjoonmpjcophnaaGreatDoor
open Go.RowKit

theorem out_err (k e : Nat) (h : e ≠ 0) : outT k (0, 0, e) = .tuple #[.int .u64 0, .int .i64 0, .int .i64 (e : Int)] := by
  unfold outT
  rw [if_neg h]
  rfl
theorem out_one (k : Nat) (z : Int) : outT k (z, 1, 0) = .tuple #[.int .u64 (z % 18446744073709551616), .int .i64 ((k : Int) + 1), .int .i64 0] := by
  unfold outT
  rw [if_pos rfl]
  rfl
theorem okU_pow (x n : Nat) : okU x n = decide (x < 2 ^ n) := by
  unfold okU
  rw [Bool.eq_iff_iff, decide_eq_true_eq, decide_eq_true_eq, show ((2 : Int) ^ n) = ((2 ^ n : Nat) : Int) by rw [Int.natCast_pow]; rfl]
  omega
theorem okU_7 (x n : Nat) (h : x < 128) (hn : 7 ≤ n) : okU x n = true := by
  rw [okU_pow, decide_eq_true_eq]
  have : 2 ^ 7 ≤ 2 ^ n := Nat.pow_le_pow_right (by omega) hn
  omega
theorem out_up (k x y : Nat) (t : Int × Nat × Nat) (m : Int) (h : t.2.2 = 0) (hm : t.1 % 18446744073709551616 = m) (hy : y = t.2.1) :
    outT k (up x t) = .tuple #[.int .u64 (((x : Int) - 128 + 128 * m) % 18446744073709551616), .int .i64 ((k + 1 + y : Nat) : Int), .int .i64 0] := by
  unfold up outT
  rw [if_pos h, if_pos rfl]
  have e1 : ((x : Int) - 128 + 128 * t.1) % 18446744073709551616 = ((x : Int) - 128 + 128 * m) % 18446744073709551616 := by omega
  show Value.tuple #[.int .u64 (((x : Int) - 128 + 128 * t.1) % 18446744073709551616), .int .i64 ((k + (t.2.1 + 1) : Nat) : Int), .int .i64 0] = _
  rw [e1, hy, show k + (t.2.1 + 1) = k + 1 + t.2.1 by omega]
theorem up_wrap (x : Nat) (m : Int) : IntKind.u64.wrap ((x : Int) - 128 + IntKind.u64.wrap (128 * m)) = ((x : Int) - 128 + 128 * m) % 18446744073709551616 := by
  rw [IntKind.wrap_u64, IntKind.wrap_u64]; omega
theorem out_up_err (k x : Nat) (t : Int × Nat × Nat) (h : t.2.2 ≠ 0) : outT k (up x t) = .tuple #[.int .u64 0, .int .i64 0, .int .i64 (t.2.2 : Int)] := by
  unfold up
  rw [if_neg h, out_err _ _ h]
set_option maxHeartbeats 1000000 in
set_option maxRecDepth 100000 in
theorem refUint_any {a : Option Addr} {len cap : Nat} {xs : List Int} (HX : Hid (Byt xs)) : ∀ (m k bits : Nat) (W : World), Hid (Sl W a len cap xs) → len - k ≤ m → k ≤ len → 1 ≤ bits → bits ≤ 64 →
    Calls Tryz.prog 72 #[.slice a len cap, .int .i64 (k : Int), .int .i64 (bits : Int)] W fun r W' => r = .returned (outT k (rd VU okU (xs.drop k) bits)) ∧ Below W.heap.size W W' := by
  intro m
  induction m with
  | zero =>
    intro k bits W HS hm hk b0 b1
    have hkl : k = len := by omega
    subst hkl
    have HE : Hid (outT k (rd VU okU (xs.drop k) bits) = .tuple #[.int .u64 0, .int .i64 0, .int .i64 100]) := hide (by rw [← (unhide HS).1, List.drop_length]; rfl)
    rw [unhide HE]
    go_enter Tryz.func72, Tryz.ntmps72
    go_wp2_with fail
    exact bodyPost_ret (v := .tuple #[.int .u64 0, .int .i64 0, .int .i64 100]) (by simp [results, Tryz.results72, go_sem]) rfl ⟨rfl, Below.refl _ _⟩
  | succ m ih =>
    intro k bits W HS hm hk b0 b1
    by_cases hkl : k = len
    · subst hkl
      have HE : Hid (outT k (rd VU okU (xs.drop k) bits) = .tuple #[.int .u64 0, .int .i64 0, .int .i64 100]) := hide (by rw [← (unhide HS).1, List.drop_length]; rfl)
      rw [unhide HE]
      go_enter Tryz.func72, Tryz.ntmps72
      go_wp2_with fail
      exact bodyPost_ret (v := .tuple #[.int .u64 0, .int .i64 0, .int .i64 100]) (by simp [results, Tryz.results72, go_sem]) rfl ⟨rfl, Below.refl _ _⟩
    · have hlt : k < len := by omega
      have hl : len ≤ 140737488355328 := (unhide HS).2.2.1
      have HB := hide (Below.refl W.heap.size W)
      have HL : Hid (xs.length = len) := hide (unhide HS).1
      rcases (unhide HS).2.2.2 with ⟨rfl, rfl, rfl⟩ | ⟨b, off, rfl, h4⟩
      · omega
      have hcell := h4 k hlt
      clear h4
      have HBy := hide ((unhide HX).at k (by rw [unhide HL]; exact hlt))
      rw [drop_at xs k (by rw [unhide HL]; exact hlt)]
      obtain ⟨x, hx⟩ := Int.eq_ofNat_of_zero_le (unhide HBy).1
      rw [hx] at hcell HBy ⊢
      have x256 : x < 256 := by have := (unhide HBy).2; omega
      clear hx HBy
      by_cases h128 : x < 128
      · have hx1 : (x : Int) < 128 := by omega
        by_cases b7 : bits < 7
        · have HC := two_any bits (by omega)
          have HP := hide (okU_pow x bits)
          generalize 2 ^ bits = p at *
          by_cases hp : p ≤ x
          · have HE : Hid (outT k (rd VU okU ((x : Int) :: xs.drop (k + 1)) bits) = .tuple #[.int .u64 0, .int .i64 0, .int .i64 101]) := hide (by rw [rd_wrong hx1 (by rw [unhide HP]; exact decide_eq_false (by omega))]; rfl)
            rw [unhide HE]
            go_enter Tryz.func72, Tryz.ntmps72
            go_wp2_with fail
            refine (unhide HC _).mono ?_
            rintro _ w1 ⟨rfl, hb1⟩
            go_wp2_with fail
            exact bodyPost_ret (v := .tuple #[.int .u64 0, .int .i64 0, .int .i64 101]) (by simp [results, Tryz.results72, go_sem]) rfl ⟨rfl, hb1⟩
          · have HE : Hid (outT k (rd VU okU ((x : Int) :: xs.drop (k + 1)) bits) = .tuple #[.int .u64 x, .int .i64 ((k : Int) + 1), .int .i64 0]) := hide (by rw [rd_last hx1 (by rw [unhide HP]; exact decide_eq_true (by omega)), out_one]; unfold VU; rw [Int.emod_eq_of_lt (by omega) (by omega)])
            rw [unhide HE]
            go_enter Tryz.func72, Tryz.ntmps72
            go_wp2_with fail
            refine (unhide HC _).mono ?_
            rintro _ w1 ⟨rfl, hb1⟩
            go_wp2_with fail
            exact bodyPost_ret (v := .tuple #[.int .u64 x, .int .i64 ((k : Int) + 1), .int .i64 0]) (by simp [results, Tryz.results72, go_sem]) rfl ⟨rfl, hb1⟩
        · have HE : Hid (outT k (rd VU okU ((x : Int) :: xs.drop (k + 1)) bits) = .tuple #[.int .u64 x, .int .i64 ((k : Int) + 1), .int .i64 0]) := hide (by rw [rd_last hx1 (okU_7 x bits h128 (by omega)), out_one]; unfold VU; rw [Int.emod_eq_of_lt (by omega) (by omega)])
          rw [unhide HE]
          go_enter Tryz.func72, Tryz.ntmps72
          go_wp2_with fail
          exact bodyPost_ret (v := .tuple #[.int .u64 x, .int .i64 ((k : Int) + 1), .int .i64 0]) (by simp [results, Tryz.results72, go_sem]) rfl ⟨rfl, unhide HB⟩
      · have hx1 : ¬ (x : Int) < 128 := by omega
        by_cases b7 : bits ≤ 7
        · have HE : Hid (outT k (rd VU okU ((x : Int) :: xs.drop (k + 1)) bits) = .tuple #[.int .u64 0, .int .i64 0, .int .i64 101]) := hide (by rw [rd_long hx1 b7]; rfl)
          rw [unhide HE]
          go_enter Tryz.func72, Tryz.ntmps72
          go_wp2_with fail
          exact bodyPost_ret (v := .tuple #[.int .u64 0, .int .i64 0, .int .i64 101]) (by simp [results, Tryz.results72, go_sem]) rfl ⟨rfl, unhide HB⟩
        · rw [rd_more hx1 b7]
          have HC := ih (k + 1) (bits - 7) W HS (by omega) (by omega) (by omega) (by omega)
          rw [show ((k + 1 : Nat) : Int) = (k : Int) + 1 by omega, show ((bits - 7 : Nat) : Int) = (bits : Int) - 7 by omega] at HC
          generalize rd VU okU (xs.drop (k + 1)) (bits - 7) = t at *
          by_cases ht : t.2.2 = 0
          · have hm0 := Int.emod_nonneg t.1 (show (18446744073709551616 : Int) ≠ 0 by omega)
            have hm1 := Int.emod_lt_of_pos t.1 (show (0 : Int) < 18446744073709551616 by omega)
            have HE := hide (fun m (hm : t.1 % 18446744073709551616 = m) => out_up k x t.2.1 t m ht hm rfl)
            have HE := hide (unhide HE _ rfl)
            rw [unhide HE]
            unfold outT at HC
            rw [if_pos ht, ht] at HC
            generalize t.1 % 18446744073709551616 = m at *
            generalize t.2.1 = y at *
            clear ht HE
            have HC := hide HC
            go_enter Tryz.func72, Tryz.ntmps72
            go_wp2_with fail
            refine (unhide HC).mono ?_
            rintro _ w1 ⟨rfl, hb1⟩
            go_wp2_with fail
            refine bodyPost_ret (v := .tuple #[.int .u64 _, .int .i64 _, .int .i64 0]) (by simp [results, Tryz.results72, go_sem]; exact ⟨rfl, rfl⟩) rfl ⟨?_, hb1⟩
            rw [up_wrap]
            rfl
          · have HE := hide (out_up_err k x t ht)
            rw [unhide HE]
            unfold outT at HC
            rw [if_neg ht] at HC
            have hz : t.1 % 18446744073709551616 = t.1 % 18446744073709551616 := rfl
            generalize t.1 % 18446744073709551616 = m at *
            have ht' : ¬ (t.2.2 : Int) = 0 := by omega
            generalize t.2.2 = y at *
            clear ht HE hz
            have HC := hide HC
            go_enter Tryz.func72, Tryz.ntmps72
            go_wp2_with fail
            refine (unhide HC).mono ?_
            rintro _ w1 ⟨rfl, hb1⟩
            go_wp2_with fail
            exact bodyPost_ret (v := .tuple #[.int .u64 0, .int .i64 0, .int .i64 y]) (by simp [results, Tryz.results72, go_sem]) rfl ⟨rfl, hb1⟩
end Go.Proofs.YtjoonmpjcophnaaGreatDoor
