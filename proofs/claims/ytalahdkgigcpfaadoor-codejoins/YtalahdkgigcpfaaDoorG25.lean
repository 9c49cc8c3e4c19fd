/- LbE. -/
import Derived.Test.YtalahdkgigcpfaaDoorG22
namespace Go.Proofs.YtalahdkgigcpfaaDoor
open Go.RowKit

theorem VS_ways (x : Nat) (h : x < 128) : ((x : Int) < 64 ∧ VS x = x) ∨ ((64 : Int) ≤ x ∧ VS x = (x : Int) - 128) := by
  unfold VS
  by_cases k : (x : Int) < 64
  · rw [if_pos k]; omega
  · rw [if_neg k]; omega
theorem two_small (n : Nat) (h : n < 7) (h0 : 1 ≤ n) : 1 ≤ 2 ^ (n - 1) ∧ 2 ^ (n - 1) ≤ 32 := by
  have h1 : 2 ^ (n - 1) ≤ 2 ^ 5 := Nat.pow_le_pow_right (by omega) (by omega)
  have h2 : 0 < 2 ^ (n - 1) := Nat.pow_pos (by omega)
  omega
theorem okS_at (x n : Nat) {X : Int} {p : Nat} (hX : VS x = X) (hp : 2 ^ (n - 1) = p) : okS x n = decide (-(p : Int) ≤ X ∧ X < p) := by
  unfold okS
  rw [hX, ← hp, Int.natCast_pow]
  rfl
theorem okS_7 (x n : Nat) (h : x < 128) (hn : 7 ≤ n) : okS x n = true := by
  rw [okS_at x n rfl rfl, decide_eq_true_eq]
  have : 2 ^ 6 ≤ 2 ^ (n - 1) := Nat.pow_le_pow_right (by omega) (by omega)
  have := VS_ways x h
  omega
theorem up_wrapS (x : Nat) (m : Int) : IntKind.u64.wrap (IntKind.u64.wrap (128 * m) + ((x : Int) - 128)) = ((x : Int) - 128 + 128 * m) % 18446744073709551616 := by
  rw [IntKind.wrap_u64, IntKind.wrap_u64]; omega
set_option maxHeartbeats 1000000 in
set_option maxRecDepth 100000 in
theorem refSint_any {a : Option Addr} {len cap : Nat} {xs : List Int} (HX : Hid (Byt xs)) : ∀ (m k bits : Nat) (W : World), Hid (Sl W a len cap xs) → len - k ≤ m → k ≤ len → 1 ≤ bits → bits ≤ 64 →
    Calls Tryd.prog 80 #[.slice a len cap, .int .i64 (k : Int), .int .i64 (bits : Int)] W fun r W' => r = .returned (outT k (rd VS okS (xs.drop k) bits)) ∧ Below W.heap.size W W' := by
  intro m
  induction m with
  | zero =>
    intro k bits W HS hm hk b0 b1
    have hkl : k = len := by omega
    subst hkl
    have HE : Hid (outT k (rd VS okS (xs.drop k) bits) = .tuple #[.int .u64 0, .int .i64 0, .int .i64 100]) := hide (by rw [← (unhide HS).1, List.drop_length]; rfl)
    rw [unhide HE]
    go_enter Tryd.func80, Tryd.ntmps80
    go_wp2_with fail
    exact bodyPost_ret (v := .tuple #[.int .u64 0, .int .i64 0, .int .i64 100]) (by simp [results, Tryd.results80, go_sem]) rfl ⟨rfl, Below.refl _ _⟩
  | succ m ih =>
    intro k bits W HS hm hk b0 b1
    by_cases hkl : k = len
    · subst hkl
      have HE : Hid (outT k (rd VS okS (xs.drop k) bits) = .tuple #[.int .u64 0, .int .i64 0, .int .i64 100]) := hide (by rw [← (unhide HS).1, List.drop_length]; rfl)
      rw [unhide HE]
      go_enter Tryd.func80, Tryd.ntmps80
      go_wp2_with fail
      exact bodyPost_ret (v := .tuple #[.int .u64 0, .int .i64 0, .int .i64 100]) (by simp [results, Tryd.results80, go_sem]) rfl ⟨rfl, Below.refl _ _⟩
    · have hlt : k < len := by omega
      have hl : len ≤ 140737488355328 := (unhide HS).2.2.1
      have HB := hide (Below.refl W.heap.size W)
      have HL : Hid (xs.length = len) := hide (unhide HS).1
      rcases (unhide HS).2.2.2 with ⟨rfl, rfl, rfl⟩ | ⟨b, off, rfl, h4⟩
      · omega
      have hcell := h4 k hlt
      clear h4
      have HBy := hide ((unhide HX).at k (by rw [unhide HL]; exact hlt))
      rw [drop_at xs k (by rw [unhide HL]; exact hlt)]
      obtain ⟨x, hx⟩ := Int.eq_ofNat_of_zero_le (unhide HBy).1
      rw [hx] at hcell HBy ⊢
      have x256 : x < 256 := by have := (unhide HBy).2; omega
      clear hx HBy
      by_cases h128 : x < 128
      · have hx1 : (x : Int) < 128 := by omega
        obtain ⟨X, hX⟩ : ∃ X, VS x = X := ⟨_, rfl⟩
        have HV := hide (VS_ways x h128)
        rw [hX] at HV
        by_cases b7 : bits < 7
        · have HC := two_any (bits - 1) (by omega)
          rw [show ((bits - 1 : Nat) : Int) = (bits : Int) - 1 by omega] at HC
          have hp := two_small bits b7 b0
          obtain ⟨p, hpp⟩ : ∃ p, 2 ^ (bits - 1) = p := ⟨_, rfl⟩
          rw [hpp] at HC hp
          have HO := hide (okS_at x bits hX hpp)
          clear hpp
          rcases unhide HV with ⟨h64, hXx⟩ | ⟨h64, hXx⟩
          · by_cases hA : (p : Int) ≤ X
            · have HE : Hid (outT k (rd VS okS ((x : Int) :: xs.drop (k + 1)) bits) = .tuple #[.int .u64 0, .int .i64 0, .int .i64 101]) := hide (by rw [rd_wrong hx1 ((unhide HO).trans (decide_eq_false (by omega)))]; rfl)
              rw [unhide HE]
              rw [hXx] at hA
              clear hX
              go_enter Tryd.func80, Tryd.ntmps80
              go_wp2_with fail
              refine (unhide HC _).mono ?_
              rintro _ w1 ⟨rfl, hb1⟩
              go_wp2_with fail
              exact bodyPost_ret (v := .tuple #[.int .u64 0, .int .i64 0, .int .i64 101]) (by simp [results, Tryd.results80, go_sem]) rfl ⟨rfl, hb1⟩
            · have HE : Hid (outT k (rd VS okS ((x : Int) :: xs.drop (k + 1)) bits) = .tuple #[.int .u64 x, .int .i64 ((k : Int) + 1), .int .i64 0]) := hide (by rw [rd_last hx1 ((unhide HO).trans (decide_eq_true (by omega))), out_one, hX, hXx, Int.emod_eq_of_lt (by omega) (by omega)])
              rw [unhide HE]
              rw [hXx] at hA
              clear hX
              go_enter Tryd.func80, Tryd.ntmps80
              go_wp2_with fail
              refine (unhide HC _).mono ?_
              rintro _ w1 ⟨rfl, hb1⟩
              have hB : decide ((x : Int) < -(p : Int)) = false := decide_eq_false (by omega)
              go_wp2_with fail
              exact bodyPost_ret (v := .tuple #[.int .u64 x, .int .i64 ((k : Int) + 1), .int .i64 0]) (by simp [results, Tryd.results80, go_sem]) rfl ⟨rfl, hb1⟩
          · have hA : ¬ (p : Int) ≤ (x : Int) - 128 := by omega
            by_cases hB : X < -(p : Int)
            · have HE : Hid (outT k (rd VS okS ((x : Int) :: xs.drop (k + 1)) bits) = .tuple #[.int .u64 0, .int .i64 0, .int .i64 101]) := hide (by rw [rd_wrong hx1 ((unhide HO).trans (decide_eq_false (by omega)))]; rfl)
              rw [unhide HE]
              rw [hXx] at hB
              clear hX
              go_enter Tryd.func80, Tryd.ntmps80
              go_wp2_with fail
              refine (unhide HC _).mono ?_
              rintro _ w1 ⟨rfl, hb1⟩
              go_wp2_with fail
              exact bodyPost_ret (v := .tuple #[.int .u64 0, .int .i64 0, .int .i64 101]) (by simp [results, Tryd.results80, go_sem]) rfl ⟨rfl, hb1⟩
            · have HE : Hid (outT k (rd VS okS ((x : Int) :: xs.drop (k + 1)) bits) = .tuple #[.int .u64 (IntKind.u64.wrap ((x : Int) - 128)), .int .i64 ((k : Int) + 1), .int .i64 0]) := hide (by rw [rd_last hx1 ((unhide HO).trans (decide_eq_true (by omega))), out_one, hX, hXx, IntKind.wrap_u64])
              rw [unhide HE]
              rw [hXx] at hB
              clear hX
              go_enter Tryd.func80, Tryd.ntmps80
              go_wp2_with fail
              refine (unhide HC _).mono ?_
              rintro _ w1 ⟨rfl, hb1⟩
              go_wp2_with fail
              exact bodyPost_ret (v := .tuple #[.int .u64 (IntKind.u64.wrap ((x : Int) - 128)), .int .i64 ((k : Int) + 1), .int .i64 0]) (by simp [results, Tryd.results80, go_sem]) rfl ⟨rfl, hb1⟩
        · have HO := hide (okS_7 x bits h128 (by omega))
          rcases unhide HV with ⟨h64, hXx⟩ | ⟨h64, hXx⟩
          · have HE : Hid (outT k (rd VS okS ((x : Int) :: xs.drop (k + 1)) bits) = .tuple #[.int .u64 x, .int .i64 ((k : Int) + 1), .int .i64 0]) := hide (by rw [rd_last hx1 (unhide HO), out_one, hX, hXx, Int.emod_eq_of_lt (by omega) (by omega)])
            rw [unhide HE]
            clear hX
            go_enter Tryd.func80, Tryd.ntmps80
            go_wp2_with fail
            exact bodyPost_ret (v := .tuple #[.int .u64 x, .int .i64 ((k : Int) + 1), .int .i64 0]) (by simp [results, Tryd.results80, go_sem]) rfl ⟨rfl, unhide HB⟩
          · have HE : Hid (outT k (rd VS okS ((x : Int) :: xs.drop (k + 1)) bits) = .tuple #[.int .u64 (IntKind.u64.wrap ((x : Int) - 128)), .int .i64 ((k : Int) + 1), .int .i64 0]) := hide (by rw [rd_last hx1 (unhide HO), out_one, hX, hXx, IntKind.wrap_u64])
            rw [unhide HE]
            clear hX
            go_enter Tryd.func80, Tryd.ntmps80
            go_wp2_with fail
            exact bodyPost_ret (v := .tuple #[.int .u64 (IntKind.u64.wrap ((x : Int) - 128)), .int .i64 ((k : Int) + 1), .int .i64 0]) (by simp [results, Tryd.results80, go_sem]) rfl ⟨rfl, unhide HB⟩
      · have hx1 : ¬ (x : Int) < 128 := by omega
        by_cases b7 : bits ≤ 7
        · have HE : Hid (outT k (rd VS okS ((x : Int) :: xs.drop (k + 1)) bits) = .tuple #[.int .u64 0, .int .i64 0, .int .i64 101]) := hide (by rw [rd_long hx1 b7]; rfl)
          rw [unhide HE]
          go_enter Tryd.func80, Tryd.ntmps80
          go_wp2_with fail
          exact bodyPost_ret (v := .tuple #[.int .u64 0, .int .i64 0, .int .i64 101]) (by simp [results, Tryd.results80, go_sem]) rfl ⟨rfl, unhide HB⟩
        · rw [rd_more hx1 b7]
          have HC := ih (k + 1) (bits - 7) W HS (by omega) (by omega) (by omega) (by omega)
          rw [show ((k + 1 : Nat) : Int) = (k : Int) + 1 by omega, show ((bits - 7 : Nat) : Int) = (bits : Int) - 7 by omega] at HC
          generalize rd VS okS (xs.drop (k + 1)) (bits - 7) = t at *
          by_cases ht : t.2.2 = 0
          · have hm0 := Int.emod_nonneg t.1 (show (18446744073709551616 : Int) ≠ 0 by omega)
            have hm1 := Int.emod_lt_of_pos t.1 (show (0 : Int) < 18446744073709551616 by omega)
            have HE := hide (fun m (hm : t.1 % 18446744073709551616 = m) => out_up k x t.2.1 t m ht hm rfl)
            have HE := hide (unhide HE _ rfl)
            rw [unhide HE]
            unfold outT at HC
            rw [if_pos ht, ht] at HC
            generalize t.1 % 18446744073709551616 = m at *
            generalize t.2.1 = y at *
            clear ht HE
            have HC := hide HC
            go_enter Tryd.func80, Tryd.ntmps80
            go_wp2_with fail
            refine (unhide HC).mono ?_
            rintro _ w1 ⟨rfl, hb1⟩
            go_wp2_with fail
            refine bodyPost_ret (v := .tuple #[.int .u64 _, .int .i64 _, .int .i64 0]) (by simp [results, Tryd.results80, go_sem]; exact ⟨rfl, rfl⟩) rfl ⟨?_, hb1⟩
            rw [up_wrapS]
            rfl
          · have HE := hide (out_up_err k x t ht)
            rw [unhide HE]
            unfold outT at HC
            rw [if_neg ht] at HC
            have hz : t.1 % 18446744073709551616 = t.1 % 18446744073709551616 := rfl
            generalize t.1 % 18446744073709551616 = m at *
            have ht' : ¬ (t.2.2 : Int) = 0 := by omega
            generalize t.2.2 = y at *
            clear ht HE hz
            have HC := hide HC
            go_enter Tryd.func80, Tryd.ntmps80
            go_wp2_with fail
            refine (unhide HC).mono ?_
            rintro _ w1 ⟨rfl, hb1⟩
            go_wp2_with fail
            exact bodyPost_ret (v := .tuple #[.int .u64 0, .int .i64 0, .int .i64 y]) (by simp [results, Tryd.results80, go_sem]) rfl ⟨rfl, hb1⟩
end Go.Proofs.YtalahdkgigcpfaaDoor
