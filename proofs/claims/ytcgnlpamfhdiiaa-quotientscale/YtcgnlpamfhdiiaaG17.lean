/- WDiv. -/
import Derived.Test.YtcgnlpamfhdiiaaG16
namespace Go.Proofs.Ytcgnlpamfhdiiaa.W
open Go.RowKit

set_option maxHeartbeats 1000000 in
theorem div64_low (l y : Int) (w : World) (l0 : 0 ≤ l) (l1 : l < 18446744073709551616) (y0 : 0 < y) :
    Calls Try.prog 70 #[.int .u64 0, .int .u64 l, .int .u64 y] w fun e w' => e = .returned (.tuple #[.int .u64 (l / y), .int .u64 (l % y)]) ∧ ∃ n, w' = w.drewN n := by
  have n0 : (y == 0) = false := by rw [beq_eq_false_iff_ne]; omega
  have n2 : ¬ y ≤ 0 := by omega
  go_enter Try.func70, Try.ntmps70
  go_wp2
  go_quiet (fail)
  go_wp2
  go_ret2
  exact ⟨rfl, _, rfl⟩

theorem div64_all (x l y : Int) (w : World) (x0 : 0 ≤ x) (x1 : x < y) (l0 : 0 ≤ l) (l1 : l < 18446744073709551616) (y1 : y < 18446744073709551616) :
    Calls Try.prog 70 #[.int .u64 x, .int .u64 l, .int .u64 y] w fun e w' => e = .returned (.tuple #[.int .u64 ((x * 18446744073709551616 + l) / y), .int .u64 ((x * 18446744073709551616 + l) % y)]) ∧ Below w.heap.size w w' := by
  by_cases c : x = 0
  · subst c
    rw [Int.zero_mul, Int.zero_add]
    refine (div64_low l y w l0 l1 x1).mono ?_
    rintro e w' ⟨rfl, n, rfl⟩
    exact ⟨rfl, below_drewN (Below.refl _ _) n⟩
  · refine (div64_any x l y w (by omega) x1 l0 l1 y1).mono ?_
    rintro e w' ⟨rfl, rfl⟩
    exact ⟨rfl, Below.refl _ _⟩

theorem div_join (q z : Nat) (h : z < 18446744073709551616) : (q * 18446744073709551616 + z) / 18446744073709551616 = q ∧ (q * 18446744073709551616 + z) % 18446744073709551616 = z := by omega
theorem div_nat (v B : Nat) (hB : 0 < B) :
    v / 18446744073709551616 / B = v / B / 18446744073709551616 ∧ (v / 18446744073709551616 % B * 18446744073709551616 + v % 18446744073709551616) / B = v / B % 18446744073709551616 ∧
      (v / 18446744073709551616 % B * 18446744073709551616 + v % 18446744073709551616) % B = v % B := by
  have e := Nat.div_add_mod v 18446744073709551616
  have e2 := Nat.div_add_mod (v / 18446744073709551616) B
  have ev : v = B * (v / 18446744073709551616 / B * 18446744073709551616) + (v / 18446744073709551616 % B * 18446744073709551616 + v % 18446744073709551616) := by
    rw [← Nat.mul_assoc]
    generalize B * (v / 18446744073709551616 / B) = Q at *
    omega
  have hlt : (v / 18446744073709551616 % B * 18446744073709551616 + v % 18446744073709551616) / B < 18446744073709551616 := by
    refine Nat.div_lt_of_lt_mul ?_
    have := Nat.mod_lt (v / 18446744073709551616) hB
    have h2 : v % 18446744073709551616 < 18446744073709551616 := Nat.mod_lt _ (by omega)
    omega
  have ed : v / B = v / 18446744073709551616 / B * 18446744073709551616 + (v / 18446744073709551616 % B * 18446744073709551616 + v % 18446744073709551616) / B := by
    have : v / B = (B * (v / 18446744073709551616 / B * 18446744073709551616) + (v / 18446744073709551616 % B * 18446744073709551616 + v % 18446744073709551616)) / B := by rw [← ev]
    rw [this, Nat.mul_add_div hB]
  have em : v % B = (v / 18446744073709551616 % B * 18446744073709551616 + v % 18446744073709551616) % B := by
    have : v % B = (B * (v / 18446744073709551616 / B * 18446744073709551616) + (v / 18446744073709551616 % B * 18446744073709551616 + v % 18446744073709551616)) % B := by rw [← ev]
    rw [this, Nat.mul_add_mod]
  obtain ⟨j1, j2⟩ := div_join (v / 18446744073709551616 / B) _ hlt
  rw [← ed] at j1 j2
  exact ⟨j1.symm, j2.symm, em.symm⟩

theorem div_words (v : Nat) (b : Int) (hv : W2 v) (b0 : 0 < b) (b1 : b < 18446744073709551616) :
    IntKind.u64.wrap ((hi v).tdiv b) = hi (v / b.toNat) ∧ ((hi v).tmod b * 18446744073709551616 + lo v) / b = lo (v / b.toNat) ∧ ((hi v).tmod b * 18446744073709551616 + lo v) % b = ((v % b.toNat : Nat) : Int) ∧
      0 ≤ (hi v).tmod b ∧ (hi v).tmod b < b := by
  obtain ⟨B, rfl⟩ := Int.eq_ofNat_of_zero_le (show 0 ≤ b by omega)
  obtain ⟨d1, d2, d3⟩ := div_nat v B (by omega)
  have h1 := hi_1 hv
  rw [Int.toNat_natCast, Int.tdiv_eq_ediv_of_nonneg (hi_0 v), Int.tmod_eq_emod_of_nonneg (hi_0 v)]
  unfold hi lo at *
  rw [← d1, ← d2, ← d3]
  have hle := Nat.div_le_self (v / 18446744073709551616) B
  refine ⟨?_, ?_, ?_, ?_, ?_⟩
  · rw [← Int.natCast_ediv, IntKind.wrap_u64]
    generalize v / 18446744073709551616 / B = z at hle ⊢
    omega
  · rw [← Int.natCast_emod]; rfl
  · rw [← Int.natCast_emod]; rfl
  · exact Int.emod_nonneg _ (by omega)
  · exact Int.emod_lt_of_pos _ (by omega)

set_option maxHeartbeats 1000000 in
theorem div_n (v : Nat) (b : Int) (w : World) (hv : W2 v) (b0 : 0 < b) (b1 : b < 18446744073709551616) :
    Calls Try.prog 60 #[.agg #[.int .u64 (hi v), .int .u64 (lo v)], .int .u64 b] w fun e w' =>
      e = .returned (.tuple #[.agg #[.int .u64 (hi (v / b.toNat)), .int .u64 (lo (v / b.toNat))], .int .u64 ((v % b.toNat : Nat) : Int), .int .i64 0]) ∧ Below w.heap.size w w' := by
  have n0 : (b == 0) = false := by rw [beq_eq_false_iff_ne]; omega
  obtain ⟨e1, e2, e3, e4, e5⟩ := div_words v b hv b0 b1
  have H1 := hide e1; have H2 := hide e2; have H3 := hide e3; have H4 := hide e4; have H5 := hide e5
  clear e1 e2 e3 e4 e5
  go_enter Try.func60, Try.ntmps60
  go_wp2_with fail
  first | go_region_with (go_at_call 70; refine (div64_all ((hi v).tmod b) (lo v) b _ (unhide H4) (unhide H5) (lo_0 v) (lo_1 v) b1).mono ?_; rintro e w1 ⟨rfl, hb⟩; obtain ⟨hc1, hf1⟩ := bcell hb; have hz : w.heap.size + 1 < w1.heap.size := (by have := hb.size; simp at this; omega); have hz' : w.heap.size < w1.heap.size := (by omega)) | fail
  all_goals
    go_wp2
    refine bodyPost_ret (v := .tuple #[.agg #[.int .u64 (IntKind.u64.wrap ((hi v).tdiv b)), .int .u64 (((hi v).tmod b * 18446744073709551616 + lo v) / b)], .int .u64 (((hi v).tmod b * 18446744073709551616 + lo v) % b), .int .i64 0]) (by simp (maxDischargeDepth := 8) [results, Try.results60, go_sem, hc1]) rfl ⟨by rw [unhide H1, unhide H2, unhide H3], ?_⟩
    exact ((((bthen (below2d _ _ _) hb).setCell (by simp) _).setCell (by simp) _).setCell (by simp) _).setCell (by simp) _

end Go.Proofs.Ytcgnlpamfhdiiaa.W
