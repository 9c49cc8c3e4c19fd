/- What package sign and the reference's With answer of any float. -/
import Derived.Test.YtahaocnlclkeaaaDoorSgB
import Derived.Test.YtahaocnlclkeaaaDoorSgM
namespace Go.Proofs.YtahaocnlclkeaaaDoor
open Go.RowKit

theorem sN_in {w e f P Q b : Int} (h : Wd w e f P Q b) (n : Bool) (x : Int) : 0 ≤ sN f P Q n x ∧ sN f P Q n x < 18446744073709551616 := by
  unfold sN
  by_cases hf : f = 0
  · rw [if_pos hf]; omega
  · obtain ⟨m, hm, e, -⟩ := kd_pow (h.known hf)
    have hp := pow_2 hm
    rw [if_neg hf, e]
    have h1 := Int.emod_nonneg x (show ((2 ^ m : Nat) : Int) ≠ 0 by omega)
    have h2 := Int.emod_lt_of_pos x (show 0 < ((2 ^ m : Nat) : Int) by omega)
    cases n <;> simp only [Bool.false_eq_true, if_false, if_true] <;> omega
theorem sN_sN (f P Q : Int) (n m : Bool) (x : Int) : sN f P Q n (sN f P Q m x) = sN f P Q n x := by
  unfold sN
  by_cases hf : f = 0
  · rw [if_pos hf, if_pos hf]
  · rw [if_neg hf, if_neg hf, if_neg hf]
    cases m <;> simp only [Bool.false_eq_true, if_false, if_true, Int.add_zero, Int.add_emod_right, Int.emod_emod]
theorem sg_sN {w e f P Q b : Int} (k : Kd w e f P Q b) (n : Bool) (x : Int) : sg P Q (sN f P Q n x) = n := by
  obtain ⟨m, hm, e, -⟩ := kd_pow k
  have hp := pow_2 hm
  unfold sg sN
  rw [if_neg k.f0, e]
  have h1 := Int.emod_nonneg x (show ((2 ^ m : Nat) : Int) ≠ 0 by omega)
  have h2 := Int.emod_lt_of_pos x (show 0 < ((2 ^ m : Nat) : Int) by omega)
  generalize x % ((2 ^ m : Nat) : Int) = r at *
  generalize 2 ^ m = S at *
  rcases hp with rfl | rfl <;> cases n <;> simp <;> omega
theorem sN_cut {w e f P Q b : Int} (h : Wd w e f P Q b) (x : Int) : sN f P Q (sg P Q x) x = cutN f P Q x := by
  unfold cutN sN sg
  by_cases hf : f = 0
  · rw [if_pos hf, if_pos hf]
  · obtain ⟨m, hm, e, -⟩ := kd_pow (h.known hf)
    have hp := pow_2 hm
    rw [if_neg hf, if_neg hf, e]
    generalize 2 ^ m = S at *
    rcases hp with rfl | rfl
    · by_cases ht : x / 2147483648 % 2 = 1
      · simp [ht]; omega
      · simp [ht]; omega
    · by_cases ht : x / 9223372036854775808 % 2 = 1
      · simp [ht]; omega
      · simp [ht]; omega
theorem isN_sN {w e f P Q b : Int} (h : Wd w e f P Q b) (n : Bool) (x : Int) : isN f P Q (sN f P Q n x) = (f != 0 && n) := by
  unfold isN
  by_cases hf : f = 0
  · subst hf; rfl
  · rw [sg_sN (h.known hf)]

theorem bitOf_any {w e f P Q b : Int} (h : Wd w e f P Q b) (W : World) (m : Mk W) : Calls Tryd.prog 15 #[.int .i64 w] W fun r W' => r = .returned (.int .u64 (sb f P Q)) ∧ Below W.heap.size W W' := by
  rcases h with ⟨rfl, rfl, rfl, rfl, rfl, rfl⟩ | ⟨rfl, rfl, rfl, rfl, rfl, rfl⟩ | ⟨⟨h1, h2⟩, rfl, rfl, rfl, rfl, rfl⟩
  · exact bitOf_32 W m
  · exact bitOf_64 W m
  · exact bitOf_no w W m h1 h2
theorem is_any {w e f P Q b x : Int} (h : Wd w e f P Q b) (x0 : 0 ≤ x) (x1 : x < 18446744073709551616) : Cm 11 #[.int .i64 w, .int .u64 x] (.bool (isN f P Q x)) := fun W m =>
  is_w W m (hide (bitOf_any h)) (bit_and h x0 x1) (by
    unfold isN
    by_cases hf : f = 0
    · subst hf; rfl
    · obtain ⟨m, hm, e, -⟩ := kd_pow (h.known hf)
      have hp := pow_2 hm
      rw [e]
      cases sg P Q x
      · simp
      · rcases hp with hp | hp <;> simp [hf, hp])
theorem abs_any {w e f P Q b x : Int} (h : Wd w e f P Q b) (x0 : 0 ≤ x) (x1 : x < 18446744073709551616) : Cm 8 #[.int .i64 w, .int .u64 x] (.int .u64 (sN f P Q false x)) := fun W m =>
  abs_w W m (hide (fun W => cut_any x h W x0 x1)) (hide (bitOf_any h)) (bit_andNot h x0)
theorem neg_any {w e f P Q b x : Int} (h : Wd w e f P Q b) (x0 : 0 ≤ x) (x1 : x < 18446744073709551616) : Cm 9 #[.int .i64 w, .int .u64 x] (.int .u64 (sN f P Q (!sg P Q x) x)) := fun W m =>
  neg_w W m (hide (fun W => cut_any x h W x0 x1)) (hide (bitOf_any h)) (bit_xor h x0)
theorem copy_any {w e f P Q b x y : Int} (h : Wd w e f P Q b) (x0 : 0 ≤ x) (x1 : x < 18446744073709551616) (y0 : 0 ≤ y) (y1 : y < 18446744073709551616) : Cm 10 #[.int .i64 w, .int .u64 x, .int .u64 y] (.int .u64 (sN f P Q (sg P Q y) x)) := fun W m =>
  copy_w W m (abs_any h x0 x1) (hide (bitOf_any h)) (bit_and h y0 y1) (bit_or h x0 y)
theorem with_any {w e f P Q b x : Int} (k : Kd w e f P Q b) (n : Bool) (x0 : 0 ≤ x) (x1 : x < 18446744073709551616) (W : World) (m : Mk W) : Calls Tryd.prog 13 #[.int .i64 w, .int .u64 x, .bool n] W fun r W' => r = .returned (.int .u64 (sN f P Q n x)) ∧ Below W.heap.size W W' := by
  have k1 : IntKind.i64.wrap (w - 1) = w - 1 := by rcases k with h | h <;> exact i64_id (by omega) (by omega)
  have HC := fun W => refCut_any x k W x0 x1
  have HN := fun W => refNeg_any x k W x0 x1
  have HD := hide (fun W => two_w k W)
  obtain ⟨i1, i2⟩ := sN_in k.wd false x
  obtain ⟨j1, j2⟩ := sN_in k.wd true x
  have d : sN f P Q true x = sN f P Q false x + P * Q := by
    unfold sN; rw [if_neg k.f0, if_neg k.f0]; simp
  rw [← sN_cut k.wd] at HC
  have w1 : IntKind.u64.wrap (sN f P Q true x - P * Q) = sN f P Q false x := by rw [IntKind.wrap_u64]; omega
  have w2 : IntKind.u64.wrap (sN f P Q false x + P * Q) = sN f P Q true x := by rw [IntKind.wrap_u64]; omega
  cases hs : sg P Q x <;> rw [hs] at HC HN <;> cases n
  · exact with_ff W m (hide HC) (hide HN)
  · exact with_ft W m k1 (hide HC) (hide HN) HD w2
  · exact with_tf W m k1 (hide HC) (hide HN) HD w1
  · exact with_tt W m k1 (hide HC) (hide HN) HD w1 w2
end Go.Proofs.YtahaocnlclkeaaaDoor
