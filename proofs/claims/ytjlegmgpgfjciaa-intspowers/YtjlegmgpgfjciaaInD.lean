/- What the divisions and comparisons of package ints answer; the chapter's examples. -/
import Derived.Test.YtjlegmgpgfjciaaInK
namespace Go.Proofs.Ytjlegmgpgfjciaa
open Go.RowKit

theorem tup_eq {f : Nat} {ar : Array Value} {v v' t : Int} (h : Ct f ar (.tuple #[.int .u64 v, .int .i64 t])) (e : v = v') : Ct f ar (.tuple #[.int .u64 v', .int .i64 t]) := e ▸ h
theorem sgv_in {w H M : Int} {n : Nat} (k : Wm w n H M) (a : Int) : -H ≤ sgv H M a ∧ sgv H M a < H ∧ (sgv H M a = 0 ↔ a % M = 0) ∧ sgv H M a % M = a % M := by
  unfold sgv
  rcases k with ⟨rfl, rfl, rfl, rfl⟩ | ⟨rfl, rfl, rfl, rfl⟩ <;> omega
theorem tdiv_nn {A B : Int} (a0 : 0 ≤ A) (b0 : 0 < B) : A.tdiv B = A / B ∧ 0 ≤ A / B ∧ A / B ≤ A := ⟨Int.tdiv_eq_ediv_of_nonneg a0, Int.ediv_nonneg a0 (by omega), Int.ediv_le_self _ a0⟩
theorem tdiv_in {A B H : Int} (a0 : -H ≤ A) (a1 : A < H) (b : ¬ B = 0) (go : ¬ (A = -H ∧ B = -1)) : -H ≤ A.tdiv B ∧ A.tdiv B < H ∧ (A < 0 → B < 0 → 0 ≤ A.tdiv B) := by
  have e1 : ∀ X Y : Int, (-X).tdiv Y = -(X.tdiv Y) := Int.neg_tdiv
  have e2 : ∀ X Y : Int, X.tdiv (-Y) = -(X.tdiv Y) := Int.tdiv_neg
  by_cases hA : 0 ≤ A
  · by_cases hB : 0 < B
    · obtain ⟨q1, q2, q3⟩ := tdiv_nn hA hB
      rw [q1]
      refine ⟨by omega, by omega, fun h => by omega⟩
    · obtain ⟨q1, q2, q3⟩ := tdiv_nn hA (show 0 < -B by omega)
      have := e2 A (-B)
      rw [Int.neg_neg, q1] at this
      rw [this]
      refine ⟨by omega, by omega, fun h => by omega⟩
  · by_cases hB : 0 < B
    · obtain ⟨q1, q2, q3⟩ := tdiv_nn (show 0 ≤ -A by omega) hB
      have := e1 (-A) B
      rw [Int.neg_neg, q1] at this
      rw [this]
      refine ⟨by omega, by omega, fun _ h => by omega⟩
    · obtain ⟨q1, q2, q3⟩ := tdiv_nn (show 0 ≤ -A by omega) (show 0 < -B by omega)
      have h1 := e1 (-A) B
      have h2 := e2 (-A) (-B)
      rw [Int.neg_neg] at h1 h2
      rw [h1, h2, Int.neg_neg, q1]
      refine ⟨by omega, ?_, fun _ _ => q2⟩
      by_cases hb : B = -1
      · have : ¬ A = -H := fun h => go ⟨h, hb⟩
        omega
      · have h3 := Int.ediv_mul_le (-A) (show -B ≠ 0 by omega)
        have h4 := Int.mul_le_mul_of_nonneg_left (show 2 ≤ -B by omega) q2
        generalize -A / -B = q at *
        generalize q * -B = z at *
        omega
theorem wrap_cut {w H M : Int} {n : Nat} (k : Wm w n H M) (x : Int) : IntKind.u64.wrap x % M = x % M ∧ Rg (IntKind.u64.wrap x) := by
  rw [IntKind.wrap_u64]
  unfold Rg
  refine ⟨?_, by omega, by omega⟩
  rcases k with ⟨rfl, rfl, rfl, rfl⟩ | ⟨rfl, rfl, rfl, rfl⟩
  · exact Int.emod_emod_of_dvd x (by decide)
  · exact Int.emod_emod_of_dvd x (by decide)
theorem dividedS_any {w H M : Int} {n : Nat} (k : Wm w n H M) (a b : Int) (g : ¬ sgv H M b = 0) (go : ¬ (sgv H M a = -H ∧ sgv H M b = -1)) : Ct 47 #[.int .i64 w, .int .u64 a, .int .u64 b] (.agg #[.int .u64 (IntKind.u64.wrap ((sgv H M a).tdiv (sgv H M b))), .int .u64 (IntKind.u64.wrap ((sgv H M a).tmod (sgv H M b))), .int .i64 0]) := by
  obtain ⟨a0, a1, -⟩ := sgv_in k a
  obtain ⟨q0, q1, q2⟩ := tdiv_in a0 a1 g go
  generalize hA : sgv H M a = A at *
  generalize hB : sgv H M b = B at *
  rcases k with ⟨rfl, rfl, rfl, rfl⟩ | ⟨rfl, rfl, rfl, rfl⟩
  · have eA : IntKind.i32.wrap a = A := (IntKind.wrap_i32 a).trans hA
    have eB : IntKind.i32.wrap b = B := (IntKind.wrap_i32 b).trans hB
    have hq : IntKind.i32.wrap (A.tdiv B) = A.tdiv B := by rw [IntKind.wrap_i32]; omega
    by_cases hA0 : 0 ≤ A
    · exact dividedS_m (divs32_r eA eB (divs32_p hA0 g hq rfl (by rw [Int.tmod_eq_emod_of_nonneg hA0])))
    · by_cases hB0 : 0 ≤ B
      · exact dividedS_m (divs32_r eA eB (divs32_m (by omega) hB0 g hq rfl rfl))
      · exact dividedS_m (divs32_r eA eB (divs32_n (by omega) (by omega) hq (q2 (by omega) (by omega)) rfl rfl))
  · have eA : IntKind.i64.wrap a = A := (IntKind.wrap_i64 a).trans hA
    have eB : IntKind.i64.wrap b = B := (IntKind.wrap_i64 b).trans hB
    have hq : IntKind.i64.wrap (A.tdiv B) = A.tdiv B := by rw [IntKind.wrap_i64]; omega
    by_cases hA0 : 0 ≤ A
    · exact dividedS_m (divs64_r eA eB (divs64_p hA0 g hq rfl (by rw [Int.tmod_eq_emod_of_nonneg hA0])))
    · by_cases hB0 : 0 ≤ B
      · exact dividedS_m (divs64_r eA eB (divs64_m (by omega) hB0 g hq rfl rfl))
      · exact dividedS_m (divs64_r eA eB (divs64_n (by omega) (by omega) hq (q2 (by omega) (by omega)) rfl rfl))
theorem dividedS_z {w H M : Int} {n : Nat} (k : Wm w n H M) (a b : Int) (g : sgv H M b = 0) : Ct 47 #[.int .i64 w, .int .u64 a, .int .u64 b] (.agg #[.int .u64 0, .int .u64 0, .int .i64 2]) := by
  rcases k with ⟨rfl, rfl, rfl, rfl⟩ | ⟨rfl, rfl, rfl, rfl⟩
  · exact dividedS_m (divs32_r (IntKind.wrap_i32 a) (IntKind.wrap_i32 b) (divs32_z g))
  · exact dividedS_m (divs64_r (IntKind.wrap_i64 a) (IntKind.wrap_i64 b) (divs64_z g))
theorem dividedS_o {w H M : Int} {n : Nat} (k : Wm w n H M) (a b : Int) (g : sgv H M a = -H) (g' : sgv H M b = -1) : Ct 47 #[.int .i64 w, .int .u64 a, .int .u64 b] (.agg #[.int .u64 0, .int .u64 0, .int .i64 3]) := by
  rcases k with ⟨rfl, rfl, rfl, rfl⟩ | ⟨rfl, rfl, rfl, rfl⟩
  · exact dividedS_m (divs32_r ((IntKind.wrap_i32 a).trans g) ((IntKind.wrap_i32 b).trans g') (divs32_o (q := -2147483648) (by decide) (by decide) (by decide) (by decide)))
  · exact dividedS_m (divs64_r ((IntKind.wrap_i64 a).trans g) ((IntKind.wrap_i64 b).trans g') (divs64_o (q := -9223372036854775808) (by decide) (by decide) (by decide) (by decide)))
theorem zero_K {w H M : Int} {n : Nat} (k : Wm w n H M) : Ct 48 #[.int .i64 w, .int .u64 0] (.int .u64 0) := by
  have h := cut_K k (a := 0) ⟨by omega, by omega⟩
  rw [Int.zero_emod] at h
  exact h
theorem divs_any {w H M : Int} {n : Nat} (k : Wm w n H M) (a b : Int) (g : ¬ sgv H M b = 0) (go : ¬ (sgv H M a = -H ∧ sgv H M b = -1)) : Ct 18 #[.int .i64 w, .int .u64 a, .int .u64 b] (.tuple #[.int .u64 ((sgv H M a).tdiv (sgv H M b) % M), .int .i64 0]) :=
  tup_eq (divs_m (dividedS_any k a b g go) (cut_K k (wrap_cut k _).2)) (wrap_cut k _).1
theorem divs_z {w H M : Int} {n : Nat} (k : Wm w n H M) (a b : Int) (g : sgv H M b = 0) : Ct 18 #[.int .i64 w, .int .u64 a, .int .u64 b] (.tuple #[.int .u64 0, .int .i64 2]) := divs_m (dividedS_z k a b g) (zero_K k)
theorem divs_o {w H M : Int} {n : Nat} (k : Wm w n H M) (a b : Int) (g : sgv H M a = -H) (g' : sgv H M b = -1) : Ct 18 #[.int .i64 w, .int .u64 a, .int .u64 b] (.tuple #[.int .u64 0, .int .i64 3]) := divs_m (dividedS_o k a b g g') (zero_K k)
theorem divs_no {w : Int} (k : No w) (a b : Int) : Ct 18 #[.int .i64 w, .int .u64 a, .int .u64 b] (.tuple #[.int .u64 0, .int .i64 0]) := divs_m (dividedS_m (divsno_r k.1 k.2)) (cut_N k ⟨by omega, by omega⟩)
theorem rems_any {w H M : Int} {n : Nat} (k : Wm w n H M) (a b : Int) (g : ¬ sgv H M b = 0) (go : ¬ (sgv H M a = -H ∧ sgv H M b = -1)) : Ct 19 #[.int .i64 w, .int .u64 a, .int .u64 b] (.tuple #[.int .u64 ((sgv H M a).tmod (sgv H M b) % M), .int .i64 0]) :=
  tup_eq (rems_m (dividedS_any k a b g go) (cut_K k (wrap_cut k _).2) (by decide)) (wrap_cut k _).1
theorem rems_z {w H M : Int} {n : Nat} (k : Wm w n H M) (a b : Int) (g : sgv H M b = 0) : Ct 19 #[.int .i64 w, .int .u64 a, .int .u64 b] (.tuple #[.int .u64 0, .int .i64 2]) := rems_m (dividedS_z k a b g) (zero_K k) (by decide)
theorem rems_ov {w H M : Int} {n : Nat} (k : Wm w n H M) (a b : Int) (g : sgv H M a = -H) (g' : sgv H M b = -1) : Ct 19 #[.int .i64 w, .int .u64 a, .int .u64 b] (.tuple #[.int .u64 0, .int .i64 0]) := rems_o (dividedS_o k a b g g')
theorem rems_no {w : Int} (k : No w) (a b : Int) : Ct 19 #[.int .i64 w, .int .u64 a, .int .u64 b] (.tuple #[.int .u64 0, .int .i64 0]) := rems_m (dividedS_m (divsno_r k.1 k.2)) (cut_N k ⟨by omega, by omega⟩) (by decide)
theorem dividedU_any {w H M : Int} {n : Nat} (k : Wm w n H M) {a b : Int} (ha : Rg a) (hb : Rg b) (g : ¬ b % M = 0) : Ct 46 #[.int .i64 w, .int .u64 a, .int .u64 b] (.agg #[.int .u64 (a % M / (b % M)), .int .u64 (a % M % (b % M)), .int .i64 0]) := by
  obtain ⟨a0, a1⟩ := k.cut a
  obtain ⟨b0, b1⟩ := k.cut b
  rcases k with ⟨rfl, rfl, rfl, rfl⟩ | ⟨rfl, rfl, rfl, rfl⟩
  · have q1 := Int.ediv_nonneg a0 b0
    have q2 := Int.ediv_le_self (b % 4294967296) a0
    have q3 := Int.emod_nonneg (a % 4294967296) g
    have q4 := Int.emod_lt_of_pos (a % 4294967296) (show 0 < b % 4294967296 by omega)
    exact dividedU_m (divu32_r (IntKind.wrap_u32 a) (IntKind.wrap_u32 b) (divu32_p a0 a1 b0 b1 g rfl rfl (by rw [IntKind.wrap_u64]; generalize a % 4294967296 / (b % 4294967296) = q at *; omega) (by rw [IntKind.wrap_u64]; generalize a % 4294967296 % (b % 4294967296) = q at *; omega)))
  · rw [show a % 18446744073709551616 = a from Int.emod_eq_of_lt ha.1 ha.2] at *
    rw [show b % 18446744073709551616 = b from Int.emod_eq_of_lt hb.1 hb.2] at *
    exact dividedU_m (divu64_r (divu64_p a0 a1 b0 b1 g rfl rfl))
theorem dividedU_z {w H M : Int} {n : Nat} (k : Wm w n H M) (a : Int) {b : Int} (hb : Rg b) (g : b % M = 0) : Ct 46 #[.int .i64 w, .int .u64 a, .int .u64 b] (.agg #[.int .u64 0, .int .u64 0, .int .i64 2]) := by
  rcases k with ⟨rfl, rfl, rfl, rfl⟩ | ⟨rfl, rfl, rfl, rfl⟩
  · exact dividedU_m (divu32_r (IntKind.wrap_u32 a) (IntKind.wrap_u32 b) (divu32_z g))
  · exact dividedU_m (divu64_r (divu64_z (by unfold Rg at hb; omega)))
theorem divu_any {w H M : Int} {n : Nat} (k : Wm w n H M) {a b : Int} (ha : Rg a) (hb : Rg b) (g : ¬ b % M = 0) : Ct 16 #[.int .i64 w, .int .u64 a, .int .u64 b] (.tuple #[.int .u64 (a % M / (b % M)), .int .i64 0]) := divu_m (dividedU_any k ha hb g)
theorem remu_any {w H M : Int} {n : Nat} (k : Wm w n H M) {a b : Int} (ha : Rg a) (hb : Rg b) (g : ¬ b % M = 0) : Ct 17 #[.int .i64 w, .int .u64 a, .int .u64 b] (.tuple #[.int .u64 (a % M % (b % M)), .int .i64 0]) := remu_m (dividedU_any k ha hb g)
theorem divu_z {w H M : Int} {n : Nat} (k : Wm w n H M) (a : Int) {b : Int} (hb : Rg b) (g : b % M = 0) : Ct 16 #[.int .i64 w, .int .u64 a, .int .u64 b] (.tuple #[.int .u64 0, .int .i64 2]) := divu_m (dividedU_z k a hb g)
theorem remu_z {w H M : Int} {n : Nat} (k : Wm w n H M) (a : Int) {b : Int} (hb : Rg b) (g : b % M = 0) : Ct 17 #[.int .i64 w, .int .u64 a, .int .u64 b] (.tuple #[.int .u64 0, .int .i64 2]) := remu_m (dividedU_z k a hb g)
theorem divu_no {w : Int} (k : No w) (a b : Int) : Ct 16 #[.int .i64 w, .int .u64 a, .int .u64 b] (.tuple #[.int .u64 0, .int .i64 0]) := divu_m (dividedU_m (divuno_r k.1 k.2))
theorem remu_no {w : Int} (k : No w) (a b : Int) : Ct 17 #[.int .i64 w, .int .u64 a, .int .u64 b] (.tuple #[.int .u64 0, .int .i64 0]) := remu_m (dividedU_m (divuno_r k.1 k.2))
theorem ltu_any {w H M : Int} {n : Nat} (k : Wm w n H M) {a b : Int} (ha : Rg a) (hb : Rg b) : Ct 30 #[.int .i64 w, .int .u64 a, .int .u64 b] (.bool (decide (a % M < b % M))) := by
  rcases k with ⟨rfl, rfl, rfl, rfl⟩ | ⟨rfl, rfl, rfl, rfl⟩
  · exact ltu_m (ltu32_r (IntKind.wrap_u32 a) (IntKind.wrap_u32 b) ltu32_l)
  · rw [show a % 18446744073709551616 = a from Int.emod_eq_of_lt ha.1 ha.2, show b % 18446744073709551616 = b from Int.emod_eq_of_lt hb.1 hb.2]
    exact ltu_m (ltu64_r ltu64_l)
theorem ltu_no {w : Int} (k : No w) (a b : Int) : Ct 30 #[.int .i64 w, .int .u64 a, .int .u64 b] (.bool false) := ltu_m (ltuno_r k.1 k.2)
set_option maxHeartbeats 4000000 in
set_option maxRecDepth 100000 in
theorem awake_l (H1 : Ct 18 #[.int .i64 32, .int .u64 4294967289, .int .u64 2] (.tuple #[.int .u64 4294967293, .int .i64 0])) (H2 : Ct 25 #[.int .i64 32, .int .u64 2147483648, .int .u64 33] (.int .u64 3221225472)) (H3 : Ct 9 #[.int .i64 32, .int .u64 4294967295, .int .u64 2] (.int .u64 1)) : Ct 8 #[] (.bool true) := by
  refine hide (fun W => ?_)
  have HB := hide (Below.refl W.heap.size W)
  go_enter Try.func8, Try.ntmps8
  go_wp2_with fail
  refine (unhide H1 _).mono ?_
  rintro _ w1 ⟨rfl, hb⟩
  have HB := hide (bthen (unhide HB) hb)
  clear hb
  go_wp2_with fail
  refine (unhide H2 _).mono ?_
  rintro _ w2 ⟨rfl, hb⟩
  have HB := hide (bthen (unhide HB) hb)
  clear hb
  go_wp2_with fail
  refine (unhide H3 _).mono ?_
  rintro _ w3 ⟨rfl, hb⟩
  have HB := hide (bthen (unhide HB) hb)
  clear hb
  go_wp2_with fail
  go_ret
  exact ⟨by simp, unhide HB⟩
theorem awake_any : Ct 8 #[] (.bool true) := by
  have k : Wm 32 32 2147483648 4294967296 := Or.inl ⟨rfl, rfl, rfl, rfl⟩
  refine awake_l (tup_eq (divs_any k _ _ (by decide) (by decide)) (by decide)) (ct_eq (sar_any k (A := 2147483648) (s := 1) (by decide) (by decide) ⟨by omega, by omega⟩) (by decide +kernel)) (ct_eq (add_any k _ _) (by decide))
end Go.Proofs.Ytjlegmgpgfjciaa
