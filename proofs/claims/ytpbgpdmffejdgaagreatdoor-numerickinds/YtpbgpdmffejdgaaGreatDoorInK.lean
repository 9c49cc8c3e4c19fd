/- What the functions of package ints answer. -/
import Derived.Test.YtpbgpdmffejdgaaGreatDoorInA
import Derived.Test.YtpbgpdmffejdgaaGreatDoorInB
import Derived.Test.YtpbgpdmffejdgaaGreatDoorInC
import Derived.Test.YtpbgpdmffejdgaaGreatDoorInM
import Derived.Test.YtpbgpdmffejdgaaGreatDoorRef
import Derived.Laws.Bits128
import Derived.Laws.BitsAllLaws
import Derived.Laws.Bits64b
namespace Go.Proofs.YtpbgpdmffejdgaaGreatDoor
open Go.RowKit

/-- A width, its number of bits, half of its room and the whole. -/
def Wm (w : Int) (n : Nat) (H M : Int) : Prop := (w = 32 ∧ n = 32 ∧ H = 2147483648 ∧ M = 4294967296) ∨ (w = 64 ∧ n = 64 ∧ H = 9223372036854775808 ∧ M = 18446744073709551616)
def No (w : Int) : Prop := ¬ w = 32 ∧ ¬ w = 64
theorem wm_or (w : Int) : No w ∨ ∃ n H M, Wm w n H M := by
  by_cases h1 : w = 32
  · exact Or.inr ⟨_, _, _, Or.inl ⟨h1, rfl, rfl, rfl⟩⟩
  · by_cases h2 : w = 64
    · exact Or.inr ⟨_, _, _, Or.inr ⟨h2, rfl, rfl, rfl⟩⟩
    · exact Or.inl ⟨h1, h2⟩
theorem Wm.kd {w H M : Int} {n : Nat} (k : Wm w n H M) : ∃ e f P Q b, Kd w e f P Q b ∧ P * Q = H := by
  rcases k with ⟨rfl, -, rfl, -⟩ | ⟨rfl, -, rfl, -⟩
  · exact ⟨_, _, _, _, _, Or.inl ⟨rfl, rfl, rfl, rfl, rfl, rfl⟩, rfl⟩
  · exact ⟨_, _, _, _, _, Or.inr ⟨rfl, rfl, rfl, rfl, rfl, rfl⟩, rfl⟩
theorem Wm.two {w H M : Int} {n : Nat} (k : Wm w n H M) : M = 2 * H ∧ M = ((2 ^ n : Nat) : Int) ∧ w = (n : Int) ∧ 32 ≤ n ∧ n ≤ 64 ∧ 0 < M ∧ M ≤ 18446744073709551616 := by
  rcases k with ⟨rfl, rfl, rfl, rfl⟩ | ⟨rfl, rfl, rfl, rfl⟩ <;> decide +kernel
theorem Wm.half {w H M : Int} {n : Nat} (k : Wm w n H M) : H = ((2 ^ (n - 1) : Nat) : Int) := by
  rcases k with ⟨rfl, rfl, rfl, rfl⟩ | ⟨rfl, rfl, rfl, rfl⟩ <;> decide +kernel
theorem No.wd {w : Int} (h : No w) : Wd w 0 0 1 1 (-1) := Or.inr (Or.inr ⟨h, rfl, rfl, rfl, rfl, rfl⟩)
theorem Wm.cut {w H M : Int} {n : Nat} (k : Wm w n H M) (a : Int) : 0 ≤ a % M ∧ a % M < M := ⟨Int.emod_nonneg _ (by have := k.two; omega), Int.emod_lt_of_pos _ k.two.2.2.2.2.2.1⟩
def Rg (a : Int) : Prop := 0 ≤ a ∧ a < 18446744073709551616
theorem Wm.rg {w H M : Int} {n : Nat} (k : Wm w n H M) (a : Int) : Rg (a % M) := ⟨(k.cut a).1, Int.lt_of_lt_of_le (k.cut a).2 k.two.2.2.2.2.2.2⟩
theorem rg_nat {w H M : Int} {n A : Nat} (k : Wm w n H M) (h : A < 2 ^ n) : Rg (A : Int) := by
  have := k.two
  unfold Rg
  omega
theorem cut_K {w H M : Int} {n : Nat} (k : Wm w n H M) {a : Int} (ha : Rg a) : Ct 17 #[.int .i64 w, .int .u64 a] (.int .u64 (a % M)) := by
  obtain ⟨e, f, P, Q, b, kd, hH⟩ := k.kd
  have h := fun W => cut_any a kd.wd W ha.1 ha.2
  rw [show cutN f P Q a = a % M by unfold cutN; rw [if_neg kd.f0, hH, k.two.1]] at h
  exact hide h
theorem cut_N {w a : Int} (k : No w) (ha : Rg a) : Ct 17 #[.int .i64 w, .int .u64 a] (.int .u64 0) := hide (fun W => cut_any a k.wd W ha.1 ha.2)
theorem rcut_K {w H M : Int} {n : Nat} (k : Wm w n H M) {a : Int} (ha : Rg a) : Ct 41 #[.int .i64 w, .int .u64 a] (.int .u64 (a % M)) := by
  obtain ⟨e, f, P, Q, b, kd, hH⟩ := k.kd
  have h := fun W => refCut_any a kd W ha.1 ha.2
  rw [show cutN f P Q a = a % M by unfold cutN; rw [if_neg kd.f0, hH, k.two.1]] at h
  exact hide h
theorem ct_eq {f : Nat} {ar : Array Value} {v v' : Int} (h : Ct f ar (.int .u64 v)) (e : v = v') : Ct f ar (.int .u64 v') := e ▸ h
theorem add_any {w H M : Int} {n : Nat} (k : Wm w n H M) (a b : Int) : Ct 146 #[.int .i64 w, .int .u64 a, .int .u64 b] (.int .u64 ((a + b) % M)) := by
  rcases k with ⟨rfl, rfl, rfl, rfl⟩ | ⟨rfl, rfl, rfl, rfl⟩
  · exact ct_eq (add_m (sum32_r (IntKind.wrap_u32 a) (IntKind.wrap_u32 b) sum32_l)) (by omega)
  · exact ct_eq (add_m (sum64_r sum64_l)) (IntKind.wrap_u64 _)
theorem add_no {w : Int} (k : No w) (a b : Int) : Ct 146 #[.int .i64 w, .int .u64 a, .int .u64 b] (.int .u64 0) := add_m (sumno_r k.1 k.2)
theorem sub_any {w H M : Int} {n : Nat} (k : Wm w n H M) (a b : Int) : Ct 147 #[.int .i64 w, .int .u64 a, .int .u64 b] (.int .u64 ((a - b) % M)) := by
  rcases k with ⟨rfl, rfl, rfl, rfl⟩ | ⟨rfl, rfl, rfl, rfl⟩
  · exact ct_eq (sub_m (dif32_r (IntKind.wrap_u32 a) (IntKind.wrap_u32 b) dif32_l)) (by omega)
  · exact ct_eq (sub_m (dif64_r dif64_l)) (IntKind.wrap_u64 _)
theorem sub_no {w : Int} (k : No w) (a b : Int) : Ct 147 #[.int .i64 w, .int .u64 a, .int .u64 b] (.int .u64 0) := sub_m (difno_r k.1 k.2)
theorem mul_any {w H M : Int} {n : Nat} (k : Wm w n H M) (a b : Int) : Ct 148 #[.int .i64 w, .int .u64 a, .int .u64 b] (.int .u64 ((a * b) % M)) := by
  rcases k with ⟨rfl, rfl, rfl, rfl⟩ | ⟨rfl, rfl, rfl, rfl⟩
  · exact ct_eq (mul_m (pro32_r (IntKind.wrap_u32 a) (IntKind.wrap_u32 b) pro32_l)) ((Int.mul_emod a b _).symm)
  · exact ct_eq (mul_m (pro64_r pro64_l)) (IntKind.wrap_u64 _)
theorem muli_no {w : Int} (k : No w) (a b : Int) : Ct 148 #[.int .i64 w, .int .u64 a, .int .u64 b] (.int .u64 0) := mul_m (prono_r k.1 k.2)
theorem shifts_any {w H M : Int} {n : Nat} (k : Wm w n H M) {b : Int} (hb : Rg b) : Ct 213 #[.int .i64 w, .int .u64 b] (.int .u64 (b % w)) := by
  rcases k with ⟨rfl, rfl, rfl, rfl⟩ | ⟨rfl, rfl, rfl, rfl⟩
  · exact shifts_l (j := 31) (k := 31) (by decide) (by decide) (and_mask 5 b 31 hb.1 hb.2 (by decide) (by omega))
  · exact shifts_l (j := 63) (k := 63) (by decide) (by decide) (and_mask 6 b 63 hb.1 hb.2 (by decide) (by omega))
theorem shifts_ex (w b : Int) : ∃ r, Ct 213 #[.int .i64 w, .int .u64 b] (.int .u64 r) := ⟨_, shifts_l rfl rfl rfl⟩
theorem mul_cut (a X M : Int) : a * X % M = a % M * X % M := by rw [Int.mul_emod a X, Int.mul_emod (a % M) X, Int.emod_emod]
theorem two_cast (s : Nat) : (2 : Int) ^ s = ((2 ^ s : Nat) : Int) := by rw [Int.natCast_pow]; rfl
theorem shl_any {w H M : Int} {n : Nat} (k : Wm w n H M) {A s : Nat} {a b : Int} (ha : a % M = (A : Int)) (hs : b % w = (s : Int)) (hb : Rg b) : Ct 138 #[.int .i64 w, .int .u64 a, .int .u64 b] (.int .u64 (shlN A n s : Nat)) := by
  have S := shifts_any k hb
  rw [hs] at S
  rcases k with ⟨rfl, rfl, rfl, rfl⟩ | ⟨rfl, rfl, rfl, rfl⟩
  · refine ct_eq (shl_m S (lef32_r (IntKind.wrap_u32 a) (b := (s : Int)) (B := (s : Int)) (by rw [IntKind.wrap_u32]; omega) (lef32_l (by omega) (by omega)))) ?_
    rw [ha, Int.toNat_natCast, two_cast, ← Int.natCast_mul]
    rfl
  · refine ct_eq (shl_m S (lef64_r (b := (s : Int)) (lef64_l (by omega) (by omega)))) ?_
    rw [IntKind.wrap_u64, Int.toNat_natCast, mul_cut, ha, two_cast, ← Int.natCast_mul]
    rfl
theorem shl_no {w : Int} (k : No w) (a b : Int) : Ct 138 #[.int .i64 w, .int .u64 a, .int .u64 b] (.int .u64 0) := by
  obtain ⟨r, hr⟩ := shifts_ex w b
  exact shl_m hr (lefno_r k.1 k.2)
theorem shr_any {w H M : Int} {n : Nat} (k : Wm w n H M) {A s : Nat} {a b : Int} (ha : a % M = (A : Int)) (hs : b % w = (s : Int)) (hb : Rg b) (hr : Rg a) : Ct 140 #[.int .i64 w, .int .u64 a, .int .u64 b] (.int .u64 (shrN A s : Nat)) := by
  have S := shifts_any k hb
  rw [hs] at S
  rcases k with ⟨rfl, rfl, rfl, rfl⟩ | ⟨rfl, rfl, rfl, rfl⟩
  · refine ct_eq (shr_m S (rig32_r (IntKind.wrap_u32 a) (b := (s : Int)) (B := (s : Int)) (by rw [IntKind.wrap_u32]; omega) (rig32_l (by omega) (by omega)))) ?_
    rw [ha, Int.toNat_natCast, two_cast, ← Int.natCast_ediv, IntKind.wrap_u64]
    have := Nat.div_le_self A (2 ^ s)
    unfold shrN
    generalize A / 2 ^ s = u at *
    omega
  · refine ct_eq (shr_m S (rig64_r (b := (s : Int)) (rig64_l (by omega) (by omega)))) ?_
    rw [show a = (A : Int) by unfold Rg at hr; omega, Int.toNat_natCast, two_cast, ← Int.natCast_ediv]
    rfl
theorem shr_no {w : Int} (k : No w) (a b : Int) : Ct 140 #[.int .i64 w, .int .u64 a, .int .u64 b] (.int .u64 0) := by
  obtain ⟨r, hr⟩ := shifts_ex w b
  exact shr_m hr (rigno_r k.1 k.2)
/-- Read with its sign. -/
def sgv (H M a : Int) : Int := (a + H) % M - H
theorem sgv_A {w H M : Int} {n : Nat} (k : Wm w n H M) {a : Int} {A : Nat} (ha : a % M = (A : Int)) : sgv H M a = if A < 2 ^ (n - 1) then (A : Int) else (A : Int) - M := by
  unfold sgv
  rcases k with ⟨rfl, rfl, rfl, rfl⟩ | ⟨rfl, rfl, rfl, rfl⟩ <;> split <;> omega
theorem div_step {A p : Int} (M : Int) (q : Int) (hM : M = p * q) (hp : 0 < p) : (A - M) / p = A / p - q := by
  rw [hM, Int.sub_eq_add_neg, show -(p * q) = p * -q by rw [Int.mul_neg], Int.add_mul_ediv_left _ _ (by omega)]
  omega
theorem sar_val {w H M : Int} {n : Nat} (k : Wm w n H M) {a : Int} {A s : Nat} (ha : a % M = (A : Int)) (hs : s < n) : (sgv H M a / ((2 ^ s : Nat) : Int)) % M = (sarN A n s : Nat) := by
  obtain ⟨-, k2, -⟩ := k.two
  have hA : A < 2 ^ n := by have := (k.cut a).2; omega
  rw [sgv_A k ha]
  unfold sarN
  have hd : A / 2 ^ s ≤ A := Nat.div_le_self _ _
  split
  · rw [← Int.natCast_ediv, k2, ← Int.natCast_emod, Nat.mod_eq_of_lt (by omega)]
  · have e : (2 : Nat) ^ n = 2 ^ s * 2 ^ (n - s) := by rw [← Nat.pow_add]; congr 1; omega
    have h1 : A / 2 ^ s < 2 ^ (n - s) := Nat.div_lt_of_lt_mul (by rw [← e]; exact hA)
    have h2 : 2 ^ (n - s) ≤ 2 ^ n := Nat.pow_le_pow_right (by omega) (by omega)
    rw [div_step M ((2 ^ (n - s) : Nat) : Int) (by rw [k2, e, Int.natCast_mul]) (by have := Nat.two_pow_pos s; omega), ← Int.natCast_ediv, k2]
    generalize A / 2 ^ s = u at *
    generalize 2 ^ (n - s) = v at *
    generalize 2 ^ n = m at *
    rw [← Int.add_emod_right]
    rw [show (u : Int) - (v : Int) + (m : Int) = ((u + (m - v) : Nat) : Int) by omega, ← Int.natCast_emod, Nat.mod_eq_of_lt (by omega)]
theorem sar_any {w H M : Int} {n : Nat} (k : Wm w n H M) {A s : Nat} {a b : Int} (ha : a % M = (A : Int)) (hs : b % w = (s : Int)) (hb : Rg b) : Ct 139 #[.int .i64 w, .int .u64 a, .int .u64 b] (.int .u64 (sarN A n s : Nat)) := by
  have S := shifts_any k hb
  rw [hs] at S
  have hsn : s < n := by
    have := k.two
    have := Int.emod_lt_of_pos b (show 0 < w by omega)
    omega
  have v := sar_val k ha hsn
  have k' := k
  rcases k with ⟨rfl, rfl, rfl, rfl⟩ | ⟨rfl, rfl, rfl, rfl⟩
  · refine ct_eq (sar_m S (sar32_r (IntKind.wrap_i32 a) (b := (s : Int)) (B := (s : Int)) (by rw [IntKind.wrap_i32]; omega) (sar32_l (by omega) (by omega))) (cut_K k' ⟨?_, ?_⟩)) ?_
    · rw [IntKind.wrap_u64]; omega
    · rw [IntKind.wrap_u64]; omega
    · rw [Int.toNat_natCast, two_cast, IntKind.wrap_u64, Int.emod_emod_of_dvd _ (by decide)]
      exact v
  · refine ct_eq (sar_m S (sar64_r (IntKind.wrap_i64 a) (b := (s : Int)) (B := (s : Int)) (by rw [IntKind.wrap_i64]; omega) (sar64_l (by omega) (by omega))) (cut_K k' ⟨?_, ?_⟩)) ?_
    · rw [IntKind.wrap_u64]; omega
    · rw [IntKind.wrap_u64]; omega
    · rw [Int.toNat_natCast, two_cast, IntKind.wrap_u64, Int.emod_emod_of_dvd _ (by decide)]
      exact v
theorem sar_no {w : Int} (k : No w) (a b : Int) : Ct 139 #[.int .i64 w, .int .u64 a, .int .u64 b] (.int .u64 0) := by
  obtain ⟨r, hr⟩ := shifts_ex w b
  exact sar_m hr (sarno_r k.1 k.2) (cut_N k ⟨by omega, by omega⟩)
theorem negi_mod {w H M : Int} {n : Nat} (k : Wm w n H M) {b : Int} {s : Nat} (hs : b % w = (s : Int)) : IntKind.u64.wrap (-b) % w = (((n - s) % n : Nat) : Int) ∧ Rg (IntKind.u64.wrap (-b)) := by
  rw [IntKind.wrap_u64]
  unfold Rg
  rcases k with ⟨rfl, rfl, rfl, rfl⟩ | ⟨rfl, rfl, rfl, rfl⟩ <;> omega
theorem rotl_any {w H M : Int} {n : Nat} (k : Wm w n H M) {A s : Nat} {a b : Int} (ha : a % M = (A : Int)) (hs : b % w = (s : Int)) (hb : Rg b) (hr : Rg a) : Ct 141 #[.int .i64 w, .int .u64 a, .int .u64 b] (.int .u64 (rotN A n s : Nat)) := by
  obtain ⟨-, k2, -, -, k5, -⟩ := k.two
  have hA : A < 2 ^ n := by have := (k.cut a).2; omega
  have h64 : (2 : Nat) ^ n ≤ 18446744073709551616 := Nat.pow_le_pow_right (show 0 < 2 by omega) k5
  obtain ⟨n1, n2⟩ := negi_mod k hs
  refine rotl_m (shl_any k ha hs hb) rfl (shr_any k ha n1 n2 hr) ?_
  have q1 := shl_lt A n s
  have q2 := shr_lt ((n - s) % n) hA
  exact Go.u64_or_nat _ _ (by omega) (by omega)
theorem rotl_no {w : Int} (k : No w) (a b : Int) : Ct 141 #[.int .i64 w, .int .u64 a, .int .u64 b] (.int .u64 0) := rotl_m (shl_no k a b) rfl (shr_no k a _) (by decide +kernel)
theorem rotr_any {w H M : Int} {n : Nat} (k : Wm w n H M) {A s : Nat} {a b : Int} (ha : a % M = (A : Int)) (hs : b % w = (s : Int)) (hr : Rg a) : Ct 142 #[.int .i64 w, .int .u64 a, .int .u64 b] (.int .u64 (rotN A n ((n - s) % n) : Nat)) := by
  obtain ⟨n1, n2⟩ := negi_mod k hs
  exact rotr_m rfl (rotl_any k ha n1 n2 hr)
theorem rotr_no {w : Int} (k : No w) (a b : Int) : Ct 142 #[.int .i64 w, .int .u64 a, .int .u64 b] (.int .u64 0) := rotr_m rfl (rotl_no k a _)
theorem wrap_nat {a b c : Nat} (h : a + b = c) (hc : c < 18446744073709551616) : IntKind.u64.wrap ((a : Int) + (b : Int)) = (c : Int) := by rw [IntKind.wrap_u64]; omega
theorem d2 {y q : Nat} (h : y / 2 = q) : (y : Int) / 2 = q := by omega
theorem d4 {y q : Nat} (h : y / 4 = q) : (y : Int) / 4 = q := by omega
theorem d16 {y q : Nat} (h : y / 16 = q) : (y : Int) / 16 = q := by omega
theorem d256 {y q : Nat} (h : y / 256 = q) : (y : Int) / 256 = q := by omega
theorem d65536 {y q : Nat} (h : y / 65536 = q) : (y : Int) / 65536 = q := by omega
theorem d32 {y q : Nat} (h : y / 4294967296 = q) : (y : Int) / 4294967296 = q := by omega
theorem m128 {y q : Nat} (h : y % 128 = q) : (((y : Int) + 9223372036854775808) % 18446744073709551616 - 9223372036854775808) % 128 = (q : Int) := by omega
set_option maxHeartbeats 1000000 in
theorem ones_any {x : Nat} (hx : x < 18446744073709551616) : Ct 224 #[.int .u64 (x : Int)] (.int .i64 (pop 64 x : Nat)) := by
  obtain ⟨y1, y2, y3, y4, y5, y6, p0, p1, p2, p3, p4, p5, p6, p7, h0, h1, h2, h3, h4, h5, h6, h7, f6, f5, f4, f3, f2, f1, f0, ep⟩ := ones_eq x
  obtain ⟨s1, s2, s3, s4, s5, s6, s7⟩ := sum_steps h0 h1 h2 h3 h4 h5 h6 h7 f6 f5 f4 f3 f2 f1 rfl
  rw [← f0] at s1 s2 s3 s4 s5 s6 s7
  clear h0 h1 h2 h3 h4 h5 h6 h7 f6 f5 f4 f3 f2 f1
  have w1 : F1 8 x < 18446744073709551616 := by
    unfold F1
    rw [rep_85]
    have q1 := Nat.and_le_right (n := x / 2) (m := 6148914691236517205)
    have q2 := Nat.and_le_right (n := x) (m := 6148914691236517205)
    omega
  have e1 : F1 8 x = (x / 2 &&& 6148914691236517205) + (x &&& 6148914691236517205) := by unfold F1; rw [rep_85]
  have w2 : F2 8 (F1 8 x) ≤ 7378697629483820646 := by
    unfold F2
    rw [rep_51]
    have q1 := Nat.and_le_right (n := F1 8 x / 4) (m := 3689348814741910323)
    have q2 := Nat.and_le_right (n := F1 8 x) (m := 3689348814741910323)
    omega
  have e2 : F2 8 (F1 8 x) = (F1 8 x / 4 &&& 3689348814741910323) + (F1 8 x &&& 3689348814741910323) := by unfold F2; rw [rep_51]
  have e3 : F3 8 (F2 8 (F1 8 x)) = (F2 8 (F1 8 x) / 16 + F2 8 (F1 8 x)) &&& 1085102592571150095 := by unfold F3; rw [rep_15]
  generalize F3 8 (F2 8 (F1 8 x)) = y at *
  generalize F2 8 (F1 8 x) = z at *
  generalize F1 8 x = t at *
  have b1 := Go.bits_and_u64_nat (x / 2) 6148914691236517205 (by omega) (by omega)
  have b2 := Go.bits_and_u64_nat x 6148914691236517205 (by omega) (by omega)
  have b3 := Go.bits_and_u64_nat (t / 4) 3689348814741910323 (by omega) (by omega)
  have b4 := Go.bits_and_u64_nat t 3689348814741910323 (by omega) (by omega)
  have b5 := Go.bits_and_u64_nat (z / 16 + z) 1085102592571150095 (by omega) (by omega)
  rw [← e3] at b5
  generalize (x / 2 &&& 6148914691236517205) = c1 at *
  generalize (x &&& 6148914691236517205) = c2 at *
  generalize (t / 4 &&& 3689348814741910323) = c3 at *
  generalize (t &&& 3689348814741910323) = c4 at *
  clear e3
  refine ones_l (d2 rfl) b1 b2 (wrap_nat e1.symm w1) (d4 rfl) b3 b4 (wrap_nat e2.symm (by omega)) (d16 rfl) (wrap_nat rfl (by omega)) b5 (d256 s1) (wrap_nat rfl s2) (d65536 s3) (wrap_nat rfl s4) (d32 s5) (wrap_nat rfl s6) rfl ?_
  rw [ep, Go.i64_and127, IntKind.wrap_i64]
  exact m128 s7
theorem pop_n {n A : Nat} (hA : A < 2 ^ n) (hn : n ≤ 64) : pop 64 A = pop n A := by
  rw [show 64 = n + (64 - n) by omega, pop_add, Nat.div_eq_of_lt hA]
  have : ∀ m, pop m 0 = 0 := fun m => (pop_zero m 0).2 (Nat.zero_mod _)
  rw [this, Nat.add_zero]
theorem pop_any {w H M : Int} {n : Nat} (k : Wm w n H M) {A : Nat} {a : Int} (ha : a % M = (A : Int)) (hr : Rg a) : Ct 145 #[.int .i64 w, .int .u64 a] (.int .u64 (pop n A : Nat)) := by
  obtain ⟨-, k2, -, -, k5, -, k7⟩ := k.two
  have hA : A < 2 ^ n := by have := (k.cut a).2; omega
  have hc := cut_K k hr
  rw [ha] at hc
  have ho := ones_any (x := A) (by omega)
  rw [pop_n hA k5] at ho
  have hp := pop_le n A
  exact pop_m hc ho (by rw [IntKind.wrap_u64]; omega)
theorem pop_no {w : Int} (k : No w) {a : Int} (hr : Rg a) : Ct 145 #[.int .i64 w, .int .u64 a] (.int .u64 0) := by
  have ho := ones_any (x := 0) (by omega)
  rw [show pop 64 0 = 0 from (pop_zero 64 0).2 rfl] at ho
  exact pop_m (cut_N k hr) ho (by decide)
end Go.Proofs.YtpbgpdmffejdgaaGreatDoor
