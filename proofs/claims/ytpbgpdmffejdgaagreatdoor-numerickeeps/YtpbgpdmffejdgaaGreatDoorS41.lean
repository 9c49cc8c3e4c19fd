/- InK, NuF, LawS, InD, InF, LawK0, LawK1, LawK2, InL, InH, InX. -/
import Derived.Test.YtpbgpdmffejdgaaGreatDoorS01
import Derived.Test.YtpbgpdmffejdgaaGreatDoorS05
import Derived.Test.YtpbgpdmffejdgaaGreatDoorS13
import Derived.Test.YtpbgpdmffejdgaaGreatDoorS16
import Derived.Test.YtpbgpdmffejdgaaGreatDoorS22
import Derived.Test.YtpbgpdmffejdgaaGreatDoorS32
import Derived.Test.YtpbgpdmffejdgaaGreatDoorS35
import Derived.Test.YtpbgpdmffejdgaaGreatDoorS38
import Derived.Test.YtpbgpdmffejdgaaGreatDoorS39
import Derived.Laws.Bits128
import Derived.Laws.BitsAllLaws
import Derived.Laws.Bits64b
namespace Go.Proofs.YtpbgpdmffejdgaaGreatDoor
open Go.RowKit

/-- A width, its number of bits, half of its room and the whole. -/
def Wm (w : Int) (n : Nat) (H M : Int) : Prop := (w = 32 ∧ n = 32 ∧ H = 2147483648 ∧ M = 4294967296) ∨ (w = 64 ∧ n = 64 ∧ H = 9223372036854775808 ∧ M = 18446744073709551616)
def No (w : Int) : Prop := ¬ w = 32 ∧ ¬ w = 64
theorem Wm.kd {w H M : Int} {n : Nat} (k : Wm w n H M) : ∃ e f P Q b, Kd w e f P Q b ∧ P * Q = H := by
  rcases k with ⟨rfl, -, rfl, -⟩ | ⟨rfl, -, rfl, -⟩
  · exact ⟨_, _, _, _, _, Or.inl ⟨rfl, rfl, rfl, rfl, rfl, rfl⟩, rfl⟩
  · exact ⟨_, _, _, _, _, Or.inr ⟨rfl, rfl, rfl, rfl, rfl, rfl⟩, rfl⟩
theorem Wm.two {w H M : Int} {n : Nat} (k : Wm w n H M) : M = 2 * H ∧ M = ((2 ^ n : Nat) : Int) ∧ w = (n : Int) ∧ 32 ≤ n ∧ n ≤ 64 ∧ 0 < M ∧ M ≤ 18446744073709551616 := by
  rcases k with ⟨rfl, rfl, rfl, rfl⟩ | ⟨rfl, rfl, rfl, rfl⟩ <;> decide +kernel
theorem Wm.half {w H M : Int} {n : Nat} (k : Wm w n H M) : H = ((2 ^ (n - 1) : Nat) : Int) := by
  rcases k with ⟨rfl, rfl, rfl, rfl⟩ | ⟨rfl, rfl, rfl, rfl⟩ <;> decide +kernel
theorem No.wd {w : Int} (h : No w) : Wd w 0 0 1 1 (-1) := Or.inr (Or.inr ⟨h, rfl, rfl, rfl, rfl, rfl⟩)
theorem Wm.cut {w H M : Int} {n : Nat} (k : Wm w n H M) (a : Int) : 0 ≤ a % M ∧ a % M < M := ⟨Int.emod_nonneg _ (by have := k.two; omega), Int.emod_lt_of_pos _ k.two.2.2.2.2.2.1⟩
def Rg (a : Int) : Prop := 0 ≤ a ∧ a < 18446744073709551616
theorem Wm.rg {w H M : Int} {n : Nat} (k : Wm w n H M) (a : Int) : Rg (a % M) := ⟨(k.cut a).1, Int.lt_of_lt_of_le (k.cut a).2 k.two.2.2.2.2.2.2⟩
theorem rg_nat {w H M : Int} {n A : Nat} (k : Wm w n H M) (h : A < 2 ^ n) : Rg (A : Int) := by
  have := k.two
  unfold Rg
  omega
theorem cut_K {w H M : Int} {n : Nat} (k : Wm w n H M) {a : Int} (ha : Rg a) : Ct 17 #[.int .i64 w, .int .u64 a] (.int .u64 (a % M)) := by
  obtain ⟨e, f, P, Q, b, kd, hH⟩ := k.kd
  have h := fun W => cut_any a kd.wd W ha.1 ha.2
  rw [show cutN f P Q a = a % M by unfold cutN; rw [if_neg kd.f0, hH, k.two.1]] at h
  exact hide h
theorem ct_eq {f : Nat} {ar : Array Value} {v v' : Int} (h : Ct f ar (.int .u64 v)) (e : v = v') : Ct f ar (.int .u64 v') := e ▸ h
theorem addI_any {w H M : Int} {n : Nat} (k : Wm w n H M) (a b : Int) : Ct 146 #[.int .i64 w, .int .u64 a, .int .u64 b] (.int .u64 ((a + b) % M)) := by
  rcases k with ⟨rfl, rfl, rfl, rfl⟩ | ⟨rfl, rfl, rfl, rfl⟩
  · exact ct_eq (add_m (sum32_r (IntKind.wrap_u32 a) (IntKind.wrap_u32 b) sum32_l)) (by omega)
  · exact ct_eq (add_m (sum64_r sum64_l)) (IntKind.wrap_u64 _)
theorem subI_any {w H M : Int} {n : Nat} (k : Wm w n H M) (a b : Int) : Ct 147 #[.int .i64 w, .int .u64 a, .int .u64 b] (.int .u64 ((a - b) % M)) := by
  rcases k with ⟨rfl, rfl, rfl, rfl⟩ | ⟨rfl, rfl, rfl, rfl⟩
  · exact ct_eq (sub_m (dif32_r (IntKind.wrap_u32 a) (IntKind.wrap_u32 b) dif32_l)) (by omega)
  · exact ct_eq (sub_m (dif64_r dif64_l)) (IntKind.wrap_u64 _)
theorem mulI_any {w H M : Int} {n : Nat} (k : Wm w n H M) (a b : Int) : Ct 148 #[.int .i64 w, .int .u64 a, .int .u64 b] (.int .u64 ((a * b) % M)) := by
  rcases k with ⟨rfl, rfl, rfl, rfl⟩ | ⟨rfl, rfl, rfl, rfl⟩
  · exact ct_eq (mul_m (pro32_r (IntKind.wrap_u32 a) (IntKind.wrap_u32 b) pro32_l)) ((Int.mul_emod a b _).symm)
  · exact ct_eq (mul_m (pro64_r pro64_l)) (IntKind.wrap_u64 _)
theorem shifts_any {w H M : Int} {n : Nat} (k : Wm w n H M) {b : Int} (hb : Rg b) : Ct 213 #[.int .i64 w, .int .u64 b] (.int .u64 (b % w)) := by
  rcases k with ⟨rfl, rfl, rfl, rfl⟩ | ⟨rfl, rfl, rfl, rfl⟩
  · exact shifts_l (j := 31) (k := 31) (by decide) (by decide) (and_mask 5 b 31 hb.1 hb.2 (by decide) (by omega))
  · exact shifts_l (j := 63) (k := 63) (by decide) (by decide) (and_mask 6 b 63 hb.1 hb.2 (by decide) (by omega))
theorem mul_cut (a X M : Int) : a * X % M = a % M * X % M := by rw [Int.mul_emod a X, Int.mul_emod (a % M) X, Int.emod_emod]
theorem two_cast (s : Nat) : (2 : Int) ^ s = ((2 ^ s : Nat) : Int) := by rw [Int.natCast_pow]; rfl
theorem shl_any {w H M : Int} {n : Nat} (k : Wm w n H M) {A s : Nat} {a b : Int} (ha : a % M = (A : Int)) (hs : b % w = (s : Int)) (hb : Rg b) : Ct 138 #[.int .i64 w, .int .u64 a, .int .u64 b] (.int .u64 (shlI A n s : Nat)) := by
  have S := shifts_any k hb
  rw [hs] at S
  rcases k with ⟨rfl, rfl, rfl, rfl⟩ | ⟨rfl, rfl, rfl, rfl⟩
  · refine ct_eq (shl_m S (lef32_r (IntKind.wrap_u32 a) (b := (s : Int)) (B := (s : Int)) (by rw [IntKind.wrap_u32]; omega) (lef32_l (by omega) (by omega)))) ?_
    rw [ha, Int.toNat_natCast, two_cast, ← Int.natCast_mul]
    rfl
  · refine ct_eq (shl_m S (lef64_r (b := (s : Int)) (lef64_l (by omega) (by omega)))) ?_
    rw [IntKind.wrap_u64, Int.toNat_natCast, mul_cut, ha, two_cast, ← Int.natCast_mul]
    rfl
theorem shr_any {w H M : Int} {n : Nat} (k : Wm w n H M) {A s : Nat} {a b : Int} (ha : a % M = (A : Int)) (hs : b % w = (s : Int)) (hb : Rg b) (hr : Rg a) : Ct 140 #[.int .i64 w, .int .u64 a, .int .u64 b] (.int .u64 (shrI A s : Nat)) := by
  have S := shifts_any k hb
  rw [hs] at S
  rcases k with ⟨rfl, rfl, rfl, rfl⟩ | ⟨rfl, rfl, rfl, rfl⟩
  · refine ct_eq (shr_m S (rig32_r (IntKind.wrap_u32 a) (b := (s : Int)) (B := (s : Int)) (by rw [IntKind.wrap_u32]; omega) (rig32_l (by omega) (by omega)))) ?_
    rw [ha, Int.toNat_natCast, two_cast, ← Int.natCast_ediv, IntKind.wrap_u64]
    have := Nat.div_le_self A (2 ^ s)
    unfold shrI
    generalize A / 2 ^ s = u at *
    omega
  · refine ct_eq (shr_m S (rig64_r (b := (s : Int)) (rig64_l (by omega) (by omega)))) ?_
    rw [show a = (A : Int) by unfold Rg at hr; omega, Int.toNat_natCast, two_cast, ← Int.natCast_ediv]
    rfl
/-- Read with its sign. -/
def sgv (H M a : Int) : Int := (a + H) % M - H
theorem sgv_A {w H M : Int} {n : Nat} (k : Wm w n H M) {a : Int} {A : Nat} (ha : a % M = (A : Int)) : sgv H M a = if A < 2 ^ (n - 1) then (A : Int) else (A : Int) - M := by
  unfold sgv
  rcases k with ⟨rfl, rfl, rfl, rfl⟩ | ⟨rfl, rfl, rfl, rfl⟩ <;> split <;> omega
theorem div_step {A p : Int} (M : Int) (q : Int) (hM : M = p * q) (hp : 0 < p) : (A - M) / p = A / p - q := by
  rw [hM, Int.sub_eq_add_neg, show -(p * q) = p * -q by rw [Int.mul_neg], Int.add_mul_ediv_left _ _ (by omega)]
  omega
theorem sar_val {w H M : Int} {n : Nat} (k : Wm w n H M) {a : Int} {A s : Nat} (ha : a % M = (A : Int)) (hs : s < n) : (sgv H M a / ((2 ^ s : Nat) : Int)) % M = (sarN A n s : Nat) := by
  obtain ⟨-, k2, -⟩ := k.two
  have hA : A < 2 ^ n := by have := (k.cut a).2; omega
  rw [sgv_A k ha]
  unfold sarN
  have hd : A / 2 ^ s ≤ A := Nat.div_le_self _ _
  split
  · rw [← Int.natCast_ediv, k2, ← Int.natCast_emod, Nat.mod_eq_of_lt (by omega)]
  · have e : (2 : Nat) ^ n = 2 ^ s * 2 ^ (n - s) := by rw [← Nat.pow_add]; congr 1; omega
    have h1 : A / 2 ^ s < 2 ^ (n - s) := Nat.div_lt_of_lt_mul (by rw [← e]; exact hA)
    have h2 : 2 ^ (n - s) ≤ 2 ^ n := Nat.pow_le_pow_right (by omega) (by omega)
    rw [div_step M ((2 ^ (n - s) : Nat) : Int) (by rw [k2, e, Int.natCast_mul]) (by have := Nat.two_pow_pos s; omega), ← Int.natCast_ediv, k2]
    generalize A / 2 ^ s = u at *
    generalize 2 ^ (n - s) = v at *
    generalize 2 ^ n = m at *
    rw [← Int.add_emod_right]
    rw [show (u : Int) - (v : Int) + (m : Int) = ((u + (m - v) : Nat) : Int) by omega, ← Int.natCast_emod, Nat.mod_eq_of_lt (by omega)]
theorem sar_any {w H M : Int} {n : Nat} (k : Wm w n H M) {A s : Nat} {a b : Int} (ha : a % M = (A : Int)) (hs : b % w = (s : Int)) (hb : Rg b) : Ct 139 #[.int .i64 w, .int .u64 a, .int .u64 b] (.int .u64 (sarN A n s : Nat)) := by
  have S := shifts_any k hb
  rw [hs] at S
  have hsn : s < n := by
    have := k.two
    have := Int.emod_lt_of_pos b (show 0 < w by omega)
    omega
  have v := sar_val k ha hsn
  have k' := k
  rcases k with ⟨rfl, rfl, rfl, rfl⟩ | ⟨rfl, rfl, rfl, rfl⟩
  · refine ct_eq (sar_m S (sar32_r (IntKind.wrap_i32 a) (b := (s : Int)) (B := (s : Int)) (by rw [IntKind.wrap_i32]; omega) (sar32_l (by omega) (by omega))) (cut_K k' ⟨?_, ?_⟩)) ?_
    · rw [IntKind.wrap_u64]; omega
    · rw [IntKind.wrap_u64]; omega
    · rw [Int.toNat_natCast, two_cast, IntKind.wrap_u64, Int.emod_emod_of_dvd _ (by decide)]
      exact v
  · refine ct_eq (sar_m S (sar64_r (IntKind.wrap_i64 a) (b := (s : Int)) (B := (s : Int)) (by rw [IntKind.wrap_i64]; omega) (sar64_l (by omega) (by omega))) (cut_K k' ⟨?_, ?_⟩)) ?_
    · rw [IntKind.wrap_u64]; omega
    · rw [IntKind.wrap_u64]; omega
    · rw [Int.toNat_natCast, two_cast, IntKind.wrap_u64, Int.emod_emod_of_dvd _ (by decide)]
      exact v
theorem negi_mod {w H M : Int} {n : Nat} (k : Wm w n H M) {b : Int} {s : Nat} (hs : b % w = (s : Int)) : IntKind.u64.wrap (-b) % w = (((n - s) % n : Nat) : Int) ∧ Rg (IntKind.u64.wrap (-b)) := by
  rw [IntKind.wrap_u64]
  unfold Rg
  rcases k with ⟨rfl, rfl, rfl, rfl⟩ | ⟨rfl, rfl, rfl, rfl⟩ <;> omega
theorem rotl_any {w H M : Int} {n : Nat} (k : Wm w n H M) {A s : Nat} {a b : Int} (ha : a % M = (A : Int)) (hs : b % w = (s : Int)) (hb : Rg b) (hr : Rg a) : Ct 141 #[.int .i64 w, .int .u64 a, .int .u64 b] (.int .u64 (rotN A n s : Nat)) := by
  obtain ⟨-, k2, -, -, k5, -⟩ := k.two
  have hA : A < 2 ^ n := by have := (k.cut a).2; omega
  have h64 : (2 : Nat) ^ n ≤ 18446744073709551616 := Nat.pow_le_pow_right (show 0 < 2 by omega) k5
  obtain ⟨n1, n2⟩ := negi_mod k hs
  refine rotl_m (shl_any k ha hs hb) rfl (shr_any k ha n1 n2 hr) ?_
  have q1 := shl_lt A n s
  have q2 := shr_lt ((n - s) % n) hA
  exact Go.u64_or_nat _ _ (by omega) (by omega)
theorem rotr_any {w H M : Int} {n : Nat} (k : Wm w n H M) {A s : Nat} {a b : Int} (ha : a % M = (A : Int)) (hs : b % w = (s : Int)) (hr : Rg a) : Ct 142 #[.int .i64 w, .int .u64 a, .int .u64 b] (.int .u64 (rotN A n ((n - s) % n) : Nat)) := by
  obtain ⟨n1, n2⟩ := negi_mod k hs
  exact rotr_m rfl (rotl_any k ha n1 n2 hr)
theorem wrap_nat {a b c : Nat} (h : a + b = c) (hc : c < 18446744073709551616) : IntKind.u64.wrap ((a : Int) + (b : Int)) = (c : Int) := by rw [IntKind.wrap_u64]; omega
theorem d2 {y q : Nat} (h : y / 2 = q) : (y : Int) / 2 = q := by omega
theorem d4 {y q : Nat} (h : y / 4 = q) : (y : Int) / 4 = q := by omega
theorem d16 {y q : Nat} (h : y / 16 = q) : (y : Int) / 16 = q := by omega
theorem d256 {y q : Nat} (h : y / 256 = q) : (y : Int) / 256 = q := by omega
theorem d65536 {y q : Nat} (h : y / 65536 = q) : (y : Int) / 65536 = q := by omega
theorem d32 {y q : Nat} (h : y / 4294967296 = q) : (y : Int) / 4294967296 = q := by omega
theorem m128 {y q : Nat} (h : y % 128 = q) : (((y : Int) + 9223372036854775808) % 18446744073709551616 - 9223372036854775808) % 128 = (q : Int) := by omega
set_option maxHeartbeats 1000000 in
theorem ones_any {x : Nat} (hx : x < 18446744073709551616) : Ct 224 #[.int .u64 (x : Int)] (.int .i64 (pop 64 x : Nat)) := by
  obtain ⟨y1, y2, y3, y4, y5, y6, p0, p1, p2, p3, p4, p5, p6, p7, h0, h1, h2, h3, h4, h5, h6, h7, f6, f5, f4, f3, f2, f1, f0, ep⟩ := ones_eq x
  obtain ⟨s1, s2, s3, s4, s5, s6, s7⟩ := sum_steps h0 h1 h2 h3 h4 h5 h6 h7 f6 f5 f4 f3 f2 f1 rfl
  rw [← f0] at s1 s2 s3 s4 s5 s6 s7
  clear h0 h1 h2 h3 h4 h5 h6 h7 f6 f5 f4 f3 f2 f1
  have w1 : F1 8 x < 18446744073709551616 := by
    unfold F1
    rw [rep_85]
    have q1 := Nat.and_le_right (n := x / 2) (m := 6148914691236517205)
    have q2 := Nat.and_le_right (n := x) (m := 6148914691236517205)
    omega
  have e1 : F1 8 x = (x / 2 &&& 6148914691236517205) + (x &&& 6148914691236517205) := by unfold F1; rw [rep_85]
  have w2 : F2 8 (F1 8 x) ≤ 7378697629483820646 := by
    unfold F2
    rw [rep_51]
    have q1 := Nat.and_le_right (n := F1 8 x / 4) (m := 3689348814741910323)
    have q2 := Nat.and_le_right (n := F1 8 x) (m := 3689348814741910323)
    omega
  have e2 : F2 8 (F1 8 x) = (F1 8 x / 4 &&& 3689348814741910323) + (F1 8 x &&& 3689348814741910323) := by unfold F2; rw [rep_51]
  have e3 : F3 8 (F2 8 (F1 8 x)) = (F2 8 (F1 8 x) / 16 + F2 8 (F1 8 x)) &&& 1085102592571150095 := by unfold F3; rw [rep_15]
  generalize F3 8 (F2 8 (F1 8 x)) = y at *
  generalize F2 8 (F1 8 x) = z at *
  generalize F1 8 x = t at *
  have b1 := Go.bits_and_u64_nat (x / 2) 6148914691236517205 (by omega) (by omega)
  have b2 := Go.bits_and_u64_nat x 6148914691236517205 (by omega) (by omega)
  have b3 := Go.bits_and_u64_nat (t / 4) 3689348814741910323 (by omega) (by omega)
  have b4 := Go.bits_and_u64_nat t 3689348814741910323 (by omega) (by omega)
  have b5 := Go.bits_and_u64_nat (z / 16 + z) 1085102592571150095 (by omega) (by omega)
  rw [← e3] at b5
  generalize (x / 2 &&& 6148914691236517205) = c1 at *
  generalize (x &&& 6148914691236517205) = c2 at *
  generalize (t / 4 &&& 3689348814741910323) = c3 at *
  generalize (t &&& 3689348814741910323) = c4 at *
  clear e3
  refine ones_l (d2 rfl) b1 b2 (wrap_nat e1.symm w1) (d4 rfl) b3 b4 (wrap_nat e2.symm (by omega)) (d16 rfl) (wrap_nat rfl (by omega)) b5 (d256 s1) (wrap_nat rfl s2) (d65536 s3) (wrap_nat rfl s4) (d32 s5) (wrap_nat rfl s6) rfl ?_
  rw [ep, Go.i64_and127, IntKind.wrap_i64]
  exact m128 s7
theorem pop_n {n A : Nat} (hA : A < 2 ^ n) (hn : n ≤ 64) : pop 64 A = pop n A := by
  rw [show 64 = n + (64 - n) by omega, pop_add, Nat.div_eq_of_lt hA]
  have : ∀ m, pop m 0 = 0 := fun m => (pop_zero m 0).2 (Nat.zero_mod _)
  rw [this, Nat.add_zero]
theorem pop_any {w H M : Int} {n : Nat} (k : Wm w n H M) {A : Nat} {a : Int} (ha : a % M = (A : Int)) (hr : Rg a) : Ct 145 #[.int .i64 w, .int .u64 a] (.int .u64 (pop n A : Nat)) := by
  obtain ⟨-, k2, -, -, k5, -, k7⟩ := k.two
  have hA : A < 2 ^ n := by have := (k.cut a).2; omega
  have hc := cut_K k hr
  rw [ha] at hc
  have ho := ones_any (x := A) (by omega)
  rw [pop_n hA k5] at ho
  have hp := pop_le n A
  exact pop_m hc ho (by rw [IntKind.wrap_u64]; omega)
end Go.Proofs.YtpbgpdmffejdgaaGreatDoor
namespace Go.Proofs.YtpbgpdmffejdgaaGreatDoor
open Go.RowKit

/-- What Apply answers. -/
def Ap (op a b r t : Int) : Prop := Cm 13 #[.int .i64 op, .int .u64 a, .int .u64 b] (.tuple #[.int .u64 r, .int .i64 t])
theorem wm_32 : Wm 32 32 2147483648 4294967296 := Or.inl ⟨rfl, rfl, rfl, rfl⟩
theorem wm_64 : Wm 64 64 9223372036854775808 18446744073709551616 := Or.inr ⟨rfl, rfl, rfl, rfl⟩
theorem wid {t w : Int} (h : t = 127 ∨ t = 126 ∨ t = 125 ∨ t = 124) (e : wdT t = w) : Ct 33 #[.int .u8 t] (.int .i64 w) := e ▸ width_l h
theorem ap_aski {op k w a b : Int} {n : Nat} {H M : Int} {so : Bool} (kw : Wm w n H M) (ha : Rg a) (hb : Rg b) (h : op - 69 = k ∧ w = 32 ∨ op - 80 = k ∧ w = 64) (k0 : 0 ≤ k) (k1 : k < 11) (HQ : Cm 35 #[.int .i64 k, .int .i64 w, .int .u64 (a % M), .int .u64 (b % M)] (.bool so)) : Ap op a b (if so then 1 else 0) 0 := by
  rcases h with ⟨h, rfl⟩ | ⟨h, rfl⟩
  · have HF := find_0 (op := op) (by omega) (by omega)
    rw [h] at HF
    exact app_w HF (types_0 _ _ _ _).m (wid (w := 32) (by decide) rfl) (wid (w := 32) (by decide) rfl) (cut_K kw ha) (cut_K kw hb) (Or.inl ⟨rfl, rfl, so, HQ, truth_l so⟩)
  · have HF := find_1 (op := op) (by omega) (by omega)
    rw [h] at HF
    exact app_w HF (types_0 _ _ _ _).m (wid (w := 64) (by decide) rfl) (wid (w := 32) (by decide) rfl) (cut_K kw ha) (cut_K kw hb) (Or.inl ⟨rfl, rfl, so, HQ, truth_l so⟩)
theorem ap_askf {op k w a b : Int} {n : Nat} {H M : Int} {so : Bool} (kw : Wm w n H M) (ha : Rg a) (hb : Rg b) (h : op - 91 = k ∧ w = 32 ∨ op - 97 = k ∧ w = 64) (k0 : 0 ≤ k) (k1 : k < 6) (HQ : Cm 36 #[.int .i64 k, .int .i64 w, .int .u64 (a % M), .int .u64 (b % M)] (.bool so)) : Ap op a b (if so then 1 else 0) 0 := by
  rcases h with ⟨h, rfl⟩ | ⟨h, rfl⟩
  · have HF := find_2 (op := op) (by omega) (by omega)
    rw [h] at HF
    exact app_w HF (types_1 _ _ _ _).m (wid (w := 32) (by decide) rfl) (wid (w := 32) (by decide) rfl) (cut_K kw ha) (cut_K kw hb) (Or.inr (Or.inl ⟨rfl, rfl, so, HQ, truth_l so⟩))
  · have HF := find_3 (op := op) (by omega) (by omega)
    rw [h] at HF
    exact app_w HF (types_1 _ _ _ _).m (wid (w := 64) (by decide) rfl) (wid (w := 32) (by decide) rfl) (cut_K kw ha) (cut_K kw hb) (Or.inr (Or.inl ⟨rfl, rfl, so, HQ, truth_l so⟩))
theorem ap_makei {op k w a b : Int} {n : Nat} {H M : Int} {r t : Int} (kw : Wm w n H M) (ha : Rg a) (hb : Rg b) (h : op - 103 = k ∧ w = 32 ∨ op - 121 = k ∧ w = 64) (k0 : 0 ≤ k) (k1 : k < 18) (HQ : Cm 37 #[.int .i64 k, .int .i64 w, .int .u64 (a % M), .int .u64 (b % M)] (.tuple #[.int .u64 r, .int .i64 t])) : Ap op a b r t := by
  rcases h with ⟨h, rfl⟩ | ⟨h, rfl⟩
  · have HF := find_4 (op := op) (by omega) (by omega)
    rw [h] at HF
    exact app_w HF (types_2 _ _ _ _).m (wid (w := 32) (by decide) rfl) (wid (w := 32) (by decide) rfl) (cut_K kw ha) (cut_K kw hb) (Or.inr (Or.inr (Or.inl ⟨rfl, HQ⟩)))
  · have HF := find_5 (op := op) (by omega) (by omega)
    rw [h] at HF
    exact app_w HF (types_2 _ _ _ _).m (wid (w := 64) (by decide) rfl) (wid (w := 64) (by decide) rfl) (cut_K kw ha) (cut_K kw hb) (Or.inr (Or.inr (Or.inl ⟨rfl, HQ⟩)))
theorem ap_makef {op k w a b : Int} {n : Nat} {H M : Int} {r : Int} (kw : Wm w n H M) (ha : Rg a) (hb : Rg b) (h : op - 139 = k ∧ w = 32 ∨ op - 153 = k ∧ w = 64) (k0 : 0 ≤ k) (k1 : k < 14) (HQ : Cm 38 #[.int .i64 k, .int .i64 w, .int .u64 (a % M), .int .u64 (b % M)] (.int .u64 r)) : Ap op a b r 0 := by
  rcases h with ⟨h, rfl⟩ | ⟨h, rfl⟩
  · have HF := find_6 (op := op) (by omega) (by omega)
    rw [h] at HF
    exact app_w HF (types_3 _ _ _ _).m (wid (w := 32) (by decide) rfl) (wid (w := 32) (by decide) rfl) (cut_K kw ha) (cut_K kw hb) (Or.inr (Or.inr (Or.inr (Or.inl ⟨rfl, rfl, HQ⟩))))
  · have HF := find_7 (op := op) (by omega) (by omega)
    rw [h] at HF
    exact app_w HF (types_3 _ _ _ _).m (wid (w := 64) (by decide) rfl) (wid (w := 64) (by decide) rfl) (cut_K kw ha) (cut_K kw hb) (Or.inr (Or.inr (Or.inr (Or.inl ⟨rfl, rfl, HQ⟩))))
theorem ap_chg {op w v a b ti tu r t : Int} {k n : Nat} {H M : Int} (hx : cL[k * 2]? = some (.int .u8 ti)) (hy : cL[k * 2 + 1]? = some (.int .u8 tu)) (h1 : ti = 127 ∨ ti = 126 ∨ ti = 125 ∨ ti = 124) (h2 : tu = 127 ∨ tu = 126 ∨ tu = 125 ∨ tu = 124) (hw : wdT ti = w) (hv : wdT tu = v) (kw : Wm w n H M) (ha : Rg a) (hb : Rg b) (h : op - 167 = (k : Int)) (hk : k < 25) (HQ : Cm 39 #[.int .i64 (k : Int), .int .i64 w, .int .i64 v, .int .u64 (a % M)] (.tuple #[.int .u64 r, .int .i64 t])) : Ap op a b r t := by
  have HF := find_8 (op := op) (by omega) (by omega)
  rw [h] at HF
  exact app_w HF (types_4 _ _ _ hk hx hy) (wid h1 hw) (wid h2 hv) (cut_K kw ha) (cut_K kw hb) (Or.inr (Or.inr (Or.inr (Or.inr (Or.inl ⟨rfl, HQ⟩)))))
theorem ap_stop {op w v a b ti tu r t : Int} {k n : Nat} {H M : Int} (hx : sL[k * 2]? = some (.int .u8 ti)) (hy : sL[k * 2 + 1]? = some (.int .u8 tu)) (h1 : ti = 127 ∨ ti = 126 ∨ ti = 125 ∨ ti = 124) (h2 : tu = 127 ∨ tu = 126 ∨ tu = 125 ∨ tu = 124) (hw : wdT ti = w) (hv : wdT tu = v) (kw : Wm w n H M) (ha : Rg a) (hb : Rg b) (h : op - 64512 = (k : Int)) (hk : k < 8) (ht : t = 0) (HQ : Cm 40 #[.int .i64 (k : Int), .int .i64 w, .int .i64 v, .int .u64 (a % M)] (.int .u64 r)) : Ap op a b r t := by
  have HF := find_9 (op := op) (by omega) (by omega)
  rw [h] at HF
  exact app_w HF (types_5 _ _ _ hk hx hy) (wid h1 hw) (wid h2 hv) (cut_K kw ha) (cut_K kw hb) (Or.inr (Or.inr (Or.inr (Or.inr (Or.inr ⟨rfl, ht, HQ⟩)))))
theorem find_none {op : Int} (h : op < 69 ∨ (192 ≤ op ∧ op < 64512) ∨ (64520 ≤ op ∧ op ≤ 9223372036854775807)) : Cm 24 #[.int .i64 op] (.tuple #[.agg #[.int .i64 0, .int .i64 0, .int .i64 0, .int .u8 0], .int .i64 0, .bool false]) := by
  rcases h with h | ⟨h, h'⟩ | ⟨h, h'⟩
  · exact find_lo h
  · exact find_mi h h'
  · exact find_hi h h'
theorem ap_none {op a b : Int} (h : op < 69 ∨ (192 ≤ op ∧ op < 64512) ∨ (64520 ≤ op ∧ op ≤ 9223372036854775807)) : Ap op a b 0 0 := app_no (find_none h)
end Go.Proofs.YtpbgpdmffejdgaaGreatDoor
namespace Go.Proofs.YtpbgpdmffejdgaaGreatDoor
open Go.RowKit

set_option maxHeartbeats 4000000 in
set_option maxRecDepth 100000 in
theorem swaps_y {op a b r t : Int} (HA : Cm 9 #[] (.bool true)) (H1 : Ap op a b r t) (H2 : Ap op b a r t) (h : op = 70 ∨ op = 71 ∨ op = 81 ∨ op = 82 ∨ op = 91 ∨ op = 92 ∨ op = 97 ∨ op = 98 ∨ op = 106 ∨ op = 108 ∨ op = 113 ∨ op = 114 ∨ op = 115 ∨ op = 124 ∨ op = 126 ∨ op = 131 ∨ op = 132 ∨ op = 133 ∨ op = 146 ∨ op = 148 ∨ op = 150 ∨ op = 151 ∨ op = 160 ∨ op = 162 ∨ op = 164 ∨ op = 165) : Cm 6 #[.int .i64 op, .int .u64 a, .int .u64 b] (.bool true) := by
  refine hide (fun W m => ?_)
  have HM := hide m
  clear m
  have HB := hide (Below.refl W.heap.size W)
  go_enter Tryz.func6, Tryz.ntmps6
  go_wp2_with fail
  refine (unhide HA _ (unhide HM)).mono ?_
  rintro _ w1 ⟨rfl, hb⟩
  have HB := hide (bthen (unhide HB) hb)
  have HM := hide ((unhide HM).below hb)
  clear hb
  skip
  have HZ := HB
  have HN := HM
  rcases h with rfl | rfl | rfl | rfl | rfl | rfl | rfl | rfl | rfl | rfl | rfl | rfl | rfl | rfl | rfl | rfl | rfl | rfl | rfl | rfl | rfl | rfl | rfl | rfl | rfl | rfl
  all_goals
    go_wp2_with fail
    refine (unhide H1 _ (unhide HN)).mono ?_
    rintro _ w2 ⟨rfl, hb⟩
    have HB := hide (bthen (unhide HZ) hb)
    have HM := hide ((unhide HN).below hb)
    clear hb
    go_wp2_with fail
    refine (unhide H2 _ (unhide HM)).mono ?_
    rintro _ w3 ⟨rfl, hb⟩
    have HB := hide (bthen (unhide HB) hb)
    clear hb
    go_wp2_with fail
    go_ret
    exact ⟨by simp, unhide HB⟩
set_option maxHeartbeats 4000000 in
set_option maxRecDepth 100000 in
theorem swaps_n {op a b : Int} (HA : Cm 9 #[] (.bool true)) (n70 : ¬ op = 70) (n71 : ¬ op = 71) (n81 : ¬ op = 81) (n82 : ¬ op = 82) (n91 : ¬ op = 91) (n92 : ¬ op = 92) (n97 : ¬ op = 97) (n98 : ¬ op = 98) (n106 : ¬ op = 106) (n108 : ¬ op = 108) (n113 : ¬ op = 113) (n114 : ¬ op = 114) (n115 : ¬ op = 115) (n124 : ¬ op = 124) (n126 : ¬ op = 126) (n131 : ¬ op = 131) (n132 : ¬ op = 132) (n133 : ¬ op = 133) (n146 : ¬ op = 146) (n148 : ¬ op = 148) (n150 : ¬ op = 150) (n151 : ¬ op = 151) (n160 : ¬ op = 160) (n162 : ¬ op = 162) (n164 : ¬ op = 164) (n165 : ¬ op = 165) : Cm 6 #[.int .i64 op, .int .u64 a, .int .u64 b] (.bool true) := by
  refine hide (fun W m => ?_)
  have HM := hide m
  clear m
  have HB := hide (Below.refl W.heap.size W)
  go_enter Tryz.func6, Tryz.ntmps6
  go_wp2_with fail
  refine (unhide HA _ (unhide HM)).mono ?_
  rintro _ w1 ⟨rfl, hb⟩
  have HB := hide (bthen (unhide HB) hb)
  have HM := hide ((unhide HM).below hb)
  clear hb
  go_wp2_with fail
  go_ret
  exact ⟨rfl, unhide HB⟩
end Go.Proofs.YtpbgpdmffejdgaaGreatDoor
namespace Go.Proofs.YtpbgpdmffejdgaaGreatDoor
open Go.RowKit

theorem tup_eq {f : Nat} {ar : Array Value} {v v' t : Int} (h : Ct f ar (.tuple #[.int .u64 v, .int .i64 t])) (e : v = v') : Ct f ar (.tuple #[.int .u64 v', .int .i64 t]) := e ▸ h
theorem sgv_in {w H M : Int} {n : Nat} (k : Wm w n H M) (a : Int) : -H ≤ sgv H M a ∧ sgv H M a < H ∧ (sgv H M a = 0 ↔ a % M = 0) ∧ sgv H M a % M = a % M := by
  unfold sgv
  rcases k with ⟨rfl, rfl, rfl, rfl⟩ | ⟨rfl, rfl, rfl, rfl⟩ <;> omega
theorem tdiv_nn {A B : Int} (a0 : 0 ≤ A) (b0 : 0 < B) : A.tdiv B = A / B ∧ 0 ≤ A / B ∧ A / B ≤ A := ⟨Int.tdiv_eq_ediv_of_nonneg a0, Int.ediv_nonneg a0 (by omega), Int.ediv_le_self _ a0⟩
theorem tdiv_in {A B H : Int} (a0 : -H ≤ A) (a1 : A < H) (b : ¬ B = 0) (go : ¬ (A = -H ∧ B = -1)) : -H ≤ A.tdiv B ∧ A.tdiv B < H ∧ (A < 0 → B < 0 → 0 ≤ A.tdiv B) := by
  have e1 : ∀ X Y : Int, (-X).tdiv Y = -(X.tdiv Y) := Int.neg_tdiv
  have e2 : ∀ X Y : Int, X.tdiv (-Y) = -(X.tdiv Y) := Int.tdiv_neg
  by_cases hA : 0 ≤ A
  · by_cases hB : 0 < B
    · obtain ⟨q1, q2, q3⟩ := tdiv_nn hA hB
      rw [q1]
      refine ⟨by omega, by omega, fun h => by omega⟩
    · obtain ⟨q1, q2, q3⟩ := tdiv_nn hA (show 0 < -B by omega)
      have := e2 A (-B)
      rw [Int.neg_neg, q1] at this
      rw [this]
      refine ⟨by omega, by omega, fun h => by omega⟩
  · by_cases hB : 0 < B
    · obtain ⟨q1, q2, q3⟩ := tdiv_nn (show 0 ≤ -A by omega) hB
      have := e1 (-A) B
      rw [Int.neg_neg, q1] at this
      rw [this]
      refine ⟨by omega, by omega, fun _ h => by omega⟩
    · obtain ⟨q1, q2, q3⟩ := tdiv_nn (show 0 ≤ -A by omega) (show 0 < -B by omega)
      have h1 := e1 (-A) B
      have h2 := e2 (-A) (-B)
      rw [Int.neg_neg] at h1 h2
      rw [h1, h2, Int.neg_neg, q1]
      refine ⟨by omega, ?_, fun _ _ => q2⟩
      by_cases hb : B = -1
      · have : ¬ A = -H := fun h => go ⟨h, hb⟩
        omega
      · have h3 := Int.ediv_mul_le (-A) (show -B ≠ 0 by omega)
        have h4 := Int.mul_le_mul_of_nonneg_left (show 2 ≤ -B by omega) q2
        generalize -A / -B = q at *
        generalize q * -B = z at *
        omega
theorem wrap_cut {w H M : Int} {n : Nat} (k : Wm w n H M) (x : Int) : IntKind.u64.wrap x % M = x % M ∧ Rg (IntKind.u64.wrap x) := by
  rw [IntKind.wrap_u64]
  unfold Rg
  refine ⟨?_, by omega, by omega⟩
  rcases k with ⟨rfl, rfl, rfl, rfl⟩ | ⟨rfl, rfl, rfl, rfl⟩
  · exact Int.emod_emod_of_dvd x (by decide)
  · exact Int.emod_emod_of_dvd x (by decide)
theorem dividedS_any {w H M : Int} {n : Nat} (k : Wm w n H M) (a b : Int) (g : ¬ sgv H M b = 0) (go : ¬ (sgv H M a = -H ∧ sgv H M b = -1)) : Ct 136 #[.int .i64 w, .int .u64 a, .int .u64 b] (.agg #[.int .u64 (IntKind.u64.wrap ((sgv H M a).tdiv (sgv H M b))), .int .u64 (IntKind.u64.wrap ((sgv H M a).tmod (sgv H M b))), .int .i64 0]) := by
  obtain ⟨a0, a1, -⟩ := sgv_in k a
  obtain ⟨q0, q1, q2⟩ := tdiv_in a0 a1 g go
  generalize hA : sgv H M a = A at *
  generalize hB : sgv H M b = B at *
  rcases k with ⟨rfl, rfl, rfl, rfl⟩ | ⟨rfl, rfl, rfl, rfl⟩
  · have eA : IntKind.i32.wrap a = A := (IntKind.wrap_i32 a).trans hA
    have eB : IntKind.i32.wrap b = B := (IntKind.wrap_i32 b).trans hB
    have hq : IntKind.i32.wrap (A.tdiv B) = A.tdiv B := by rw [IntKind.wrap_i32]; omega
    by_cases hA0 : 0 ≤ A
    · exact dividedS_m (divs32_r eA eB (divs32_p hA0 g hq rfl (by rw [Int.tmod_eq_emod_of_nonneg hA0])))
    · by_cases hB0 : 0 ≤ B
      · exact dividedS_m (divs32_r eA eB (divs32_m (by omega) hB0 g hq rfl rfl))
      · exact dividedS_m (divs32_r eA eB (divs32_n (by omega) (by omega) hq (q2 (by omega) (by omega)) rfl rfl))
  · have eA : IntKind.i64.wrap a = A := (IntKind.wrap_i64 a).trans hA
    have eB : IntKind.i64.wrap b = B := (IntKind.wrap_i64 b).trans hB
    have hq : IntKind.i64.wrap (A.tdiv B) = A.tdiv B := by rw [IntKind.wrap_i64]; omega
    by_cases hA0 : 0 ≤ A
    · exact dividedS_m (divs64_r eA eB (divs64_p hA0 g hq rfl (by rw [Int.tmod_eq_emod_of_nonneg hA0])))
    · by_cases hB0 : 0 ≤ B
      · exact dividedS_m (divs64_r eA eB (divs64_m (by omega) hB0 g hq rfl rfl))
      · exact dividedS_m (divs64_r eA eB (divs64_n (by omega) (by omega) hq (q2 (by omega) (by omega)) rfl rfl))
theorem dividedS_z {w H M : Int} {n : Nat} (k : Wm w n H M) (a b : Int) (g : sgv H M b = 0) : Ct 136 #[.int .i64 w, .int .u64 a, .int .u64 b] (.agg #[.int .u64 0, .int .u64 0, .int .i64 2]) := by
  rcases k with ⟨rfl, rfl, rfl, rfl⟩ | ⟨rfl, rfl, rfl, rfl⟩
  · exact dividedS_m (divs32_r (IntKind.wrap_i32 a) (IntKind.wrap_i32 b) (divs32_z g))
  · exact dividedS_m (divs64_r (IntKind.wrap_i64 a) (IntKind.wrap_i64 b) (divs64_z g))
theorem dividedS_o {w H M : Int} {n : Nat} (k : Wm w n H M) (a b : Int) (g : sgv H M a = -H) (g' : sgv H M b = -1) : Ct 136 #[.int .i64 w, .int .u64 a, .int .u64 b] (.agg #[.int .u64 0, .int .u64 0, .int .i64 3]) := by
  rcases k with ⟨rfl, rfl, rfl, rfl⟩ | ⟨rfl, rfl, rfl, rfl⟩
  · exact dividedS_m (divs32_r ((IntKind.wrap_i32 a).trans g) ((IntKind.wrap_i32 b).trans g') (divs32_o (q := -2147483648) (by decide) (by decide) (by decide) (by decide)))
  · exact dividedS_m (divs64_r ((IntKind.wrap_i64 a).trans g) ((IntKind.wrap_i64 b).trans g') (divs64_o (q := -9223372036854775808) (by decide) (by decide) (by decide) (by decide)))
theorem zero_K {w H M : Int} {n : Nat} (k : Wm w n H M) : Ct 17 #[.int .i64 w, .int .u64 0] (.int .u64 0) := by
  have h := cut_K k (a := 0) ⟨by omega, by omega⟩
  rw [Int.zero_emod] at h
  exact h
theorem divs_any {w H M : Int} {n : Nat} (k : Wm w n H M) (a b : Int) (g : ¬ sgv H M b = 0) (go : ¬ (sgv H M a = -H ∧ sgv H M b = -1)) : Ct 72 #[.int .i64 w, .int .u64 a, .int .u64 b] (.tuple #[.int .u64 ((sgv H M a).tdiv (sgv H M b) % M), .int .i64 0]) :=
  tup_eq (divs_m (dividedS_any k a b g go) (cut_K k (wrap_cut k _).2)) (wrap_cut k _).1
theorem divs_z {w H M : Int} {n : Nat} (k : Wm w n H M) (a b : Int) (g : sgv H M b = 0) : Ct 72 #[.int .i64 w, .int .u64 a, .int .u64 b] (.tuple #[.int .u64 0, .int .i64 2]) := divs_m (dividedS_z k a b g) (zero_K k)
theorem divs_o {w H M : Int} {n : Nat} (k : Wm w n H M) (a b : Int) (g : sgv H M a = -H) (g' : sgv H M b = -1) : Ct 72 #[.int .i64 w, .int .u64 a, .int .u64 b] (.tuple #[.int .u64 0, .int .i64 3]) := divs_m (dividedS_o k a b g g') (zero_K k)
theorem rems_any {w H M : Int} {n : Nat} (k : Wm w n H M) (a b : Int) (g : ¬ sgv H M b = 0) (go : ¬ (sgv H M a = -H ∧ sgv H M b = -1)) : Ct 74 #[.int .i64 w, .int .u64 a, .int .u64 b] (.tuple #[.int .u64 ((sgv H M a).tmod (sgv H M b) % M), .int .i64 0]) :=
  tup_eq (rems_m (dividedS_any k a b g go) (cut_K k (wrap_cut k _).2) (by decide)) (wrap_cut k _).1
theorem rems_z {w H M : Int} {n : Nat} (k : Wm w n H M) (a b : Int) (g : sgv H M b = 0) : Ct 74 #[.int .i64 w, .int .u64 a, .int .u64 b] (.tuple #[.int .u64 0, .int .i64 2]) := rems_m (dividedS_z k a b g) (zero_K k) (by decide)
theorem rems_ov {w H M : Int} {n : Nat} (k : Wm w n H M) (a b : Int) (g : sgv H M a = -H) (g' : sgv H M b = -1) : Ct 74 #[.int .i64 w, .int .u64 a, .int .u64 b] (.tuple #[.int .u64 0, .int .i64 0]) := rems_o (dividedS_o k a b g g')
theorem dividedU_any {w H M : Int} {n : Nat} (k : Wm w n H M) {a b : Int} (ha : Rg a) (hb : Rg b) (g : ¬ b % M = 0) : Ct 137 #[.int .i64 w, .int .u64 a, .int .u64 b] (.agg #[.int .u64 (a % M / (b % M)), .int .u64 (a % M % (b % M)), .int .i64 0]) := by
  obtain ⟨a0, a1⟩ := k.cut a
  obtain ⟨b0, b1⟩ := k.cut b
  rcases k with ⟨rfl, rfl, rfl, rfl⟩ | ⟨rfl, rfl, rfl, rfl⟩
  · have q1 := Int.ediv_nonneg a0 b0
    have q2 := Int.ediv_le_self (b % 4294967296) a0
    have q3 := Int.emod_nonneg (a % 4294967296) g
    have q4 := Int.emod_lt_of_pos (a % 4294967296) (show 0 < b % 4294967296 by omega)
    exact dividedU_m (divu32_r (IntKind.wrap_u32 a) (IntKind.wrap_u32 b) (divu32_p a0 a1 b0 b1 g rfl rfl (by rw [IntKind.wrap_u64]; generalize a % 4294967296 / (b % 4294967296) = q at *; omega) (by rw [IntKind.wrap_u64]; generalize a % 4294967296 % (b % 4294967296) = q at *; omega)))
  · rw [show a % 18446744073709551616 = a from Int.emod_eq_of_lt ha.1 ha.2] at *
    rw [show b % 18446744073709551616 = b from Int.emod_eq_of_lt hb.1 hb.2] at *
    exact dividedU_m (divu64_r (divu64_p a0 a1 b0 b1 g rfl rfl))
theorem dividedU_z {w H M : Int} {n : Nat} (k : Wm w n H M) (a : Int) {b : Int} (hb : Rg b) (g : b % M = 0) : Ct 137 #[.int .i64 w, .int .u64 a, .int .u64 b] (.agg #[.int .u64 0, .int .u64 0, .int .i64 2]) := by
  rcases k with ⟨rfl, rfl, rfl, rfl⟩ | ⟨rfl, rfl, rfl, rfl⟩
  · exact dividedU_m (divu32_r (IntKind.wrap_u32 a) (IntKind.wrap_u32 b) (divu32_z g))
  · exact dividedU_m (divu64_r (divu64_z (by unfold Rg at hb; omega)))
theorem divu_any {w H M : Int} {n : Nat} (k : Wm w n H M) {a b : Int} (ha : Rg a) (hb : Rg b) (g : ¬ b % M = 0) : Ct 73 #[.int .i64 w, .int .u64 a, .int .u64 b] (.tuple #[.int .u64 (a % M / (b % M)), .int .i64 0]) := divu_m (dividedU_any k ha hb g)
theorem remu_any {w H M : Int} {n : Nat} (k : Wm w n H M) {a b : Int} (ha : Rg a) (hb : Rg b) (g : ¬ b % M = 0) : Ct 75 #[.int .i64 w, .int .u64 a, .int .u64 b] (.tuple #[.int .u64 (a % M % (b % M)), .int .i64 0]) := remu_m (dividedU_any k ha hb g)
theorem divu_z {w H M : Int} {n : Nat} (k : Wm w n H M) (a : Int) {b : Int} (hb : Rg b) (g : b % M = 0) : Ct 73 #[.int .i64 w, .int .u64 a, .int .u64 b] (.tuple #[.int .u64 0, .int .i64 2]) := divu_m (dividedU_z k a hb g)
theorem remu_z {w H M : Int} {n : Nat} (k : Wm w n H M) (a : Int) {b : Int} (hb : Rg b) (g : b % M = 0) : Ct 75 #[.int .i64 w, .int .u64 a, .int .u64 b] (.tuple #[.int .u64 0, .int .i64 2]) := remu_m (dividedU_z k a hb g)
theorem ltu_any {w H M : Int} {n : Nat} (k : Wm w n H M) {a b : Int} (ha : Rg a) (hb : Rg b) : Ct 65 #[.int .i64 w, .int .u64 a, .int .u64 b] (.bool (decide (a % M < b % M))) := by
  rcases k with ⟨rfl, rfl, rfl, rfl⟩ | ⟨rfl, rfl, rfl, rfl⟩
  · exact ltu_m (ltu32_r (IntKind.wrap_u32 a) (IntKind.wrap_u32 b) ltu32_l)
  · rw [show a % 18446744073709551616 = a from Int.emod_eq_of_lt ha.1 ha.2, show b % 18446744073709551616 = b from Int.emod_eq_of_lt hb.1 hb.2]
    exact ltu_m (ltu64_r ltu64_l)
theorem lts_any {w H M : Int} {n : Nat} (k : Wm w n H M) (a b : Int) : Ct 64 #[.int .i64 w, .int .u64 a, .int .u64 b] (.bool (decide (sgv H M a < sgv H M b))) := by
  rcases k with ⟨rfl, rfl, rfl, rfl⟩ | ⟨rfl, rfl, rfl, rfl⟩
  · exact lts_m (lts32_r (IntKind.wrap_i32 a) (IntKind.wrap_i32 b) lts32_l)
  · exact lts_m (lts64_r (IntKind.wrap_i64 a) (IntKind.wrap_i64 b) lts64_l)
end Go.Proofs.YtpbgpdmffejdgaaGreatDoor
namespace Go.Proofs.YtpbgpdmffejdgaaGreatDoor
open Go.RowKit
open Go.Proofs.YtpbgpdmffejdgaaGreatDoor.W

theorem Wm.nat {w H M : Int} {n : Nat} (k : Wm w n H M) (a : Int) : ∃ A : Nat, a % M = (A : Int) ∧ A < 2 ^ n := by
  obtain ⟨h0, h1⟩ := k.cut a
  obtain ⟨-, k2, -⟩ := k.two
  exact ⟨(a % M).toNat, by omega, by omega⟩
theorem Wm.sh {w H M : Int} {n : Nat} (k : Wm w n H M) (b : Int) : ∃ s : Nat, b % w = (s : Int) ∧ s < n := by
  obtain ⟨-, -, k3, k4, -⟩ := k.two
  have h0 := Int.emod_nonneg b (show w ≠ 0 by omega)
  have h1 := Int.emod_lt_of_pos b (show 0 < w by omega)
  exact ⟨(b % w).toNat, by omega, by omega⟩
theorem kn_K {w H M : Int} {n : Nat} (k : Wm w n H M) : Ct 221 #[.int .i64 w] (.bool true) := by
  obtain ⟨e, f, P, Q, b, kd, hH⟩ := k.kd
  have h := knI_l (hide (fun W => fields_any kd.wd W))
  rw [show (e != 0) = true by rcases kd with h | h <;> (obtain ⟨-, rfl, -⟩ := h; rfl)] at h
  exact h
theorem len_K {A : Nat} (hA : A < 18446744073709551616) : Ct 222 #[.int .u64 (A : Int)] (.int .i64 (Go.bitLen A : Nat)) := by
  refine hide (fun W => (len64_any (A : Int) W (by omega) (by omega)).mono ?_)
  rintro _ _ ⟨rfl, rfl⟩
  rw [Int.toNat_natCast]
  exact ⟨rfl, Below.refl _ _⟩
theorem len_le {A n : Nat} (h : A < 2 ^ n) : Go.bitLen A ≤ n := by
  obtain ⟨-, h2⟩ := Go.bitLen_spec A
  by_cases h0 : A = 0
  · subst h0; exact Nat.zero_le n
  · refine Decidable.byContradiction fun hn => ?_
    have := Nat.pow_le_pow_right (show 0 < 2 by omega) (show n ≤ Go.bitLen A - 1 by omega)
    have := h2 h0
    omega
theorem clz_K {w H M : Int} {n : Nat} (k : Wm w n H M) {a : Int} {A : Nat} (hr : Rg a) (ha : a % M = (A : Int)) (hA : A < 2 ^ n) : Ct 143 #[.int .i64 w, .int .u64 a] (.int .u64 ((n - Go.bitLen A : Nat) : Int)) := by
  obtain ⟨-, k2, k3, -, k5, -, k7⟩ := k.two
  have HC := cut_K k hr
  rw [ha] at HC
  have hl := len_le hA
  exact clz_m (kn_K k) HC (len_K (by omega)) (show IntKind.i64.wrap (w - (Go.bitLen A : Nat)) = ((n - Go.bitLen A : Nat) : Int) by rw [IntKind.wrap_i64]; omega) (by rw [IntKind.wrap_u64]; omega)
theorem ctz_K {w H M : Int} {n : Nat} (k : Wm w n H M) {a : Nat} (h : a < 18446744073709551616) : Cm 144 #[.int .i64 w, .int .u64 (a : Int)] (.int .u64 ((min n (Lib.ctz 64 a) : Nat) : Int)) := by
  obtain ⟨-, k2, k3, -, k5, -, k7⟩ := k.two
  have HT : Cm 223 #[.int .u64 (a : Int)] (.int .i64 ((Lib.ctz 64 a : Nat) : Int)) := by
    refine hide (fun W m => (tz_any a h W m).mono ?_)
    rintro _ _ ⟨rfl, rfl⟩
    exact ⟨rfl, Below.refl _ _⟩
  by_cases g : n ≤ Lib.ctz 64 a
  · rw [Nat.min_eq_left g]
    exact ctz_le (kn_K k) HT (by omega) (by rw [IntKind.wrap_u64]; omega)
  · rw [Nat.min_eq_right (by omega)]
    exact ctz_gt (kn_K k) HT (by omega) (by rw [IntKind.wrap_u64]; omega)
end Go.Proofs.YtpbgpdmffejdgaaGreatDoor
namespace Go.Proofs.YtpbgpdmffejdgaaGreatDoor
open Go.RowKit

def Kq0 (op ti tu r t : Int) : Prop :=
  (ti = 127 ∧ tu = 127 ∧ 69 ≤ op ∧ op ≤ 79 ∧ t = 0) ∨
  (ti = 126 ∧ tu = 127 ∧ 80 ≤ op ∧ op ≤ 90 ∧ t = 0) ∨
  (ti = 125 ∧ tu = 127 ∧ 91 ≤ op ∧ op ≤ 96 ∧ t = 0) ∨
  (ti = 124 ∧ tu = 127 ∧ 97 ≤ op ∧ op ≤ 102 ∧ t = 0) ∨
  (ti = 127 ∧ tu = 127 ∧ 103 ≤ op ∧ op ≤ 108 ∧ t = 0) ∨
  (ti = 127 ∧ tu = 127 ∧ 109 ≤ op ∧ op ≤ 112 ∧ t = 0) ∨
  (ti = 127 ∧ tu = 127 ∧ 109 ≤ op ∧ op ≤ 112 ∧ ¬ t = 0 ∧ r = 0) ∨
  (ti = 127 ∧ tu = 127 ∧ 113 ≤ op ∧ op ≤ 126 ∧ t = 0) ∨
  (ti = 126 ∧ tu = 126 ∧ 113 ≤ op ∧ op ≤ 126 ∧ t = 0)
set_option maxHeartbeats 4000000 in
set_option maxRecDepth 100000 in
theorem keeps_w0 {op a b r t ti c tu p q : Int} (HA : Cm 9 #[] (.bool true)) (H1 : Ap op a b r t) (HK : Cm 10 #[.int .i64 op] (.tuple #[.int .u8 ti, .int .i64 c, .int .u8 tu, .bool true])) (hp : bits .xor .u64 a 1099511627776 = p) (hq : bits .xor .u64 b 9223372036854775808 = q) (H2 : ti = 127 ∨ ti = 125 → Ap op p q r t) (hr : tu = 127 ∨ tu = 125 → r / 4294967296 = 0) (hc : op ≤ 102 → r ≤ 1) (HQ : Kq0 op ti tu r t) :
    Cm 5 #[.int .i64 op, .int .u64 a, .int .u64 b] (.bool true) := by
  refine hide (fun W m => ?_)
  have HM := hide m
  clear m
  have HB := hide (Below.refl W.heap.size W)
  go_enter Tryz.func5, Tryz.ntmps5
  go_wp2_with fail
  refine (unhide HA _ (unhide HM)).mono ?_
  rintro _ w1 ⟨rfl, hb⟩
  have HB := hide (bthen (unhide HB) hb)
  have HM := hide ((unhide HM).below hb)
  clear hb
  go_wp2_with fail
  refine (unhide H1 _ (unhide HM)).mono ?_
  rintro _ w2 ⟨rfl, hb⟩
  have HB := hide (bthen (unhide HB) hb)
  have HM := hide ((unhide HM).below hb)
  clear hb
  go_wp2_with fail
  refine (unhide HK _ (unhide HM)).mono ?_
  rintro _ w3 ⟨rfl, hb⟩
  have HB := hide (bthen (unhide HB) hb)
  have HM := hide ((unhide HM).below hb)
  clear hb
  skip
  have HZ := HB
  have HN := HM
  have H2 := hide H2
  have hr := hide hr
  have hc := hide hc
  unfold Kq0 at HQ
  rcases HQ with ⟨rfl, rfl, l0, l1, rfl⟩ | ⟨rfl, rfl, l0, l1, rfl⟩ | ⟨rfl, rfl, l0, l1, rfl⟩ | ⟨rfl, rfl, l0, l1, rfl⟩ | ⟨rfl, rfl, l0, l1, rfl⟩ | ⟨rfl, rfl, l0, l1, rfl⟩ | ⟨rfl, rfl, l0, l1, g, rfl⟩ | ⟨rfl, rfl, l0, l1, rfl⟩ | ⟨rfl, rfl, l0, l1, rfl⟩
  all_goals
    try have hr := unhide hr (by decide)
    try have hc := unhide hc (by omega)
    first | have t0 : 69 ≤ op := by omega
          | have t0 : ¬ 69 ≤ op := by omega
    first | have t1 : op ≤ 102 := by omega
          | have t1 : ¬ op ≤ 102 := by omega
    first | have t2 : 109 ≤ op := by omega
          | have t2 : ¬ 109 ≤ op := by omega
    first | have t3 : op ≤ 112 := by omega
          | have t3 : ¬ op ≤ 112 := by omega
    first | have t4 : 127 ≤ op := by omega
          | have t4 : ¬ 127 ≤ op := by omega
    first | have t5 : op ≤ 130 := by omega
          | have t5 : ¬ op ≤ 130 := by omega
    first | have t6 : 168 ≤ op := by omega
          | have t6 : ¬ 168 ≤ op := by omega
    first | have t7 : op ≤ 171 := by omega
          | have t7 : ¬ op ≤ 171 := by omega
    first | have t8 : 174 ≤ op := by omega
          | have t8 : ¬ 174 ≤ op := by omega
    first | have t9 : op ≤ 177 := by omega
          | have t9 : ¬ op ≤ 177 := by omega
    clear l0 l1
    go_wp2_with fail
    try
      refine (unhide (unhide H2 (by decide)) _ (unhide HN)).mono ?_
      rintro _ w4 ⟨rfl, hb⟩
      have HZ := hide (bthen (unhide HZ) hb)
      clear hb
      go_wp2_with fail
    go_ret
    exact ⟨by simp_all, unhide HZ⟩
end Go.Proofs.YtpbgpdmffejdgaaGreatDoor
namespace Go.Proofs.YtpbgpdmffejdgaaGreatDoor
open Go.RowKit

def Kq1 (op ti tu r t : Int) : Prop :=
  (ti = 126 ∧ tu = 126 ∧ 127 ≤ op ∧ op ≤ 130 ∧ t = 0) ∨
  (ti = 126 ∧ tu = 126 ∧ 127 ≤ op ∧ op ≤ 130 ∧ ¬ t = 0 ∧ r = 0) ∨
  (ti = 126 ∧ tu = 126 ∧ 131 ≤ op ∧ op ≤ 167 ∧ t = 0) ∨
  (ti = 125 ∧ tu = 125 ∧ 131 ≤ op ∧ op ≤ 167 ∧ t = 0) ∨
  (ti = 124 ∧ tu = 124 ∧ 131 ≤ op ∧ op ≤ 167 ∧ t = 0) ∨
  (ti = 126 ∧ tu = 127 ∧ 131 ≤ op ∧ op ≤ 167 ∧ t = 0) ∨
  (ti = 125 ∧ tu = 127 ∧ 168 ≤ op ∧ op ≤ 171 ∧ t = 0) ∨
  (ti = 125 ∧ tu = 127 ∧ 168 ≤ op ∧ op ≤ 171 ∧ ¬ t = 0 ∧ r = 0) ∨
  (ti = 124 ∧ tu = 127 ∧ 168 ≤ op ∧ op ≤ 171 ∧ t = 0)
set_option maxHeartbeats 4000000 in
set_option maxRecDepth 100000 in
theorem keeps_w1 {op a b r t ti c tu p q : Int} (HA : Cm 9 #[] (.bool true)) (H1 : Ap op a b r t) (HK : Cm 10 #[.int .i64 op] (.tuple #[.int .u8 ti, .int .i64 c, .int .u8 tu, .bool true])) (hp : bits .xor .u64 a 1099511627776 = p) (hq : bits .xor .u64 b 9223372036854775808 = q) (H2 : ti = 127 ∨ ti = 125 → Ap op p q r t) (hr : tu = 127 ∨ tu = 125 → r / 4294967296 = 0) (hc : op ≤ 102 → r ≤ 1) (HQ : Kq1 op ti tu r t) :
    Cm 5 #[.int .i64 op, .int .u64 a, .int .u64 b] (.bool true) := by
  refine hide (fun W m => ?_)
  have HM := hide m
  clear m
  have HB := hide (Below.refl W.heap.size W)
  go_enter Tryz.func5, Tryz.ntmps5
  go_wp2_with fail
  refine (unhide HA _ (unhide HM)).mono ?_
  rintro _ w1 ⟨rfl, hb⟩
  have HB := hide (bthen (unhide HB) hb)
  have HM := hide ((unhide HM).below hb)
  clear hb
  go_wp2_with fail
  refine (unhide H1 _ (unhide HM)).mono ?_
  rintro _ w2 ⟨rfl, hb⟩
  have HB := hide (bthen (unhide HB) hb)
  have HM := hide ((unhide HM).below hb)
  clear hb
  go_wp2_with fail
  refine (unhide HK _ (unhide HM)).mono ?_
  rintro _ w3 ⟨rfl, hb⟩
  have HB := hide (bthen (unhide HB) hb)
  have HM := hide ((unhide HM).below hb)
  clear hb
  skip
  have HZ := HB
  have HN := HM
  have H2 := hide H2
  have hr := hide hr
  have hc := hide hc
  unfold Kq1 at HQ
  rcases HQ with ⟨rfl, rfl, l0, l1, rfl⟩ | ⟨rfl, rfl, l0, l1, g, rfl⟩ | ⟨rfl, rfl, l0, l1, rfl⟩ | ⟨rfl, rfl, l0, l1, rfl⟩ | ⟨rfl, rfl, l0, l1, rfl⟩ | ⟨rfl, rfl, l0, l1, rfl⟩ | ⟨rfl, rfl, l0, l1, rfl⟩ | ⟨rfl, rfl, l0, l1, g, rfl⟩ | ⟨rfl, rfl, l0, l1, rfl⟩
  all_goals
    try have hr := unhide hr (by decide)
    try have hc := unhide hc (by omega)
    first | have t0 : 69 ≤ op := by omega
          | have t0 : ¬ 69 ≤ op := by omega
    first | have t1 : op ≤ 102 := by omega
          | have t1 : ¬ op ≤ 102 := by omega
    first | have t2 : 109 ≤ op := by omega
          | have t2 : ¬ 109 ≤ op := by omega
    first | have t3 : op ≤ 112 := by omega
          | have t3 : ¬ op ≤ 112 := by omega
    first | have t4 : 127 ≤ op := by omega
          | have t4 : ¬ 127 ≤ op := by omega
    first | have t5 : op ≤ 130 := by omega
          | have t5 : ¬ op ≤ 130 := by omega
    first | have t6 : 168 ≤ op := by omega
          | have t6 : ¬ 168 ≤ op := by omega
    first | have t7 : op ≤ 171 := by omega
          | have t7 : ¬ op ≤ 171 := by omega
    first | have t8 : 174 ≤ op := by omega
          | have t8 : ¬ 174 ≤ op := by omega
    first | have t9 : op ≤ 177 := by omega
          | have t9 : ¬ op ≤ 177 := by omega
    clear l0 l1
    go_wp2_with fail
    try
      refine (unhide (unhide H2 (by decide)) _ (unhide HN)).mono ?_
      rintro _ w4 ⟨rfl, hb⟩
      have HZ := hide (bthen (unhide HZ) hb)
      clear hb
      go_wp2_with fail
    go_ret
    exact ⟨by simp_all, unhide HZ⟩
end Go.Proofs.YtpbgpdmffejdgaaGreatDoor
namespace Go.Proofs.YtpbgpdmffejdgaaGreatDoor
open Go.RowKit

def Kq2 (op ti tu r t : Int) : Prop :=
  (ti = 124 ∧ tu = 127 ∧ 168 ≤ op ∧ op ≤ 171 ∧ ¬ t = 0 ∧ r = 0) ∨
  (ti = 127 ∧ tu = 126 ∧ 172 ≤ op ∧ op ≤ 173 ∧ t = 0) ∨
  (ti = 125 ∧ tu = 126 ∧ 174 ≤ op ∧ op ≤ 177 ∧ t = 0) ∨
  (ti = 125 ∧ tu = 126 ∧ 174 ≤ op ∧ op ≤ 177 ∧ ¬ t = 0 ∧ r = 0) ∨
  (ti = 124 ∧ tu = 126 ∧ 174 ≤ op ∧ op ≤ 177 ∧ t = 0) ∨
  (ti = 124 ∧ tu = 126 ∧ 174 ≤ op ∧ op ≤ 177 ∧ ¬ t = 0 ∧ r = 0) ∨
  (ti = 127 ∧ tu = 125 ∧ 178 ≤ op ∧ op ≤ 65000 ∧ t = 0) ∨
  (ti = 126 ∧ tu = 125 ∧ 178 ≤ op ∧ op ≤ 65000 ∧ t = 0)
set_option maxHeartbeats 4000000 in
set_option maxRecDepth 100000 in
theorem keeps_w2 {op a b r t ti c tu p q : Int} (HA : Cm 9 #[] (.bool true)) (H1 : Ap op a b r t) (HK : Cm 10 #[.int .i64 op] (.tuple #[.int .u8 ti, .int .i64 c, .int .u8 tu, .bool true])) (hp : bits .xor .u64 a 1099511627776 = p) (hq : bits .xor .u64 b 9223372036854775808 = q) (H2 : ti = 127 ∨ ti = 125 → Ap op p q r t) (hr : tu = 127 ∨ tu = 125 → r / 4294967296 = 0) (hc : op ≤ 102 → r ≤ 1) (HQ : Kq2 op ti tu r t) :
    Cm 5 #[.int .i64 op, .int .u64 a, .int .u64 b] (.bool true) := by
  refine hide (fun W m => ?_)
  have HM := hide m
  clear m
  have HB := hide (Below.refl W.heap.size W)
  go_enter Tryz.func5, Tryz.ntmps5
  go_wp2_with fail
  refine (unhide HA _ (unhide HM)).mono ?_
  rintro _ w1 ⟨rfl, hb⟩
  have HB := hide (bthen (unhide HB) hb)
  have HM := hide ((unhide HM).below hb)
  clear hb
  go_wp2_with fail
  refine (unhide H1 _ (unhide HM)).mono ?_
  rintro _ w2 ⟨rfl, hb⟩
  have HB := hide (bthen (unhide HB) hb)
  have HM := hide ((unhide HM).below hb)
  clear hb
  go_wp2_with fail
  refine (unhide HK _ (unhide HM)).mono ?_
  rintro _ w3 ⟨rfl, hb⟩
  have HB := hide (bthen (unhide HB) hb)
  have HM := hide ((unhide HM).below hb)
  clear hb
  skip
  have HZ := HB
  have HN := HM
  have H2 := hide H2
  have hr := hide hr
  have hc := hide hc
  unfold Kq2 at HQ
  rcases HQ with ⟨rfl, rfl, l0, l1, g, rfl⟩ | ⟨rfl, rfl, l0, l1, rfl⟩ | ⟨rfl, rfl, l0, l1, rfl⟩ | ⟨rfl, rfl, l0, l1, g, rfl⟩ | ⟨rfl, rfl, l0, l1, rfl⟩ | ⟨rfl, rfl, l0, l1, g, rfl⟩ | ⟨rfl, rfl, l0, l1, rfl⟩ | ⟨rfl, rfl, l0, l1, rfl⟩
  all_goals
    try have hr := unhide hr (by decide)
    try have hc := unhide hc (by omega)
    first | have t0 : 69 ≤ op := by omega
          | have t0 : ¬ 69 ≤ op := by omega
    first | have t1 : op ≤ 102 := by omega
          | have t1 : ¬ op ≤ 102 := by omega
    first | have t2 : 109 ≤ op := by omega
          | have t2 : ¬ 109 ≤ op := by omega
    first | have t3 : op ≤ 112 := by omega
          | have t3 : ¬ op ≤ 112 := by omega
    first | have t4 : 127 ≤ op := by omega
          | have t4 : ¬ 127 ≤ op := by omega
    first | have t5 : op ≤ 130 := by omega
          | have t5 : ¬ op ≤ 130 := by omega
    first | have t6 : 168 ≤ op := by omega
          | have t6 : ¬ 168 ≤ op := by omega
    first | have t7 : op ≤ 171 := by omega
          | have t7 : ¬ op ≤ 171 := by omega
    first | have t8 : 174 ≤ op := by omega
          | have t8 : ¬ 174 ≤ op := by omega
    first | have t9 : op ≤ 177 := by omega
          | have t9 : ¬ op ≤ 177 := by omega
    clear l0 l1
    go_wp2_with fail
    try
      refine (unhide (unhide H2 (by decide)) _ (unhide HN)).mono ?_
      rintro _ w4 ⟨rfl, hb⟩
      have HZ := hide (bthen (unhide HZ) hb)
      clear hb
      go_wp2_with fail
    go_ret
    exact ⟨by simp_all, unhide HZ⟩
end Go.Proofs.YtpbgpdmffejdgaaGreatDoor
namespace Go.Proofs.YtpbgpdmffejdgaaGreatDoor
open Go.RowKit
open Go.Proofs.YtpbgpdmffejdgaaGreatDoor.W

/-- A slice of bools that holds these. -/
def HoldsB (w : World) (s : Value) (g : Nat → Bool) (n : Nat) : Prop := ∃ b c, s = .slice (some ⟨b, 0, none⟩) n c ∧ b < w.heap.size ∧ n ≤ c ∧ ∀ i, i < n → w.cell? ⟨b, i, none⟩ = some (.bool (g i))
theorem HoldsB.below {w w' : World} {s : Value} {g : Nat → Bool} {n : Nat} (h : HoldsB w s g n) (hb : Below w.heap.size w w') : HoldsB w' s g n := by
  obtain ⟨b, c, h1, h2, h3, h4⟩ := h
  exact ⟨b, c, h1, Nat.lt_of_lt_of_le h2 hb.size, h3, fun i hi => by rw [hb.cell (p := ⟨b, i, none⟩) h2]; exact h4 i hi⟩
end Go.Proofs.YtpbgpdmffejdgaaGreatDoor
namespace Go.Proofs.YtpbgpdmffejdgaaGreatDoor
open Go.RowKit
open Go.Proofs.YtpbgpdmffejdgaaGreatDoor.W

/-- How many lowest bits may be made a number of more. -/
def Pc (f : Int) (m : Nat) : Prop := (f = 8 ∧ m = 8) ∨ (f = 16 ∧ m = 16) ∨ (f = 32 ∧ m = 32) ∨ (f = 64 ∧ m = 64)
/-- The bits of a number made one of more. -/
def extG (A f : Nat) (sg : Bool) (i : Nat) : Bool := if i < f then A.testBit i else (sg && A.testBit (f - 1))
end Go.Proofs.YtpbgpdmffejdgaaGreatDoor
namespace Go.Proofs.YtpbgpdmffejdgaaGreatDoor
open Go.RowKit

theorem piece_K {f : Int} {m : Nat} (p : Pc f m) : Ct 171 #[.int .i64 f] (.bool true) ∧ f = (m : Int) ∧ 8 ≤ m ∧ m ≤ 64 := by
  rcases p with ⟨rfl, rfl⟩ | ⟨rfl, rfl⟩ | ⟨rfl, rfl⟩ | ⟨rfl, rfl⟩
  · exact ⟨piece_8, by omega, by omega, by omega⟩
  · exact ⟨piece_16, by omega, by omega, by omega⟩
  · exact ⟨piece_32, by omega, by omega, by omega⟩
  · exact ⟨piece_64, by omega, by omega, by omega⟩
theorem ext_bits {b m n i : Nat} (m0 : 1 ≤ m) (m1 : m ≤ n) (n1 : n ≤ 64) (hi : i < n) : (sarN (shlI b 64 (64 - m)) 64 (64 - m)).testBit i = extG b m true i ∧ (shrI (shlI b 64 (64 - m)) (64 - m)).testBit i = extG b m false i := by
  unfold extG
  rw [sar_bit (shl_lt _ _ _) (by omega) (by omega), shr_bit, shl_bit, shl_bit]
  by_cases h : i < m
  · rw [if_pos (by omega), if_pos h, if_pos h, decide_eq_true (show i + (64 - m) < 64 by omega), decide_eq_true (show 64 - m ≤ i + (64 - m) by omega), Nat.add_sub_cancel]
    simp
  · rw [if_neg (by omega), if_neg h, if_neg h, decide_eq_true (show 64 - 1 < 64 by omega), decide_eq_true (show 64 - m ≤ 64 - 1 by omega), decide_eq_false (show ¬ i + (64 - m) < 64 by omega), show 64 - 1 - (64 - m) = m - 1 by omega]
    simp
theorem ext_num {n x : Nat} {g : Nat → Bool} (h : ∀ i, i < n → x.testBit i = g i) : x % 2 ^ n = numI g n := by
  refine (num_eq (Nat.mod_lt _ (Nat.two_pow_pos n)) (fun i hi => ?_)).symm
  rw [Nat.testBit_mod_two_pow, decide_eq_true hi, Bool.true_and]
  exact h i hi
/-- What stands ahead of the last cut. -/
theorem ext_pre {f : Int} {m b : Nat} (p : Pc f m) (hb : b < 18446744073709551616) : ∃ d u : Int, IntKind.i64.wrap (64 - f) = d ∧ IntKind.u64.wrap d = u ∧ Ct 138 #[.int .i64 64, .int .u64 (b : Int), .int .u64 u] (.int .u64 ((shlI b 64 (64 - m) : Nat) : Int)) ∧
    Ct 139 #[.int .i64 64, .int .u64 ((shlI b 64 (64 - m) : Nat) : Int), .int .u64 u] (.int .u64 ((sarN (shlI b 64 (64 - m)) 64 (64 - m) : Nat) : Int)) ∧ Ct 140 #[.int .i64 64, .int .u64 ((shlI b 64 (64 - m) : Nat) : Int), .int .u64 u] (.int .u64 ((shrI (shlI b 64 (64 - m)) (64 - m) : Nat) : Int)) := by
  obtain ⟨-, hf, h8, h64⟩ := piece_K p
  have k := (show Wm 64 64 9223372036854775808 18446744073709551616 from Or.inr ⟨rfl, rfl, rfl, rfl⟩)
  have hu : (((64 - m : Nat) : Int)) % 64 = ((64 - m : Nat) : Int) := by omega
  have hur : Rg ((64 - m : Nat) : Int) := by unfold Rg; omega
  have hs := shl_lt b 64 (64 - m)
  have e : ((shlI b 64 (64 - m) : Nat) : Int) % 18446744073709551616 = ((shlI b 64 (64 - m) : Nat) : Int) := by omega
  refine ⟨((64 - m : Nat) : Int), ((64 - m : Nat) : Int), by rw [IntKind.wrap_i64]; omega, by rw [IntKind.wrap_u64]; omega, shl_any k (show (b : Int) % 18446744073709551616 = (b : Int) by omega) hu hur, sar_any k e hu hur, shr_any k e hu hur (rg_nat k hs)⟩
theorem ext_K {w H M : Int} {n : Nat} (k : Wm w n H M) {f : Int} {m b : Nat} (p : Pc f m) (hb : b < 18446744073709551616) (g : m ≤ n) (sg : Bool) : Ct 97 #[.int .i64 w, .int .i64 f, .int .u64 (b : Int), .bool sg] (.int .u64 ((numI (extG b m sg) n : Nat) : Int)) := by
  obtain ⟨HP, hf, h8, h64⟩ := piece_K p
  obtain ⟨d, u, hd, hu, HL, HS, HU⟩ := ext_pre p hb
  obtain ⟨-, k2, k3, -, k5, -⟩ := k.two
  have hs := shl_lt b 64 (64 - m)
  cases sg
  · have hl := shr_lt (64 - m) hs
    refine ct_eq (ext_f HP (by omega) hd hu HL HU (cut_K k (by unfold Rg; omega))) ?_
    rw [k2, ← Int.natCast_emod, ext_num (fun i hi => (ext_bits (by omega) g k5 hi).2)]
  · have hl := sar_lt hs (show 64 - m < 64 by omega)
    refine ct_eq (ext_t HP (by omega) hd hu HL HS (cut_K k (by unfold Rg; omega))) ?_
    rw [k2, ← Int.natCast_emod, ext_num (fun i hi => (ext_bits (by omega) g k5 hi).1)]
theorem bn {x c : Int} (h : ¬ x = c) : (x != c) = true := by simpa using h
end Go.Proofs.YtpbgpdmffejdgaaGreatDoor
