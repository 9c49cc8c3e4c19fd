/- Zf, SgM, SgC, ToF, ToG. -/
import Derived.Test.YtpbgpdmffejdgaaGreatDoorS01
import Derived.Test.YtpbgpdmffejdgaaGreatDoorS25
import Derived.Test.YtpbgpdmffejdgaaGreatDoorS29
import Derived.Test.YtpbgpdmffejdgaaGreatDoorS31
import Derived.Laws.BitsAllLaws
namespace Go.Proofs.YtpbgpdmffejdgaaGreatDoor
def Z5 : Nat := 5000
theorem Z5_at : ((0 : Int) + 5000).toNat = Z5 := rfl
end Go.Proofs.YtpbgpdmffejdgaaGreatDoor
namespace Go.Proofs.YtpbgpdmffejdgaaGreatDoor
open Go.RowKit

/-- The bit of a width's sign. -/
def sb (f P Q : Int) : Int := if f = 0 then 0 else P * Q
/-- A float with a sign, or without. -/
def sN (f P Q : Int) (n : Bool) (x : Int) : Int := if f = 0 then 0 else x % (P * Q) + (if n then P * Q else 0)
/-- Whether a float has a sign. -/
def isN (f P Q x : Int) : Bool := f != 0 && sg P Q x

theorem nat_and (k X : Nat) : X &&& 2 ^ k = if X / 2 ^ k % 2 = 1 then 2 ^ k else 0 := by
  apply Nat.eq_of_testBit_eq
  intro i
  rw [Nat.testBit_and, Nat.testBit_two_pow]
  by_cases hi : k = i
  · subst hi
    rw [Nat.testBit_eq_decide_div_mod_eq]
    by_cases h : X / 2 ^ k % 2 = 1
    · rw [if_pos h, Nat.testBit_two_pow_self]; simp [h]
    · rw [if_neg h, Nat.zero_testBit]; simp [h]
  · rw [decide_eq_false hi, Bool.and_false]
    by_cases h : X / 2 ^ k % 2 = 1
    · rw [if_pos h, Nat.testBit_two_pow, decide_eq_false hi]
    · rw [if_neg h, Nat.zero_testBit]
theorem nat_xor (k c : Nat) (hc : c < 2 * 2 ^ k) : c ^^^ 2 ^ k = if c / 2 ^ k = 1 then c % 2 ^ k else c % 2 ^ k + 2 ^ k := by
  have h1 : (c ^^^ 2 ^ k) % 2 ^ k = c % 2 ^ k := by rw [Nat.xor_mod_two_pow, Nat.mod_self, Nat.xor_zero]
  have h2 : (c ^^^ 2 ^ k) / 2 ^ k = c / 2 ^ k ^^^ 1 := by rw [Nat.xor_div_two_pow, Nat.div_self (Nat.two_pow_pos _)]
  have h3 := Nat.div_add_mod (c ^^^ 2 ^ k) (2 ^ k)
  have h4 : c / 2 ^ k < 2 := Nat.div_lt_of_lt_mul (by rw [Nat.mul_comm]; exact hc)
  have h5 : c / 2 ^ k = 0 ∨ c / 2 ^ k = 1 := by
    generalize c / 2 ^ k = t at h4
    omega
  rw [h1, h2] at h3
  rcases h5 with h | h <;> rw [h] at h3 ⊢
  · rw [if_neg (by decide)]; rw [show (0 ^^^ 1 : Nat) = 1 from rfl] at h3; omega
  · rw [if_pos rfl]; rw [show (1 ^^^ 1 : Nat) = 0 from rfl] at h3; omega
theorem nat_or (k r : Nat) (hr : r < 2 ^ k) : r ||| 2 ^ k = r + 2 ^ k := by
  have := Nat.two_pow_add_eq_or_of_lt hr 1
  rw [Nat.mul_one] at this
  rw [Nat.or_comm, ← this, Nat.add_comm]
/-- The numbers of a width that is one. -/
theorem kd_pow {w e f P Q b : Int} (k : Kd w e f P Q b) : ∃ m : Nat, (m = 31 ∨ m = 63) ∧ P * Q = ((2 ^ m : Nat) : Int) ∧ w = m + 1 := by
  rcases k with ⟨rfl, -, -, rfl, rfl, -⟩ | ⟨rfl, -, -, rfl, rfl, -⟩
  · exact ⟨31, Or.inl rfl, by decide, by decide⟩
  · exact ⟨63, Or.inr rfl, by decide, by decide⟩
theorem sg_nat {P Q : Int} {m X : Nat} (h : P * Q = ((2 ^ m : Nat) : Int)) : sg P Q (X : Int) = decide (X / 2 ^ m % 2 = 1) := by
  unfold sg
  rw [h, ← Int.natCast_ediv, show (2 : Int) = ((2 : Nat) : Int) from rfl, ← Int.natCast_emod]
  generalize X / 2 ^ m % 2 = t
  by_cases ht : t = 1
  · subst ht; rfl
  · rw [decide_eq_false ht]; simp; omega
theorem pow_2 {m : Nat} (h : m = 31 ∨ m = 63) : 2 ^ m = 2147483648 ∨ 2 ^ m = 9223372036854775808 := by
  rcases h with rfl | rfl
  · exact Or.inl rfl
  · exact Or.inr rfl

theorem bit_and {w e f P Q b x : Int} (h : Wd w e f P Q b) (x0 : 0 ≤ x) (x1 : x < 18446744073709551616) : bits .and .u64 x (sb f P Q) = if isN f P Q x then P * Q else 0 := by
  unfold sb isN
  obtain ⟨X, rfl⟩ := Int.eq_ofNat_of_zero_le x0
  by_cases hf : f = 0
  · rw [if_pos hf, hf]
    have := Go.bits_and_u64_nat X 0 (by omega) (by omega)
    simpa using this
  · obtain ⟨m, hm, e, -⟩ := kd_pow (h.known hf)
    rw [if_neg hf, sg_nat e, e, Go.bits_and_u64_nat X _ (by omega) (by have := pow_2 hm; omega), nat_and]
    by_cases ht : X / 2 ^ m % 2 = 1 <;> simp [ht, hf]
theorem cut_nat {w e f P Q b : Int} (k : Kd w e f P Q b) {m : Nat} (e : P * Q = ((2 ^ m : Nat) : Int)) (X : Nat) : cutN f P Q (X : Int) = ((X % (2 * 2 ^ m) : Nat) : Int) := by
  unfold cutN
  rw [if_neg k.f0, e, Int.natCast_emod, Int.natCast_mul]
  rfl
theorem bit_andNot {w e f P Q b x : Int} (h : Wd w e f P Q b) (x0 : 0 ≤ x) : bits .andNot .u64 (cutN f P Q x) (sb f P Q) = sN f P Q false x := by
  obtain ⟨X, rfl⟩ := Int.eq_ofNat_of_zero_le x0
  by_cases hf : f = 0
  · unfold cutN sb sN
    rw [if_pos hf, if_pos hf, if_pos hf]
    decide +kernel
  · have k := h.known hf
    obtain ⟨m, hm, e, -⟩ := kd_pow k
    rw [cut_nat k e]
    unfold sb sN
    rw [if_neg hf, if_neg hf, e]
    have hp := pow_2 hm
    rw [u64_andNot_nat _ _ (Nat.lt_of_lt_of_le (Nat.mod_lt X (show 0 < 2 * 2 ^ m by omega)) (by omega)) (by omega)]
    simp only [Bool.false_eq_true, if_false, Int.add_zero]
    rw [← Int.natCast_emod]
    congr 1
    rcases hm with rfl | rfl
    · rw [show X % (2 * 2 ^ 31) = X &&& 4294967295 by rw [show 4294967295 = 2 ^ 32 - 1 by decide, Nat.and_two_pow_sub_one_eq_mod], Nat.and_assoc, show 4294967295 &&& (18446744073709551615 - 2 ^ 31) = 2 ^ 31 - 1 by decide, Nat.and_two_pow_sub_one_eq_mod]
    · rw [show (18446744073709551615 - 2 ^ 63) = 2 ^ 63 - 1 by decide, Nat.and_two_pow_sub_one_eq_mod]
      omega
theorem bit_xor {w e f P Q b x : Int} (h : Wd w e f P Q b) (x0 : 0 ≤ x) : bits .xor .u64 (cutN f P Q x) (sb f P Q) = sN f P Q (!sg P Q x) x := by
  obtain ⟨X, rfl⟩ := Int.eq_ofNat_of_zero_le x0
  by_cases hf : f = 0
  · unfold cutN sb sN
    rw [if_pos hf, if_pos hf, if_pos hf]
    decide +kernel
  · have k := h.known hf
    obtain ⟨m, hm, e, -⟩ := kd_pow k
    rw [cut_nat k e, sg_nat e]
    unfold sb sN
    rw [if_neg hf, if_neg hf, e]
    have hp := pow_2 hm
    rw [u64_xor_nat _ _ (Nat.lt_of_lt_of_le (Nat.mod_lt X (show 0 < 2 * 2 ^ m by omega)) (by omega)) (by omega), nat_xor m _ (Nat.mod_lt _ (by omega))]
    have h1 : X % (2 * 2 ^ m) / 2 ^ m = X / 2 ^ m % 2 := by rw [Nat.mul_comm 2, Nat.mod_mul_right_div_self]
    have h2 : X % (2 * 2 ^ m) % 2 ^ m = X % 2 ^ m := Nat.mod_mul_left_mod _ _ _
    rw [h1, h2]
    by_cases ht : X / 2 ^ m % 2 = 1
    · simp [ht]
    · simp [ht]
theorem bit_or {w e f P Q b x : Int} (h : Wd w e f P Q b) (x0 : 0 ≤ x) (y : Int) : bits .or .u64 (sN f P Q false x) (if isN f P Q y then P * Q else 0) = sN f P Q (sg P Q y) x := by
  obtain ⟨X, rfl⟩ := Int.eq_ofNat_of_zero_le x0
  by_cases hf : f = 0
  · unfold isN sN
    rw [if_pos hf, if_pos hf, hf, show ((0 : Int) != 0 && sg P Q y) = false from rfl, if_neg (by decide)]
    decide +kernel
  · have k := h.known hf
    obtain ⟨m, hm, e, -⟩ := kd_pow k
    have hi : isN f P Q y = sg P Q y := by unfold isN; simp [hf]
    rw [hi]
    unfold sN
    rw [if_neg hf, if_neg hf, e]
    have hp := pow_2 hm
    have hl : X % 2 ^ m < 2 ^ m := Nat.mod_lt _ (by omega)
    rw [← Int.natCast_emod]
    cases sg P Q y
    · simp only [Bool.false_eq_true, if_false, Int.add_zero]
      have := Go.bits_or_u64_nat (X % 2 ^ m) 0 (by omega) (by omega)
      simpa using this
    · simp only [Bool.false_eq_true, if_false, if_true, Int.add_zero]
      rw [Go.bits_or_u64_nat (X % 2 ^ m) (2 ^ m) (by omega) (by omega), nat_or m _ hl]
      omega
end Go.Proofs.YtpbgpdmffejdgaaGreatDoor
namespace Go.Proofs.YtpbgpdmffejdgaaGreatDoor
open Go.RowKit

theorem bitOf_any {w e f P Q b : Int} (h : Wd w e f P Q b) (W : World) (m : Mk W) : Calls Tryz.prog 149 #[.int .i64 w] W fun r W' => r = .returned (.int .u64 (sb f P Q)) ∧ Below W.heap.size W W' := by
  rcases h with ⟨rfl, rfl, rfl, rfl, rfl, rfl⟩ | ⟨rfl, rfl, rfl, rfl, rfl, rfl⟩ | ⟨⟨h1, h2⟩, rfl, rfl, rfl, rfl, rfl⟩
  · exact bitOf_32 W m
  · exact bitOf_64 W m
  · exact bitOf_no w W m h1 h2
theorem abs_any {w e f P Q b x : Int} (h : Wd w e f P Q b) (x0 : 0 ≤ x) (x1 : x < 18446744073709551616) : Cm 78 #[.int .i64 w, .int .u64 x] (.int .u64 (sN f P Q false x)) := fun W m =>
  abs_w W m (hide (fun W => cut_any x h W x0 x1)) (hide (bitOf_any h)) (bit_andNot h x0)
theorem neg_any {w e f P Q b x : Int} (h : Wd w e f P Q b) (x0 : 0 ≤ x) (x1 : x < 18446744073709551616) : Cm 79 #[.int .i64 w, .int .u64 x] (.int .u64 (sN f P Q (!sg P Q x) x)) := fun W m =>
  neg_w W m (hide (fun W => cut_any x h W x0 x1)) (hide (bitOf_any h)) (bit_xor h x0)
theorem copy_any {w e f P Q b x y : Int} (h : Wd w e f P Q b) (x0 : 0 ≤ x) (x1 : x < 18446744073709551616) (y0 : 0 ≤ y) (y1 : y < 18446744073709551616) : Cm 91 #[.int .i64 w, .int .u64 x, .int .u64 y] (.int .u64 (sN f P Q (sg P Q y) x)) := fun W m =>
  copy_w W m (abs_any h x0 x1) (hide (bitOf_any h)) (bit_and h y0 y1) (bit_or h x0 y)
end Go.Proofs.YtpbgpdmffejdgaaGreatDoor
namespace Go.Proofs.YtpbgpdmffejdgaaGreatDoor
open Go.RowKit
open Go.Proofs.YtpbgpdmffejdgaaGreatDoor.W

theorem nat_sto {w : World} {s : Value} {x : Nat} {b : Nat} {a : Option Addr} {n c : Nat} (h : IsNat w s x) (hc : w.cell? ⟨b, 0, none⟩ = some (.slice a n c)) (o : Nat) (v : Value) : IsNat (w.setCell ⟨b, o, none⟩ v) s x := by
  obtain ⟨D, h1 | ⟨g, c', h1, h2, h3, h4, h5⟩, hD⟩ := h
  · exact ⟨D, Or.inl h1, hD⟩
  · refine ⟨D, Or.inr ⟨g, c', h1, by simpa using h2, h3, h4, fun i hi => ?_⟩, hD⟩
    have hne : g ≠ b := by
      intro he
      subst he
      have := h5 0 (by omega)
      rw [hc] at this
      cases this
    rw [World.cell?_setCell_other _ _ _ _ (by intro he; injection he with he1; exact hne he1.symm)]
    exact h5 i hi
/-- A real's variable, that can be written. -/
def Res (R : Nat) (w : World) : Prop := Room R 3 w ∧ w.cell? ⟨R, 0, none⟩ = some (.slice none 0 0)
theorem Res.below {R : Nat} {w w' : World} (h : Res R w) (hb : Below w.heap.size w w') : Res R w' := ⟨h.1.below hb, keep1 hb (lt_of_cell h.2) h.2⟩
theorem stable_res (R : Nat) : Stable (Res R) := fun _ _ h k => h.below k
theorem Res.off {R c : Nat} {w : World} (h : Res R w) (hc : R ≠ c) (o : Nat) (v : Value) : Res R (w.setCell ⟨c, o, none⟩ v) := ⟨h.1.off hc o v, keep_set c o v hc h.2⟩
theorem nat_sto3 {w : World} {s : Value} {x R : Nat} (h : IsNat w s x) (hr : Res R w) (a b : Option Addr) (n c m d : Nat) (e : Value) : IsNat (((w.setCell ⟨R, 0, none⟩ (.slice a n c)).setCell ⟨R, 1, none⟩ (.slice b m d)).setCell ⟨R, 2, none⟩ e) s x := by
  have h0 := set_same1 hr.2 (.slice a n c)
  have h1 : ((w.setCell ⟨R, 0, none⟩ (.slice a n c)).setCell ⟨R, 1, none⟩ (.slice b m d)).cell? ⟨R, 0, none⟩ = some (.slice a n c) := by
    rw [World.cell?_setCell_other _ _ _ _ (by intro he; injection he with _ he2; simp at he2)]
    exact h0
  exact nat_sto (nat_sto (nat_sto h hr.2 0 _) h0 1 _) h1 2 _
/-- The sum's variables: both operands, the answer's, both numbers, the one. -/
structure SSt (W : World) (b1 b2 b3 : Nat) (n1 n2 : Bool) (K1 X1 S1 K2 X2 S2 : Int) (s1 s2 s3 : Value) (x y : Nat) (w : World) : Prop where
  a1 : At4 W.heap.size (.bool n1) (.int .i64 K1) (.int .i64 X1) (.int .u64 S1) w
  a2 : At4 (W.heap.size + 1) (.bool n2) (.int .i64 K2) (.int .i64 X2) (.int .u64 S2) w
  rs : Res (W.heap.size + 1 + 1) w
  c1 : w.cell? ⟨b1, 0, none⟩ = some s1
  c2 : w.cell? ⟨b2, 0, none⟩ = some s2
  c3 : w.cell? ⟨b3, 0, none⟩ = some s3
  m1 : IsNat w s1 x
  m2 : IsNat w s2 y
  m3 : IsNat w s3 1
  z : W.heap.size + 1 + 1 < b1 ∧ W.heap.size + 1 + 1 < b2 ∧ W.heap.size + 1 + 1 < b3
  bel : Below W.heap.size W w
theorem SSt.below {W : World} {b1 b2 b3 : Nat} {n1 n2 : Bool} {K1 X1 S1 K2 X2 S2 : Int} {s1 s2 s3 : Value} {x y : Nat} {w w' : World} (h : SSt W b1 b2 b3 n1 n2 K1 X1 S1 K2 X2 S2 s1 s2 s3 x y w) (hb : Below w.heap.size w w') : SSt W b1 b2 b3 n1 n2 K1 X1 S1 K2 X2 S2 s1 s2 s3 x y w' :=
  { a1 := h.a1.below hb, a2 := h.a2.below hb, rs := h.rs.below hb, c1 := keep1 hb (lt_of_cell h.c1) h.c1, c2 := keep1 hb (lt_of_cell h.c2) h.c2, c3 := keep1 hb (lt_of_cell h.c3) h.c3, m1 := h.m1.below hb, m2 := h.m2.below hb, m3 := h.m3.below hb, z := h.z, bel := bthen h.bel hb }
theorem set3 {R b : Nat} {w : World} {v : Value} (h : R < b) (hc : w.cell? ⟨b, 0, none⟩ = some v) (x y z : Value) : (((w.setCell ⟨R, 0, none⟩ x).setCell ⟨R, 1, none⟩ y).setCell ⟨R, 2, none⟩ z).cell? ⟨b, 0, none⟩ = some v :=
  keep_set _ _ _ (by omega) (keep_set _ _ _ (by omega) (keep_set _ _ _ (by omega) hc))
end Go.Proofs.YtpbgpdmffejdgaaGreatDoor
namespace Go.Proofs.YtpbgpdmffejdgaaGreatDoor
open Go.RowKit
open Go.Proofs.YtpbgpdmffejdgaaGreatDoor.W

set_option maxHeartbeats 8000000 in
set_option maxRecDepth 100000 in
theorem rsum_w {K1 X1 S1 K2 X2 S2 L : Int} {n1 n2 nn : Bool} {d1 d2 Z : Nat} (W : World) (hL : X1 ≤ X2 ∧ X1 = L ∨ ¬ X1 ≤ X2 ∧ X2 = L) (HS : Hid (0 ≤ S1 ∧ S1 < 18446744073709551616 ∧ S1.toNat < pw 2 ∧ 0 ≤ S2 ∧ S2 < 18446744073709551616 ∧ S2.toNat < pw 2))
    (HD : Hid ((∀ z, z = X1 - L → IntKind.i64.wrap z = (d1 : Int)) ∧ d1 ≤ 10000 ∧ (∀ z, z = X2 - L → IntKind.i64.wrap z = (d2 : Int)) ∧ d2 ≤ 10000)) (H3 : Hid ((S1.toNat * 2 ^ d1) < pw 300 ∧ (S2.toNat * 2 ^ d2) < pw 300))
    (HQ : (n1 == n2) = true ∧ Z = (S1.toNat * 2 ^ d1) + (S2.toNat * 2 ^ d2) ∧ n1 = nn ∨ (n1 == n2) = false ∧ (0 ≤ cmpN (S1.toNat * 2 ^ d1) (S2.toNat * 2 ^ d2) ∧ (S2.toNat * 2 ^ d2) ≤ (S1.toNat * 2 ^ d1) ∧ Z = (S1.toNat * 2 ^ d1) - (S2.toNat * 2 ^ d2) ∧ n1 = nn ∨ ¬ 0 ≤ cmpN (S1.toNat * 2 ^ d1) (S2.toNat * 2 ^ d2) ∧ (S1.toNat * 2 ^ d1) ≤ (S2.toNat * 2 ^ d2) ∧ Z = (S2.toNat * 2 ^ d2) - (S1.toNat * 2 ^ d1) ∧ n2 = nn)) :
    Calls Tryz.prog 53 #[.agg #[.bool n1, .int .i64 K1, .int .i64 X1, .int .u64 S1], .agg #[.bool n2, .int .i64 K2, .int .i64 X2, .int .u64 S2]] W fun r W' => ∃ s t, r = .returned (.tuple #[.agg #[s, t, .int .i64 L], .bool nn]) ∧ IsNat W' s Z ∧ IsNat W' t 1 ∧ Below W.heap.size W W' := by
  rcases hL with ⟨hm, rfl⟩ | ⟨hm, rfl⟩
  all_goals
    go_enter Tryz.func53, Tryz.ntmps53
    go_wp2_with fail
    have HB := hide ((balloc (below2 W (.cells #[.bool n1, .int .i64 K1, .int .i64 X1, .int .u64 S1] 37) (.cells #[.bool n2, .int .i64 K2, .int .i64 X2, .int .u64 S2] 37)) (.cells #[.slice none 0 0, .slice none 0 0, .int .i64 0] 43)).drew)
    have HA := hide (And.intro ((at4_new2a W (.bool n1) (.int .i64 K1) (.int .i64 X1) (.int .u64 S1) 37 (.cells #[.bool n2, .int .i64 K2, .int .i64 X2, .int .u64 S2] 37)).below (below1 _ (.cells #[.slice none 0 0, .slice none 0 0, .int .i64 0] 43)).drew) (And.intro ((at4_new2b W (.cells #[.bool n1, .int .i64 K1, .int .i64 X1, .int .u64 S1] 37) (.bool n2) (.int .i64 K2) (.int .i64 X2) (.int .u64 S2) 37).below (below1 _ (.cells #[.slice none 0 0, .slice none 0 0, .int .i64 0] 43)).drew) (show Res (W.heap.size + 1 + 1) (((W.alloc (.cells #[.bool n1, .int .i64 K1, .int .i64 X1, .int .u64 S1] 37)).alloc (.cells #[.bool n2, .int .i64 K2, .int .i64 X2, .int .u64 S2] 37)).alloc (.cells #[.slice none 0 0, .slice none 0 0, .int .i64 0] 43)).drew from ⟨(show Room (W.heap.size + 1 + 1) 3 (((W.alloc (.cells #[.bool n1, .int .i64 K1, .int .i64 X1, .int .u64 S1] 37)).alloc (.cells #[.bool n2, .int .i64 K2, .int .i64 X2, .int .u64 S2] 37)).alloc (.cells #[.slice none 0 0, .slice none 0 0, .int .i64 0] 43)) from by
      intro o ho
      match o, ho with
      | 0, _ | 1, _ | 2, _ => simp [go_sem]).drew, by simp [go_sem]⟩)))
    refine wp_region_held_drew (S := fun w' => (w'.cell? ⟨W.heap.size, 0, none⟩ = some (.bool n1) ∧ w'.cell? ⟨W.heap.size, 1, none⟩ = some (.int .i64 K1) ∧ w'.cell? ⟨W.heap.size, 2, none⟩ = some (.int .i64 X1) ∧ w'.cell? ⟨W.heap.size, 3, none⟩ = some (.int .u64 S1)) ∧ (w'.cell? ⟨W.heap.size + 1, 0, none⟩ = some (.bool n2) ∧ w'.cell? ⟨W.heap.size + 1, 1, none⟩ = some (.int .i64 K2) ∧ w'.cell? ⟨W.heap.size + 1, 2, none⟩ = some (.int .i64 X2) ∧ w'.cell? ⟨W.heap.size + 1, 3, none⟩ = some (.int .u64 S2)) ∧ Res (W.heap.size + 1 + 1) w') (by kernel_rfl) ?_ (fun hHeld => ?_)
    · (try dsimp only)
      exact unhide HA
    refine wo_start (N := W.heap.size + 1 + 1 + 1) (i1 := 8) (d1 := 7) (v1 := #[.slice none 0 0]) (t1 := 41) (f := 1) (n := 8) (T := fun w' => Below W.heap.size W w') (by kernel_rfl) (by kernel_rfl) (fun _ _ _ _ _ h => h) (stable_and (stable_at4 _ _ _ _ _) (stable_and (stable_at4 _ _ _ _ _) (stable_res _))) ?_ (stable_below W) hHeld (unhide HB) (by simp) ?_
    · intro a w K h
      unfold wpOp
      go_simp
      exact Or.inl h
    clear hHeld
    refine woA 0 15 ?_
    refine woA 1 16 ?_
    refine woA 3 18 ?_
    refine woA 4 19 ?_
    refine woA 5 20 ?_
    refine woA 6 21 ?_
    refine wo_call (c := 2) (o := { dst := some 17, op := _, type := _, pos := _, after := _, guard := _ }) rfl (by kernel_rfl) (by kernel_rfl) (fun u hSu hTu Kk hKk => ?_)
    go_simp
    refine (refOf_any S1 _ (unhide HS).1 (unhide HS).2.1).mono ?_
    rintro _ wn ⟨s1, rfl, hN1, hbl⟩
    obtain ⟨a1, m1, c1, rfl⟩ := hN1.slice
    have HTn := hide (And.intro (bthen hTu hbl) hN1)
    clear hTu hN1
    (try go_wp2_with fail)
    refine hKk.out _ _ (fun w' => Below W.heap.size W w' ∧ IsNat w' (.slice a1 m1 c1) S1.toNat) (by assumption) (stable_and (stable_below W) (stable_nat _ _)) (unhide HTn) ?_
    clear hKk Kk HTn
    (try simp only [Act.put, List.setIfInBounds_toArray, List.set_cons_zero, List.set_cons_succ])
    refine wo_call (c := 7) (o := { dst := some 22, op := _, type := _, pos := _, after := _, guard := _ }) rfl (by kernel_rfl) (by kernel_rfl) (fun u hSu hTu Kk hKk => ?_)
    go_simp
    refine (shl_k _ _ _ _ _ d1 _ ((unhide HD).1 _ (by omega)) hTu.2 (unhide HS).2.2.1 (unhide HD).2.1).mono ?_
    rintro _ wn ⟨s2, rfl, hN2, hbl⟩
    obtain ⟨a2, m2, c2, rfl⟩ := hN2.slice
    have HTn := hide (And.intro (bthen hTu.1 hbl) hN2)
    clear hTu hN2
    (try go_wp2_with fail)
    refine hKk.out _ _ (fun w' => Below W.heap.size W w' ∧ IsNat w' (.slice a2 m2 c2) (S1.toNat * 2 ^ d1)) (by assumption) (stable_and (stable_below W) (stable_nat _ _)) (unhide HTn) ?_
    clear hKk Kk HTn
    (try simp only [Act.put, List.setIfInBounds_toArray, List.set_cons_zero, List.set_cons_succ])
    refine wo_fin (by kernel_rfl) (fun wf b1 hSu hTu k1 => ?_)
    (try simp only [Act.put, List.setIfInBounds_toArray, List.set_cons_zero, List.set_cons_succ])
    unfold ptr
    have zb := k1.base
    obtain ⟨f0, f1⟩ := fresh1 k1
    refine anyH_at #[true, true, true, true, true, true, true, true, true, false] (by kernel_rfl) ?_
    refine wpAnyH_ready (rs := [9]) (by kernel_rfl) (by simp) ?_
    refine AllReadyH.cons (o := { dst := none, op := _, type := _, pos := _, after := _, guard := _ }) rfl (fun Kk hKk => ?_) AllReadyH.nil
    go_simp
    refine hKk.out _ _ ?_ (fun hHeld => ?_)
    · (try dsimp only)
      exact ⟨At4.set hSu.1 (by omega) _ _, At4.set hSu.2.1 (by omega) _ _, Res.off hSu.2.2 (by omega) _ _⟩
    clear hKk Kk
    refine wpAnyH_done (by kernel_rfl) ?_ _
    have HA := hide hHeld
    have HB := hide (bset hTu.1 b1 (by omega) 0 (.slice a2 m2 c2))
    have HM := hide (hTu.2.store f0 (.slice a2 m2 c2))
    have HC1 := hide (set_same1 f0 (.slice a2 m2 c2))
    have ZB := hide zb
    clear hHeld hSu hTu k1 f0 f1 zb
    generalize wf.setCell ⟨b1, 0, none⟩ (.slice a2 m2 c2) = wx at *
    go_wp2_with fail
    have HA := hide (And.intro (At4.below (unhide HA).1 ((Below.refl _ _).drew)) (And.intro (At4.below (unhide HA).2.1 ((Below.refl _ _).drew)) (Res.below (unhide HA).2.2 ((Below.refl _ _).drew))))
    have HB := hide ((unhide HB).drew)
    have HM := hide ((unhide HM).below ((Below.refl _ _).drew))
    have HC1 := hide (keep1 ((Below.refl _ _).drew) (lt_of_cell (unhide HC1)) (unhide HC1))
    have hz4 : b1 + 1 ≤ wx.drew.heap.size := lt_of_cell (unhide HC1)
    refine wp_region_held_drew (S := fun w' => (w'.cell? ⟨W.heap.size, 0, none⟩ = some (.bool n1) ∧ w'.cell? ⟨W.heap.size, 1, none⟩ = some (.int .i64 K1) ∧ w'.cell? ⟨W.heap.size, 2, none⟩ = some (.int .i64 X1) ∧ w'.cell? ⟨W.heap.size, 3, none⟩ = some (.int .u64 S1)) ∧ (w'.cell? ⟨W.heap.size + 1, 0, none⟩ = some (.bool n2) ∧ w'.cell? ⟨W.heap.size + 1, 1, none⟩ = some (.int .i64 K2) ∧ w'.cell? ⟨W.heap.size + 1, 2, none⟩ = some (.int .i64 X2) ∧ w'.cell? ⟨W.heap.size + 1, 3, none⟩ = some (.int .u64 S2)) ∧ Res (W.heap.size + 1 + 1) w' ∧ w'.cell? ⟨b1, 0, none⟩ = some (.slice a2 m2 c2)) (by kernel_rfl) ?_ (fun hHeld => ?_)
    · (try dsimp only)
      exact ⟨(unhide HA).1, (unhide HA).2.1, (unhide HA).2.2, unhide HC1⟩
    refine wo_start (N := b1 + 1) (i1 := 8) (d1 := 8) (v1 := #[.slice none 0 0]) (t1 := 41) (f := 1) (n := 8) (T := fun w' => Below W.heap.size W w' ∧ IsNat w' (.slice a2 m2 c2) (S1.toNat * 2 ^ d1)) (by kernel_rfl) (by kernel_rfl) (fun _ _ _ _ _ h => h) (stable_and (stable_at4 _ _ _ _ _) (stable_and (stable_at4 _ _ _ _ _) (stable_and (stable_res _) (stable_cell _ _)))) ?_ (stable_and (stable_below W) (stable_nat _ _)) hHeld (⟨unhide HB, unhide HM⟩) (hz4) ?_
    · intro a w K h
      unfold wpOp
      go_simp
      exact Or.inl h
    clear hHeld
    refine woA 0 23 ?_
    refine woA 1 24 ?_
    refine woA 3 26 ?_
    refine woA 4 27 ?_
    refine woA 5 28 ?_
    refine woA 6 29 ?_
    refine wo_call (c := 2) (o := { dst := some 25, op := _, type := _, pos := _, after := _, guard := _ }) rfl (by kernel_rfl) (by kernel_rfl) (fun u hSu hTu Kk hKk => ?_)
    go_simp
    refine (refOf_any S2 _ (unhide HS).2.2.2.1 (unhide HS).2.2.2.2.1).mono ?_
    rintro _ wn ⟨s3, rfl, hN3, hbl⟩
    obtain ⟨a3, m3, c3, rfl⟩ := hN3.slice
    have HTn := hide (And.intro (bthen hTu.1 hbl) (And.intro (hTu.2.below hbl) hN3))
    clear hTu hN3
    (try go_wp2_with fail)
    refine hKk.out _ _ (fun w' => Below W.heap.size W w' ∧ IsNat w' (.slice a2 m2 c2) (S1.toNat * 2 ^ d1) ∧ IsNat w' (.slice a3 m3 c3) S2.toNat) (by assumption) (stable_and (stable_below W) (stable_and (stable_nat _ _) (stable_nat _ _))) (unhide HTn) ?_
    clear hKk Kk HTn
    (try simp only [Act.put, List.setIfInBounds_toArray, List.set_cons_zero, List.set_cons_succ])
    refine wo_call (c := 7) (o := { dst := some 30, op := _, type := _, pos := _, after := _, guard := _ }) rfl (by kernel_rfl) (by kernel_rfl) (fun u hSu hTu Kk hKk => ?_)
    go_simp
    refine (shl_k _ _ _ _ _ d2 _ ((unhide HD).2.2.1 _ (by omega)) hTu.2.2 (unhide HS).2.2.2.2.2 (unhide HD).2.2.2).mono ?_
    rintro _ wn ⟨s4, rfl, hN4, hbl⟩
    obtain ⟨a4, m4, c4, rfl⟩ := hN4.slice
    have HTn := hide (And.intro (bthen hTu.1 hbl) (And.intro (hTu.2.1.below hbl) hN4))
    clear hTu hN4
    (try go_wp2_with fail)
    refine hKk.out _ _ (fun w' => Below W.heap.size W w' ∧ IsNat w' (.slice a2 m2 c2) (S1.toNat * 2 ^ d1) ∧ IsNat w' (.slice a4 m4 c4) (S2.toNat * 2 ^ d2)) (by assumption) (stable_and (stable_below W) (stable_and (stable_nat _ _) (stable_nat _ _))) (unhide HTn) ?_
    clear hKk Kk HTn
    (try simp only [Act.put, List.setIfInBounds_toArray, List.set_cons_zero, List.set_cons_succ])
    refine wo_fin (by kernel_rfl) (fun wf b2 hSu hTu k1 => ?_)
    (try simp only [Act.put, List.setIfInBounds_toArray, List.set_cons_zero, List.set_cons_succ])
    unfold ptr
    have zb := k1.base
    obtain ⟨f0, f1⟩ := fresh1 k1
    refine anyH_at #[true, true, true, true, true, true, true, true, true, false] (by kernel_rfl) ?_
    refine wpAnyH_ready (rs := [9]) (by kernel_rfl) (by simp) ?_
    refine AllReadyH.cons (o := { dst := none, op := _, type := _, pos := _, after := _, guard := _ }) rfl (fun Kk hKk => ?_) AllReadyH.nil
    go_simp
    refine hKk.out _ _ ?_ (fun hHeld => ?_)
    · (try dsimp only)
      exact ⟨At4.set hSu.1 (by have := unhide ZB; omega) _ _, At4.set hSu.2.1 (by have := unhide ZB; omega) _ _, Res.off hSu.2.2.1 (by have := unhide ZB; omega) _ _, keep_set _ _ _ (by omega) hSu.2.2.2⟩
    clear hKk Kk
    refine wpAnyH_done (by kernel_rfl) ?_ _
    have HA := hide hHeld
    have HB := hide (bset hTu.1 b2 (by have := unhide ZB; omega) 0 (.slice a4 m4 c4))
    have HM := hide (hTu.2.1.store f0 (.slice a4 m4 c4))
    have HM2 := hide (hTu.2.2.store f0 (.slice a4 m4 c4))
    have HC2 := hide (set_same1 f0 (.slice a4 m4 c4))
    have ZC := hide zb
    clear hHeld hSu hTu k1 f0 f1 zb HC1 hz4
    generalize wf.setCell ⟨b2, 0, none⟩ (.slice a4 m4 c4) = wy at *
    go_wp2_with fail
    refine (refOf_1 _).mono ?_
    rintro _ w4 ⟨s5, rfl, hN, hb⟩
    obtain ⟨a5, m5, c5, rfl⟩ := hN.slice
    have HK : Hid (SSt W b1 b2 w4.heap.size n1 n2 K1 X1 S1 K2 X2 S2 (.slice a2 m2 c2) (.slice a4 m4 c4) (.slice a5 m5 c5) (S1.toNat * 2 ^ d1) (S2.toNat * 2 ^ d2) (w4.alloc (.cells #[.slice a5 m5 c5] 41))) := by
      have hb2 := bthen hb (below1 w4 (.cells #[.slice a5 m5 c5] 41))
      exact { a1 := At4.below (unhide HA).1 hb2, a2 := At4.below (unhide HA).2.1 hb2, rs := Res.below (unhide HA).2.2.1 hb2, c1 := keep1 hb2 (lt_of_cell (unhide HA).2.2.2) (unhide HA).2.2.2, c2 := keep1 hb2 (lt_of_cell (unhide HC2)) (unhide HC2), c3 := by simp [go_sem], m1 := (unhide HM).below hb2, m2 := (unhide HM2).below hb2, m3 := hN.below (below1 w4 (.cells #[.slice a5 m5 c5] 41)), z := by have h1 := unhide ZB; have h2 := unhide ZC; have h3 := lt_of_cell (keep1 hb (lt_of_cell (unhide HC2)) (unhide HC2)); exact ⟨by omega, by omega, by omega⟩, bel := bthen (unhide HB) hb2 }
    clear HA HB HM HM2 HC2 ZB ZC hb hN
    rcases HQ with ⟨hn, rfl, rfl⟩ | ⟨hn, HQ⟩
    · have s0 := (unhide HK).a1.1
      have s1 := (unhide HK).a2.1
      have p1 := (unhide HK).c1
      have p2 := (unhide HK).c2
      have p3 := (unhide HK).c3
      go_wp2_with fail
      clear s0 s1 p1 p2 p3
      have HK := hide ((unhide HK).below ((Below.refl _ _).drew))
      refine wp_region_held_drew (S := fun w' => (w'.cell? ⟨W.heap.size, 0, none⟩ = some (.bool n1) ∧ w'.cell? ⟨W.heap.size, 1, none⟩ = some (.int .i64 K1) ∧ w'.cell? ⟨W.heap.size, 2, none⟩ = some (.int .i64 X1) ∧ w'.cell? ⟨W.heap.size, 3, none⟩ = some (.int .u64 S1)) ∧ (w'.cell? ⟨W.heap.size + 1, 0, none⟩ = some (.bool n2) ∧ w'.cell? ⟨W.heap.size + 1, 1, none⟩ = some (.int .i64 K2) ∧ w'.cell? ⟨W.heap.size + 1, 2, none⟩ = some (.int .i64 X2) ∧ w'.cell? ⟨W.heap.size + 1, 3, none⟩ = some (.int .u64 S2)) ∧ w'.cell? ⟨b1, 0, none⟩ = some (.slice a2 m2 c2) ∧ w'.cell? ⟨b2, 0, none⟩ = some (.slice a4 m4 c4) ∧ w'.cell? ⟨w4.heap.size, 0, none⟩ = some (.slice a5 m5 c5)) (by kernel_rfl) ?_ (fun hHeld => ?_)
      · (try dsimp only)
        exact ⟨(unhide HK).a1, (unhide HK).a2, (unhide HK).c1, (unhide HK).c2, (unhide HK).c3⟩
      refine lst0 10 (by kernel_rfl) ?_
      refine tkA 0 38 1 ?_
      refine tkA 1 39 3 ?_
      refine tkA 3 41 11 ?_
      refine tkA 4 42 27 ?_
      refine tkA 6 44 91 ?_
      refine tkA 7 45 219 ?_
      refine rdA 2 223 (fun Kk hKk => ?_)
      go_simp
      refine (add_k _ _ _ _ _ _ _ _ _ (unhide HK).m1 (unhide HK).m2 (unhide H3).1 (unhide H3).2).mono ?_
      rintro _ w7 ⟨s7, rfl, hN, hb⟩
      obtain ⟨a7, m7, c7, rfl⟩ := hN.slice
      have HK := hide ((unhide HK).below hb)
      have HN := hide hN
      clear hb hN
      (try go_wp2_with fail)
      refine hKk.out _ _ ?_ (fun hHeld => ?_)
      · (try dsimp only)
        exact ⟨(unhide HK).a1, (unhide HK).a2, (unhide HK).c1, (unhide HK).c2, (unhide HK).c3⟩
      clear hKk Kk
      (try simp only [List.setIfInBounds_toArray, List.set_cons_zero, List.set_cons_succ])
      refine tkA 5 43 255 ?_
      refine rdA 8 511 (fun Kk hKk => ?_)
      obtain ⟨⟨u0, r0⟩, g0⟩ := (unhide HK).rs.1 0 (by omega)
      obtain ⟨⟨u1, r1⟩, g1⟩ := (unhide HK).rs.1 1 (by omega)
      obtain ⟨⟨u2, r2⟩, g2⟩ := (unhide HK).rs.1 2 (by omega)
      go_simp
      refine hKk.out _ _ ?_ (fun hHeld => ?_)
      · (try dsimp only)
        exact ⟨At4.set (c := W.heap.size + 1 + 1) (At4.set (c := W.heap.size + 1 + 1) (At4.set (c := W.heap.size + 1 + 1) (unhide HK).a1 (by omega) _ _) (by omega) _ _) (by omega) _ _, At4.set (c := W.heap.size + 1 + 1) (At4.set (c := W.heap.size + 1 + 1) (At4.set (c := W.heap.size + 1 + 1) (unhide HK).a2 (by omega) _ _) (by omega) _ _) (by omega) _ _, set3 (unhide HK).z.1 (unhide HK).c1 _ _ _, set3 (unhide HK).z.2.1 (unhide HK).c2 _ _ _, set3 (unhide HK).z.2.2 (unhide HK).c3 _ _ _⟩
      clear hKk Kk
      (try simp only [List.setIfInBounds_toArray, List.set_cons_zero, List.set_cons_succ])
      refine tkA 9 5 1023 ?_
      refine wpAnyH_done (by kernel_rfl) ?_ _
      clear hHeld
      go_wp2_with fail
      exact bodyPost_ret (v := .tuple #[.agg #[.slice a7 m7 c7, .slice a5 m5 c5, .int .i64 _], .bool _]) (by simp (maxDischargeDepth := 8) [results, Tryz.results53, go_sem, r0, r1, r2]) rfl ⟨_, _, rfl, nat_sto3 (unhide HN) (unhide HK).rs _ _ _ _ _ _ _, nat_sto3 (unhide HK).m3 (unhide HK).rs _ _ _ _ _ _ _, bset (bset (bset (unhide HK).bel (W.heap.size + 1 + 1) (by omega) _ _) (W.heap.size + 1 + 1) (by omega) _ _) (W.heap.size + 1 + 1) (by omega) _ _⟩
    · have s0 := (unhide HK).a1.1
      have s1 := (unhide HK).a2.1
      have p1 := (unhide HK).c1
      have p2 := (unhide HK).c2
      have p3 := (unhide HK).c3
      go_wp2_with fail
      clear s0 s1 p1 p2 p3
      refine (refCmp_any _ _ _ _ _ _ _ _ _ (unhide HK).m1 (unhide HK).m2).mono ?_
      rintro _ w6 ⟨rfl, hb⟩
      have HK := hide ((unhide HK).below hb)
      clear hb
      rcases HQ with ⟨hv, hle, rfl, rfl⟩ | ⟨hv, hle, rfl, rfl⟩
      · have s0 := (unhide HK).a1.1
        have s1 := (unhide HK).a2.1
        have p1 := (unhide HK).c1
        have p2 := (unhide HK).c2
        have p3 := (unhide HK).c3
        go_wp2_with fail
        clear s0 s1 p1 p2 p3
        have HK := hide ((unhide HK).below ((Below.refl _ _).drew))
        refine wp_region_held_drew (S := fun w' => (w'.cell? ⟨W.heap.size, 0, none⟩ = some (.bool n1) ∧ w'.cell? ⟨W.heap.size, 1, none⟩ = some (.int .i64 K1) ∧ w'.cell? ⟨W.heap.size, 2, none⟩ = some (.int .i64 X1) ∧ w'.cell? ⟨W.heap.size, 3, none⟩ = some (.int .u64 S1)) ∧ (w'.cell? ⟨W.heap.size + 1, 0, none⟩ = some (.bool n2) ∧ w'.cell? ⟨W.heap.size + 1, 1, none⟩ = some (.int .i64 K2) ∧ w'.cell? ⟨W.heap.size + 1, 2, none⟩ = some (.int .i64 X2) ∧ w'.cell? ⟨W.heap.size + 1, 3, none⟩ = some (.int .u64 S2)) ∧ w'.cell? ⟨b1, 0, none⟩ = some (.slice a2 m2 c2) ∧ w'.cell? ⟨b2, 0, none⟩ = some (.slice a4 m4 c4) ∧ w'.cell? ⟨w4.heap.size, 0, none⟩ = some (.slice a5 m5 c5)) (by kernel_rfl) ?_ (fun hHeld => ?_)
        · (try dsimp only)
          exact ⟨(unhide HK).a1, (unhide HK).a2, (unhide HK).c1, (unhide HK).c2, (unhide HK).c3⟩
        refine lst0 10 (by kernel_rfl) ?_
        refine tkA 0 51 1 ?_
        refine tkA 1 52 3 ?_
        refine tkA 3 54 11 ?_
        refine tkA 4 55 27 ?_
        refine tkA 6 57 91 ?_
        refine tkA 7 58 219 ?_
        refine rdA 2 223 (fun Kk hKk => ?_)
        go_simp
        refine (sub_k _ _ _ _ _ _ _ _ _ (unhide HK).m1 (unhide HK).m2 (unhide H3).1 hle).mono ?_
        rintro _ w7 ⟨s7, rfl, hN, hb⟩
        obtain ⟨a7, m7, c7, rfl⟩ := hN.slice
        have HK := hide ((unhide HK).below hb)
        have HN := hide hN
        clear hb hN
        (try go_wp2_with fail)
        refine hKk.out _ _ ?_ (fun hHeld => ?_)
        · (try dsimp only)
          exact ⟨(unhide HK).a1, (unhide HK).a2, (unhide HK).c1, (unhide HK).c2, (unhide HK).c3⟩
        clear hKk Kk
        (try simp only [List.setIfInBounds_toArray, List.set_cons_zero, List.set_cons_succ])
        refine tkA 5 56 255 ?_
        refine rdA 8 511 (fun Kk hKk => ?_)
        obtain ⟨⟨u0, r0⟩, g0⟩ := (unhide HK).rs.1 0 (by omega)
        obtain ⟨⟨u1, r1⟩, g1⟩ := (unhide HK).rs.1 1 (by omega)
        obtain ⟨⟨u2, r2⟩, g2⟩ := (unhide HK).rs.1 2 (by omega)
        go_simp
        refine hKk.out _ _ ?_ (fun hHeld => ?_)
        · (try dsimp only)
          exact ⟨At4.set (c := W.heap.size + 1 + 1) (At4.set (c := W.heap.size + 1 + 1) (At4.set (c := W.heap.size + 1 + 1) (unhide HK).a1 (by omega) _ _) (by omega) _ _) (by omega) _ _, At4.set (c := W.heap.size + 1 + 1) (At4.set (c := W.heap.size + 1 + 1) (At4.set (c := W.heap.size + 1 + 1) (unhide HK).a2 (by omega) _ _) (by omega) _ _) (by omega) _ _, set3 (unhide HK).z.1 (unhide HK).c1 _ _ _, set3 (unhide HK).z.2.1 (unhide HK).c2 _ _ _, set3 (unhide HK).z.2.2 (unhide HK).c3 _ _ _⟩
        clear hKk Kk
        (try simp only [List.setIfInBounds_toArray, List.set_cons_zero, List.set_cons_succ])
        refine tkA 9 5 1023 ?_
        refine wpAnyH_done (by kernel_rfl) ?_ _
        clear hHeld
        go_wp2_with fail
        exact bodyPost_ret (v := .tuple #[.agg #[.slice a7 m7 c7, .slice a5 m5 c5, .int .i64 _], .bool _]) (by simp (maxDischargeDepth := 8) [results, Tryz.results53, go_sem, r0, r1, r2]) rfl ⟨_, _, rfl, nat_sto3 (unhide HN) (unhide HK).rs _ _ _ _ _ _ _, nat_sto3 (unhide HK).m3 (unhide HK).rs _ _ _ _ _ _ _, bset (bset (bset (unhide HK).bel (W.heap.size + 1 + 1) (by omega) _ _) (W.heap.size + 1 + 1) (by omega) _ _) (W.heap.size + 1 + 1) (by omega) _ _⟩
      · have s0 := (unhide HK).a1.1
        have s1 := (unhide HK).a2.1
        have p1 := (unhide HK).c1
        have p2 := (unhide HK).c2
        have p3 := (unhide HK).c3
        go_wp2_with fail
        clear s0 s1 p1 p2 p3
        have HK := hide ((unhide HK).below ((Below.refl _ _).drew))
        refine wp_region_held_drew (S := fun w' => (w'.cell? ⟨W.heap.size, 0, none⟩ = some (.bool n1) ∧ w'.cell? ⟨W.heap.size, 1, none⟩ = some (.int .i64 K1) ∧ w'.cell? ⟨W.heap.size, 2, none⟩ = some (.int .i64 X1) ∧ w'.cell? ⟨W.heap.size, 3, none⟩ = some (.int .u64 S1)) ∧ (w'.cell? ⟨W.heap.size + 1, 0, none⟩ = some (.bool n2) ∧ w'.cell? ⟨W.heap.size + 1, 1, none⟩ = some (.int .i64 K2) ∧ w'.cell? ⟨W.heap.size + 1, 2, none⟩ = some (.int .i64 X2) ∧ w'.cell? ⟨W.heap.size + 1, 3, none⟩ = some (.int .u64 S2)) ∧ w'.cell? ⟨b1, 0, none⟩ = some (.slice a2 m2 c2) ∧ w'.cell? ⟨b2, 0, none⟩ = some (.slice a4 m4 c4) ∧ w'.cell? ⟨w4.heap.size, 0, none⟩ = some (.slice a5 m5 c5)) (by kernel_rfl) ?_ (fun hHeld => ?_)
        · (try dsimp only)
          exact ⟨(unhide HK).a1, (unhide HK).a2, (unhide HK).c1, (unhide HK).c2, (unhide HK).c3⟩
        refine lst0 10 (by kernel_rfl) ?_
        refine tkA 0 59 1 ?_
        refine tkA 1 60 3 ?_
        refine tkA 3 62 11 ?_
        refine tkA 4 63 27 ?_
        refine tkA 6 65 91 ?_
        refine tkA 7 66 219 ?_
        refine rdA 2 223 (fun Kk hKk => ?_)
        go_simp
        refine (sub_k _ _ _ _ _ _ _ _ _ (unhide HK).m2 (unhide HK).m1 (unhide H3).2 hle).mono ?_
        rintro _ w7 ⟨s7, rfl, hN, hb⟩
        obtain ⟨a7, m7, c7, rfl⟩ := hN.slice
        have HK := hide ((unhide HK).below hb)
        have HN := hide hN
        clear hb hN
        (try go_wp2_with fail)
        refine hKk.out _ _ ?_ (fun hHeld => ?_)
        · (try dsimp only)
          exact ⟨(unhide HK).a1, (unhide HK).a2, (unhide HK).c1, (unhide HK).c2, (unhide HK).c3⟩
        clear hKk Kk
        (try simp only [List.setIfInBounds_toArray, List.set_cons_zero, List.set_cons_succ])
        refine tkA 5 64 255 ?_
        refine rdA 8 511 (fun Kk hKk => ?_)
        obtain ⟨⟨u0, r0⟩, g0⟩ := (unhide HK).rs.1 0 (by omega)
        obtain ⟨⟨u1, r1⟩, g1⟩ := (unhide HK).rs.1 1 (by omega)
        obtain ⟨⟨u2, r2⟩, g2⟩ := (unhide HK).rs.1 2 (by omega)
        go_simp
        refine hKk.out _ _ ?_ (fun hHeld => ?_)
        · (try dsimp only)
          exact ⟨At4.set (c := W.heap.size + 1 + 1) (At4.set (c := W.heap.size + 1 + 1) (At4.set (c := W.heap.size + 1 + 1) (unhide HK).a1 (by omega) _ _) (by omega) _ _) (by omega) _ _, At4.set (c := W.heap.size + 1 + 1) (At4.set (c := W.heap.size + 1 + 1) (At4.set (c := W.heap.size + 1 + 1) (unhide HK).a2 (by omega) _ _) (by omega) _ _) (by omega) _ _, set3 (unhide HK).z.1 (unhide HK).c1 _ _ _, set3 (unhide HK).z.2.1 (unhide HK).c2 _ _ _, set3 (unhide HK).z.2.2 (unhide HK).c3 _ _ _⟩
        clear hKk Kk
        (try simp only [List.setIfInBounds_toArray, List.set_cons_zero, List.set_cons_succ])
        refine tkA 9 5 1023 ?_
        refine wpAnyH_done (by kernel_rfl) ?_ _
        clear hHeld
        go_wp2_with fail
        exact bodyPost_ret (v := .tuple #[.agg #[.slice a7 m7 c7, .slice a5 m5 c5, .int .i64 _], .bool _]) (by simp (maxDischargeDepth := 8) [results, Tryz.results53, go_sem, r0, r1, r2]) rfl ⟨_, _, rfl, nat_sto3 (unhide HN) (unhide HK).rs _ _ _ _ _ _ _, nat_sto3 (unhide HK).m3 (unhide HK).rs _ _ _ _ _ _ _, bset (bset (bset (unhide HK).bel (W.heap.size + 1 + 1) (by omega) _ _) (W.heap.size + 1 + 1) (by omega) _ _) (W.heap.size + 1 + 1) (by omega) _ _⟩
end Go.Proofs.YtpbgpdmffejdgaaGreatDoor
