/- CsT, CsE, LawM, Laid. -/
import Derived.Test.YtahdcbjfabccpaaDoorM04
import Derived.Test.YtahdcbjfabccpaaDoorM12
import Derived.Test.YtahdcbjfabccpaaDoorM13
import Derived.Test.YtahdcbjfabccpaaDoorM27
import Derived.Test.YtahdcbjfabccpaaDoorM33
import Derived.Lib.TrailingZeros
import Derived.Test.YtahdcbjfabccpaaDoorTie
import Derived.ProofKit
import Derived.LaidMore
import Derived.OpenShut
import Derived.Stop.Joined
import Derived.Lib.SmallJoins
namespace Go.Proofs.YtahdcbjfabccpaaDoor
open Go.RowKit
open Go.Proofs.YtahdcbjfabccpaaDoor.W

/-- The table of de Bruijn's numbers, in its variable. -/
def Mk (W : World) : Prop := ∀ j, j < 64 → W.cell? ⟨0, j, none⟩ = some (.int .u8 (Lib.deBruijn64tab.getD j 0 : Nat))
theorem Mk.below {w w' : World} (h : Mk w) (hb : Below w.heap.size w w') : Mk w' := fun j hj => keep1 hb (lt_of_cell (h j hj)) (h j hj)
/-- What a function answers where the table is so. -/
def Cm (f : Nat) (args : Array Value) (res : Value) : Prop := Hid (∀ W, Mk W → Calls Tryd.prog f args W fun r W' => r = .returned res ∧ Below W.heap.size W W')

set_option maxHeartbeats 1000000 in
theorem tz_core (x k idx : Nat) (W : World) (hx0 : ((x : Int) == 0) = false)
    (key : IntKind.u64.wrap (bits BinOp.and IntKind.u64 (x : Int) (IntKind.u64.wrap (-(x : Int))) * 285870213051353865) / 288230376151711744 = (idx : Int))
    (hi : idx < 64) (hk : k < 64) (hcell : W.cell? ⟨0, idx, none⟩ = some (.int .u8 k)) :
    Calls Tryd.prog 43 #[.int .u64 x] W fun r W' => r = .returned (.int .i64 k) ∧ W' = W := by
  go_enter Tryd.func43, Tryd.ntmps43
  go_wp2_with (simp only [key])
  go_ret
  exact ⟨rfl, rfl⟩
theorem tz_zero (W : World) : Calls Tryd.prog 43 #[.int .u64 0] W fun r W' => r = .returned (.int .i64 64) ∧ W' = W := by
  go_enter Tryd.func43, Tryd.ntmps43
  go_wp2
  go_ret
  exact ⟨rfl, rfl⟩
theorem neg_word {x : Nat} (h0 : x ≠ 0) (h1 : x < 18446744073709551616) : IntKind.u64.wrap (-(x : Int)) = ((18446744073709551616 - x : Nat) : Int) := by rw [IntKind.wrap_u64]; omega
theorem low_word {x a : Nat} (h0 : x ≠ 0) (h1 : x < 18446744073709551616) (hl : x &&& (18446744073709551616 - x) = a) :
    IntKind.u64.wrap (bits BinOp.and IntKind.u64 (x : Int) (IntKind.u64.wrap (-(x : Int))) * 285870213051353865) / 288230376151711744 = ((a * 285870213051353865 % 18446744073709551616 / 288230376151711744 : Nat) : Int) := by
  rw [neg_word h0 h1, Go.bits_and_u64_nat x _ h1 (by omega), hl, IntKind.wrap_u64]
  omega
theorem tz_any (x : Nat) (h1 : x < 18446744073709551616) (W : World) (m : Mk W) :
    Calls Tryd.prog 43 #[.int .u64 x] W fun r W' => r = .returned (.int .i64 (Lib.ctz 64 x : Nat)) ∧ W' = W := by
  by_cases h0 : x = 0
  · subst h0
    exact tz_zero W
  · obtain ⟨hl, hk⟩ := Lib.lowest_bit 64 x h0 h1
    obtain ⟨hi, ht⟩ := Lib.deBruijn64_at _ hk
    have hc := m _ hi
    rw [ht] at hc
    exact tz_core x _ _ W (by simp; omega) (low_word h0 h1 hl) hi hk hc

set_option maxHeartbeats 4000000 in
set_option maxRecDepth 100000 in
theorem span_z (W : World) (HM : Hid (Mk W)) (HT : Hid (∀ W, Mk W → Calls Tryd.prog 43 #[.int .u64 0] W fun r W' => r = .returned (.int .i64 64) ∧ Below W.heap.size W W')) (HL : Ct 42 #[.int .u64 0] (.int .i64 0)) :
    Calls Tryd.prog 21 #[.int .u64 0] W fun r W' => r = .returned (.int .i64 0) ∧ Below W.heap.size W W' := by
  have HB := hide (Below.refl W.heap.size W)
  go_enter Tryd.func21, Tryd.ntmps21
  go_wp2_with fail
  refine (unhide HT _ (unhide HM)).mono ?_
  rintro _ w1 ⟨rfl, hb⟩
  have HB := hide (bthen (unhide HB) hb)
  have HM := hide ((unhide HM).below hb)
  clear hb
  go_wp2_with fail
  refine (unhide HL _).mono ?_
  rintro _ w2 ⟨rfl, hb⟩
  have HB := hide (bthen (unhide HB) hb)
  have HM := hide ((unhide HM).below hb)
  clear hb
  go_wp2_with fail
  go_ret
  exact ⟨rfl, unhide HB⟩
set_option maxHeartbeats 4000000 in
set_option maxRecDepth 100000 in
theorem span_n {x t y L : Int} (W : World) (HM : Hid (Mk W)) (t0 : 0 ≤ t) (t1 : t < 64) (HT : Cm 43 #[.int .u64 x] (.int .i64 t)) (h : x / 2 ^ t.toNat = y) (HL : Ct 42 #[.int .u64 y] (.int .i64 L)) :
    Calls Tryd.prog 21 #[.int .u64 x] W fun r W' => r = .returned (.int .i64 L) ∧ Below W.heap.size W W' := by
  have HB := hide (Below.refl W.heap.size W)
  go_enter Tryd.func21, Tryd.ntmps21
  go_wp2_with fail
  refine (unhide HT _ (unhide HM)).mono ?_
  rintro _ w1 ⟨rfl, hb⟩
  have HB := hide (bthen (unhide HB) hb)
  have HM := hide ((unhide HM).below hb)
  clear hb
  go_wp2_with fail
  refine (unhide HL _).mono ?_
  rintro _ w2 ⟨rfl, hb⟩
  have HB := hide (bthen (unhide HB) hb)
  have HM := hide ((unhide HM).below hb)
  clear hb
  go_wp2_with fail
  go_ret
  exact ⟨rfl, unhide HB⟩
set_option maxHeartbeats 4000000 in
set_option maxRecDepth 100000 in
theorem cknown_l {w e f : Int} (W : World) (HF : Ct 20 #[.int .i64 w] (.tuple #[.int .i64 e, .int .i64 f])) :
    Calls Tryd.prog 18 #[.int .i64 w] W fun r W' => r = .returned (.bool (e != 0)) ∧ Below W.heap.size W W' := by
  have HB := hide (Below.refl W.heap.size W)
  go_enter Tryd.func18, Tryd.ntmps18
  go_wp2_with fail
  refine (unhide HF _).mono ?_
  rintro _ w1 ⟨rfl, hb⟩
  have HB := hide (bthen (unhide HB) hb)
  clear hb
  go_wp2_with fail
  go_ret
  exact ⟨rfl, unhide HB⟩
set_option maxHeartbeats 4000000 in
set_option maxRecDepth 100000 in
theorem exact_no1 {w k x : Int} {s : Bool} (W : World) (HW : Ct 18 #[.int .i64 w] (.bool false)) :
    Calls Tryd.prog 8 #[.int .i64 w, .int .i64 k, .int .u64 x, .bool s] W fun r W' => r = .returned (.bool false) ∧ Below W.heap.size W W' := by
  have HB := hide (Below.refl W.heap.size W)
  go_enter Tryd.func8, Tryd.ntmps8
  go_wp2_with fail
  refine (unhide HW _).mono ?_
  rintro _ w1 ⟨rfl, hb⟩
  have HB := hide (bthen (unhide HB) hb)
  clear hb
  go_wp2_with fail
  go_ret
  exact ⟨rfl, unhide HB⟩
set_option maxHeartbeats 4000000 in
set_option maxRecDepth 100000 in
theorem exact_no2 {w k x : Int} {s : Bool} (W : World) (HW : Ct 18 #[.int .i64 w] (.bool true)) (HK : Ct 18 #[.int .i64 k] (.bool false)) :
    Calls Tryd.prog 8 #[.int .i64 w, .int .i64 k, .int .u64 x, .bool s] W fun r W' => r = .returned (.bool false) ∧ Below W.heap.size W W' := by
  have HB := hide (Below.refl W.heap.size W)
  go_enter Tryd.func8, Tryd.ntmps8
  go_wp2_with fail
  refine (unhide HW _).mono ?_
  rintro _ w1 ⟨rfl, hb⟩
  have HB := hide (bthen (unhide HB) hb)
  clear hb
  go_wp2_with fail
  refine (unhide HK _).mono ?_
  rintro _ w2 ⟨rfl, hb⟩
  have HB := hide (bthen (unhide HB) hb)
  clear hb
  go_wp2_with fail
  go_ret
  exact ⟨rfl, unhide HB⟩
set_option maxHeartbeats 4000000 in
set_option maxRecDepth 100000 in
theorem exact_yes {w k x a e f g L : Int} {s m : Bool} (W : World) (HM : Hid (Mk W)) (HW : Ct 18 #[.int .i64 w] (.bool true)) (HK : Ct 18 #[.int .i64 k] (.bool true)) (HN : Ct 19 #[.int .i64 k, .int .u64 x, .bool s] (.tuple #[.bool m, .int .u64 a])) (HF : Ct 20 #[.int .i64 w] (.tuple #[.int .i64 e, .int .i64 f])) (h : IntKind.i64.wrap (f + 1) = g) (HS : Cm 21 #[.int .u64 a] (.int .i64 L)) :
    Calls Tryd.prog 8 #[.int .i64 w, .int .i64 k, .int .u64 x, .bool s] W fun r W' => r = .returned (.bool (decide (L ≤ g))) ∧ Below W.heap.size W W' := by
  have HB := hide (Below.refl W.heap.size W)
  go_enter Tryd.func8, Tryd.ntmps8
  go_wp2_with fail
  refine (unhide HW _).mono ?_
  rintro _ w1 ⟨rfl, hb⟩
  have HB := hide (bthen (unhide HB) hb)
  have HM := hide ((unhide HM).below hb)
  clear hb
  go_wp2_with fail
  refine (unhide HK _).mono ?_
  rintro _ w2 ⟨rfl, hb⟩
  have HB := hide (bthen (unhide HB) hb)
  have HM := hide ((unhide HM).below hb)
  clear hb
  go_wp2_with fail
  refine (unhide HN _).mono ?_
  rintro _ w3 ⟨rfl, hb⟩
  have HB := hide (bthen (unhide HB) hb)
  have HM := hide ((unhide HM).below hb)
  clear hb
  go_wp2_with fail
  refine (unhide HF _).mono ?_
  rintro _ w4 ⟨rfl, hb⟩
  have HB := hide (bthen (unhide HB) hb)
  have HM := hide ((unhide HM).below hb)
  clear hb
  go_wp2_with fail
  refine (unhide HS _ (unhide HM)).mono ?_
  rintro _ w5 ⟨rfl, hb⟩
  have HB := hide (bthen (unhide HB) hb)
  have HM := hide ((unhide HM).below hb)
  clear hb
  go_wp2_with fail
  go_ret
  exact ⟨rfl, unhide HB⟩
end Go.Proofs.YtahdcbjfabccpaaDoor
namespace Go.Proofs.YtahdcbjfabccpaaDoor
open Go.RowKit
open Go.Proofs.YtahdcbjfabccpaaDoor.W

/-- How many bits there are from the highest one to the lowest one. -/
def spanN (a : Nat) : Nat := Go.bitLen (a / 2 ^ Lib.ctz 64 a)
/-- Whether the float that is nearest to a whole number is that number. -/
def exB (f b : Int) (a : Nat) : Bool := decide (fval f.toNat (lowN f b) (code f.toNat (lowN f b) (a * 2 ^ Z5)) = a * 2 ^ Z5)

theorem odd_split {a : Nat} (h0 : a ≠ 0) (h1 : a < 18446744073709551616) : ∃ m, a = 2 ^ Lib.ctz 64 a * (2 * m + 1) := by
  obtain ⟨m, hm, -⟩ := Lib.ctzFrom_spec 64 a (by omega) h1
  refine ⟨m, ?_⟩
  unfold Lib.ctz
  rw [if_neg h0]
  exact hm
theorem span_iff {f L a : Nat} (hL : L ≤ Z5) (h0 : a ≠ 0) (h1 : a < 18446744073709551616) : spanN a ≤ f + 1 ↔ fval f L (code f L (a * 2 ^ Z5)) = a * 2 ^ Z5 := by
  obtain ⟨m, hm⟩ := odd_split h0 h1
  have ho : a / 2 ^ Lib.ctz 64 a = 2 * m + 1 := by
    have := Nat.mul_div_cancel_left (2 * m + 1) (Nat.two_pow_pos (Lib.ctz 64 a))
    rw [← hm] at this
    exact this
  unfold spanN
  rw [ho]
  generalize Lib.ctz 64 a = t at *
  have hv : a * 2 ^ Z5 = (2 * m + 1) * 2 ^ (Z5 + t) := by rw [hm, Nat.mul_comm (2 ^ t), Nat.mul_assoc, ← Nat.pow_add, Nat.add_comm t]
  rw [hv]
  constructor
  · intro h
    obtain ⟨c, hc⟩ := rep_k (f := f) (L := L) (s := 2 * m + 1) (k := Z5 + t) (bl_lt h) (by omega)
    rw [hc, fval_code]
  · intro h
    obtain ⟨s, k, -, hs, -, -, he⟩ := fval_ex f L (code f L ((2 * m + 1) * 2 ^ (Z5 + t)))
    rw [h] at he
    refine bitLen_of ?_
    generalize Z5 + t = j at *
    by_cases hk : k ≤ j
    · obtain ⟨i, rfl⟩ : ∃ i, j = k + i := ⟨j - k, by omega⟩
      rw [Nat.pow_add, Nat.mul_comm (2 ^ k), ← Nat.mul_assoc] at he
      have e2 := Nat.eq_of_mul_eq_mul_right (Nat.two_pow_pos k) he
      have := Nat.le_mul_of_pos_right (2 * m + 1) (Nat.two_pow_pos i)
      omega
    · obtain ⟨i, rfl⟩ : ∃ i, k = j + (i + 1) := ⟨k - j - 1, by omega⟩
      rw [Nat.pow_add, Nat.mul_comm (2 ^ j), ← Nat.mul_assoc] at he
      have e2 := Nat.eq_of_mul_eq_mul_right (Nat.two_pow_pos j) he
      rw [Nat.pow_succ, ← Nat.mul_assoc] at e2
      generalize s * 2 ^ i = r at e2
      exfalso
      omega
theorem span_zero : spanN 0 = 0 := by decide +kernel
theorem exB_zero (f b : Int) : exB f b 0 = true := by
  unfold exB
  rw [Nat.zero_mul, code_zero, fval_zero]
  rfl
theorem span_exB {w e f P Q b : Int} (k : Kd w e f P Q b) {a : Nat} (h1 : a < 18446744073709551616) : decide ((spanN a : Int) ≤ f + 1) = exB f b a := by
  have hf : 0 ≤ f := by rcases k with ⟨-, -, rfl, -⟩ | ⟨-, -, rfl, -⟩ <;> decide
  by_cases h0 : a = 0
  · subst h0
    rw [exB_zero, span_zero]
    exact dt (by omega)
  · have h2 : ((spanN a : Int) ≤ f + 1) ↔ (spanN a ≤ f.toNat + 1) := by omega
    exact decide_eq_decide.mpr (h2.trans (span_iff (f := f.toNat) (low_le k) h0 h1))

theorem below_same {P : Program} {fn : Nat} {args : Array Value} {W : World} {v : Value} (h : Calls P fn args W fun r W' => r = .returned v ∧ W' = W) : Calls P fn args W fun r W' => r = .returned v ∧ Below W.heap.size W W' :=
  h.mono (by rintro _ _ ⟨rfl, rfl⟩; exact ⟨rfl, Below.refl _ _⟩)
theorem span_any {x : Int} (x0 : 0 ≤ x) (x1 : x < 18446744073709551616) : Cm 21 #[.int .u64 x] (.int .i64 (spanN x.toNat : Nat)) := by
  obtain ⟨a, rfl⟩ := Int.eq_ofNat_of_zero_le x0
  rw [Int.toNat_natCast]
  by_cases h0 : a = 0
  · subst h0
    rw [span_zero]
    exact hide (fun W m => span_z W m (hide (fun W _ => below_same (tz_zero W))) (hide (fun W => below_same (len64_any 0 W (by omega) (by omega)))))
  · have hk := (Lib.lowest_bit 64 a h0 (by omega)).2
    have hd : (a : Int) / 2 ^ ((Lib.ctz 64 a : Nat) : Int).toNat = ((a / 2 ^ Lib.ctz 64 a : Nat) : Int) := by
      rw [Int.toNat_natCast, Int.natCast_ediv, Int.natCast_pow]
      rfl
    have hle := Nat.div_le_self a (2 ^ Lib.ctz 64 a)
    unfold spanN
    generalize a / 2 ^ Lib.ctz 64 a = y at *
    have hl := fun W => len64_any (y : Int) W (by omega) (by omega)
    rw [Int.toNat_natCast] at hl
    exact hide (fun W m => span_n W m (by omega) (by omega) (hide (fun W m => below_same (tz_any a (by omega) W m))) hd (hide (fun W => below_same (hl W))))
theorem cknown_any {w e f P Q b : Int} (h : Wd w e f P Q b) : Ct 18 #[.int .i64 w] (.bool (f != 0)) := by
  have hk := fun W => cknown_l W (hide (fun W => fields_any h W))
  rw [show (e != 0) = (f != 0) by rcases h with ⟨-, rfl, rfl, -⟩ | ⟨-, rfl, rfl, -⟩ | ⟨-, rfl, rfl, -⟩ <;> decide] at hk
  exact hide hk
theorem cexact_no {w e f P Q b k e' f' P' Q' b' x : Int} (kw : Wd w e f P Q b) (kk : Wd k e' f' P' Q' b') (h : f = 0 ∨ f' = 0) (s : Bool) : Ct 8 #[.int .i64 w, .int .i64 k, .int .u64 x, .bool s] (.bool false) := by
  have HW := cknown_any kw
  have HK := cknown_any kk
  by_cases hf : f = 0
  · rw [ne_f hf] at HW
    exact hide (fun W => exact_no1 W HW)
  · rw [ne_t hf] at HW
    rw [ne_f (h.resolve_left hf)] at HK
    exact hide (fun W => exact_no2 W HW HK)
theorem cexact_any {w e f P Q b k e' f' P' Q' b' x : Int} (kw : Kd w e f P Q b) (kk : Kd k e' f' P' Q' b') (s : Bool) (x0 : 0 ≤ x) (x1 : x < 18446744073709551616) : Cm 8 #[.int .i64 w, .int .i64 k, .int .u64 x, .bool s] (.bool (exB f b (amt (P' * Q') s x).toNat)) := by
  have HW := cknown_any kw.wd
  have HK := cknown_any kk.wd
  rw [ne_t kw.f0] at HW
  rw [ne_t kk.f0] at HK
  obtain ⟨a0, a1, -⟩ := amt_in kk s x
  rw [← span_exB kw (show (amt (P' * Q') s x).toNat < 18446744073709551616 by omega)]
  exact hide (fun W m => exact_yes W m HW HK (number_any kk s x0 x1) (hide (fun W => fields_any kw.wd W)) (i64_id (by rcases kw with ⟨-, -, rfl, -⟩ | ⟨-, -, rfl, -⟩ <;> omega) (by rcases kw with ⟨-, -, rfl, -⟩ | ⟨-, -, rfl, -⟩ <;> omega)) (span_any a0 a1))

theorem signed_any {k e f P Q b x : Int} (kd : Kd k e f P Q b) (x0 : 0 ≤ x) (x1 : x < 18446744073709551616) : Ct 23 #[.int .i64 k, .int .u64 x] (.tuple #[.bool (ngs (P * Q) true x), .int .u64 (amt (P * Q) true x)]) := by
  have HC := fun W => refCut_any x kd W x0 x1
  rw [show cutN f P Q x = x % (2 * (P * Q)) by unfold cutN; rw [if_neg kd.f0]] at HC
  rcases kd_half kd with ⟨rfl, h⟩ | ⟨rfl, h⟩ <;> rw [h] at HC ⊢ <;> clear h
  · have HT := fun W => two_any 31 2147483648 W (by omega) (by omega) (by decide +kernel)
    by_cases g : 2147483648 ≤ x % (2 * 2147483648)
    · rw [ngs_t g, amt_t g]
      exact hide (fun W => signed_32 W (hide HC) (hide HT) (by omega) (by rw [IntKind.wrap_u64]; omega))
    · rw [ngs_p g, amt_p g]
      exact hide (fun W => signed_p W (hide HC) (by decide) (hide HT) (by omega))
  · have HT := fun W => two_any 63 9223372036854775808 W (by omega) (by omega) (by decide +kernel)
    by_cases g : 9223372036854775808 ≤ x % (2 * 9223372036854775808)
    · rw [ngs_t g, amt_t g]
      exact hide (fun W => signed_64 W (hide HC) (hide HT) (by omega) (by rw [IntKind.wrap_u64, Int.emod_eq_of_lt (by omega) (by omega)]) (by rw [IntKind.wrap_u64]; omega))
    · rw [ngs_p g, amt_p g]
      exact hide (fun W => signed_p W (hide HC) (by decide) (hide HT) (by omega))

theorem word_140 {x : Int} (x1 : x < 18446744073709551616) : x.toNat < pw 140 := lt_pw (k := 2) 140 (by rw [pw_2]; omega) (by omega)
theorem at_word {w e f P Q b : Int} (k : Kd w e f P Q b) (n : Bool) {a : Int} (a1 : a < 18446744073709551616) :
    Hid (∀ (p : Option Addr) (np cp : Nat) (W : World), IsNat W (.slice p np cp) a.toNat → Calls Tryd.prog 24 #[.int .i64 w, .bool n, .agg #[.slice p np cp], .int .i64 0] W fun r W' => r = .returned (.int .u64 (rd f P Q b n (a.toNat * 2 ^ Z5))) ∧ Below W.heap.size W W') :=
  ex_at (low := 0) k n a.toNat (a.toNat * 2 ^ Z5) (word_140 a1) (by omega) (by omega) (by rw [Z5_at])
theorem refMake_any {w e f P Q b k e' f' P' Q' b' x : Int} (kw : Kd w e f P Q b) (kk : Kd k e' f' P' Q' b') (s : Bool) (x0 : 0 ≤ x) (x1 : x < 18446744073709551616) : Ct 10 #[.int .i64 w, .int .i64 k, .int .u64 x, .bool s] (.int .u64 (makC f P Q b (P' * Q') s x)) := by
  obtain ⟨a0, a1, -⟩ := amt_in kk s x
  have HC := fun W => refCut_any x kk W x0 x1
  have hc : cutN f' P' Q' x = amt (P' * Q') false x := by rw [amt_f]; unfold cutN; rw [if_neg kk.f0]
  cases s
  · rw [hc] at HC
    unfold makC
    rw [ngs_f]
    exact hide (fun W => refMake_f W (hide HC) a0 a1 (at_word kw false a1))
  · exact hide (fun W => refMake_t W (hide HC) (signed_any kk x0 x1) a0 a1 (at_word kw _ a1))

theorem cmp_zero (u v : Nat) : (cmpN u v == 0) = decide (u = v) := by
  unfold cmpN
  by_cases h1 : u < v
  · rw [if_pos h1, df (by omega)]
    rfl
  · rw [if_neg h1]
    by_cases h2 : v < u
    · rw [if_pos h2, df (by omega)]
      rfl
    · rw [if_neg h2, dt (by omega)]
      rfl
theorem mag_eq_n {E S : Int} {a : Nat} (h : ¬ 0 < E) (h0 : -5000 ≤ E) : decide (S.toNat = a * 2 ^ (-E).toNat) = decide (mag E S = a * 2 ^ Z5) := by
  unfold mag
  have hz : 2 ^ Z5 = 2 ^ (-E).toNat * 2 ^ (E + 5000).toNat := by rw [← Nat.pow_add]; congr 1; unfold Z5; omega
  rw [hz, ← Nat.mul_assoc]
  refine decide_eq_decide.mpr ⟨fun h => by rw [h], fun h => Nat.eq_of_mul_eq_mul_right (Nat.two_pow_pos _) h⟩
theorem mag_eq_p {E S : Int} {a : Nat} (h : 0 < E) : decide (S.toNat * 2 ^ E.toNat = a) = decide (mag E S = a * 2 ^ Z5) := by
  unfold mag
  have hz : 2 ^ (E + 5000).toNat = 2 ^ E.toNat * 2 ^ Z5 := by rw [← Nat.pow_add]; congr 1; unfold Z5; omega
  rw [hz, ← Nat.mul_assoc]
  refine decide_eq_decide.mpr ⟨fun h => by rw [h], fun h => Nat.eq_of_mul_eq_mul_right (Nat.two_pow_pos _) h⟩
/-- What the reference's Exact asks, of the float's parts. -/
theorem open_word {w e f P Q b : Int} (k : Kd w e f P Q b) {a V : Int} (a0 : 0 ≤ a) (a1 : a < 18446744073709551616) (hV : rd f P Q b false (a.toNat * 2 ^ Z5) = V) :
    0 ≤ V ∧ V < 18446744073709551616 ∧ (a = 0 ∧ oK P Q V = 0 ∨ a ≠ 0 ∧ oK P Q V = 1 ∧ oM f P Q b V = fval f.toNat (lowN f b) (code f.toNat (lowN f b) (a.toNat * 2 ^ Z5))) := by
  rw [word_rd k false _ (by omega)] at hV
  have ht := word_code k a.toNat (by omega)
  obtain ⟨h0, h1, h2, -, h4, h5, h6⟩ := fl_parts k false ht
  rw [hV] at h0 h1 h2 h4 h5 h6
  refine ⟨h0, h1, ?_⟩
  by_cases hz : a = 0
  · refine Or.inl ⟨hz, ?_⟩
    rw [hz, nought_up, code_zero] at h2
    rcases kind_oc k V with ⟨g, -⟩ | ⟨g, -⟩ | ⟨-, g, -⟩ | ⟨g, -⟩
    · exact absurd g h4
    · exact absurd g h5
    · exfalso; omega
    · exact g
  · refine Or.inr ⟨hz, ?_, h6⟩
    have hc : code f.toNat (lowN f b) (a.toNat * 2 ^ Z5) ≠ 0 := by
      have hp : 1 < 2 ^ (f.toNat + 1) := Nat.one_lt_two_pow (by omega)
      obtain ⟨c, c1, -, -⟩ := whole_code k 1 hp
      have hm := code_mono f.toNat (lowN f b) (Nat.mul_le_mul_right (2 ^ Z5) (show 1 ≤ a.toNat by omega))
      rw [← c1, fval_code] at hm
      have hc0 : c ≠ 0 := fun h => by
        rw [h, fval_zero] at c1
        have := Nat.two_pow_pos Z5
        omega
      omega
    rcases kind_oc k V with ⟨g, -⟩ | ⟨g, -⟩ | ⟨g, -⟩ | ⟨-, g, -⟩
    · exact absurd g h4
    · exact absurd g h5
    · exact g
    · exfalso; omega
theorem refExact_any {w e f P Q b k e' f' P' Q' b' x : Int} (kw : Kd w e f P Q b) (kk : Kd k e' f' P' Q' b') (s : Bool) (x0 : 0 ≤ x) (x1 : x < 18446744073709551616) : Ct 11 #[.int .i64 w, .int .i64 k, .int .u64 x, .bool s] (.bool (exB f b (amt (P' * Q') s x).toNat)) := by
  obtain ⟨a0, a1, -⟩ := amt_in kk s x
  have HC := fun W => refCut_any x kk W x0 x1
  have hc : cutN f' P' Q' x = amt (P' * Q') false x := by rw [amt_f]; unfold cutN; rw [if_neg kk.f0]
  have HS := signed_any kk x0 x1
  have HX := at_word kw false a1
  obtain ⟨V, hV⟩ : ∃ V, rd f P Q b false ((amt (P' * Q') s x).toNat * 2 ^ Z5) = V := ⟨_, rfl⟩
  obtain ⟨v0, v1, hK⟩ := open_word kw a0 a1 hV
  obtain ⟨E, S, ho, hp, hm⟩ := open_kd kw V
  obtain ⟨e0, e1, s0, -, s1⟩ := hp.in kw
  have HO := fun W => refOpen_any V kw W v0 v1 ho
  rw [hV] at HX
  rcases hK with ⟨hz, hK⟩ | ⟨hz, hK, hM⟩
  · have e : exB f b (amt (P' * Q') s x).toNat = (amt (P' * Q') s x == 0) := by
      rw [hz]
      exact exB_zero f b
    rw [e]
    cases s
    · rw [hc] at HC
      exact hide (fun W => refExact_fz W (hide HC) a0 a1 HX (hide HO) (eq_t hK))
    · exact hide (fun W => refExact_tz W (hide HC) HS a0 a1 HX (hide HO) (eq_t hK))
  · have e : exB f b (amt (P' * Q') s x).toNat = decide (mag E S = (amt (P' * Q') s x).toNat * 2 ^ Z5) := by
      unfold exB
      rw [hm, hM]
    by_cases hE : 0 < E
    · rw [e, ← mag_eq_p hE, ← cmp_zero]
      cases s
      · rw [hc] at HC
        exact hide (fun W => refExact_fp W (hide HC) a0 a1 HX (hide HO) (eq_f (by omega)) s0 (by omega) hE (by omega) (i64_id (by omega) (by omega)))
      · exact hide (fun W => refExact_tp W (hide HC) HS a0 a1 HX (hide HO) (eq_f (by omega)) s0 (by omega) hE (by omega) (i64_id (by omega) (by omega)))
    · rw [e, ← mag_eq_n hE (by omega), ← cmp_zero]
      cases s
      · rw [hc] at HC
        exact hide (fun W => refExact_fn W (hide HC) a0 a1 HX (hide HO) (eq_f (by omega)) s0 (by omega) hE (by omega) (i64_id (by omega) (by omega)))
      · exact hide (fun W => refExact_tn W (hide HC) HS a0 a1 HX (hide HO) (eq_f (by omega)) s0 (by omega) hE (by omega) (i64_id (by omega) (by omega)))
end Go.Proofs.YtahdcbjfabccpaaDoor
namespace Go.Proofs.YtahdcbjfabccpaaDoor
open Go.RowKit
open Go.Proofs.YtahdcbjfabccpaaDoor.W

set_option maxHeartbeats 4000000 in
set_option maxRecDepth 100000 in
theorem makes_no1 {w k x : Int} (W : World) (HA : Ct 5 #[] (.bool true)) (H1 : Ct 6 #[.int .i64 w, .int .i64 k, .int .u64 x] (.int .u64 0)) (H2 : Ct 7 #[.int .i64 w, .int .i64 k, .int .u64 x] (.int .u64 0)) (H3 : Ct 8 #[.int .i64 w, .int .i64 k, .int .u64 x, .bool false] (.bool false)) (H4 : Ct 8 #[.int .i64 w, .int .i64 k, .int .u64 x, .bool true] (.bool false)) (HW : Ct 9 #[.int .i64 w] (.bool false)) :
    Calls Tryd.prog 3 #[.int .i64 w, .int .i64 k, .int .u64 x] W fun r W' => r = .returned (.bool true) ∧ Below W.heap.size W W' := by
  have HB := hide (Below.refl W.heap.size W)
  go_enter Tryd.func3, Tryd.ntmps3
  go_wp2_with fail
  refine (unhide HA _).mono ?_
  rintro _ w1 ⟨rfl, hb⟩
  have HB := hide (bthen (unhide HB) hb)
  clear hb
  go_wp2_with fail
  refine (unhide H1 _).mono ?_
  rintro _ w2 ⟨rfl, hb⟩
  have HB := hide (bthen (unhide HB) hb)
  clear hb
  go_wp2_with fail
  refine (unhide H2 _).mono ?_
  rintro _ w3 ⟨rfl, hb⟩
  have HB := hide (bthen (unhide HB) hb)
  clear hb
  go_wp2_with fail
  refine (unhide H3 _).mono ?_
  rintro _ w4 ⟨rfl, hb⟩
  have HB := hide (bthen (unhide HB) hb)
  clear hb
  go_wp2_with fail
  refine (unhide H4 _).mono ?_
  rintro _ w5 ⟨rfl, hb⟩
  have HB := hide (bthen (unhide HB) hb)
  clear hb
  go_wp2_with fail
  refine (unhide HW _).mono ?_
  rintro _ w6 ⟨rfl, hb⟩
  have HB := hide (bthen (unhide HB) hb)
  clear hb
  go_wp2_with fail
  go_ret
  exact ⟨by simp, unhide HB⟩
set_option maxHeartbeats 4000000 in
set_option maxRecDepth 100000 in
theorem makes_no2 {w k x : Int} (W : World) (HA : Ct 5 #[] (.bool true)) (H1 : Ct 6 #[.int .i64 w, .int .i64 k, .int .u64 x] (.int .u64 0)) (H2 : Ct 7 #[.int .i64 w, .int .i64 k, .int .u64 x] (.int .u64 0)) (H3 : Ct 8 #[.int .i64 w, .int .i64 k, .int .u64 x, .bool false] (.bool false)) (H4 : Ct 8 #[.int .i64 w, .int .i64 k, .int .u64 x, .bool true] (.bool false)) (HW : Ct 9 #[.int .i64 w] (.bool true)) (HK : Ct 9 #[.int .i64 k] (.bool false)) :
    Calls Tryd.prog 3 #[.int .i64 w, .int .i64 k, .int .u64 x] W fun r W' => r = .returned (.bool true) ∧ Below W.heap.size W W' := by
  have HB := hide (Below.refl W.heap.size W)
  go_enter Tryd.func3, Tryd.ntmps3
  go_wp2_with fail
  refine (unhide HA _).mono ?_
  rintro _ w1 ⟨rfl, hb⟩
  have HB := hide (bthen (unhide HB) hb)
  clear hb
  go_wp2_with fail
  refine (unhide H1 _).mono ?_
  rintro _ w2 ⟨rfl, hb⟩
  have HB := hide (bthen (unhide HB) hb)
  clear hb
  go_wp2_with fail
  refine (unhide H2 _).mono ?_
  rintro _ w3 ⟨rfl, hb⟩
  have HB := hide (bthen (unhide HB) hb)
  clear hb
  go_wp2_with fail
  refine (unhide H3 _).mono ?_
  rintro _ w4 ⟨rfl, hb⟩
  have HB := hide (bthen (unhide HB) hb)
  clear hb
  go_wp2_with fail
  refine (unhide H4 _).mono ?_
  rintro _ w5 ⟨rfl, hb⟩
  have HB := hide (bthen (unhide HB) hb)
  clear hb
  go_wp2_with fail
  refine (unhide HW _).mono ?_
  rintro _ w6 ⟨rfl, hb⟩
  have HB := hide (bthen (unhide HB) hb)
  clear hb
  go_wp2_with fail
  refine (unhide HK _).mono ?_
  rintro _ w7 ⟨rfl, hb⟩
  have HB := hide (bthen (unhide HB) hb)
  clear hb
  go_wp2_with fail
  go_ret
  exact ⟨by simp, unhide HB⟩
set_option maxHeartbeats 4000000 in
set_option maxRecDepth 100000 in
theorem makes_k {w k x a c : Int} {p q : Bool} (W : World) (HM : Hid (Mk W)) (HA : Ct 5 #[] (.bool true)) (H1 : Ct 6 #[.int .i64 w, .int .i64 k, .int .u64 x] (.int .u64 a)) (H2 : Ct 7 #[.int .i64 w, .int .i64 k, .int .u64 x] (.int .u64 c)) (H3 : Cm 8 #[.int .i64 w, .int .i64 k, .int .u64 x, .bool false] (.bool p)) (H4 : Cm 8 #[.int .i64 w, .int .i64 k, .int .u64 x, .bool true] (.bool q)) (HW : Ct 9 #[.int .i64 w] (.bool true)) (HK : Ct 9 #[.int .i64 k] (.bool true)) (M1 : Ct 10 #[.int .i64 w, .int .i64 k, .int .u64 x, .bool false] (.int .u64 a)) (M2 : Ct 10 #[.int .i64 w, .int .i64 k, .int .u64 x, .bool true] (.int .u64 c)) (R1 : Ct 11 #[.int .i64 w, .int .i64 k, .int .u64 x, .bool false] (.bool p)) (R2 : Ct 11 #[.int .i64 w, .int .i64 k, .int .u64 x, .bool true] (.bool q)) :
    Calls Tryd.prog 3 #[.int .i64 w, .int .i64 k, .int .u64 x] W fun r W' => r = .returned (.bool true) ∧ Below W.heap.size W W' := by
  have HB := hide (Below.refl W.heap.size W)
  go_enter Tryd.func3, Tryd.ntmps3
  go_wp2_with fail
  refine (unhide HA _).mono ?_
  rintro _ w1 ⟨rfl, hb⟩
  have HB := hide (bthen (unhide HB) hb)
  have HM := hide ((unhide HM).below hb)
  clear hb
  go_wp2_with fail
  refine (unhide H1 _).mono ?_
  rintro _ w2 ⟨rfl, hb⟩
  have HB := hide (bthen (unhide HB) hb)
  have HM := hide ((unhide HM).below hb)
  clear hb
  go_wp2_with fail
  refine (unhide H2 _).mono ?_
  rintro _ w3 ⟨rfl, hb⟩
  have HB := hide (bthen (unhide HB) hb)
  have HM := hide ((unhide HM).below hb)
  clear hb
  go_wp2_with fail
  refine (unhide H3 _ (unhide HM)).mono ?_
  rintro _ w4 ⟨rfl, hb⟩
  have HB := hide (bthen (unhide HB) hb)
  have HM := hide ((unhide HM).below hb)
  clear hb
  go_wp2_with fail
  refine (unhide H4 _ (unhide HM)).mono ?_
  rintro _ w5 ⟨rfl, hb⟩
  have HB := hide (bthen (unhide HB) hb)
  have HM := hide ((unhide HM).below hb)
  clear hb
  go_wp2_with fail
  refine (unhide HW _).mono ?_
  rintro _ w6 ⟨rfl, hb⟩
  have HB := hide (bthen (unhide HB) hb)
  have HM := hide ((unhide HM).below hb)
  clear hb
  go_wp2_with fail
  refine (unhide HK _).mono ?_
  rintro _ w7 ⟨rfl, hb⟩
  have HB := hide (bthen (unhide HB) hb)
  have HM := hide ((unhide HM).below hb)
  clear hb
  go_wp2_with fail
  refine (unhide M1 _).mono ?_
  rintro _ w8 ⟨rfl, hb⟩
  have HB := hide (bthen (unhide HB) hb)
  have HM := hide ((unhide HM).below hb)
  clear hb
  go_wp2_with fail
  refine (unhide M2 _).mono ?_
  rintro _ w9 ⟨rfl, hb⟩
  have HB := hide (bthen (unhide HB) hb)
  have HM := hide ((unhide HM).below hb)
  clear hb
  go_wp2_with fail
  refine (unhide R1 _).mono ?_
  rintro _ w10 ⟨rfl, hb⟩
  have HB := hide (bthen (unhide HB) hb)
  have HM := hide ((unhide HM).below hb)
  clear hb
  go_wp2_with fail
  refine (unhide R2 _).mono ?_
  rintro _ w11 ⟨rfl, hb⟩
  have HB := hide (bthen (unhide HB) hb)
  have HM := hide ((unhide HM).below hb)
  clear hb
  go_wp2_with fail
  go_ret
  exact ⟨by simp, unhide HB⟩
end Go.Proofs.YtahdcbjfabccpaaDoor
namespace Go.Proofs.YtahdcbjfabccpaaDoor
open Go.ChangeShapes Go.WideShapes Go.ChangeAt Go.WideElems Go.RowKit
open Go.Proofs.YtahdcbjfabccpaaDoor.W

def laidL : List (String × DataW Unit) := [("math/bits.deBruijn64tab", Rows.laid_math_bits_deBruijn64tab)]
theorem own : ownKnob Tryd.prog.godebug = none := by kernel_rfl
theorem gTab : Tryd.prog.globalNamed "math/bits.deBruijn64tab" = some 0 := by kernel_rfl
theorem tTab : (Tryd.prog.globals[0]?).map (·.type) = some 79 := by kernel_rfl
/-- The heap that the initialiser leaves meets the condition. -/
theorem door_met (os : Os) (args : Array Value) : laidMetH Tryd.prog laidL ((World.doorLaid Tryd.prog 400 os).forCall (fun _ _ => 0) ⟨#[], args, []⟩).memory :=
  laidMetH_of_parts3 (fuel := 8) (laidMet_of_run' 8 (by kernel_rfl) (by kernel_rfl)) (by kernel_rfl) (by kernel_rfl)
theorem c5 : Tryd.prog.cellsOf 5 = 1 := by kernel_rfl
theorem tab_datum {H : Type} : (Rows.laid_math_bits_deBruijn64tab : DataW H) = .agg (Lib.deBruijn64tab.map fun n : Nat => .lit (.int .u8 (n : Int))) := rfl
theorem of_laid {W : World} (h : laidMetH Tryd.prog laidL W) : Mk W := by
  rw [MakeChecks.laidMetH_plain _ _ _ (by kernel_rfl)] at h
  obtain ⟨ps, ⟨g0, t0, cs0, f0, p0, q0, hg0, ht0, hv0, hd0, _, _⟩, _, _⟩ := h
  obtain rfl := Option.some.inj (gTab.symm.trans hg0)
  obtain rfl := Option.some.inj (tTab.symm.trans ht0)
  obtain ⟨xs, m1, rfl, hx1, hlen, hn3, hel⟩ := DataW.trod_array Tryd.underlying79 hd0
  simp only [Prod.mk.injEq] at hx1
  have hx := hx1.1
  rw [tab_datum] at hx
  injection hx with hx
  intro j hj
  have hj' := hel j hj
  rw [c5, Nat.mul_one, List.getElem?_eq_getElem (show j < xs.length by omega)] at hj'
  obtain ⟨k, e0, e1, -⟩ := DataW.trod_int Tryd.underlying5 hj'
  have h1 : (xs.map (·.1))[j]? = some (.lit (.int .u8 k)) := by
    rw [List.getElem?_map, List.getElem?_eq_getElem (show j < xs.length by omega), e1]
    rfl
  have hl : Lib.deBruijn64tab.length = 64 := rfl
  obtain ⟨d, hd⟩ : ∃ d, Lib.deBruijn64tab[j]? = some d := ⟨_, List.getElem?_eq_getElem (show j < Lib.deBruijn64tab.length by rw [hl]; exact hj)⟩
  rw [← hx, List.getElem?_map, hd] at h1
  simp only [Option.map_some, Option.some.injEq, DataW.lit.injEq, Lit.int.injEq, true_and] at h1
  have h2 : Lib.deBruijn64tab.getD j 0 = d := by
    rw [List.getD_eq_getElem?_getD, hd]
    rfl
  rw [h2, h1]
  have h3 := congrArg (·[0]?) e0
  simp [List.getElem?_drop] at h3
  have hc := World.var?_cell hg0 hv0 j
  rw [hc]
  simpa using h3
theorem word_of_wf {x : Int} (h : (Lit.int .u64 x).wf = true) : 0 ≤ x ∧ x < 18446744073709551616 := by
  simp [Lit.wf, IntKind.min, IntKind.max, IntKind.signed, IntKind.bits] at h
  exact ⟨by omega, by omega⟩
end Go.Proofs.YtahdcbjfabccpaaDoor
