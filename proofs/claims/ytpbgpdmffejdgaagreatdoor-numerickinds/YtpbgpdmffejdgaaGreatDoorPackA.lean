/- Contracts of package round's nearest and Pack, by the arithmetic of rounding. -/
import Derived.Test.YtpbgpdmffejdgaaGreatDoorPack
namespace Go.Proofs.YtpbgpdmffejdgaaGreatDoor
open Go.RowKit
open Go.Proofs.YtpbgpdmffejdgaaGreatDoor.W

/-- What is taken of the halves. -/
def pick (N : Nat) (lost : Bool) : Nat := if N % 2 = 1 ∧ (lost = true ∨ N / 2 % 2 = 1) then N / 2 + 1 else N / 2

theorem half_parts (N : Nat) (h : N < 4611686018427387904) : (N : Int) / 2 = ((N / 2 : Nat) : Int) ∧ bits .and .u64 (N : Int) 1 = ((N % 2 : Nat) : Int) := by
  refine ⟨by omega, ?_⟩
  rw [and_mask 1 (N : Int) 1 (by omega) (by omega) rfl (by omega)]
  omega

theorem nearest_pick {h l E w f L M V T U : Int} {n m lost : Bool} {N s : Nat} (W : World) (HN : Ct 265 #[.agg #[.bool n, .int .u64 h, .int .u64 l, .int .i64 E, .bool m]] (.bool false)) (HT : Ct 266 #[.agg #[.bool n, .int .u64 h, .int .u64 l, .int .i64 E, .bool m]] (.int .i64 T))
    (t0 : -10000 ≤ T) (t1 : T ≤ 10000) (f0 : 0 ≤ f) (f1 : f ≤ 63) (hU : U = if T - f < L then L else T - f) (hN : N < 4611686018427387904) (hs : pick N lost = s)
    (HH : Ct 267 #[.agg #[.bool n, .int .u64 h, .int .u64 l, .int .i64 E, .bool m], .int .i64 U] (.tuple #[.int .u64 (N : Int), .bool lost])) (HF : Ct 268 #[.agg #[.bool n, .int .u64 h, .int .u64 l, .int .i64 E, .bool m, .int .i64 w, .int .i64 f, .int .i64 L, .int .i64 M], .int .u64 (s : Int), .int .i64 U] (.int .u64 V)) :
    Calls Tryz.prog 238 #[.agg #[.bool n, .int .u64 h, .int .u64 l, .int .i64 E, .bool m, .int .i64 w, .int .i64 f, .int .i64 L, .int .i64 M]] W fun r W' => r = .returned (.int .u64 V) ∧ Below W.heap.size W W' := by
  have kt : IntKind.i64.wrap (T - f) = T - f := i64_id (by omega) (by omega)
  obtain ⟨kN, ka⟩ := half_parts N hN
  obtain ⟨_, kb⟩ := half_parts (N / 2) (by omega)
  have kw : IntKind.u64.wrap (((N / 2 : Nat) : Int) + 1) = ((N / 2 : Nat) : Int) + 1 := by rw [IntKind.wrap_u64]; omega
  unfold pick at hs
  by_cases h1 : N % 2 = 1
  · have kh : (((N % 2 : Nat) : Int) == 1) = true := eq_t (by omega)
    cases lost
    · by_cases h2 : N / 2 % 2 = 1
      · have ko : (((N / 2 % 2 : Nat) : Int) == 1) = true := eq_t (by omega)
        rw [if_pos ⟨h1, Or.inr h2⟩] at hs
        rw [← hs, show ((N / 2 + 1 : Nat) : Int) = ((N / 2 : Nat) : Int) + 1 by omega] at HF
        by_cases xm : T - f < L
        · rw [if_pos xm] at hU; subst hU
          exact nearest_lo W HN HT kt xm kN ka kh kb ko kw HH HF
        · rw [if_neg xm] at hU; subst hU
          exact nearest_do W HN HT kt xm kN ka kh kb ko kw HH HF
      · have ko : (((N / 2 % 2 : Nat) : Int) == 1) = false := eq_f (by omega)
        rw [if_neg (by simp; omega)] at hs
        rw [← hs] at HF
        by_cases xm : T - f < L
        · rw [if_pos xm] at hU; subst hU
          exact nearest_le W HN HT kt xm kN ka kh kb ko HH HF
        · rw [if_neg xm] at hU; subst hU
          exact nearest_de W HN HT kt xm kN ka kh kb ko HH HF
    · rw [if_pos ⟨h1, Or.inl rfl⟩] at hs
      rw [← hs, show ((N / 2 + 1 : Nat) : Int) = ((N / 2 : Nat) : Int) + 1 by omega] at HF
      by_cases xm : T - f < L
      · rw [if_pos xm] at hU; subst hU
        exact nearest_lu W HN HT kt xm kN ka kh kw HH HF
      · rw [if_neg xm] at hU; subst hU
        exact nearest_du W HN HT kt xm kN ka kh kw HH HF
  · have kh : (((N % 2 : Nat) : Int) == 1) = false := eq_f (by omega)
    rw [if_neg (fun hh => h1 hh.1)] at hs
    rw [← hs] at HF
    by_cases xm : T - f < L
    · rw [if_pos xm] at hU; subst hU
      exact nearest_ln W HN HT kt xm kN ka kh HH HF
    · rw [if_neg xm] at hU; subst hU
      exact nearest_dn W HN HT kt xm kN ka kh HH HF

theorem pow_split2 (a b : Nat) (c : Nat) (h : a = b + c) : 2 ^ a = 2 ^ b * 2 ^ c := by rw [h, Nat.pow_add]

theorem halves_near (v : Nat) (n m : Bool) (E U : Int) (hv : W2 v) (e0 : -4096 ≤ E) (e1 : E ≤ 4096) (u0 : -4500 ≤ U) (u1 : U ≤ 5000) (hB : (Go.bitLen v : Int) + E ≤ U + 60) :
    ∃ (N : Nat) (lost : Bool), N < 4611686018427387904 ∧ pick N lost = near ((2 * v + m.toNat) * 2 ^ (E + 4999).toNat) (2 ^ (U + 5000).toNat) ∧
      ∀ W : World, Calls Tryz.prog 267 #[.agg #[.bool n, .int .u64 (hi v), .int .u64 (lo v), .int .i64 E, .bool m], .int .i64 U] W fun r W' => r = .returned (.tuple #[.int .u64 (N : Int), .bool lost]) ∧ Below W.heap.size W W' := by
  have hm : m.toNat ≤ 1 := by cases m <;> simp
  have hm1 : m.toNat = 1 ↔ m = true := by cases m <;> simp
  by_cases g : E < U
  · obtain ⟨j, hj⟩ : ∃ j : Nat, U - E - 1 = j := ⟨(U - E - 1).toNat, by omega⟩
    have hN : v / 2 ^ j < 2 ^ 61 := by
      rw [Nat.div_lt_iff_lt_mul (Nat.two_pow_pos j), ← Nat.pow_add]
      exact bl_lt (by omega)
    refine ⟨v / 2 ^ j, lostB v j || m, by omega, ?_, ?_⟩
    · rw [pow_split2 (U + 5000).toNat (j + 2) (E + 4999).toNat (by omega), near_scale _ _ _ (Nat.two_pow_pos _), near_halves v m.toNat j _ _ hm rfl rfl]
      unfold pick
      have : ((lostB v j || m) = true) = (v % 2 ^ j ≠ 0 ∨ m.toNat = 1) := by
        unfold lostB
        rw [hm1, Int.toNat_natCast]
        simp
      simp only [this]
    · intro W
      have k1 : IntKind.i64.wrap (U - E) = U - E := i64_id (by omega) (by omega)
      have k2 : IntKind.i64.wrap (U - E - 1) = U - E - 1 := i64_id (by omega) (by omega)
      have hr := fun W => right_n v (U - E - 1) W hv
      have el : lo (shrN v (U - E - 1)) = ((v / 2 ^ j : Nat) : Int) := by
        unfold shrN
        rw [hj, Int.toNat_natCast, lo_small (by omega)]
      rw [← el, ← hj]
      cases hl : lostB v (U - E - 1)
      · rw [hl] at hr
        exact halves_gf W (hide hr) g k1 k2
      · rw [hl] at hr
        exact halves_gt W (hide hr) g k1 k2
  · obtain ⟨k, hk⟩ : ∃ k : Nat, E - U = k := ⟨(E - U).toNat, by omega⟩
    have hbl : Go.bitLen v + k ≤ 60 := by omega
    have hvl := bl_lt (x := v) (k := Go.bitLen v) (Nat.le_refl _)
    have hv60 : v < 2 ^ 60 := bl_lt (by omega)
    have hN : (2 * v + m.toNat) * 2 ^ k < 2 ^ 61 := by
      have h1 : (2 * v + m.toNat) * 2 ^ k < 2 ^ (Go.bitLen v + 1) * 2 ^ k := Nat.mul_lt_mul_of_pos_right (by rw [Nat.pow_succ]; omega) (Nat.two_pow_pos k)
      rw [← Nat.pow_add] at h1
      exact Nat.lt_of_lt_of_le h1 (Nat.pow_le_pow_right (by omega) (by omega))
    refine ⟨(2 * v + m.toNat) * 2 ^ k, false, by omega, ?_, ?_⟩
    · rw [pow_split2 (U + 5000).toNat 1 (U + 4999).toNat (by omega), pow_split2 (E + 4999).toNat k (U + 4999).toNat (by omega), ← Nat.mul_assoc, near_scale _ _ _ (Nat.two_pow_pos _), Nat.pow_one, near_two]
      unfold pick
      simp
    · intro W
      have k1 : IntKind.i64.wrap (E - U) = E - U := i64_id (by omega) (by omega)
      have h1 := fun W => left_n v 1 W hv
      have es : shlN v 1 = 2 * v := by
        unfold shlN
        rw [show (1 : Int).toNat = 1 from rfl, Nat.mod_eq_of_lt (by omega)]
        omega
      rw [es] at h1
      have hw : W2 (2 * v + m.toNat) := by unfold W2; omega
      have h2 := fun W => left_n (2 * v + m.toNat) (E - U) W hw
      have es2 : shlN (2 * v + m.toNat) (E - U) = (2 * v + m.toNat) * 2 ^ k := by
        unfold shlN
        rw [hk, Int.toNat_natCast, Nat.mod_eq_of_lt (by omega)]
      have el : lo (shlN (2 * v + m.toNat) (E - U)) = (((2 * v + m.toNat) * 2 ^ k : Nat) : Int) := by
        rw [es2, lo_small (by omega)]
      rw [← el]
      cases m
      · exact halves_lf W (hide h1) (hide h2) g k1
      · have eh : hi (2 * v + Bool.toNat true) = hi (2 * v) := by unfold hi; simp; omega
        have el' : lo (2 * v + Bool.toNat true) = lo (2 * v) + 1 := by unfold lo; simp; omega
        rw [eh, el'] at h2
        exact halves_lt W (hide h1) (hide h2) g k1 (or_sum 1 (lo (2 * v)) 1 (lo_0 _) (lo_1 _) (by unfold lo; simp) (by omega) (by simp) (by omega))

end Go.Proofs.YtpbgpdmffejdgaaGreatDoor
