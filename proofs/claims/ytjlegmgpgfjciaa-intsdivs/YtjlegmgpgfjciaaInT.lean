/- What the reference's DivU, DivS answer. -/
import Derived.Test.YtjlegmgpgfjciaaInQ
namespace Go.Proofs.Ytjlegmgpgfjciaa
open Go.RowKit
open Go.Proofs.Ytjlegmgpgfjciaa.W

theorem tup2_eq {f : Nat} {ar : Array Value} {v v' t t' : Int} (h : Ct f ar (.tuple #[.int .u64 v, .int .u64 t])) (e : v = v') (e' : t = t') : Ct f ar (.tuple #[.int .u64 v', .int .u64 t']) := by rw [← e, ← e']; exact h
theorem tup3_eq {f : Nat} {ar : Array Value} {v v' t t' : Int} {o o' : Bool} (h : Ct f ar (.tuple #[.int .u64 v, .int .u64 t, .bool o])) (e : v = v') (e' : t = t') (e2 : o = o') : Ct f ar (.tuple #[.int .u64 v', .int .u64 t', .bool o']) := by rw [← e, ← e', ← e2]; exact h
theorem rdivu_K {w H M : Int} {n : Nat} (k : Wm w n H M) {a b : Int} (ha : Rg a) (hb : Rg b) (g : ¬ b % M = 0) : Ct 21 #[.int .i64 w, .int .u64 a, .int .u64 b] (.tuple #[.int .u64 (a % M / (b % M)), .int .u64 (a % M % (b % M))]) := by
  obtain ⟨a0, a1⟩ := k.cut a
  obtain ⟨b0, b1⟩ := k.cut b
  refine tup2_eq (rdivu_w (nat_K k ha) (nat_K k hb) (lt_2 (k.rg a)) (lt_2 (k.rg b)) (by omega) (mod_K k _) (mod_K k _)) ?_ ?_
  · rw [Int.natCast_ediv, Int.toNat_of_nonneg a0, Int.toNat_of_nonneg b0]
    have q1 := Int.ediv_nonneg a0 b0
    have q2 := Int.ediv_le_self (b % M) a0
    exact Int.emod_eq_of_lt q1 (by omega)
  · rw [Int.natCast_emod, Int.toNat_of_nonneg a0, Int.toNat_of_nonneg b0]
    have q3 := Int.emod_nonneg (a % M) g
    have q4 := Int.emod_lt_of_pos (a % M) (show 0 < b % M by omega)
    exact Int.emod_eq_of_lt q3 (by omega)
theorem zero_sub_cut (u M : Int) : (0 - u % M) % M = (-u) % M := by rw [Int.sub_emod, Int.emod_emod, ← Int.sub_emod, Int.zero_sub]
theorem nat_tdiv (X Y : Nat) : (X : Int).tdiv (Y : Int) = ((X / Y : Nat) : Int) := by rw [Int.tdiv_eq_ediv_of_nonneg (by omega), Int.natCast_ediv]
theorem nat_tmod (X Y : Nat) : (X : Int).tmod (Y : Int) = ((X % Y : Nat) : Int) := by rw [Int.tmod_eq_emod_of_nonneg (by omega), Int.natCast_emod]
theorem cmp_is (x y : Nat) : (cmpN x y == 0) = decide (x = y) := by
  unfold cmpN
  by_cases h1 : x < y
  · rw [if_pos h1, decide_eq_false (by omega)]; rfl
  · rw [if_neg h1]
    by_cases h2 : y < x
    · rw [if_pos h2, decide_eq_false (by omega)]; rfl
    · rw [if_neg h2, decide_eq_true (by omega)]; rfl
theorem half_K {w H M : Int} {n : Nat} (k : Wm w n H M) : IntKind.i64.wrap (w - 1) = w - 1 ∧ Ct 52 #[.int .i64 (w - 1)] (.int .u64 H) := by
  rcases k with ⟨rfl, rfl, rfl, rfl⟩ | ⟨rfl, rfl, rfl, rfl⟩
  · exact ⟨by decide, hide (fun W => two_any 31 2147483648 W (by omega) (by omega) (by decide +kernel))⟩
  · exact ⟨by decide, hide (fun W => two_any 63 9223372036854775808 W (by omega) (by omega) (by decide +kernel))⟩
theorem rdivs_K {w H M : Int} {n : Nat} (k : Wm w n H M) {a b : Int} (ha : Rg a) (hb : Rg b) (g : ¬ sgv H M b = 0) : Ct 22 #[.int .i64 w, .int .u64 a, .int .u64 b] (.tuple #[.int .u64 ((sgv H M a).tdiv (sgv H M b) % M), .int .u64 ((sgv H M a).tmod (sgv H M b) % M), .bool (decide ((sgv H M a) = -H ∧ (sgv H M b) = -1))]) := by
  have HS1 := signed_K k ha
  have HS2 := signed_K k hb
  obtain ⟨a0, a1, -⟩ := sgv_in k a
  obtain ⟨b0, b1, -⟩ := sgv_in k b
  obtain ⟨k1, -, -, -, -, -, k7⟩ := k.two
  obtain ⟨hj, HT⟩ := half_K k
  generalize sgv H M a = A at *
  generalize sgv H M b = B at *
  have hX : A.natAbs < 18446744073709551616 := by omega
  have hY : B.natAbs < 18446744073709551616 := by omega
  have HM1 := mod_K k (A.natAbs / B.natAbs)
  have HM2 := mod_K k (A.natAbs % B.natAbs)
  have r0 : Rg 0 := ⟨by omega, by omega⟩
  have HP := rsub_K k r0 (k.rg ((A.natAbs / B.natAbs : Nat) : Int))
  have HR := rsub_K k r0 (k.rg ((A.natAbs % B.natAbs : Nat) : Int))
  rw [zero_sub_cut] at HP HR
  by_cases ga : A < 0
  · have eA : A = -(A.natAbs : Int) := by omega
    rw [decide_eq_true ga] at HS1
    by_cases gb : B < 0
    · have eB : B = -(B.natAbs : Int) := by omega
      rw [decide_eq_true gb] at HS2
      refine tup3_eq (rdivs_tt HS1 HS2 (by omega) (by omega) (by omega) (by omega) (by omega) HM1 HM2 hj HT (by omega) (by omega) HR) ?_ ?_ ?_
      · conv => rhs; rw [eA, eB, Int.neg_tdiv, Int.tdiv_neg, Int.neg_neg, nat_tdiv]
      · conv => rhs; rw [eA, eB, Int.neg_tmod, Int.tmod_neg, nat_tmod]
      · rw [cmp_is]
        refine decide_eq_decide.mpr ?_
        rw [Int.toNat_natCast, Int.toNat_natCast]
        have hle := Nat.div_le_self A.natAbs B.natAbs
        constructor
        · intro h
          have hXH : A.natAbs = H.toNat := by omega
          refine ⟨by omega, ?_⟩
          by_cases h1 : B.natAbs = 1
          · omega
          · exfalso
            have := Nat.div_lt_self (show 0 < A.natAbs by omega) (show 1 < B.natAbs by omega)
            omega
        · rintro ⟨h1, h2⟩
          have e1 : B.natAbs = 1 := by omega
          rw [e1, Nat.div_one]
          omega
    · have eB : B = (B.natAbs : Int) := by omega
      rw [decide_eq_false gb] at HS2
      refine tup3_eq (rdivs_tf HS1 HS2 (by omega) (by omega) (by omega) (by omega) (by omega) HM1 HM2 HP HR) ?_ ?_ ?_
      · conv => rhs; rw [eA, eB, Int.neg_tdiv, nat_tdiv]
      · conv => rhs; rw [eA, eB, Int.neg_tmod, nat_tmod]
      · exact (decide_eq_false (by omega)).symm
  · have eA : A = (A.natAbs : Int) := by omega
    rw [decide_eq_false ga] at HS1
    by_cases gb : B < 0
    · have eB : B = -(B.natAbs : Int) := by omega
      rw [decide_eq_true gb] at HS2
      refine tup3_eq (rdivs_ft HS1 HS2 (by omega) (by omega) (by omega) (by omega) (by omega) HM1 HM2 HP) ?_ ?_ ?_
      · conv => rhs; rw [eA, eB, Int.tdiv_neg, nat_tdiv]
      · conv => rhs; rw [eA, eB, Int.tmod_neg, nat_tmod]
      · exact (decide_eq_false (by omega)).symm
    · have eB : B = (B.natAbs : Int) := by omega
      rw [decide_eq_false gb] at HS2
      refine tup3_eq (rdivs_ff HS1 HS2 (by omega) (by omega) (by omega) (by omega) (by omega) HM1 HM2 hj HT (by omega) (by omega)) ?_ ?_ ?_
      · conv => rhs; rw [eA, eB, nat_tdiv]
      · conv => rhs; rw [eA, eB, nat_tmod]
      · rw [cmp_is]
        rw [Int.toNat_natCast, Int.toNat_natCast]
        have hle := Nat.div_le_self A.natAbs B.natAbs
        rw [decide_eq_false (by omega), decide_eq_false (by omega)]
end Go.Proofs.Ytjlegmgpgfjciaa
