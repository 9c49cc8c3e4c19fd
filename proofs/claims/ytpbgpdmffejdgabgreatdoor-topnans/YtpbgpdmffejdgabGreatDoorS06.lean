/- SumA, QuoA, RadA. -/
import Derived.Test.YtpbgpdmffejdgabGreatDoorS02
namespace Go.Proofs.YtpbgpdmffejdgabGreatDoor

/-- The number of the float of a code. -/
def fval (f L c : Nat) : Nat := if c < 2 ^ (f + 1) then c * 2 ^ L else (2 ^ f + c % 2 ^ f) * 2 ^ (c / 2 ^ f - 1 + L)

theorem fval_norm (f L s k : Nat) (h1 : s < 2 ^ (f + 1)) (hk : L ≤ k) (h2 : L < k → 2 ^ f ≤ s) : fval f L ((k - L) * 2 ^ f + s) = s * 2 ^ k := by
  have e2 : 2 ^ (f + 1) = 2 ^ f + 2 ^ f := by rw [Nat.pow_succ]; omega
  have hp := Nat.two_pow_pos f
  by_cases hL : L < k
  · have h3 := h2 hL
    obtain ⟨r, rfl⟩ := Nat.exists_eq_add_of_le h3
    obtain ⟨j, rfl⟩ : ∃ j, k = L + (j + 1) := ⟨k - L - 1, by omega⟩
    rw [show L + (j + 1) - L = j + 1 by omega]
    have hc : (j + 1) * 2 ^ f + (2 ^ f + r) = 2 ^ f * (j + 2) + r := by
      rw [show (j + 1) * 2 ^ f = 2 ^ f * (j + 1) by rw [Nat.mul_comm], show j + 2 = j + 1 + 1 by omega, Nat.mul_add (2 ^ f) (j + 1) 1]
      omega
    have hlt : r < 2 ^ f := by omega
    rw [hc]
    unfold fval
    rw [if_neg (by
      have := Nat.mul_le_mul_left (2 ^ f) (show 2 ≤ j + 2 by omega)
      omega)]
    rw [Nat.mul_add_mod, Nat.mod_eq_of_lt hlt, Nat.mul_add_div hp, Nat.div_eq_of_lt hlt, show j + 2 + 0 - 1 + L = L + (j + 1) by omega]
  · have : k = L := by omega
    subst this
    rw [Nat.sub_self, Nat.zero_mul, Nat.zero_add]
    unfold fval
    rw [if_pos h1]
theorem fval_ex (f L c : Nat) : ∃ s k, c = (k - L) * 2 ^ f + s ∧ s < 2 ^ (f + 1) ∧ L ≤ k ∧ (L < k → 2 ^ f ≤ s) ∧ fval f L c = s * 2 ^ k := by
  have e2 : 2 ^ (f + 1) = 2 ^ f + 2 ^ f := by rw [Nat.pow_succ]; omega
  have hp := Nat.two_pow_pos f
  by_cases h : c < 2 ^ (f + 1)
  · refine ⟨c, L, by rw [Nat.sub_self, Nat.zero_mul, Nat.zero_add], h, Nat.le_refl _, fun h => absurd h (Nat.lt_irrefl _), ?_⟩
    unfold fval
    rw [if_pos h]
  · have hd := Nat.div_add_mod c (2 ^ f)
    have hm := Nat.mod_lt c hp
    have h2 : 2 ≤ c / 2 ^ f := (Nat.le_div_iff_mul_le hp).2 (by omega)
    refine ⟨2 ^ f + c % 2 ^ f, c / 2 ^ f - 1 + L, ?_, by omega, by omega, fun _ => by omega, ?_⟩
    · rw [show c / 2 ^ f - 1 + L - L = c / 2 ^ f - 1 by omega, Nat.sub_mul, Nat.mul_comm (c / 2 ^ f) (2 ^ f)]
      have := Nat.mul_le_mul_left (2 ^ f) h2
      omega
    · unfold fval
      rw [if_neg h]
theorem fval_code (f L c : Nat) : code f L (fval f L c) = c := by
  obtain ⟨s, k, h0, h1, h2, h3, h4⟩ := fval_ex f L c
  rw [h4, code_exact f L s k h1 h2 h3]
  exact h0.symm
theorem fval_le {f L c d : Nat} : fval f L c ≤ fval f L d ↔ c ≤ d := by
  constructor
  · intro h
    have := code_mono f L h
    rwa [fval_code, fval_code] at this
  · intro h
    refine Decidable.byContradiction fun hn => ?_
    have h1 := code_mono f L (show fval f L d ≤ fval f L c by omega)
    rw [fval_code, fval_code] at h1
    have : c = d := by omega
    subst this
    omega
theorem fval_zero (f L : Nat) : fval f L 0 = 0 := by
  unfold fval
  rw [if_pos (Nat.two_pow_pos _), Nat.zero_mul]
theorem near_up (s r B : Nat) (h : 2 * r < B) : near (s * B + r) B = s := by
  have hB : 0 < B := by omega
  have hq : (s * B + r) / B = s := by rw [Nat.mul_comm, Nat.mul_add_div hB, Nat.div_eq_of_lt (by omega), Nat.add_zero]
  have hr : (s * B + r) % B = r := by rw [Nat.mul_comm, Nat.mul_add_mod, Nat.mod_eq_of_lt (by omega)]
  unfold near
  rw [hq, hr, if_neg (by omega)]
theorem near_dn (s r B : Nat) (h : 2 * r < B) (hs : 0 < s) : near (s * B - r) B = s := by
  by_cases h0 : r = 0
  · subst h0
    rw [Nat.sub_zero]
    exact near_mul s B (by omega)
  · have hB : 0 < B := by omega
    obtain ⟨t, rfl⟩ : ∃ t, s = t + 1 := ⟨s - 1, by omega⟩
    have e : (t + 1) * B - r = B * t + (B - r) := by rw [Nat.mul_comm, Nat.mul_add]; omega
    have hq : ((t + 1) * B - r) / B = t := by rw [e, Nat.mul_add_div hB, Nat.div_eq_of_lt (by omega), Nat.add_zero]
    have hr : ((t + 1) * B - r) % B = B - r := by rw [e, Nat.mul_add_mod, Nat.mod_eq_of_lt (by omega)]
    unfold near
    rw [hq, hr, if_pos (by omega)]
theorem bl_eq {x k : Nat} (h1 : 2 ^ k ≤ x) (h2 : x < 2 ^ (k + 1)) : Go.bitLen x = k + 1 := by
  have h3 := bl_mono h1
  have h4 : Go.bitLen (2 ^ k) = k + 1 := by
    have := bl_shl 1 k (by omega)
    rw [Nat.one_mul] at this
    rw [this]
    rfl
  have h5 : ¬ k + 1 < Go.bitLen x := fun h => by have := bl_ge h; omega
  omega
/-- A number of less than a quarter of the last bit, added or taken away, doesn't change the float. -/
theorem code_far_up (f L s k r : Nat) (h1 : s < 2 ^ (f + 1)) (h2 : 2 ^ f ≤ s) (hk : L < k) (hr : 4 * r < 2 ^ k) : code f L (s * 2 ^ k + r) = code f L (s * 2 ^ k) := by
  rw [code_exact f L s k h1 (by omega) (fun _ => h2)]
  have hl : Go.bitLen (s * 2 ^ k + r) = f + k + 1 := by
    refine bl_eq ?_ ?_
    · rw [Nat.pow_add]
      exact Nat.le_trans (Nat.mul_le_mul_right _ h2) (Nat.le_add_right _ _)
    · have h3 : (s + 1) * 2 ^ k ≤ 2 ^ (f + 1) * 2 ^ k := Nat.mul_le_mul_right _ h1
      rw [Nat.add_mul, ← Nat.pow_add] at h3
      rw [show f + k + 1 = f + 1 + k by omega]
      omega
  have hu : unitOf f L (s * 2 ^ k + r) = k := by unfold unitOf; rw [hl]; omega
  unfold code
  rw [hu, near_up _ _ _ (by omega)]
theorem code_far_dn (f L s k r : Nat) (h1 : s < 2 ^ (f + 1)) (h2 : 2 ^ f ≤ s) (hk : L < k) (hr : 4 * r < 2 ^ k) : code f L (s * 2 ^ k - r) = code f L (s * 2 ^ k) := by
  have hp := Nat.two_pow_pos f
  rw [code_exact f L s k h1 (by omega) (fun _ => h2)]
  have h3 : s * 2 ^ k < 2 ^ (f + k + 1) := by
    rw [show f + k + 1 = f + 1 + k by omega, Nat.pow_add]
    exact Nat.mul_lt_mul_of_pos_right h1 (Nat.two_pow_pos k)
  by_cases he : s = 2 ^ f ∧ 0 < r
  · obtain ⟨rfl, h0⟩ := he
    obtain ⟨j, rfl⟩ : ∃ j, k = j + 1 := ⟨k - 1, by omega⟩
    have ej : 2 ^ (j + 1) = 2 ^ j + 2 ^ j := by rw [Nat.pow_succ]; omega
    have ef : 2 ^ f * 2 ^ (j + 1) = 2 ^ (f + 1) * 2 ^ j := by rw [← Nat.pow_add, ← Nat.pow_add, show f + (j + 1) = f + 1 + j by omega]
    have e2 : 2 ^ (f + 1) = 2 ^ f + 2 ^ f := by rw [Nat.pow_succ]; omega
    have h4 : 1 * 2 ^ j ≤ 2 ^ f * 2 ^ j := Nat.mul_le_mul_right _ hp
    have e3 : 2 ^ (f + 1) * 2 ^ j = 2 ^ f * 2 ^ j + 2 ^ f * 2 ^ j := by rw [e2, Nat.add_mul]
    have hl : Go.bitLen (2 ^ f * 2 ^ (j + 1) - r) = f + j + 1 := by
      refine bl_eq ?_ ?_
      · rw [Nat.pow_add, ef]
        omega
      · rw [show f + j + 1 = f + 1 + j by omega, Nat.pow_add 2 (f + 1) j, ef]
        omega
    have hu : unitOf f L (2 ^ f * 2 ^ (j + 1) - r) = j := by unfold unitOf; rw [hl]; omega
    unfold code
    rw [hu, ef, near_dn _ _ _ (by omega) (by omega), show j + 1 - L = j - L + 1 by omega, Nat.add_mul]
    omega
  · have hge : 2 ^ f * 2 ^ k ≤ s * 2 ^ k - r := by
      by_cases h0 : r = 0
      · subst h0
        rw [Nat.sub_zero]
        exact Nat.mul_le_mul_right _ h2
      · have h5 : (2 ^ f + 1) * 2 ^ k ≤ s * 2 ^ k := Nat.mul_le_mul_right _ (by omega)
        rw [Nat.add_mul] at h5
        omega
    have hl : Go.bitLen (s * 2 ^ k - r) = f + k + 1 := by
      refine bl_eq ?_ ?_
      · rw [Nat.pow_add]
        exact hge
      · omega
    have hu : unitOf f L (s * 2 ^ k - r) = k := by unfold unitOf; rw [hl]; omega
    unfold code
    rw [hu, near_dn _ _ _ (by omega) (by omega)]

end Go.Proofs.YtpbgpdmffejdgabGreatDoor
namespace Go.Proofs.YtpbgpdmffejdgabGreatDoor

/-- The place of the last bit of the float that is nearest to X by D. -/
def unitQ (f L X D : Nat) : Nat := max (Go.bitLen (X / D) - (f + 1)) L
/-- That float's number among the floats. -/
def codeQ (f L X D : Nat) : Nat := (unitQ f L X D - L) * 2 ^ f + near X (D * 2 ^ unitQ f L X D)

theorem codeQ_one (f L X : Nat) : codeQ f L X 1 = code f L X := by
  unfold codeQ code unitQ unitOf
  rw [Nat.div_one, Nat.one_mul]
theorem codeQ_scale (f L X D c : Nat) (hc : 0 < c) : codeQ f L (X * c) (D * c) = codeQ f L X D := by
  have hu : unitQ f L (X * c) (D * c) = unitQ f L X D := by
    unfold unitQ
    rw [Nat.mul_div_mul_right _ _ hc]
  unfold codeQ
  rw [hu, Nat.mul_right_comm, near_scale _ _ _ hc]
/-- What goes out even. -/
theorem codeQ_even (f L X D : Nat) (hD : 0 < D) : codeQ f L (X * D) D = code f L X := by
  have := codeQ_scale f L X 1 D hD
  rw [Nat.one_mul] at this
  rw [this, codeQ_one]
/-- A rest is no more than a bit below the halves. -/
theorem near_sticky (q E r C m : Nat) (hr : r < E) (hm : m = if r = 0 then 0 else 1) (hC : 0 < C) : near (q * E + r) (E * (2 * C)) = near (2 * q + m) (2 * (2 * C)) := by
  have hE : 0 < E := by omega
  have hm1 : m ≤ 1 := by rw [hm]; split <;> omega
  have hmr : r = 0 ↔ m = 0 := by
    rw [hm]
    split
    · simp_all
    · simp_all
  clear hm
  have hq := Nat.div_add_mod q (2 * C)
  have ht := Nat.mod_lt q (show 0 < 2 * C by omega)
  generalize q / (2 * C) = s at *
  generalize q % (2 * C) = t at *
  have h1 : t * E + r < E * (2 * C) := by
    have := Nat.mul_le_mul_left E (show t + 1 ≤ 2 * C by omega)
    rw [Nat.mul_add, Nat.mul_one, Nat.mul_comm E t] at this
    omega
  have e1 : q * E + r = E * (2 * C) * s + (t * E + r) := by
    rw [← hq, Nat.add_mul, Nat.mul_comm (2 * C * s) E, ← Nat.mul_assoc E (2 * C) s]
    omega
  have e2 : 2 * q + m = 2 * (2 * C) * s + (2 * t + m) := by
    rw [← hq, Nat.mul_add, ← Nat.mul_assoc 2 (2 * C) s]
    omega
  have a1 : (q * E + r) / (E * (2 * C)) = s := by
    rw [e1, Nat.mul_add_div (by omega), Nat.div_eq_of_lt h1]
    rfl
  have a2 : (q * E + r) % (E * (2 * C)) = t * E + r := by rw [e1, Nat.mul_add_mod, Nat.mod_eq_of_lt h1]
  have b1 : (2 * q + m) / (2 * (2 * C)) = s := by
    rw [e2, Nat.mul_add_div (by omega), Nat.div_eq_of_lt (by omega)]
    rfl
  have b2 : (2 * q + m) % (2 * (2 * C)) = 2 * t + m := by rw [e2, Nat.mul_add_mod, Nat.mod_eq_of_lt (by omega)]
  unfold near
  rw [a1, a2, b1, b2]
  have eC : E * (2 * C) = 2 * (C * E) := by rw [Nat.mul_left_comm, Nat.mul_comm E C]
  rw [eC]
  clear a1 a2 b1 b2 e1 e2 hq h1 eC
  rcases Nat.lt_trichotomy t C with h | h | h
  · have h2 := Nat.mul_le_mul_right E (show t + 1 ≤ C by omega)
    rw [Nat.add_mul, Nat.one_mul] at h2
    generalize t * E = te at *
    generalize C * E = ce at *
    rw [if_neg (by omega), if_neg (by omega)]
  · subst h
    generalize t * E = te at *
    by_cases hr0 : r = 0
    · have hm0 := hmr.1 hr0
      by_cases hs : s % 2 = 1
      · rw [if_pos (by omega), if_pos (by omega)]
      · rw [if_neg (by omega), if_neg (by omega)]
    · have hm0 : m ≠ 0 := fun h => hr0 (hmr.2 h)
      rw [if_pos (by omega), if_pos (by omega)]
  · have h2 := Nat.mul_le_mul_right E (show C + 1 ≤ t by omega)
    rw [Nat.add_mul, Nat.one_mul] at h2
    generalize t * E = te at *
    generalize C * E = ce at *
    rw [if_pos (by omega), if_pos (by omega)]

/-- A quotient of enough bits and a bit for the rest are rounded as the quotient itself. -/
theorem codeQ_sticky (f L X D j : Nat) (hD : 0 < D) (hj : 1 ≤ j) (hq : X / (D * 2 ^ j) ≠ 0) (hu : j + 1 ≤ unitQ f L X D) :
    codeQ f L X D = code f L ((2 * (X / (D * 2 ^ j)) + (if X % (D * 2 ^ j) = 0 then 0 else 1)) * 2 ^ (j - 1)) := by
  have hE : 0 < D * 2 ^ j := Nat.mul_pos hD (Nat.two_pow_pos j)
  have hX := Nat.div_add_mod X (D * 2 ^ j)
  have hr := Nat.mod_lt X hE
  obtain ⟨m, hm⟩ : ∃ m, m = if X % (D * 2 ^ j) = 0 then 0 else 1 := ⟨_, rfl⟩
  have hm1 : m ≤ 1 := by rw [hm]; split <;> omega
  rw [← hm]
  have hb : Go.bitLen (X / D) = j + Go.bitLen (X / (D * 2 ^ j)) := by
    rw [← Nat.div_div_eq_div_mul]
    exact Go.bitLen_shift (X / D) j (by rw [Nat.div_div_eq_div_mul]; exact hq)
  have hl : unitOf f L ((2 * (X / (D * 2 ^ j)) + m) * 2 ^ (j - 1)) = unitQ f L X D := by
    unfold unitOf unitQ
    rw [bl_shl _ _ (by omega), bl_two _ m hm1 (by omega), hb]
    omega
  unfold codeQ code
  rw [hl]
  congr 1
  obtain ⟨c, hc⟩ : ∃ c, unitQ f L X D = j + (c + 1) := ⟨unitQ f L X D - j - 1, by omega⟩
  rw [hc]
  have e1 : D * 2 ^ (j + (c + 1)) = D * 2 ^ j * (2 * 2 ^ c) := by
    rw [Nat.pow_add, Nat.pow_succ, Nat.mul_comm (2 ^ c) 2, ← Nat.mul_assoc]
  have e2 : 2 ^ (j + (c + 1)) = 2 * (2 * 2 ^ c) * 2 ^ (j - 1) := by
    rw [show j + (c + 1) = c + 2 + (j - 1) by omega, Nat.pow_add, show c + 2 = c + 1 + 1 by omega, Nat.pow_succ, Nat.pow_succ, Nat.mul_comm (2 ^ c * 2) 2, Nat.mul_comm (2 ^ c) 2]
  rw [e1, e2, near_scale _ _ _ (Nat.two_pow_pos _)]
  have := near_sticky (X / (D * 2 ^ j)) (D * 2 ^ j) (X % (D * 2 ^ j)) (2 ^ c) m hr hm (Nat.two_pow_pos c)
  rw [← this]
  congr 1
  rw [Nat.mul_comm]
  omega

end Go.Proofs.YtpbgpdmffejdgabGreatDoor
namespace Go.Proofs.YtpbgpdmffejdgabGreatDoor

/-- Twice the middle between a float and the next one. -/
def mid2 (f L c : Nat) : Nat := fval f L c + fval f L (c + 1)

theorem fval_lt {f L c d : Nat} : fval f L c < fval f L d ↔ c < d := by
  have := fval_le (f := f) (L := L) (c := d) (d := c)
  omega
theorem mid2_lt {f L c d : Nat} (h : c < d) : mid2 f L c < mid2 f L d := by
  unfold mid2
  have h1 := (fval_lt (f := f) (L := L) (c := c) (d := d)).2 h
  have h2 := (fval_lt (f := f) (L := L) (c := c + 1) (d := d + 1)).2 (by omega)
  omega
theorem pow_two (f : Nat) : 2 ^ (f + 1) = 2 ^ f + 2 ^ f := by rw [Nat.pow_succ]; omega

/-- A float and the next one: s and s + 1 of the same last bits. -/
theorem fval_next (f L s k : Nat) (h1 : s < 2 ^ (f + 1)) (hk : L ≤ k) (h2 : L < k → 2 ^ f ≤ s) : fval f L ((k - L) * 2 ^ f + s + 1) = (s + 1) * 2 ^ k := by
  have e2 := pow_two f
  have hp := Nat.two_pow_pos f
  by_cases h : s + 1 < 2 ^ (f + 1)
  · rw [Nat.add_assoc]
    exact fval_norm f L (s + 1) k h hk (fun hl => by have := h2 hl; omega)
  · have hs : s + 1 = 2 ^ (f + 1) := by omega
    have := fval_norm f L (2 ^ f) (k + 1) (by omega) (by omega) (fun _ => Nat.le_refl _)
    rw [show k + 1 - L = k - L + 1 by omega, Nat.add_mul, Nat.one_mul] at this
    rw [Nat.add_assoc ((k - L) * 2 ^ f), hs, e2, ← Nat.add_assoc, this, ← e2, Nat.pow_succ, Nat.pow_succ, Nat.mul_comm (2 ^ k) 2, Nat.mul_assoc]
theorem mid2_ex (f L c : Nat) : ∃ s k, c = (k - L) * 2 ^ f + s ∧ s < 2 ^ (f + 1) ∧ L ≤ k ∧ (L < k → 2 ^ f ≤ s) ∧ fval f L c = s * 2 ^ k ∧ fval f L (c + 1) = (s + 1) * 2 ^ k ∧ mid2 f L c = (2 * s + 1) * 2 ^ k := by
  obtain ⟨s, k, h0, h1, h2, h3, h4⟩ := fval_ex f L c
  have h5 : fval f L (c + 1) = (s + 1) * 2 ^ k := by rw [h0]; exact fval_next f L s k h1 h2 h3
  refine ⟨s, k, h0, h1, h2, h3, h4, h5, ?_⟩
  unfold mid2
  rw [h4, h5, ← Nat.add_mul, show s + (s + 1) = 2 * s + 1 by omega]
theorem mid2_norm (f L s k : Nat) (h1 : s < 2 ^ (f + 1)) (hk : L ≤ k) (h2 : L < k → 2 ^ f ≤ s) : mid2 f L ((k - L) * 2 ^ f + s) = (2 * s + 1) * 2 ^ k := by
  unfold mid2
  rw [fval_norm f L s k h1 hk h2, fval_next f L s k h1 hk h2, ← Nat.add_mul, show s + (s + 1) = 2 * s + 1 by omega]

theorem near_part (s r B : Nat) (h : r < B) : near (s * B + r) B = if B < 2 * r ∨ (2 * r = B ∧ s % 2 = 1) then s + 1 else s := by
  have hB : 0 < B := by omega
  have hq : (s * B + r) / B = s := by rw [Nat.mul_comm, Nat.mul_add_div hB, Nat.div_eq_of_lt h, Nat.add_zero]
  have hr : (s * B + r) % B = r := by rw [Nat.mul_comm, Nat.mul_add_mod, Nat.mod_eq_of_lt h]
  unfold near
  rw [hq, hr]

/-- What lies between a float and the next one is rounded to one of them. -/
theorem code_part (f L s k r : Nat) (h1 : s < 2 ^ (f + 1)) (hk : L ≤ k) (h2 : L < k → 2 ^ f ≤ s) (hr : r < 2 ^ k) :
    code f L (s * 2 ^ k + r) = (k - L) * 2 ^ f + if 2 ^ k < 2 * r ∨ (2 * r = 2 ^ k ∧ s % 2 = 1) then s + 1 else s := by
  have hu : unitOf f L (s * 2 ^ k + r) = k := by
    have hlt : s * 2 ^ k + r < 2 ^ (f + 1 + k) := by
      have := Nat.mul_le_mul_right (2 ^ k) (show s + 1 ≤ 2 ^ (f + 1) by omega)
      rw [Nat.add_mul, Nat.one_mul, ← Nat.pow_add] at this
      omega
    unfold unitOf
    by_cases hL : L < k
    · have hge : 2 ^ (f + k) ≤ s * 2 ^ k + r := by
        have := Nat.mul_le_mul_right (2 ^ k) (h2 hL)
        rw [← Nat.pow_add] at this
        omega
      have := bl_eq hge (by rw [show f + k + 1 = f + 1 + k by omega]; exact hlt)
      omega
    · have : Go.bitLen (s * 2 ^ k + r) ≤ f + 1 + k := by
        refine Decidable.byContradiction fun hn => ?_
        have := bl_ge (x := s * 2 ^ k + r) (k := f + 1 + k) (by omega)
        omega
      omega
  unfold code
  rw [hu, near_part _ _ _ hr]

/-- Which code a number has, told by the middles. -/
theorem code_le_iff (f L X c : Nat) (hf : 1 ≤ f) : code f L X ≤ c ↔ 2 * X < mid2 f L c ∨ (2 * X = mid2 f L c ∧ c % 2 = 0) := by
  obtain ⟨s, k, h0, h1, h2, h3, h4, h5, h6⟩ := mid2_ex f L c
  have hp := Nat.two_pow_pos k
  have e : (s + 1) * 2 ^ k = s * 2 ^ k + 2 ^ k := by rw [Nat.add_mul, Nat.one_mul]
  have e2 : (2 * s + 1) * 2 ^ k = 2 * (s * 2 ^ k) + 2 ^ k := by rw [Nat.add_mul, Nat.one_mul, Nat.mul_assoc]
  by_cases hlo : X < fval f L c
  · have hc := code_mono f L (Nat.le_of_lt hlo)
    rw [fval_code] at hc
    rw [h6, e2]
    rw [h4] at hlo
    exact ⟨fun _ => Or.inl (by omega), fun _ => hc⟩
  · by_cases hhi : fval f L (c + 1) ≤ X
    · have hc := code_mono f L hhi
      rw [fval_code] at hc
      rw [h6, e2]
      rw [h5, e] at hhi
      exact ⟨fun h => by omega, fun h => by omega⟩
    · rw [h4] at hlo
      rw [h5, e] at hhi
      obtain ⟨r, rfl⟩ : ∃ r, X = s * 2 ^ k + r := ⟨X - s * 2 ^ k, by omega⟩
      rw [code_part f L s k r h1 h2 h3 (by omega), h6, e2]
      have hpar : c % 2 = s % 2 := by
        obtain ⟨g, rfl⟩ : ∃ g, f = g + 1 := ⟨f - 1, by omega⟩
        rw [h0, Nat.pow_succ, ← Nat.mul_assoc]
        omega
      generalize (k - L) * 2 ^ f = z at *
      generalize s * 2 ^ k = sk at *
      generalize 2 ^ k = pk at *
      split
      · rename_i hh
        constructor
        · intro h
          omega
        · intro h
          omega
      · rename_i hh
        constructor
        · intro _
          omega
        · intro _
          omega

/-- Is the root of T at most the middle above that float (of two that are as near, the even one)? -/
def rootLe (f L T c : Nat) : Prop := 4 * T < mid2 f L c * mid2 f L c ∨ (4 * T = mid2 f L c * mid2 f L c ∧ c % 2 = 0)

theorem sq_lt {a b : Nat} : a * a < b * b ↔ a < b := by
  constructor
  · intro h
    refine Decidable.byContradiction fun hn => ?_
    have := Nat.mul_le_mul (show b ≤ a by omega) (show b ≤ a by omega)
    omega
  · intro h
    exact Nat.mul_lt_mul'' h h
theorem sq_le {a b : Nat} : a * a ≤ b * b ↔ a ≤ b := by
  have := @sq_lt b a
  omega

/-- A greater one's root isn't less. -/
theorem rootLe_mono {f L T T' c : Nat} (h : T ≤ T') (h' : rootLe f L T' c) : rootLe f L T c := by
  unfold rootLe at *
  omega
theorem rootLe_up {f L T c d : Nat} (h : rootLe f L T c) (hd : c ≤ d) : rootLe f L T d := by
  by_cases he : c = d
  · rw [← he]; exact h
  · have h1 := mid2_lt (f := f) (L := L) (show c < d by omega)
    have h2 := sq_lt.2 h1
    unfold rootLe at *
    omega

/-- The unit of a float and of the middle above it. -/
theorem root_at (f L N q m j s k : Nat) (hq : q * q ≤ N) (hq1 : N < (q + 1) * (q + 1)) (hm : m = if q * q = N then 0 else 1) (hk : j + 1 ≤ k) (hj : 1 ≤ j) (c : Nat) (hc : mid2 f L c = (2 * s + 1) * 2 ^ k) :
    rootLe f L (N * (2 ^ j * 2 ^ j)) c ↔ (2 * ((2 * q + m) * 2 ^ (j - 1)) < mid2 f L c ∨ (2 * ((2 * q + m) * 2 ^ (j - 1)) = mid2 f L c ∧ c % 2 = 0)) := by
  obtain ⟨i, rfl⟩ : ∃ i, k = j + 1 + i := ⟨k - (j + 1), by omega⟩
  have hp := Nat.two_pow_pos j
  obtain ⟨D, hD⟩ : ∃ D, D = (2 * s + 1) * 2 ^ i := ⟨_, rfl⟩
  have e1 : mid2 f L c = 2 * D * 2 ^ j := by
    rw [hc, hD, Nat.pow_add, Nat.pow_succ]
    simp only [Nat.mul_comm, Nat.mul_left_comm, Nat.mul_assoc]
  have e2 : 2 * ((2 * q + m) * 2 ^ (j - 1)) = (2 * q + m) * 2 ^ j := by
    obtain ⟨t, rfl⟩ : ∃ t, j = t + 1 := ⟨j - 1, by omega⟩
    rw [Nat.add_sub_cancel, Nat.pow_succ, Nat.mul_comm 2, Nat.mul_assoc]
  have e3 : mid2 f L c * mid2 f L c = 4 * (D * D) * (2 ^ j * 2 ^ j) := by
    rw [e1, Nat.mul_mul_mul_comm, Nat.mul_mul_mul_comm 2 D 2 D]
  have hp2 : 0 < 2 ^ j * 2 ^ j := Nat.mul_pos hp hp
  unfold rootLe
  rw [e3, ← Nat.mul_assoc 4 N, Nat.mul_lt_mul_right hp2, e2, e1, Nat.mul_lt_mul_right hp, Nat.mul_right_cancel_iff hp2, Nat.mul_right_cancel_iff hp]
  have hm1 : m ≤ 1 := by rw [hm]; split <;> omega
  have a1 : 4 * N < 4 * (D * D) ↔ 2 * q + m < 2 * D := by
    constructor
    · intro h
      have h2 : q < D := sq_lt.1 (by omega)
      omega
    · intro h
      have h2 := Nat.mul_le_mul (show q + 1 ≤ D by omega) (show q + 1 ≤ D by omega)
      omega
  have a2 : 4 * N = 4 * (D * D) ↔ 2 * q + m = 2 * D := by
    constructor
    · intro h
      have h1 : q ≤ D := sq_le.1 (by omega)
      have h2 : D < q + 1 := sq_lt.1 (by omega)
      have h3 : q = D := by omega
      subst h3
      rw [hm, if_pos (by omega)]
      rfl
    · intro h
      have h0 : m = 0 := by omega
      have h3 : q = D := by omega
      subst h3
      rw [hm] at h0
      split at h0
      · omega
      · omega
  rw [a1, a2]

/-- A root in whole numbers of enough bits and a bit for the rest are rounded as the root itself: no middle lies between. -/
theorem root_code (f L N q m j : Nat) (hf : 1 ≤ f) (hq : q * q ≤ N) (hq1 : N < (q + 1) * (q + 1)) (hm : m = if q * q = N then 0 else 1) (hj : 1 ≤ j) (hb : f + 3 ≤ Go.bitLen q) (c : Nat) :
    rootLe f L (N * (2 ^ j * 2 ^ j)) c ↔ code f L ((2 * q + m) * 2 ^ (j - 1)) ≤ c := by
  have hm1 : m ≤ 1 := by rw [hm]; split <;> omega
  obtain ⟨X, hX⟩ : ∃ X, X = (2 * q + m) * 2 ^ (j - 1) := ⟨_, rfl⟩
  have hge : 2 ^ (f + 2 + j) ≤ X := by
    have h1 : 2 ^ (f + 2) ≤ q := bl_ge (by omega)
    have h2 : 2 ^ (f + 3) ≤ 2 * q + m := by rw [show f + 3 = f + 2 + 1 by omega, Nat.pow_succ]; omega
    have h3 := Nat.mul_le_mul_right (2 ^ (j - 1)) h2
    rw [← Nat.pow_add, show f + 3 + (j - 1) = f + 2 + j by omega] at h3
    rw [hX]
    exact h3
  -- floats whose last bit lies too low are far below
  have hfar : ∀ s k, s < 2 ^ (f + 1) → k ≤ j → (s + 1) * 2 ^ k ≤ 2 ^ (f + 1 + j) := fun s k h1 h2 => by
    have h3 := Nat.mul_le_mul (show s + 1 ≤ 2 ^ (f + 1) by omega) (Nat.pow_le_pow_right (show 0 < 2 by omega) h2)
    rw [← Nat.pow_add] at h3
    exact h3
  have hpj := pow_two (f + 1 + j)
  rw [show f + 1 + j + 1 = f + 2 + j by omega] at hpj
  have hlow : ∀ d, (∃ s k, mid2 f L d = (2 * s + 1) * 2 ^ k ∧ j + 1 ≤ k) ∨ fval f L (d + 1) ≤ 2 ^ (f + 1 + j) := fun d => by
    obtain ⟨s, k, h0, h1, h2, h3, h4, h5, h6⟩ := mid2_ex f L d
    by_cases hk : j + 1 ≤ k
    · exact Or.inl ⟨s, k, h6, hk⟩
    · exact Or.inr (by rw [h5]; exact hfar s k h1 (by omega))
  rcases hlow c with ⟨s, k, h1, h2⟩ | h
  · rw [root_at f L N q m j s k hq hq1 hm h2 hj c h1, ← hX, code_le_iff f L X c hf]
  · -- both are false
    have hmid : mid2 f L c ≤ 2 * 2 ^ (f + 1 + j) := by
      have := (fval_lt (f := f) (L := L) (c := c) (d := c + 1)).2 (by omega)
      unfold mid2
      omega
    have hpp := Nat.two_pow_pos (f + 1 + j)
    constructor
    · intro hr
      exfalso
      have hT : 2 ^ (f + 2 + j) * 2 ^ (f + 2 + j) ≤ N * (2 ^ j * 2 ^ j) := by
        have g1 : 2 ^ (f + 2) ≤ q := bl_ge (by omega)
        have g2 := Nat.le_trans (Nat.mul_le_mul g1 g1) hq
        have g3 := Nat.mul_le_mul_right (2 ^ j * 2 ^ j) g2
        rw [Nat.mul_mul_mul_comm, ← Nat.pow_add] at g3
        exact g3
      have hM := Nat.mul_le_mul hmid hmid
      rw [hpj] at hT
      have e : 2 * 2 ^ (f + 1 + j) = 2 ^ (f + 1 + j) + 2 ^ (f + 1 + j) := by omega
      rw [e] at hM
      have hpos : 0 < (2 ^ (f + 1 + j) + 2 ^ (f + 1 + j)) * (2 ^ (f + 1 + j) + 2 ^ (f + 1 + j)) := Nat.mul_pos (by omega) (by omega)
      unfold rootLe at hr
      omega
    · intro hc
      exfalso
      rw [← hX, code_le_iff f L X c hf] at hc
      omega

end Go.Proofs.YtpbgpdmffejdgabGreatDoor
