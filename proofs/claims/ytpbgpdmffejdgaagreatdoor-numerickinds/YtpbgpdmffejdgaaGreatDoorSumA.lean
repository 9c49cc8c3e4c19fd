/- Sums, as an arithmetic of whole numbers: the number of a float's code, what a small number beside a great one does to its float, which differences are floats, and the signed code of the float that is nearest to a signed number. -/
import Derived.Test.YtpbgpdmffejdgaaGreatDoorNear
namespace Go.Proofs.YtpbgpdmffejdgaaGreatDoor

/-- The number of the float of a code. -/
def fval (f L c : Nat) : Nat := if c < 2 ^ (f + 1) then c * 2 ^ L else (2 ^ f + c % 2 ^ f) * 2 ^ (c / 2 ^ f - 1 + L)

theorem fval_norm (f L s k : Nat) (h1 : s < 2 ^ (f + 1)) (hk : L ≤ k) (h2 : L < k → 2 ^ f ≤ s) : fval f L ((k - L) * 2 ^ f + s) = s * 2 ^ k := by
  have e2 : 2 ^ (f + 1) = 2 ^ f + 2 ^ f := by rw [Nat.pow_succ]; omega
  have hp := Nat.two_pow_pos f
  by_cases hL : L < k
  · have h3 := h2 hL
    obtain ⟨r, rfl⟩ := Nat.exists_eq_add_of_le h3
    obtain ⟨j, rfl⟩ : ∃ j, k = L + (j + 1) := ⟨k - L - 1, by omega⟩
    rw [show L + (j + 1) - L = j + 1 by omega]
    have hc : (j + 1) * 2 ^ f + (2 ^ f + r) = 2 ^ f * (j + 2) + r := by
      rw [show (j + 1) * 2 ^ f = 2 ^ f * (j + 1) by rw [Nat.mul_comm], show j + 2 = j + 1 + 1 by omega, Nat.mul_add (2 ^ f) (j + 1) 1]
      omega
    have hlt : r < 2 ^ f := by omega
    rw [hc]
    unfold fval
    rw [if_neg (by
      have := Nat.mul_le_mul_left (2 ^ f) (show 2 ≤ j + 2 by omega)
      omega)]
    rw [Nat.mul_add_mod, Nat.mod_eq_of_lt hlt, Nat.mul_add_div hp, Nat.div_eq_of_lt hlt, show j + 2 + 0 - 1 + L = L + (j + 1) by omega]
  · have : k = L := by omega
    subst this
    rw [Nat.sub_self, Nat.zero_mul, Nat.zero_add]
    unfold fval
    rw [if_pos h1]
theorem fval_ex (f L c : Nat) : ∃ s k, c = (k - L) * 2 ^ f + s ∧ s < 2 ^ (f + 1) ∧ L ≤ k ∧ (L < k → 2 ^ f ≤ s) ∧ fval f L c = s * 2 ^ k := by
  have e2 : 2 ^ (f + 1) = 2 ^ f + 2 ^ f := by rw [Nat.pow_succ]; omega
  have hp := Nat.two_pow_pos f
  by_cases h : c < 2 ^ (f + 1)
  · refine ⟨c, L, by rw [Nat.sub_self, Nat.zero_mul, Nat.zero_add], h, Nat.le_refl _, fun h => absurd h (Nat.lt_irrefl _), ?_⟩
    unfold fval
    rw [if_pos h]
  · have hd := Nat.div_add_mod c (2 ^ f)
    have hm := Nat.mod_lt c hp
    have h2 : 2 ≤ c / 2 ^ f := (Nat.le_div_iff_mul_le hp).2 (by omega)
    refine ⟨2 ^ f + c % 2 ^ f, c / 2 ^ f - 1 + L, ?_, by omega, by omega, fun _ => by omega, ?_⟩
    · rw [show c / 2 ^ f - 1 + L - L = c / 2 ^ f - 1 by omega, Nat.sub_mul, Nat.mul_comm (c / 2 ^ f) (2 ^ f)]
      have := Nat.mul_le_mul_left (2 ^ f) h2
      omega
    · unfold fval
      rw [if_neg h]
theorem fval_code (f L c : Nat) : code f L (fval f L c) = c := by
  obtain ⟨s, k, h0, h1, h2, h3, h4⟩ := fval_ex f L c
  rw [h4, code_exact f L s k h1 h2 h3]
  exact h0.symm
theorem fval_inj {f L c d : Nat} (h : fval f L c = fval f L d) : c = d := by
  rw [← fval_code f L c, h, fval_code]
theorem fval_le {f L c d : Nat} : fval f L c ≤ fval f L d ↔ c ≤ d := by
  constructor
  · intro h
    have := code_mono f L h
    rwa [fval_code, fval_code] at this
  · intro h
    refine Decidable.byContradiction fun hn => ?_
    have h1 := code_mono f L (show fval f L d ≤ fval f L c by omega)
    rw [fval_code, fval_code] at h1
    have : c = d := by omega
    subst this
    omega
theorem fval_zero (f L : Nat) : fval f L 0 = 0 := by
  unfold fval
  rw [if_pos (Nat.two_pow_pos _), Nat.zero_mul]
theorem fval_pos {f L c : Nat} (h : c ≠ 0) : 0 < fval f L c := by
  refine Nat.pos_of_ne_zero fun h0 => h ?_
  rw [← fval_code f L c, h0, code_zero]
/-- A number of no more bits than a float, above its least place, is a float's. -/
theorem rep (f L s : Nat) : ∀ j, s < 2 ^ (f + 1) → ∃ c, s * 2 ^ (L + j) = fval f L c
  | 0, h => ⟨s, by unfold fval; rw [if_pos h, Nat.add_zero]⟩
  | j + 1, h => by
    by_cases h2 : 2 ^ f ≤ s
    · exact ⟨_, (fval_norm f L s (L + (j + 1)) h (by omega) (fun _ => h2)).symm⟩
    · have e2 : 2 ^ (f + 1) = 2 ^ f + 2 ^ f := by rw [Nat.pow_succ]; omega
      obtain ⟨c, hc⟩ := rep f L (s * 2) j (by omega)
      refine ⟨c, ?_⟩
      rw [← hc, Nat.mul_assoc, show L + (j + 1) = L + j + 1 by omega, Nat.pow_succ, Nat.mul_comm (2 ^ (L + j)) 2]
theorem rep_k {f L s k : Nat} (h : s < 2 ^ (f + 1)) (hk : L ≤ k) : ∃ c, s * 2 ^ k = fval f L c := by
  obtain ⟨j, rfl⟩ := Nat.exists_eq_add_of_le hk
  exact rep f L s j h

theorem near_up (s r B : Nat) (h : 2 * r < B) : near (s * B + r) B = s := by
  have hB : 0 < B := by omega
  have hq : (s * B + r) / B = s := by rw [Nat.mul_comm, Nat.mul_add_div hB, Nat.div_eq_of_lt (by omega), Nat.add_zero]
  have hr : (s * B + r) % B = r := by rw [Nat.mul_comm, Nat.mul_add_mod, Nat.mod_eq_of_lt (by omega)]
  unfold near
  rw [hq, hr, if_neg (by omega)]
theorem near_dn (s r B : Nat) (h : 2 * r < B) (hs : 0 < s) : near (s * B - r) B = s := by
  by_cases h0 : r = 0
  · subst h0
    rw [Nat.sub_zero]
    exact near_mul s B (by omega)
  · have hB : 0 < B := by omega
    obtain ⟨t, rfl⟩ : ∃ t, s = t + 1 := ⟨s - 1, by omega⟩
    have e : (t + 1) * B - r = B * t + (B - r) := by rw [Nat.mul_comm, Nat.mul_add]; omega
    have hq : ((t + 1) * B - r) / B = t := by rw [e, Nat.mul_add_div hB, Nat.div_eq_of_lt (by omega), Nat.add_zero]
    have hr : ((t + 1) * B - r) % B = B - r := by rw [e, Nat.mul_add_mod, Nat.mod_eq_of_lt (by omega)]
    unfold near
    rw [hq, hr, if_pos (by omega)]
theorem bl_eq {x k : Nat} (h1 : 2 ^ k ≤ x) (h2 : x < 2 ^ (k + 1)) : Go.bitLen x = k + 1 := by
  have h3 := bl_mono h1
  have h4 : Go.bitLen (2 ^ k) = k + 1 := by
    have := bl_shl 1 k (by omega)
    rw [Nat.one_mul] at this
    rw [this]
    rfl
  have h5 : ¬ k + 1 < Go.bitLen x := fun h => by have := bl_ge h; omega
  omega
/-- A number of less than a quarter of the last bit, added or taken away, doesn't change the float. -/
theorem code_far_up (f L s k r : Nat) (h1 : s < 2 ^ (f + 1)) (h2 : 2 ^ f ≤ s) (hk : L < k) (hr : 4 * r < 2 ^ k) : code f L (s * 2 ^ k + r) = code f L (s * 2 ^ k) := by
  rw [code_exact f L s k h1 (by omega) (fun _ => h2)]
  have hl : Go.bitLen (s * 2 ^ k + r) = f + k + 1 := by
    refine bl_eq ?_ ?_
    · rw [Nat.pow_add]
      exact Nat.le_trans (Nat.mul_le_mul_right _ h2) (Nat.le_add_right _ _)
    · have h3 : (s + 1) * 2 ^ k ≤ 2 ^ (f + 1) * 2 ^ k := Nat.mul_le_mul_right _ h1
      rw [Nat.add_mul, ← Nat.pow_add] at h3
      rw [show f + k + 1 = f + 1 + k by omega]
      omega
  have hu : unitOf f L (s * 2 ^ k + r) = k := by unfold unitOf; rw [hl]; omega
  unfold code
  rw [hu, near_up _ _ _ (by omega)]
theorem code_far_dn (f L s k r : Nat) (h1 : s < 2 ^ (f + 1)) (h2 : 2 ^ f ≤ s) (hk : L < k) (hr : 4 * r < 2 ^ k) : code f L (s * 2 ^ k - r) = code f L (s * 2 ^ k) := by
  have hp := Nat.two_pow_pos f
  rw [code_exact f L s k h1 (by omega) (fun _ => h2)]
  have h3 : s * 2 ^ k < 2 ^ (f + k + 1) := by
    rw [show f + k + 1 = f + 1 + k by omega, Nat.pow_add]
    exact Nat.mul_lt_mul_of_pos_right h1 (Nat.two_pow_pos k)
  by_cases he : s = 2 ^ f ∧ 0 < r
  · obtain ⟨rfl, h0⟩ := he
    obtain ⟨j, rfl⟩ : ∃ j, k = j + 1 := ⟨k - 1, by omega⟩
    have ej : 2 ^ (j + 1) = 2 ^ j + 2 ^ j := by rw [Nat.pow_succ]; omega
    have ef : 2 ^ f * 2 ^ (j + 1) = 2 ^ (f + 1) * 2 ^ j := by rw [← Nat.pow_add, ← Nat.pow_add, show f + (j + 1) = f + 1 + j by omega]
    have e2 : 2 ^ (f + 1) = 2 ^ f + 2 ^ f := by rw [Nat.pow_succ]; omega
    have h4 : 1 * 2 ^ j ≤ 2 ^ f * 2 ^ j := Nat.mul_le_mul_right _ hp
    have e3 : 2 ^ (f + 1) * 2 ^ j = 2 ^ f * 2 ^ j + 2 ^ f * 2 ^ j := by rw [e2, Nat.add_mul]
    have hl : Go.bitLen (2 ^ f * 2 ^ (j + 1) - r) = f + j + 1 := by
      refine bl_eq ?_ ?_
      · rw [Nat.pow_add, ef]
        omega
      · rw [show f + j + 1 = f + 1 + j by omega, Nat.pow_add 2 (f + 1) j, ef]
        omega
    have hu : unitOf f L (2 ^ f * 2 ^ (j + 1) - r) = j := by unfold unitOf; rw [hl]; omega
    unfold code
    rw [hu, ef, near_dn _ _ _ (by omega) (by omega), show j + 1 - L = j - L + 1 by omega, Nat.add_mul]
    omega
  · have hge : 2 ^ f * 2 ^ k ≤ s * 2 ^ k - r := by
      by_cases h0 : r = 0
      · subst h0
        rw [Nat.sub_zero]
        exact Nat.mul_le_mul_right _ h2
      · have h5 : (2 ^ f + 1) * 2 ^ k ≤ s * 2 ^ k := Nat.mul_le_mul_right _ (by omega)
        rw [Nat.add_mul] at h5
        omega
    have hl : Go.bitLen (s * 2 ^ k - r) = f + k + 1 := by
      refine bl_eq ?_ ?_
      · rw [Nat.pow_add]
        exact hge
      · omega
    have hu : unitOf f L (s * 2 ^ k - r) = k := by unfold unitOf; rw [hl]; omega
    unfold code
    rw [hu, near_dn _ _ _ (by omega) (by omega)]

/-- Of two floats of which neither is more than twice the other the difference is one. -/
theorem close_rep {f L c d : Nat} (h1 : fval f L d ≤ fval f L c) (h2 : fval f L c ≤ 2 * fval f L d) : ∃ e, fval f L c - fval f L d = fval f L e := by
  obtain ⟨s, k, -, s1, k1, -, e1⟩ := fval_ex f L c
  obtain ⟨t, j, -, t1, j1, -, e2⟩ := fval_ex f L d
  rw [e1, e2] at h1 h2 ⊢
  by_cases hk : j ≤ k
  · obtain ⟨i, rfl⟩ := Nat.exists_eq_add_of_le hk
    have e3 : s * 2 ^ (j + i) = s * 2 ^ i * 2 ^ j := by rw [Nat.pow_add, Nat.mul_comm (2 ^ j), Nat.mul_assoc]
    rw [e3] at h1 h2 ⊢
    rw [← Nat.sub_mul]
    refine rep_k ?_ j1
    have h3 : s * 2 ^ i * 2 ^ j ≤ 2 * t * 2 ^ j := by rw [Nat.mul_assoc 2]; exact h2
    have := Nat.le_of_mul_le_mul_right h3 (Nat.two_pow_pos j)
    omega
  · obtain ⟨i, rfl⟩ := Nat.exists_eq_add_of_le (show k ≤ j by omega)
    have e3 : t * 2 ^ (k + i) = t * 2 ^ i * 2 ^ k := by rw [Nat.pow_add, Nat.mul_comm (2 ^ k), Nat.mul_assoc]
    rw [e3] at h1 h2 ⊢
    rw [← Nat.sub_mul]
    refine rep_k ?_ k1
    omega
/-- Twice a float is one. -/
theorem twice_rep (f L c : Nat) : ∃ e, fval f L c + fval f L c = fval f L e := by
  obtain ⟨s, k, -, s1, k1, -, e1⟩ := fval_ex f L c
  rw [e1, show s * 2 ^ k + s * 2 ^ k = s * 2 ^ (k + 1) by rw [Nat.pow_succ, ← Nat.mul_assoc]; omega]
  exact rep_k s1 (by omega)

end Go.Proofs.YtpbgpdmffejdgaaGreatDoor
