/- What a number is put as: plain arithmetic. -/
import Derived.Test.YtbmkhhkklglomaaLbM
namespace Go.Proofs.Ytbmkhhkklglomaa

/-- The shortest form of an unsigned number. -/
def putU (n : Nat) : List Int := if n < 128 then [(n : Int)] else ((128 + n % 128 : Nat) : Int) :: putU (n / 128)
  termination_by n
  decreasing_by omega
/-- The shortest form of a signed number. -/
def putS (s : Int) : List Int := if -64 ≤ s ∧ s < 64 then [s % 128] else (128 + s % 128) :: putS (s / 128)
  termination_by s.natAbs
  decreasing_by omega
theorem putU_last {n : Nat} (h : n < 128) : putU n = [(n : Int)] := by rw [putU, if_pos h]
theorem putU_more {n : Nat} (h : ¬ n < 128) : putU n = ((128 + n % 128 : Nat) : Int) :: putU (n / 128) := by rw [putU, if_neg h]
theorem putS_last {s : Int} (h : -64 ≤ s ∧ s < 64) : putS s = [s % 128] := by rw [putS, if_pos h]
theorem putS_more {s : Int} (h : ¬ (-64 ≤ s ∧ s < 64)) : putS s = (128 + s % 128) :: putS (s / 128) := by rw [putS, if_neg h]
theorem putU_ne (n : Nat) : putU n ≠ [] := by
  by_cases h : n < 128
  · rw [putU_last h]; simp
  · rw [putU_more h]; simp
theorem putS_ne (s : Int) : putS s ≠ [] := by
  by_cases h : -64 ≤ s ∧ s < 64
  · rw [putS_last h]; simp
  · rw [putS_more h]; simp
theorem putU_len (k : Nat) : ∀ n : Nat, n < 128 ^ (k + 1) → (putU n).length ≤ k + 1 := by
  induction k with
  | zero => intro n h; rw [putU_last (by simpa using h)]; simp
  | succ k ih =>
    intro n h
    by_cases h1 : n < 128
    · rw [putU_last h1]; simp
    · rw [putU_more h1]
      have := ih (n / 128) (by rw [Nat.pow_succ] at h; omega)
      simp only [List.length_cons]
      omega
theorem putS_len (k : Nat) : ∀ s : Int, -(64 * 128 ^ k) ≤ s → s < 64 * 128 ^ k → (putS s).length ≤ k + 1 := by
  induction k with
  | zero => intro s h1 h2; rw [putS_last ⟨by simpa using h1, by simpa using h2⟩]; simp
  | succ k ih =>
    intro s h1 h2
    by_cases h : -64 ≤ s ∧ s < 64
    · rw [putS_last h]; simp
    · rw [putS_more h]
      rw [Int.pow_succ] at h1 h2
      generalize (128 : Int) ^ k = p at *
      have := ih (s / 128) (by omega) (by omega)
      simp only [List.length_cons]
      omega
theorem putU_byt : ∀ (k n : Nat), n ≤ k → Byt (putU n) := by
  intro k
  induction k with
  | zero => intro n h x hx; rw [putU_last (by omega)] at hx; simp at hx; omega
  | succ k ih =>
    intro n h x hx
    by_cases h1 : n < 128
    · rw [putU_last h1] at hx; simp at hx; omega
    · rw [putU_more h1] at hx
      rcases List.mem_cons.1 hx with hx | hx
      · omega
      · exact ih (n / 128) (by omega) x hx
theorem putS_byt : ∀ (k : Nat) (s : Int), s.natAbs ≤ k → Byt (putS s) := by
  intro k
  induction k with
  | zero => intro s h x hx; rw [putS_last (by omega)] at hx; simp at hx; omega
  | succ k ih =>
    intro s h x hx
    by_cases h1 : -64 ≤ s ∧ s < 64
    · rw [putS_last h1] at hx; simp at hx; omega
    · rw [putS_more h1] at hx
      rcases List.mem_cons.1 hx with hx | hx
      · omega
      · exact ih (s / 128) (by omega) x hx
/-- A form is read as it was put, of as many bits as it has. -/
theorem rd_putU (r : List Int) : ∀ (k n b : Nat), n ≤ k → rd VU okU (putU n ++ r) b = if n < 2 ^ b then ((n : Int), (putU n).length, 0) else (0, 0, 101) := by
  intro k
  induction k with
  | zero =>
    intro n b h
    have h0 : n = 0 := by omega
    subst h0
    have : 0 < 2 ^ b := Nat.pow_pos (by omega)
    rw [putU_last (by omega), if_pos this]
    exact rd_last (by simp) (by unfold okU; exact decide_eq_true (Int.pow_pos (by omega)))
  | succ k ih =>
    intro n b h
    have e : ((2 : Int) ^ b) = ((2 ^ b : Nat) : Int) := by rw [Int.natCast_pow]; rfl
    by_cases h1 : n < 128
    · rw [putU_last h1]
      by_cases h2 : n < 2 ^ b
      · rw [if_pos h2]
        exact rd_last (by omega) (by unfold okU; exact decide_eq_true (by rw [e]; omega))
      · rw [if_neg h2]
        exact rd_wrong (by omega) (by unfold okU; exact decide_eq_false (by rw [e]; omega))
    · rw [putU_more h1, List.cons_append]
      by_cases hb : b ≤ 7
      · have : 2 ^ b ≤ 2 ^ 7 := Nat.pow_le_pow_right (by omega) hb
        rw [if_neg (by omega)]
        exact rd_long (by omega) hb
      · rw [rd_more (by omega) hb, ih (n / 128) (b - 7) (by omega)]
        have h2 : 2 ^ b = 128 * 2 ^ (b - 7) := by rw [show (128 : Nat) = 2 ^ 7 from rfl, ← Nat.pow_add, show 7 + (b - 7) = b by omega]
        by_cases h3 : n < 2 ^ b
        · rw [if_pos h3, if_pos (by omega)]
          unfold up
          rw [if_pos rfl]
          refine Prod.ext ?_ (Prod.ext ?_ rfl)
          · show ((128 + n % 128 : Nat) : Int) - 128 + 128 * ((n / 128 : Nat) : Int) = n
            omega
          · simp
        · rw [if_neg h3, if_neg (by omega)]
          rfl
theorem rd_putS (r : List Int) : ∀ (k : Nat) (s : Int) (b : Nat), s.natAbs ≤ k → 1 ≤ b → rd VS okS (putS s ++ r) b = if -(2 ^ (b - 1)) ≤ s ∧ s < 2 ^ (b - 1) then (s, (putS s).length, 0) else (0, 0, 101) := by
  have hv : ∀ s : Int, -64 ≤ s ∧ s < 64 → VS (s % 128) = s := by
    intro s hs
    unfold VS
    by_cases h : s % 128 < 64
    · rw [if_pos h]; omega
    · rw [if_neg h]; omega
  intro k
  induction k with
  | zero =>
    intro s b h hb
    have h0 : s = 0 := by omega
    subst h0
    have : (0 : Int) < 2 ^ (b - 1) := Int.pow_pos (by omega)
    rw [putS_last (by omega), if_pos (by omega)]
    exact rd_last (by simp) (by unfold okS; exact decide_eq_true (by rw [hv 0 (by omega)]; omega))
  | succ k ih =>
    intro s b h hb
    by_cases h1 : -64 ≤ s ∧ s < 64
    · rw [putS_last h1]
      by_cases h2 : -(2 ^ (b - 1)) ≤ s ∧ s < 2 ^ (b - 1)
      · rw [if_pos h2]
        have := rd_last (V := VS) (ok := okS) (x := s % 128) (r := r) (n := b) (by omega) (by unfold okS; rw [hv s h1]; exact decide_eq_true h2)
        rw [hv s h1] at this
        exact this
      · rw [if_neg h2]
        exact rd_wrong (by omega) (by unfold okS; rw [hv s h1]; exact decide_eq_false h2)
    · rw [putS_more h1, List.cons_append]
      by_cases hb7 : b ≤ 7
      · have : (2 : Int) ^ (b - 1) ≤ 2 ^ 6 := by
          have := Nat.pow_le_pow_right (show 0 < 2 by omega) (show b - 1 ≤ 6 by omega)
          have e : ((2 : Int) ^ (b - 1)) = ((2 ^ (b - 1) : Nat) : Int) := by rw [Int.natCast_pow]; rfl
          rw [e]
          omega
        rw [if_neg (by omega)]
        exact rd_long (by omega) hb7
      · rw [rd_more (by omega) hb7, ih (s / 128) (b - 7) (by omega) (by omega)]
        have h2 : (2 : Int) ^ (b - 1) = 128 * 2 ^ (b - 7 - 1) := by rw [show (128 : Int) = 2 ^ 7 from rfl, ← Int.pow_add, show 7 + (b - 7 - 1) = b - 1 by omega]
        rw [h2]
        generalize (2 : Int) ^ (b - 7 - 1) = p at *
        by_cases h3 : -(128 * p) ≤ s ∧ s < 128 * p
        · rw [if_pos h3, if_pos (by omega)]
          unfold up
          rw [if_pos rfl]
          refine Prod.ext ?_ (Prod.ext ?_ rfl)
          · show (128 + s % 128) - 128 + 128 * (s / 128) = s
            omega
          · simp
        · rw [if_neg h3, if_neg (by omega)]
          rfl
/-- Bytes that all say that others follow. -/
theorem rd_follow {V : Int → Int} {ok : Int → Nat → Bool} : ∀ (l : List Int) (b : Nat), (∀ x ∈ l, ¬ x < 128) → 7 * l.length < b → rd V ok l b = (0, 0, 100) := by
  intro l
  induction l with
  | nil => intro b _ _; rfl
  | cons x r ih =>
    intro b h1 h2
    simp only [List.length_cons] at h2
    rw [rd_more (h1 x List.mem_cons_self) (by omega), ih (b - 7) (fun y hy => h1 y (List.mem_cons_of_mem _ hy)) (by omega)]
    rfl
theorem putU_follow : ∀ (k n : Nat), n ≤ k → ∀ x ∈ (putU n).dropLast, ¬ x < 128 := by
  intro k
  induction k with
  | zero => intro n h x hx; rw [putU_last (by omega)] at hx; simp at hx
  | succ k ih =>
    intro n h x hx
    by_cases h1 : n < 128
    · rw [putU_last h1] at hx; simp at hx
    · rw [putU_more h1, List.dropLast_cons_of_ne_nil (putU_ne _)] at hx
      rcases List.mem_cons.1 hx with hx | hx
      · omega
      · exact ih (n / 128) (by omega) x hx
theorem putS_follow : ∀ (k : Nat) (s : Int), s.natAbs ≤ k → ∀ x ∈ (putS s).dropLast, ¬ x < 128 := by
  intro k
  induction k with
  | zero => intro s h x hx; rw [putS_last (by omega)] at hx; simp at hx
  | succ k ih =>
    intro s h x hx
    by_cases h1 : -64 ≤ s ∧ s < 64
    · rw [putS_last h1] at hx; simp at hx
    · rw [putS_more h1, List.dropLast_cons_of_ne_nil (putS_ne _)] at hx
      rcases List.mem_cons.1 hx with hx | hx
      · omega
      · exact ih (s / 128) (by omega) x hx
/-- A form with k bytes more than it needs. -/
def longU (n : Nat) (k : Nat) : List Int := if n < 128 then (if k = 0 then [(n : Int)] else ((128 + n : Nat) : Int) :: (List.replicate (k - 1) 128 ++ [0])) else ((128 + n % 128 : Nat) : Int) :: longU (n / 128) k
  termination_by n
  decreasing_by omega
end Go.Proofs.Ytbmkhhkklglomaa
