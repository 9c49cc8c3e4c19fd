/- What is read of bytes, more: bounds, and what each call answers. -/
import Derived.Test.YtphgljhlamjmgaaScM
namespace Go.Proofs.Ytphgljhlamjmgaa

theorem byt_dropS {xs : List Int} (h : Byt xs) (k : Nat) : Byt (xs.drop k) := fun x hx => h x (List.mem_of_mem_drop hx)
theorem pow_7 (n : Nat) (h : ¬ n ≤ 7) : (2 : Int) ^ n = 128 * 2 ^ (n - 7) := by
  obtain ⟨m, rfl⟩ : ∃ m, n = m + 7 := ⟨n - 7, by omega⟩
  rw [Nat.add_sub_cancel, Int.pow_add]
  have : (2 : Int) ^ 7 = 128 := by decide
  omega
theorem rdU_lt : ∀ (l : List Int) (n : Nat), Byt l → 0 ≤ (rd VU okU l n).1 ∧ (rd VU okU l n).1 < 2 ^ n
  | [], n, _ => ⟨Int.le_refl _, Int.pow_pos (by decide)⟩
  | x :: r, n, h => by
    have hx := h x (by simp)
    have hp : (0 : Int) < 2 ^ n := Int.pow_pos (by decide)
    by_cases h1 : x < 128
    · cases h2 : okU x n
      · rw [rd_wrong h1 h2]; exact ⟨Int.le_refl _, hp⟩
      · rw [rd_last h1 h2]
        unfold okU at h2
        exact ⟨hx.1, of_decide_eq_true h2⟩
    · by_cases h2 : n ≤ 7
      · rw [rd_long h1 h2]; exact ⟨Int.le_refl _, hp⟩
      · rw [rd_more h1 h2]
        have ih := rdU_lt r (n - 7) (fun y hy => h y (by simp [hy]))
        unfold up
        by_cases k : (rd VU okU r (n - 7)).2.2 = 0
        · rw [if_pos k]
          rw [pow_7 n h2]
          show 0 ≤ x - 128 + 128 * (rd VU okU r (n - 7)).1 ∧ x - 128 + 128 * (rd VU okU r (n - 7)).1 < 128 * 2 ^ (n - 7)
          omega
        · rw [if_neg k]; exact ⟨Int.le_refl _, hp⟩
theorem liftU_lt {xs : List Int} (h : Byt xs) (k : Nat) (e : Int) : 0 ≤ (lift (rU 32) 0 xs k e).1 ∧ (lift (rU 32) 0 xs k e).1 < 4294967296 := by
  by_cases he : e = 0
  · subst he
    rw [lift_0]
    have := rdU_lt (xs.drop k) 32 (byt_dropS h k)
    have h2 : (2 : Int) ^ 32 = 4294967296 := by decide
    rw [h2] at this
    show 0 ≤ (rd VU okU (xs.drop k) 32).1 % 18446744073709551616 ∧ (rd VU okU (xs.drop k) 32).1 % 18446744073709551616 < 4294967296
    omega
  · rw [lift_e _ _ _ _ he]; exact ⟨Int.le_refl 0, by show (0 : Int) < _; decide⟩
theorem liftS_lt (xs : List Int) (k : Nat) (e : Int) (b : Nat) : 0 ≤ (lift (rS b) 0 xs k e).1 ∧ (lift (rS b) 0 xs k e).1 < 18446744073709551616 := by
  by_cases he : e = 0
  · subst he
    rw [lift_0]
    show 0 ≤ (rd VS okS (xs.drop k) b).1 % 18446744073709551616 ∧ (rd VS okS (xs.drop k) b).1 % 18446744073709551616 < 18446744073709551616
    omega
  · rw [lift_e _ _ _ _ he]; exact ⟨Int.le_refl 0, by show (0 : Int) < _; decide⟩
/-- Any reading that is good, told by what a failure leaves. -/
theorem Gd.lift0 {A : Type} {f : Rr A} {z : A} (h : Gd f z) (xs : List Int) (k : Nat) : lift f z xs k 0 = (pk (f (xs.drop k)).2.2 (f (xs.drop k)).1 z, back (f (xs.drop k)).2.2 (k + (f (xs.drop k)).2.1) k, (f (xs.drop k)).2.2) := by
  rw [lift_0]
  by_cases he : (f (xs.drop k)).2.2 = 0
  · rw [he, pk_0, back_0]
  · rw [pk_e he, back_e he, h.nrm _ he]
    rfl
/-- A place where only a success is told of. -/
theorem lift_any {A : Type} {f : Rr A} {z : A} (h : Gd f z) (xs : List Int) (k k1 : Nat) (y : A) (e1 : Int) (he : e1 = (f (xs.drop k)).2.2) (hk : e1 = 0 → k1 = k + (f (xs.drop k)).2.1 ∧ y = (f (xs.drop k)).1) :
    lift f z xs k 0 = (pk e1 y z, back e1 k1 k, e1) := by
  rw [h.lift0, ← he]
  by_cases h0 : e1 = 0
  · obtain ⟨q1, q2⟩ := hk h0
    rw [h0, pk_0, back_0, pk_0, back_0, q1, q2]
  · rw [pk_e h0, back_e h0, pk_e h0, back_e h0]
theorem Gd.nrmL {A : Type} {f : Rr A} {z : A} (h : Gd f z) (xs : List Int) (k : Nat) (e : Int) (hn : (lift f z xs k e).2.2 ≠ 0) : lift f z xs k e = (z, k, (lift f z xs k e).2.2) := by
  by_cases he : e = 0
  · subst he
    rw [lift_0] at hn ⊢
    have hn : (f (xs.drop k)).2.2 ≠ 0 := hn
    rw [h.nrm _ hn]
    rfl
  · rw [lift_e _ _ _ _ he]
theorem lift_rB_lt {xs : List Int} (h : Byt xs) (k : Nat) (e : Int) : 0 ≤ (lift rB 0 xs k e).1 ∧ (lift rB 0 xs k e).1 < 256 := by
  by_cases he : e = 0
  · subst he
    rw [lift_0]
    have hb := byt_dropS h k
    cases hl : xs.drop k with
    | nil => exact ⟨Int.le_refl 0, by show (0 : Int) < _; decide⟩
    | cons x r => rw [hl] at hb; exact hb x (by simp)
  · rw [lift_e _ _ _ _ he]; exact ⟨Int.le_refl 0, by show (0 : Int) < _; decide⟩
theorem rL_1 (l : List Int) : rL 1 l = rB l := by
  cases l with
  | nil => rfl
  | cons x r =>
    show (if 1 ≤ r.length + 1 then (lsf [x], 1, 0) else (0, 0, 100)) = ((x, 1, 0) : Int × Nat × Int)
    rw [if_pos (by omega)]
    show (x + 256 * 0, 1, 0) = ((x, 1, 0) : Int × Nat × Int)
    rw [Int.mul_zero, Int.add_zero]
theorem lift_rL_1 (xs : List Int) (k : Nat) (e : Int) : lift (rL 1) 0 xs k e = lift rB 0 xs k e := by
  unfold lift
  rw [rL_1]
theorem lsf_app (l : List Int) (x : Int) : lsf (l ++ [x]) = lsf l + 256 ^ l.length * x := by
  induction l with
  | nil => show x + 256 * 0 = 0 + 256 ^ 0 * x; omega
  | cons y r ih =>
    show y + 256 * lsf (r ++ [x]) = y + 256 * lsf r + 256 ^ (r.length + 1) * x
    rw [ih, Int.pow_succ, Int.mul_add, Int.add_assoc, Int.mul_comm (256 ^ r.length) 256, Int.mul_assoc]
theorem lsf_lt {l : List Int} (h : Byt l) : 0 ≤ lsf l ∧ lsf l < 256 ^ l.length := by
  induction l with
  | nil => exact ⟨Int.le_refl _, by decide⟩
  | cons y r ih =>
    have hy := h y (by simp)
    have ih := ih (fun z hz => h z (by simp [hz]))
    show 0 ≤ y + 256 * lsf r ∧ y + 256 * lsf r < 256 ^ (r.length + 1)
    rw [Int.pow_succ]
    omega
end Go.Proofs.Ytphgljhlamjmgaa
