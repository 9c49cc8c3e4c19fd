/- Numbers in bytes of seven bits: plain arithmetic, no program in sight. -/
import Derived.Laws.BytesArg
namespace Go.Proofs.Ytphgljhlamjmgaa

/-- Each is a byte. -/
def Byt (xs : List Int) : Prop := ∀ x ∈ xs, 0 ≤ x ∧ x < 256
theorem Byt.at {xs : List Int} (h : Byt xs) (i : Nat) (hi : i < xs.length) : 0 ≤ xs.getD i 0 ∧ xs.getD i 0 < 256 := by
  rw [List.getD_eq_getElem?_getD, List.getElem?_eq_getElem hi]
  exact h _ (List.getElem_mem _)
theorem drop_at (xs : List Int) (i : Nat) (hi : i < xs.length) : xs.drop i = xs.getD i 0 :: xs.drop (i + 1) := by
  rw [List.getD_eq_getElem?_getD, List.getElem?_eq_getElem hi]
  exact List.drop_eq_getElem_cons hi

def VU (x : Int) : Int := x
def VS (x : Int) : Int := if x < 64 then x else x - 128
def okU (x : Int) (n : Nat) : Bool := decide (x < 2 ^ n)
def okS (x : Int) (n : Nat) : Bool := decide (-(2 ^ (n - 1)) ≤ VS x ∧ VS x < 2 ^ (n - 1))
/-- A byte more ahead. -/
def up (x : Int) (t : Int × Nat × Nat) : Int × Nat × Nat := if t.2.2 = 0 then (x - 128 + 128 * t.1, t.2.1 + 1, 0) else (0, 0, t.2.2)
/-- What is read of bytes as a number of n bits: the number, how many bytes, the error. -/
def rd (V : Int → Int) (ok : Int → Nat → Bool) : List Int → Nat → Int × Nat × Nat
  | [], _ => (0, 0, 100)
  | x :: r, n => if x < 128 then (if ok x n = true then (V x, 1, 0) else (0, 0, 101)) else if n ≤ 7 then (0, 0, 101) else up x (rd V ok r (n - 7))
/-- Behind i bytes that are n together. -/
def ups (n : Int) (i : Nat) (t : Int × Nat × Nat) : Int × Nat × Nat := if t.2.2 = 0 then (n + 128 ^ i * t.1, t.2.1 + i, 0) else (0, 0, t.2.2)
section
variable {V : Int → Int} {ok : Int → Nat → Bool}
theorem rd_nil (n : Nat) : rd V ok [] n = (0, 0, 100) := rfl
theorem rd_last {x : Int} {r : List Int} {n : Nat} (h : x < 128) (k : ok x n = true) : rd V ok (x :: r) n = (V x, 1, 0) := by
  rw [rd, if_pos h, if_pos k]
theorem rd_wrong {x : Int} {r : List Int} {n : Nat} (h : x < 128) (k : ok x n = false) : rd V ok (x :: r) n = (0, 0, 101) := by
  rw [rd, if_pos h, if_neg (by rw [k]; decide)]
theorem rd_long {x : Int} {r : List Int} {n : Nat} (h : ¬ x < 128) (k : n ≤ 7) : rd V ok (x :: r) n = (0, 0, 101) := by
  rw [rd, if_neg h, if_pos k]
theorem rd_more {x : Int} {r : List Int} {n : Nat} (h : ¬ x < 128) (k : ¬ n ≤ 7) : rd V ok (x :: r) n = up x (rd V ok r (n - 7)) := by
  rw [rd, if_neg h, if_neg k]
theorem up_err (x : Int) (t : Int × Nat × Nat) (h : (up x t).2.2 ≠ 0) : up x t = (0, 0, (up x t).2.2) := by
  unfold up at *
  by_cases k : t.2.2 = 0
  · rw [if_pos k] at h; exact absurd rfl h
  · rw [if_neg k]
theorem rd_err (l : List Int) (n : Nat) (h : (rd V ok l n).2.2 ≠ 0) : rd V ok l n = (0, 0, (rd V ok l n).2.2) := by
  cases l with
  | nil => rfl
  | cons x r =>
    by_cases h1 : x < 128
    · cases h2 : ok x n
      · rw [rd_wrong h1 h2]
      · rw [rd_last h1 h2] at h; exact absurd rfl h
    · by_cases h2 : n ≤ 7
      · rw [rd_long h1 h2]
      · rw [rd_more h1 h2] at h ⊢; exact up_err _ _ h
theorem ups_zero (l : List Int) (n : Nat) : rd V ok l n = ups 0 0 (rd V ok l n) := by
  unfold ups
  by_cases h : (rd V ok l n).2.2 = 0
  · rw [if_pos h]
    refine Prod.ext ?_ (Prod.ext ?_ ?_)
    · simp
    · simp
    · exact h
  · rw [if_neg h]; exact rd_err l n h
theorem ups_up (n x : Int) (i : Nat) (t : Int × Nat × Nat) : ups n i (up x t) = ups (n + 128 ^ i * (x - 128)) (i + 1) t := by
  unfold ups up
  by_cases h : t.2.2 = 0
  · rw [if_pos h, if_pos rfl, if_pos h]
    refine Prod.ext ?_ (Prod.ext ?_ rfl)
    · show n + 128 ^ i * (x - 128 + 128 * t.1) = n + 128 ^ i * (x - 128) + 128 ^ (i + 1) * t.1
      rw [Int.pow_succ, Int.mul_add, Int.mul_assoc, ← Int.add_assoc]
    · show t.2.1 + 1 + i = t.2.1 + (i + 1)
      omega
  · rw [if_neg h, if_neg h, if_neg h]
theorem ups_step {n : Int} {i b : Nat} {x : Int} {r : List Int} {T : Int × Nat × Nat} (h : T = ups n i (rd V ok (x :: r) (b - 7 * i))) (h1 : ¬ x < 128) (h2 : ¬ b - 7 * i ≤ 7) :
    T = ups (n + 128 ^ i * (x - 128)) (i + 1) (rd V ok r (b - 7 * (i + 1))) := by
  rw [h, rd_more h1 h2, ups_up, show b - 7 * (i + 1) = b - 7 * i - 7 by omega]
theorem ups_last {n : Int} {i b : Nat} {x : Int} {r : List Int} {T : Int × Nat × Nat} (h : T = ups n i (rd V ok (x :: r) (b - 7 * i))) (h1 : x < 128) (h2 : ok x (b - 7 * i) = true) :
    T = (n + 128 ^ i * V x, 1 + i, 0) := by
  rw [h, rd_last h1 h2]; rfl
theorem ups_wrong {n : Int} {i b : Nat} {x : Int} {r : List Int} {T : Int × Nat × Nat} (h : T = ups n i (rd V ok (x :: r) (b - 7 * i))) (h1 : x < 128) (h2 : ok x (b - 7 * i) = false) :
    T = (0, 0, 101) := by
  rw [h, rd_wrong h1 h2]; rfl
theorem ups_long {n : Int} {i b : Nat} {x : Int} {r : List Int} {T : Int × Nat × Nat} (h : T = ups n i (rd V ok (x :: r) (b - 7 * i))) (h1 : ¬ x < 128) (h2 : b - 7 * i ≤ 7) :
    T = (0, 0, 101) := by
  rw [h, rd_long h1 h2]; rfl
theorem ups_end {n : Int} {i b : Nat} {T : Int × Nat × Nat} (h : T = ups n i (rd V ok [] (b - 7 * i))) : T = (0, 0, 100) := by
  rw [h]; rfl
end
end Go.Proofs.Ytphgljhlamjmgaa
