/- Name of anything; what By looks for. -/
import Derived.Test.YtkpdanjfdcoldaaDoorOpF
namespace Go.Proofs.YtkpdanjfdcoldaaDoor
open Go.RowKit

def lw (op : Int) : Nat → Int × List (List UInt8)
  | 0 => (0, [])
  | k + 1 => if fs k ≤ op then (fs k, ws k) else lw op k
theorem lr_lw (op : Int) : ∀ k, lr tx op k = ((lw op k).1, bs (jn (lw op k).2))
  | 0 => rfl
  | k + 1 => by
    unfold lr lw
    by_cases h : fs k ≤ op
    · simp [h, tx]
    · simp [h, lr_lw op k]
/-- All words have bytes, and no blank. -/
def okW (l : List (List UInt8)) : Bool := l.all fun w => !w.isEmpty && w.all fun c => c != 32
theorem okW_wds {l : List (List UInt8)} (h : okW l = true) : Wds l := fun w hw => by
  have h1 := List.all_eq_true.1 h w hw
  simp only [Bool.and_eq_true, List.all_eq_true, Bool.not_eq_true', List.isEmpty_eq_false_iff] at h1
  exact ⟨h1.1, fun e => by have := h1.2 32 e; simp at this⟩
theorem ok_all : (List.range 18).all (fun k => okW (ws k) && decide ((jn (ws k)).length < 4294967281) && decide (0 ≤ fs k) && decide (fs k + (ws k).length < 4294967296)) = true := by kernel_rfl
theorem ok_at (k : Nat) (hk : k < 18) : Wds (ws k) ∧ (bs (jn (ws k))).size < 4294967281 ∧ 0 ≤ fs k ∧ fs k + (ws k).length < 4294967296 := by
  have h := List.all_eq_true.1 ok_all k (List.mem_range.2 hk)
  simp only [Bool.and_eq_true, decide_eq_true_eq] at h
  exact ⟨okW_wds h.1.1.1, by rw [bs_size]; exact h.1.1.2, h.1.2, h.2⟩
theorem lw_ok (op : Int) : ∀ k, k ≤ 18 → Wds (lw op k).2 ∧ (bs (jn (lw op k).2)).size < 4294967281 ∧ 0 ≤ (lw op k).1 ∧ (lw op k).1 + (lw op k).2.length < 4294967296
  | 0, _ => ⟨(fun _ h => by cases h), by simp [lw, jn, bs_size], by simp [lw], by simp [lw]⟩
  | k + 1, hk => by
    unfold lw
    by_cases h : fs k ≤ op
    · simp only [h, if_true]; exact ok_at k (by omega)
    · simp only [h, if_false]; exact lw_ok op k (by omega)
/-- The name of an opcode. -/
def nm (op : Int) : List UInt8 := nmOf op (prs (lw op 18).1 (lw op 18).2)
theorem name_any (op : Int) : Ct 8 #[.int .i64 op] (.string (bs (nm op))) := hide fun W => by
  obtain ⟨h1, h2, h3, h4⟩ := lw_ok op 18 (Nat.le_refl _)
  exact name_s _ _ h1 h2 h3 h4 op (hide fun W => by have := runOf_any op W; rwa [lr_lw] at this) W
theorem prs_in : ∀ (l : List (List UInt8)) (f : Int) (y : Int × List UInt8), y ∈ prs f l → f ≤ y.1 ∧ y.1 < f + l.length ∧ y.2 ∈ l
  | [], _, _, h => by cases h
  | w :: l, f, y, h => by
    rcases List.mem_cons.1 h with rfl | h
    · simp; omega
    · obtain ⟨h1, h2, h3⟩ := prs_in l (f + 1) y h
      simp [h3]; omega
theorem nm_out (op : Int) (h : op < 0 ∨ (192 ≤ op ∧ op < 64512) ∨ 64520 ≤ op) : nm op = [] := by
  unfold nm
  apply nm_none
  intro y hy e
  obtain ⟨h1, h2, -⟩ := prs_in _ _ _ hy
  rcases h with h | h | h
  · have : ∀ k, k ≤ 18 → lw op k = (0, []) := by
      intro k
      induction k with
      | zero => intro _; rfl
      | succ k ih =>
        intro hk
        have := (ok_at k (by omega)).2.2.1
        unfold lw
        rw [if_neg (by omega), ih (by omega)]
    rw [this 18 (Nat.le_refl _)] at h1 h2
    simp at h2; omega
  · have : lw op 18 = (167, ws 16) := by
      unfold lw
      rw [show fs 17 = 64512 from rfl, if_neg (by omega)]
      unfold lw
      rw [show fs 16 = 167 from rfl, if_pos (by omega)]
    rw [this] at h2
    have e16 : (ws 16).length = 25 := rfl
    simp only [e16] at h2
    omega
  · have : lw op 18 = (64512, ws 17) := by
      unfold lw
      rw [show fs 17 = 64512 from rfl, if_pos (by omega)]
    rw [this] at h2
    have e17 : (ws 17).length = 8 := rfl
    simp only [e17] at h2
    omega
/-- All opcodes with their names. -/
def tab : List (Int × List UInt8) := (List.range 18).flatMap fun k => prs (fs k) (ws k)
/-- The opcode of a name. -/
def byN (s : List UInt8) : Option Int := (tab.find? fun p => p.2 == s).map (·.1)

end Go.Proofs.YtkpdanjfdcoldaaDoor
