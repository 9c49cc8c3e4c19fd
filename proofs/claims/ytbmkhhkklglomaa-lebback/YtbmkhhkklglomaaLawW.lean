/- What the law LebBack asks of bits. -/
import Derived.Test.YtbmkhhkklglomaaLbV
import Derived.Laws.AppendOwnNone
namespace Go.Proofs.Ytbmkhhkklglomaa
open Go.RowKit

theorem bys_off {w : World} {b off m : Nat} {xs : List Int} (h : ∀ j, j < m → w.cell? ⟨b, off + j, none⟩ = some (.int .u8 (xs.getD j 0))) (hl : xs.length = m) : ∀ j u, (bys xs)[j]? = some u → w.cell? ((⟨b, off, none⟩ : Addr).add j) = some u := by
  intro j u hu
  have hj : j < xs.length := by
    refine Decidable.byContradiction fun hn => ?_
    rw [List.getElem?_eq_none (by rw [bys_len]; omega)] at hu
    cases hu
  rw [bys_at xs j hj] at hu
  rw [Addr.add_lit, h j (by omega), hu]
/-- What is read of as many bits. -/
def Ways (n s z3 e3 z4 e4 : Int) (bits : Nat) : Prop := (bits = 64 ∧ e3 = 0 ∧ z3 = n ∧ e4 = 0 ∧ z4 = n) ∨
  (¬ bits = 64 ∧ ((n / 2 ^ bits == 0) = true ∧ e3 = 0 ∧ z3 = n ∨ (n / 2 ^ bits == 0) = false ∧ e3 = 101) ∧
    ((s / 2 ^ (bits - 1) == 0) = true ∧ e4 = 0 ∧ z4 = n ∨ (s / 2 ^ (bits - 1) == 0) = false ∧ (s / 2 ^ (bits - 1) == -1) = true ∧ e4 = 0 ∧ z4 = n ∨ (s / 2 ^ (bits - 1) == 0) = false ∧ (s / 2 ^ (bits - 1) == -1) = false ∧ e4 = 101))
end Go.Proofs.Ytbmkhhkklglomaa
