/- WRefA. -/
import Derived.Test.YtmbkpmcmhmldgaaDoorB03
import Derived.Test.YtmbkpmcmhmldgaaDoorB09
namespace Go.Proofs.YtmbkpmcmhmldgaaDoor.W
open Go.RowKit

/-- A slice of uint64 that holds these digits. -/
def Holds (w : World) (s : Value) (D : List Nat) : Prop :=
  (s = .slice none 0 0 ∧ D = []) ∨ ∃ g c, s = .slice (some ⟨g, 0, none⟩) D.length c ∧ g < w.heap.size ∧ D.length ≤ c ∧ D.length ≤ 1000000 ∧ ∀ i, i < D.length → w.cell? ⟨g, i, none⟩ = some (.int .u64 ((dg D i : Nat) : Int))

theorem Holds.below {w w' : World} {s : Value} {D : List Nat} (h : Holds w s D) (hb : Below w.heap.size w w') : Holds w' s D := by
  rcases h with h | ⟨g, c, h1, h2, h3, h4, h5⟩
  · exact Or.inl h
  · exact Or.inr ⟨g, c, h1, Nat.lt_of_lt_of_le h2 hb.size, h3, h4, fun i hi => by rw [hb.cell (p := ⟨g, i, none⟩) h2]; exact h5 i hi⟩

/-- A Nat of the reference: canonical digits of x. -/
def IsNat (w : World) (s : Value) (x : Nat) : Prop := ∃ D, Holds w s D ∧ Small D ∧ Canon D ∧ val D = x
theorem IsNat.below {w w' : World} {s : Value} {x : Nat} (h : IsNat w s x) (hb : Below w.heap.size w w') : IsNat w' s x := by
  obtain ⟨D, h1, h2⟩ := h
  exact ⟨D, h1.below hb, h2⟩

theorem IsNat.slice {w : World} {s : Value} {x : Nat} (h : IsNat w s x) : ∃ a n c, s = .slice a n c := by
  obtain ⟨D, h1 | ⟨g, c, h1, _⟩, _⟩ := h
  · exact ⟨_, _, _, h1.1⟩
  · exact ⟨_, _, _, h1⟩
/-- A store into a variable that holds a slice turns no digit. -/
theorem IsNat.store {w : World} {s : Value} {x : Nat} {b : Nat} {a : Option Addr} {n c : Nat} (h : IsNat w s x) (hc : w.cell? ⟨b, 0, none⟩ = some (.slice a n c)) (v : Value) : IsNat (w.setCell ⟨b, 0, none⟩ v) s x := by
  obtain ⟨D, h1 | ⟨g, c', h1, h2, h3, h4, h5⟩, hD⟩ := h
  · exact ⟨D, Or.inl h1, hD⟩
  · refine ⟨D, Or.inr ⟨g, c', h1, by simpa using h2, h3, h4, fun i hi => ?_⟩, hD⟩
    have hne : g ≠ b := by
      intro he
      subst he
      have := h5 0 (by omega)
      rw [hc] at this
      cases this
    rw [World.cell?_setCell_other _ _ _ _ (by intro he; injection he with he1; exact hne he1.symm)]
    exact h5 i hi

end Go.Proofs.YtmbkpmcmhmldgaaDoor.W
