/- WRefC. -/
import Derived.Test.YtmbkpmcmhmldgaaDoorB13
namespace Go.Proofs.YtmbkpmcmhmldgaaDoor.W
open Go.RowKit

/-- The length of a Nat's slice: beyond it there is nothing. -/
theorem IsNat.len {w : World} {a : Option Addr} {n c x : Nat} (h : IsNat w (.slice a n c) x) : x < pw n ∧ n ≤ 1000000 := by
  obtain ⟨D, hH, hs, hC, rfl⟩ := h
  have hv := val_lt hs
  rcases hH with ⟨h1, h2⟩ | ⟨g, c', h1, h2, h3, h4, h5⟩
  · injection h1 with e1 e2 e3; subst e2 h2; exact ⟨hv, by omega⟩
  · injection h1 with e1 e2 e3; subst e2; exact ⟨hv, by omega⟩

end Go.Proofs.YtmbkpmcmhmldgaaDoor.W
