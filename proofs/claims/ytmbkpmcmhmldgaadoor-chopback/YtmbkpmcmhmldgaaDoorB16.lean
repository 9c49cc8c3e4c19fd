/- WRefF. -/
import Derived.Test.YtmbkpmcmhmldgaaDoorB15
namespace Go.Proofs.YtmbkpmcmhmldgaaDoor.W
open Go.RowKit

theorem IsNat.digit {w : World} {a : Option Addr} {n c x k : Nat} (h : IsNat w (.slice a n c) x) (hk : k < n) : ∃ g, a = some ⟨g, 0, none⟩ ∧ w.cell? ⟨g, k, none⟩ = some (.int .u64 ((dgt x k : Nat) : Int)) := by
  obtain ⟨D, hH, hs, hC, rfl⟩ := h
  rcases hH with ⟨h1, h2⟩ | ⟨g, c', h1, h2, h3, h4, h5⟩
  · injection h1 with e1 e2 e3; omega
  · injection h1 with e1 e2 e3
    refine ⟨g, e1, ?_⟩
    have := h5 k (by omega)
    rw [at_val D k hs] at this
    exact this

end Go.Proofs.YtmbkpmcmhmldgaaDoor.W
