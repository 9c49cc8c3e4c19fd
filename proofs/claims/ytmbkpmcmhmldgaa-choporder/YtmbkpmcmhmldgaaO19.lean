/- WRefH. -/
import Derived.Test.YtmbkpmcmhmldgaaO18
namespace Go.Proofs.Ytmbkpmcmhmldgaa.W
open Go.RowKit

theorem IsNat.short {w : World} {a : Option Addr} {n c x k : Nat} (h : IsNat w (.slice a n c) x) (hx : x < pw k) : n ≤ k := by
  obtain ⟨D, hH, hs, hC, rfl⟩ := h
  have := canon_len hC hx
  rcases hH with ⟨h1, h2⟩ | ⟨g, c', h1, h2, h3, h4, h5⟩
  · injection h1 with e1 e2 e3; omega
  · injection h1 with e1 e2 e3; omega
end Go.Proofs.Ytmbkpmcmhmldgaa.W
