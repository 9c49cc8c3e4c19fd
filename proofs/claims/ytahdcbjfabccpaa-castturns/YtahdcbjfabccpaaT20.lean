/- WRefH. -/
import Derived.Test.YtahdcbjfabccpaaT19
namespace Go.Proofs.Ytahdcbjfabccpaa.W
open Go.RowKit

theorem IsNat.short {w : World} {a : Option Addr} {n c x k : Nat} (h : IsNat w (.slice a n c) x) (hx : x < pw k) : n ≤ k := by
  obtain ⟨D, hH, hs, hC, rfl⟩ := h
  have := canon_len hC hx
  rcases hH with ⟨h1, h2⟩ | ⟨g, c', h1, h2, h3, h4, h5⟩
  · injection h1 with e1 e2 e3; omega
  · injection h1 with e1 e2 e3; omega
theorem lt_pw {x k : Nat} (j : Nat) (h : x < pw k) (hk : k ≤ j) : x < pw j := Nat.lt_of_lt_of_le h (pw_le hk)
theorem shl_lit (a : Option Addr) (n c x : Nat) (w : World) (hx : IsNat w (.slice a n c) x) (hn : n ≤ 1000) :
    Calls Try.prog 38 #[.agg #[.slice a n c], .int .i64 64] w fun e w' => ∃ s', e = .returned (.agg #[s']) ∧ IsNat w' s' (x * 2 ^ 64) ∧ Below w.heap.size w w' := refShl_any a n c x 64 w hx hn (by omega)

end Go.Proofs.Ytahdcbjfabccpaa.W
