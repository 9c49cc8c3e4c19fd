/- Contracts of the reference's Pair and of the statements' own Nat and is. -/
import Derived.Test.YtjlegmgpgfjciaaWRefG
namespace Go.Proofs.Ytjlegmgpgfjciaa.W
open Go.RowKit

theorem IsNat.short {w : World} {a : Option Addr} {n c x k : Nat} (h : IsNat w (.slice a n c) x) (hx : x < pw k) : n ≤ k := by
  obtain ⟨D, hH, hs, hC, rfl⟩ := h
  have := canon_len hC hx
  rcases hH with ⟨h1, h2⟩ | ⟨g, c', h1, h2, h3, h4, h5⟩
  · injection h1 with e1 e2 e3; omega
  · injection h1 with e1 e2 e3; omega
theorem lt_pw {x k : Nat} (j : Nat) (h : x < pw k) (hk : k ≤ j) : x < pw j := Nat.lt_of_lt_of_le h (pw_le hk)
theorem shl_lit (a : Option Addr) (n c x : Nat) (w : World) (hx : IsNat w (.slice a n c) x) (hn : n ≤ 1000) :
    Calls Try.prog 42 #[.agg #[.slice a n c], .int .i64 64] w fun e w' => ∃ s', e = .returned (.agg #[s']) ∧ IsNat w' s' (x * 2 ^ 64) ∧ Below w.heap.size w w' := refShl_any a n c x 64 w hx hn (by omega)

theorem keep3 {W w' : World} {b1 b2 : Nat} {x0 x1 y0 s : Value} {x : Nat} (hb : Below W.heap.size W w') (hz : b2 < W.heap.size) (h12 : b1 < b2)
    (h : W.cell? ⟨b1, 0, none⟩ = some x0 ∧ W.cell? ⟨b1, 1, none⟩ = some x1 ∧ W.cell? ⟨b2, 0, none⟩ = some y0 ∧ IsNat W s x) :
    w'.cell? ⟨b1, 0, none⟩ = some x0 ∧ w'.cell? ⟨b1, 1, none⟩ = some x1 ∧ w'.cell? ⟨b2, 0, none⟩ = some y0 ∧ IsNat w' s x := by
  obtain ⟨h1, h2, h3, h4⟩ := h
  have a := keep2 hb (Nat.lt_trans h12 hz) ⟨h1, h2⟩
  exact ⟨a.1, a.2, by rw [hb.cell (p := ⟨b2, 0, none⟩) hz]; exact h3, h4.below hb⟩

end Go.Proofs.Ytjlegmgpgfjciaa.W
