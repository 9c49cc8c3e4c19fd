/- Grain. -/
import Derived.Test.YtefpknkbfmjajaaG01
import Derived.Test.YtefpknkbfmjajaaG23
namespace Go.Proofs.Ytefpknkbfmjajaa
open Go.RowKit
open Go.Proofs.Ytefpknkbfmjajaa.W

theorem shl_int (a : Option Addr) (n c x : Nat) (s : Int) (w : World) (hx : IsNat w (.slice a n c) x) (hn : n ≤ 1000) (h0 : 0 ≤ s) (h1 : s ≤ 10000) :
    Calls Try.prog 33 #[.agg #[.slice a n c], .int .i64 s] w fun e w' => ∃ s', e = .returned (.agg #[s']) ∧ IsNat w' s' (x * 2 ^ s.toNat) ∧ Below w.heap.size w w' := by
  have := refShl_any a n c x s.toNat w hx hn (by omega)
  rw [show ((s.toNat : Nat) : Int) = s by omega] at this
  exact this

/-- Two numbers in variables. -/
structure TwoSt (N : Nat) (w : World) (sa sb : Value) (x y : Nat) (w' : World) : Prop where
  ca : w'.cell? ⟨N, 0, none⟩ = some sa
  cb : w'.cell? ⟨N + 1, 0, none⟩ = some sb
  na : IsNat w' sa x
  nb : IsNat w' sb y
  bel : Below w.heap.size w w'
theorem TwoSt.below {N : Nat} {w : World} {sa sb : Value} {x y : Nat} {w' w'' : World} (h : TwoSt N w sa sb x y w') (hb : Below w'.heap.size w' w'') : TwoSt N w sa sb x y w'' :=
  { ca := keep1 hb (lt_of_cell h.ca) h.ca, cb := keep1 hb (lt_of_cell h.cb) h.cb, na := h.na.below hb, nb := h.nb.below hb, bel := bthen h.bel hb }

end Go.Proofs.Ytefpknkbfmjajaa
