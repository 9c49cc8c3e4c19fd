/- Quot, Grain, RadR. -/
import Derived.Test.YtmbkpmcmhmldgaaT01
import Derived.Test.YtmbkpmcmhmldgaaT16
import Derived.Test.YtmbkpmcmhmldgaaT19
import Derived.Test.YtmbkpmcmhmldgaaT22
import Derived.Test.YtmbkpmcmhmldgaaT24
namespace Go.Proofs.Ytmbkpmcmhmldgaa
open Go.RowKit
open Go.Proofs.Ytmbkpmcmhmldgaa.W

/-- The quotient's variables. -/
structure QSt (N B : Nat) (w : World) (bs s1 s2 : Value) (y q r : Nat) (w' : World) : Prop where
  cb : w'.cell? ⟨N + 1, 0, none⟩ = some bs
  c1 : w'.cell? ⟨B, 0, none⟩ = some s1
  c2 : w'.cell? ⟨B + 1, 0, none⟩ = some s2
  cr : w'.cell? ⟨N + 1 + 1, 0, none⟩ = some (.slice none 0 0)
  fr : w'.frozen? ⟨N + 1 + 1, 0, none⟩ = false
  nb : IsNat w' bs y
  n1 : IsNat w' s1 q
  n2 : IsNat w' s2 r
  bel : Below w.heap.size w w'
theorem QSt.below {N B : Nat} {w : World} {bs s1 s2 : Value} {y q r : Nat} {w' w'' : World} (h : QSt N B w bs s1 s2 y q r w') (hb : Below w'.heap.size w' w'') : QSt N B w bs s1 s2 y q r w'' :=
  { cb := keep1 hb (lt_of_cell h.cb) h.cb, c1 := keep1 hb (lt_of_cell h.c1) h.c1, c2 := keep1 hb (lt_of_cell h.c2) h.c2, cr := keep1 hb (lt_of_cell h.cr) h.cr,
    fr := by rw [hb.frozen (lt_of_cell h.cr)]; exact h.fr, nb := h.nb.below hb, n1 := h.n1.below hb, n2 := h.n2.below hb, bel := bthen h.bel hb }

theorem room1 {b : Nat} {v : Value} {w : World} (h : w.cell? ⟨b, 0, none⟩ = some v) (hf : w.frozen? ⟨b, 0, none⟩ = false) : Room b 1 w := fun o ho => by
  match o, ho with
  | 0, _ => exact ⟨⟨v, h⟩, hf⟩

theorem shl_one (a : Option Addr) (n c x : Nat) (w : World) (hx : IsNat w (.slice a n c) x) (hn : n ≤ 1000) :
    Calls Try.prog 24 #[.agg #[.slice a n c], .int .i64 1] w fun e w' => ∃ s', e = .returned (.agg #[s']) ∧ IsNat w' s' (x * 2 ^ 1) ∧ Below w.heap.size w w' := refShl_any a n c x 1 w hx hn (by omega)

end Go.Proofs.Ytmbkpmcmhmldgaa
namespace Go.Proofs.Ytmbkpmcmhmldgaa
open Go.RowKit
open Go.Proofs.Ytmbkpmcmhmldgaa.W

theorem shl_int (a : Option Addr) (n c x : Nat) (s : Int) (w : World) (hx : IsNat w (.slice a n c) x) (hn : n ≤ 1000) (h0 : 0 ≤ s) (h1 : s ≤ 10000) :
    Calls Try.prog 24 #[.agg #[.slice a n c], .int .i64 s] w fun e w' => ∃ s', e = .returned (.agg #[s']) ∧ IsNat w' s' (x * 2 ^ s.toNat) ∧ Below w.heap.size w w' := by
  have := refShl_any a n c x s.toNat w hx hn (by omega)
  rw [show ((s.toNat : Nat) : Int) = s by omega] at this
  exact this

/-- Two numbers in variables. -/
structure TwoSt (N : Nat) (w : World) (sa sb : Value) (x y : Nat) (w' : World) : Prop where
  ca : w'.cell? ⟨N, 0, none⟩ = some sa
  cb : w'.cell? ⟨N + 1, 0, none⟩ = some sb
  na : IsNat w' sa x
  nb : IsNat w' sb y
  bel : Below w.heap.size w w'
theorem TwoSt.below {N : Nat} {w : World} {sa sb : Value} {x y : Nat} {w' w'' : World} (h : TwoSt N w sa sb x y w') (hb : Below w'.heap.size w' w'') : TwoSt N w sa sb x y w'' :=
  { ca := keep1 hb (lt_of_cell h.ca) h.ca, cb := keep1 hb (lt_of_cell h.cb) h.cb, na := h.na.below hb, nb := h.nb.below hb, bel := bthen h.bel hb }

end Go.Proofs.Ytmbkpmcmhmldgaa
namespace Go.Proofs.Ytmbkpmcmhmldgaa
open Go.RowKit
open Go.Proofs.Ytmbkpmcmhmldgaa.W

/-- Two numbers in variables. -/
structure OvSt (N M : Nat) (w : World) (sa sb : Value) (x y : Nat) (w' : World) : Prop where
  ca : w'.cell? ⟨N, 0, none⟩ = some sa
  cb : w'.cell? ⟨M, 0, none⟩ = some sb
  na : IsNat w' sa x
  nb : IsNat w' sb y
  bel : Below w.heap.size w w'
theorem OvSt.below {N M : Nat} {w : World} {sa sb : Value} {x y : Nat} {w' w'' : World} (h : OvSt N M w sa sb x y w') (hb : Below w'.heap.size w' w'') : OvSt N M w sa sb x y w'' :=
  { ca := keep1 hb (lt_of_cell h.ca) h.ca, cb := keep1 hb (lt_of_cell h.cb) h.cb, na := h.na.below hb, nb := h.nb.below hb, bel := bthen h.bel hb }

end Go.Proofs.Ytmbkpmcmhmldgaa
