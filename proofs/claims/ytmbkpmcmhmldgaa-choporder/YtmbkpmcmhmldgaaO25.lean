/- WhE. -/
import Derived.Test.YtmbkpmcmhmldgaaO16
import Derived.Test.YtmbkpmcmhmldgaaO23
namespace Go.Proofs.Ytmbkpmcmhmldgaa
open Go.RowKit
open Go.Proofs.Ytmbkpmcmhmldgaa.W

/-- The variables of Down: the unit, the quotient, the rest, the result. -/
structure DnSt (W : World) (N bu bq br : Nat) (su sq sr : Value) (u q r : Nat) (w : World) : Prop where
  cu : w.cell? ⟨bu, 0, none⟩ = some su
  cq : w.cell? ⟨bq, 0, none⟩ = some sq
  cr : w.cell? ⟨br, 0, none⟩ = some sr
  nu : IsNat w su u
  nq : IsNat w sq q
  nr : IsNat w sr r
  cv : w.cell? ⟨N, 0, none⟩ = some (.slice none 0 0)
  fv : w.frozen? ⟨N, 0, none⟩ = false
  bel : Below W.heap.size W w
theorem DnSt.below {W : World} {N bu bq br : Nat} {su sq sr : Value} {u q r : Nat} {w w' : World} (h : DnSt W N bu bq br su sq sr u q r w) (hb : Below w.heap.size w w') : DnSt W N bu bq br su sq sr u q r w' :=
  { cu := keep1 hb (lt_of_cell h.cu) h.cu, cq := keep1 hb (lt_of_cell h.cq) h.cq, cr := keep1 hb (lt_of_cell h.cr) h.cr, nu := h.nu.below hb, nq := h.nq.below hb, nr := h.nr.below hb, cv := keep1 hb (lt_of_cell h.cv) h.cv, fv := (hb.frozen (lt_of_cell h.cv)).trans h.fv, bel := bthen h.bel hb }
end Go.Proofs.Ytmbkpmcmhmldgaa
