/- WRefI. -/
import Derived.Test.YtmbkpmcmhmldgaaO19
namespace Go.Proofs.Ytmbkpmcmhmldgaa.W
open Go.RowKit

/-- The division's variables at a round's head. -/
structure DivSt (N : Nat) (w wr : World) (b Qs Rs : Value) (y Q R : Nat) : Prop where
  cb : wr.cell? ⟨N + 1, 0, none⟩ = some b
  c2 : wr.cell? ⟨N + 1 + 1, 0, none⟩ = some (.slice none 0 0)
  c3 : wr.cell? ⟨N + 1 + 1 + 1, 0, none⟩ = some (.slice none 0 0)
  cq : wr.cell? ⟨N + 1 + 1 + 1 + 1, 0, none⟩ = some Qs
  cr : wr.cell? ⟨N + 1 + 1 + 1 + 1 + 1, 0, none⟩ = some Rs
  f2 : wr.frozen? ⟨N + 1 + 1, 0, none⟩ = false
  f3 : wr.frozen? ⟨N + 1 + 1 + 1, 0, none⟩ = false
  fq : wr.frozen? ⟨N + 1 + 1 + 1 + 1, 0, none⟩ = false
  fr : wr.frozen? ⟨N + 1 + 1 + 1 + 1 + 1, 0, none⟩ = false
  sz : N + 1 + 1 + 1 + 1 + 1 < wr.heap.size
  nb : IsNat wr b y
  nq : IsNat wr Qs Q
  nr : IsNat wr Rs R
  bel : Below N w wr

theorem DivSt.below {N : Nat} {w wr w' : World} {b Qs Rs : Value} {y Q R : Nat} (h : DivSt N w wr b Qs Rs y Q R) (hb : Below wr.heap.size wr w') : DivSt N w w' b Qs Rs y Q R := by
  have hz := h.sz
  have k : ∀ j, j < wr.heap.size → w'.cell? ⟨j, 0, none⟩ = wr.cell? ⟨j, 0, none⟩ := fun j hj => hb.cell (p := ⟨j, 0, none⟩) hj
  have l : ∀ j, j < wr.heap.size → w'.frozen? ⟨j, 0, none⟩ = wr.frozen? ⟨j, 0, none⟩ := fun j hj => hb.frozen (p := ⟨j, 0, none⟩) hj
  exact { cb := by rw [k _ (by omega)]; exact h.cb, c2 := by rw [k _ (by omega)]; exact h.c2, c3 := by rw [k _ (by omega)]; exact h.c3, cq := by rw [k _ (by omega)]; exact h.cq, cr := by rw [k _ (by omega)]; exact h.cr,
          f2 := by rw [l _ (by omega)]; exact h.f2, f3 := by rw [l _ (by omega)]; exact h.f3, fq := by rw [l _ (by omega)]; exact h.fq, fr := by rw [l _ (by omega)]; exact h.fr,
          sz := Nat.lt_of_lt_of_le hz hb.size, nb := h.nb.below hb, nq := h.nq.below hb, nr := h.nr.below hb, bel := h.bel.trans (hb.mono (by omega)) }

theorem frozen_set (w : World) (p q : Addr) (v : Value) : (w.setCell p v).frozen? q = w.frozen? q := by simp [go_sem]
end Go.Proofs.Ytmbkpmcmhmldgaa.W
