/- Set2. -/
import Derived.Test.YtalahdkgigcpfaaDoorC01
namespace Go.Proofs.YtalahdkgigcpfaaDoor
open Go.RowKit
def At4 (b : Nat) (x y z u : Value) (w : World) : Prop := w.cell? ⟨b, 0, none⟩ = some x ∧ w.cell? ⟨b, 1, none⟩ = some y ∧ w.cell? ⟨b, 2, none⟩ = some z ∧ w.cell? ⟨b, 3, none⟩ = some u
theorem At4.below {b : Nat} {x y z u : Value} {w w' : World} (h : At4 b x y z u w) (hb : Below w.heap.size w w') : At4 b x y z u w' :=
  have hz := lt_of_cell h.1
  ⟨keep1 hb hz h.1, keep1 hb hz h.2.1, keep1 hb hz h.2.2.1, keep1 hb hz h.2.2.2⟩
theorem at4_new (w : World) (x y z u : Value) (t : TypeId) : At4 w.heap.size x y z u (w.alloc (.cells #[x, y, z, u] t)) := by unfold At4; simp [go_sem]

theorem at2_new (w : World) (x y : Value) (t : TypeId) : At2 w.heap.size x y (w.alloc (.cells #[x, y] t)) := by unfold At2; simp [go_sem]
end Go.Proofs.YtalahdkgigcpfaaDoor
