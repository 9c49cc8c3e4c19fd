/- ScE. -/
import Derived.Test.YtalahdkgigcpfaaDoorC15
namespace Go.Proofs.YtalahdkgigcpfaaDoor
open Go.RowKit

theorem Room.fr {b n : Nat} {w w' : World} {l : List Nat} (h : Room b n w) (hf : Fr l w w') (hn : b ∉ l) : Room b n w' := fun o ho => by
  obtain ⟨⟨v, h1⟩, h2⟩ := h o ho
  exact ⟨⟨v, hf.keep h1 hn⟩, (hf.frozen (p := ⟨b, o, none⟩) (World.block_lt_of_cell? w _ h1) hn).trans h2⟩
def At3 (b : Nat) (x y z : Value) (w : World) : Prop := w.cell? ⟨b, 0, none⟩ = some x ∧ w.cell? ⟨b, 1, none⟩ = some y ∧ w.cell? ⟨b, 2, none⟩ = some z
theorem At3.fr {b : Nat} {x y z : Value} {w w' : World} {l : List Nat} (h : At3 b x y z w) (hf : Fr l w w') (hn : b ∉ l) : At3 b x y z w' := ⟨hf.keep h.1 hn, hf.keep h.2.1 hn, hf.keep h.2.2 hn⟩
theorem At2.fr {b : Nat} {x y : Value} {w w' : World} {l : List Nat} (h : At2 b x y w) (hf : Fr l w w') (hn : b ∉ l) : At2 b x y w' := ⟨hf.keep h.1 hn, hf.keep h.2 hn⟩
theorem room_cells {cs : List Value} {t : TypeId} (w : World) (n : Nat) (h : n ≤ cs.length) : Room w.heap.size n (w.alloc (.cells cs.toArray t)) := fun o ho => by
  refine ⟨⟨cs[o]'(by omega), ?_⟩, ?_⟩
  · rw [cell_of_row _ _ _ _ _ _ (heap_alloc_new w _), List.getElem?_toArray, List.getElem?_eq_getElem]
  · show (match (w.alloc (.cells cs.toArray t)).heap[w.heap.size]? with | some (Obj.cells c elem (lo, hi)) => decide (lo ≤ o) && decide (o < hi) | x => false) = false
    rw [heap_alloc_new]
    simp
end Go.Proofs.YtalahdkgigcpfaaDoor
