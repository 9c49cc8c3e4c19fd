/- ScL. -/
import Derived.Test.YtalahdkgigcpfaaDoorC28
import Derived.Test.YtalahdkgigcpfaaDoorC29
import Derived.Laws.MakeOwn
namespace Go.Proofs.YtalahdkgigcpfaaDoor
open Go.RowKit

theorem made_cellsB (L i : Nat) (h : i < L) : (madeCells #[.int .u8 0] L)[i]? = some (.int .u8 0) := by
  have := toList_madeCells_one (.int .u8 0) L
  rw [← Array.getElem?_toList, this]
  simp [h]
/-- A row of n that can be written, whose first ones are these. -/
def Wr (g n : Nat) (ys : List Int) (w : World) : Prop := Room g n w ∧ ∀ j, j < ys.length → w.cell? ⟨g, j, none⟩ = some (.int .u8 (ys.getD j 0))
theorem Wr.made (w : World) (n : Nat) : Wr w.heap.size n [] (w.alloc (.cells (madeCells #[.int .u8 0] n) 5)) := by
  refine ⟨fun o ho => ⟨⟨_, by rw [World.cell?_alloc_new, made_cellsB n o ho]⟩, by simp [go_sem]⟩, fun j hj => by simp at hj⟩
theorem Wr.fr {g n : Nat} {ys : List Int} {w w' : World} {l : List Nat} (h : Wr g n ys w) (hf : Fr l w w') (hn : g ∉ l) : Wr g n ys w' := ⟨h.1.fr hf hn, fun j hj => hf.keep (h.2 j hj) hn⟩
theorem Wr.store {g n : Nat} {ys : List Int} {w : World} (h : Wr g n ys w) (hl : ys.length < n) (x : Int) : Wr g n (ys ++ [x]) (w.setCell ⟨g, ys.length, none⟩ (.int .u8 x)) := by
  refine ⟨h.1.set _ _, fun j hj => ?_⟩
  by_cases hj' : j = ys.length
  · subst hj'
    obtain ⟨⟨v, h1⟩, -⟩ := h.1 ys.length hl
    rw [cell_set_same h1]
    simp
  · have hj2 : j < ys.length := by simp at hj; omega
    rw [cell_set_off hj' (h.2 j hj2)]
    rw [List.getD_eq_getElem?_getD, List.getD_eq_getElem?_getD, List.getElem?_append_left hj2]
end Go.Proofs.YtalahdkgigcpfaaDoor
