/- WRefK. -/
import Derived.Test.YtefpknkbfmjajaaG13
import Derived.Test.YtefpknkbfmjajaaG15
import Derived.Laws.MakeOwn
import Derived.Laws.OwnMore
namespace Go.Proofs.Ytefpknkbfmjajaa.W
open Go.RowKit

/-- A made row of digits, of this length, in a block of its own. -/
structure Buf (g L : Nat) (D : List Nat) (w : World) : Prop where
  len : D.length = L
  size : g < w.heap.size
  cell : ∀ j, j < L → w.cell? ⟨g, j, none⟩ = some (.int .u64 ((dg D j : Nat) : Int))
  thawed : ∀ j, w.frozen? ⟨g, j, none⟩ = false

theorem Buf.store {g L j e : Nat} {D : List Nat} {w : World} (h : Buf g L D w) (hj : j < L) : Buf g L (D.set j e) (w.setCell ⟨g, j, none⟩ (.int .u64 ((e : Nat) : Int))) := by
  have hl := h.len
  refine ⟨by simpa using h.len, by simpa using h.size, fun i hi => ?_, fun i => by rw [World.frozen?_setCell]; exact h.thawed i⟩
  rw [dg_set (by omega)]
  by_cases hji : j = i
  · subst hji
    rw [if_pos rfl]
    exact World.cell?_setCell_same _ _ _ (h.cell j hj)
  · rw [if_neg hji, World.cell?_setCell_other _ _ _ _ (by intro he; injection he with he1 he2; exact hji he2)]
    exact h.cell i hi
theorem Buf.holds {g L : Nat} {D : List Nat} {w : World} (h : Buf g L D w) (hL : L ≤ 1000000) : Holds w (.slice (some ⟨g, 0, none⟩) L L) D := by
  obtain ⟨rfl, h2, h3, _⟩ := h
  exact Or.inr ⟨g, _, rfl, h2, Nat.le_refl _, hL, h3⟩
theorem made_cells (L i : Nat) (h : i < L) : (madeCells #[.int .u64 0] L)[i]? = some (.int .u64 0) := by
  have := toList_madeCells_one (.int .u64 0) L
  rw [← Array.getElem?_toList, this]
  simp [h]
theorem Buf.made (w : World) (L : Nat) : Buf w.heap.size L (List.replicate L 0) (w.alloc (.cells (madeCells #[.int .u64 0] L) 22)) := by
  refine ⟨by simp, by simp, fun j hj => ?_, fun j => by simp [go_sem]⟩
  rw [World.cell?_alloc_new, made_cells L j hj]
  simp [dg, hj]
theorem Buf.drewN {g L : Nat} {D : List Nat} {w : World} (h : Buf g L D w) (k : Nat) : Buf g L D (w.drewN k) := by
  have hb : Below w.heap.size w (w.drewN k) := below_drewN (Below.refl _ _) k
  exact ⟨h.len, Nat.lt_of_lt_of_le h.size hb.size, fun j hj => by rw [hb.cell (p := ⟨g, j, none⟩) h.size]; exact h.cell j hj, fun j => by rw [hb.frozen (p := ⟨g, j, none⟩) h.size]; exact h.thawed j⟩

end Go.Proofs.Ytefpknkbfmjajaa.W
