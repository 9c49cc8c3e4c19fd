/- UtA. -/
import Derived.Test.YtjoonmpjcophnaaGreatDoorUa01
import Derived.Test.YtjoonmpjcophnaaGreatDoorUa05
import Derived.BigQuiet
import Derived.Laws.AppendOwn
import Derived.Laws.OwnMore
import Derived.Laws.Bits128
import Derived.Laws.RangeAny
import Derived.Laws.Runes
import Derived.Laws.IdiomStrings
import Derived.Deep.Cut
namespace Go.Proofs.YtjoonmpjcophnaaGreatDoor
open Go.RowKit

/-- Bytes as values. -/
def bys (xs : List Int) : List Value := xs.map (Value.int .u8)
theorem bys_len (xs : List Int) : (bys xs).length = xs.length := by simp [bys]
theorem bys_app (xs ys : List Int) : bys (xs ++ ys) = bys xs ++ bys ys := by simp [bys]
theorem bys_at (xs : List Int) (j : Nat) (h : j < xs.length) : (bys xs)[j]? = some (.int .u8 (xs.getD j 0)) := by
  unfold bys
  rw [List.getElem?_map, List.getD_eq_getElem?_getD, List.getElem?_eq_getElem h]
  rfl
theorem bys_cell (xs : List Int) : ∀ u ∈ bys xs, u.oneCell' = true := by
  intro u hu
  obtain ⟨x, -, rfl⟩ := List.mem_map.1 hu
  rfl
/-- A slice that is owned from block B on, and holds these bytes. -/
def Ow (w : World) (B : Nat) (v : Value) (xs : List Int) : Prop := w.ownsRow B 5 1 v xs.length (bys xs)
theorem iU8 : Tryz.prog.info? 5 = some ((Tryz.prog.info? 5).getD default) := by kernel_rfl
theorem Ow.below {w w' : World} {B : Nat} {v : Value} {xs : List Int} (h : Ow w B v xs) (hb : Below w.heap.size w w') : Ow w' B v xs := by
  refine ⟨h.1, ?_⟩
  rcases h.2 with hn | ⟨g, cap, cur, rfl, hg, hgg, rest⟩
  · exact .inl hn
  · exact .inr ⟨g, cap, cur, rfl, hg, by rw [hb.block g (Array.getElem?_eq_some_iff.1 hgg).1]; exact hgg, rest⟩
theorem Ow.alloc {w : World} {B : Nat} {v : Value} {xs : List Int} (h : Ow w B v xs) (o : Obj) : Ow (w.alloc o) B v xs := World.ownsRow.alloc h o
theorem Ow.mono {w : World} {B B' : Nat} {v : Value} {xs : List Int} (h : Ow w B v xs) (hb : B' ≤ B) : Ow w B' v xs := by
  refine ⟨h.1, ?_⟩
  rcases h.2 with hn | ⟨g, cap, cur, rfl, hg, rest⟩
  · exact .inl hn
  · exact .inr ⟨g, cap, cur, rfl, Nat.le_trans hb hg, rest⟩
/-- It is a slice of so many. -/
theorem Ow.form {w : World} {B : Nat} {v : Value} {xs : List Int} (h : Ow w B v xs) (hn : xs ≠ []) : ∃ g cap, v = .slice (some ⟨g, 0, none⟩) xs.length cap ∧ B ≤ g ∧ g < w.heap.size ∧ xs.length ≤ cap ∧ ∀ j, j < xs.length → w.cell? ⟨g, j, none⟩ = some (.int .u8 (xs.getD j 0)) := by
  obtain ⟨h1, h2⟩ := h
  rcases h2 with ⟨_, h3⟩ | ⟨g, cap, cur, h2, h3, h4, h5, h6, h7, h8⟩
  · exact absurd (List.eq_nil_of_length_eq_zero h3) hn
  · refine ⟨g, cap, h2, h3, ?_, h5, fun j hj => ?_⟩
    · rw [Array.getElem?_eq_some_iff] at h4; exact h4.1
    · rw [← bys_at xs j hj]
      exact World.ownsRow.cellAt (w := w) (base := B) (e := 5) (size := 1) (g := g) (n := xs.length) (cap := cap) (xs := bys xs) ⟨h1, Or.inr ⟨g, cap, cur, rfl, h3, h4, h5, h6, h7, h8⟩⟩ j (by omega)
theorem Ow.sl {w : World} {B g cap : Nat} {xs : List Int} (h : Ow w B (.slice (some ⟨g, 0, none⟩) xs.length cap) xs) (hn : xs ≠ []) (hl : xs.length ≤ 140737488355328) : Sl w (some ⟨g, 0, none⟩) xs.length cap xs := by
  obtain ⟨g', cap', he, _, _, h4, h5⟩ := h.form hn
  injection he with e1 _ e3
  injection e1 with e1
  injection e1 with e1
  subst e1
  subst e3
  exact ⟨rfl, h4, hl, Or.inr ⟨g, 0, rfl, fun j hj => by rw [Nat.zero_add]; exact h5 j hj⟩⟩
theorem len_app {A : Type} {l xs ys : List A} {k : Nat} (h : l.length ≤ k) (e : l = xs ++ ys) : xs.length ≤ k := by rw [e, List.length_append] at h; omega
theorem conv_run {w : World} {a : Option Addr} {len cap : Nat} {xs : List Int} (h : Sl w a len cap xs) : (convert 22 9 (.slice a len cap)).run Tryz.prog w = .ok (.string (strOfNums xs)) w := by
  obtain ⟨h1, _, _, h4⟩ := h
  rcases h4 with ⟨rfl, rfl, rfl⟩ | ⟨b, off, rfl, h4⟩
  · have : xs = [] := List.eq_nil_of_length_eq_zero h1
    subst this
    exact run_convert_bytes_nil w 22 5 Tryz.underlying22 Tryz.underlying5 0 0 9 Tryz.underlying9
  · exact run_convert_bytes_arg w 22 5 Tryz.underlying22 Tryz.underlying5 b off len cap xs h1 h4 9 Tryz.underlying9
theorem sl_lit (w : World) (xs : List Int) (n : Nat) (h : xs.length = n) (hn : n ≤ 1000) : Sl (w.alloc (.cells (bys xs).toArray 5)) (some ⟨w.heap.size, 0, none⟩) n n xs := by
  refine ⟨h, Nat.le_refl _, by omega, Or.inr ⟨w.heap.size, 0, rfl, fun j hj => ?_⟩⟩
  rw [Nat.zero_add, cell_of_row _ _ _ _ _ _ (heap_alloc_new w _)]
  rw [List.getElem?_toArray, bys_at xs j (by omega)]
end Go.Proofs.YtjoonmpjcophnaaGreatDoor
