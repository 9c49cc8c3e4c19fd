/- WNew. -/
import Derived.Test.YtefpknkbfmjajaaG16
import Derived.Deep.RegionHeld3
namespace Go.Proofs.Ytefpknkbfmjajaa.W
open Go.RowKit

section
variable {P : Program} {ops : Array Oper} {Q : Exit → Act → World → Prop} {md : Region.Mode} {S : World → Prop}

/-- What holds keeps holding where only new memory is touched. -/
def Stable (T : World → Prop) : Prop := ∀ w w', T w → Below w.heap.size w w' → T w'

/-- A new variable that still holds its zero value. -/
structure Fresh (N : Nat) (v : Value) (b : Nat) (w : World) : Prop where
  cell : w.cell? ⟨b, 0, none⟩ = some v
  thawed : w.frozen? ⟨b, 0, none⟩ = false
  size : b < w.heap.size
  base : N ≤ b
theorem Fresh.below {N b : Nat} {v : Value} {w w' : World} (h : Fresh N v b w) (hb : Below w.heap.size w w') : Fresh N v b w' :=
  ⟨by rw [hb.cell (p := ⟨b, 0, none⟩) h.size]; exact h.cell, by rw [hb.frozen (p := ⟨b, 0, none⟩) h.size]; exact h.thawed, Nat.lt_of_lt_of_le h.size hb.size, h.base⟩
theorem Fresh.new {N : Nat} {v : Value} {t : TypeId} {w : World} (h : N ≤ w.heap.size) : Fresh N v w.heap.size (w.alloc (.cells #[v] t)) :=
  ⟨by simp, by simp [go_sem], by simp, h⟩

variable {N i1 d1 i2 d2 : Nat} {v1 v2 : Value} {t1 t2 : TypeId} {f : Nat}

theorem Stable.and {A B : World → Prop} (ha : Stable A) (hb : Stable B) : Stable (fun w => A w ∧ B w) := fun w w' h k => ⟨ha w w' h.1 k, hb w w' h.2 k⟩
end
end Go.Proofs.Ytefpknkbfmjajaa.W
