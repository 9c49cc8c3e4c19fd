/- Cells of blocks of two. -/
import Derived.Test.YtpbgpdmffejdgaaGreatDoorTk
import Derived.Test.YtpbgpdmffejdgaaGreatDoorNew
import Derived.Test.YtpbgpdmffejdgaaGreatDoorClose
import Derived.Test.YtpbgpdmffejdgaaGreatDoorOpen
namespace Go.Proofs.YtpbgpdmffejdgaaGreatDoor
open Go.RowKit
theorem room2_new (W : World) (v0 v1 : Value) (t : TypeId) : Room W.heap.size 2 (W.alloc (.cells #[v0, v1] t)) := by
  intro o ho
  match o, ho with
  | 0, _ | 1, _ => simp [go_sem]
theorem Room.set2 {b : Nat} {w : World} (h : Room b 2 w) (v0 v1 : Value) : Room b 2 ((w.setCell ⟨b, 0, none⟩ v0).setCell ⟨b, 1, none⟩ v1) := (h.set _ _).set _ _
theorem at2_new (w : World) (x y : Value) (t : TypeId) : At2 w.heap.size x y (w.alloc (.cells #[x, y] t)) := by unfold At2; simp [go_sem]
theorem at2_set2 {b : Nat} {w : World} (h : Room b 2 w) (v0 v1 : Value) : At2 b v0 v1 ((w.setCell ⟨b, 0, none⟩ v0).setCell ⟨b, 1, none⟩ v1) := by
  obtain ⟨⟨u0, h0⟩, _⟩ := h 0 (by omega)
  obtain ⟨⟨u1, h1⟩, _⟩ := (h.set 0 v0) 1 (by omega)
  exact ⟨set_off _ (by omega) (World.cell?_setCell_same _ _ _ h0), World.cell?_setCell_same _ _ _ h1⟩
theorem bset2 {a b : World} {c : Nat} (h : Below a.heap.size a b) (hc : a.heap.size ≤ c) (v0 v1 : Value) : Below a.heap.size a ((b.setCell ⟨c, 0, none⟩ v0).setCell ⟨c, 1, none⟩ v1) := bset (bset h _ hc _ _) _ hc _ _
theorem At4.set2 {b c : Nat} {x y z u : Value} {w : World} (h : At4 b x y z u w) (hc : b ≠ c) (v0 v1 : Value) : At4 b x y z u ((w.setCell ⟨c, 0, none⟩ v0).setCell ⟨c, 1, none⟩ v1) := (h.set hc _ _).set hc _ _
end Go.Proofs.YtpbgpdmffejdgaaGreatDoor
