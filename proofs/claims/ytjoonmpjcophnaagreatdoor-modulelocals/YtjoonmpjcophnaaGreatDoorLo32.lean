/- OpK, RfH. -/
import Derived.Test.YtjoonmpjcophnaaGreatDoorLo02
import Derived.Test.YtjoonmpjcophnaaGreatDoorLo24
import Derived.Test.YtjoonmpjcophnaaGreatDoorLo27
import Derived.Test.YtjoonmpjcophnaaGreatDoorLo29
import Derived.Test.YtjoonmpjcophnaaGreatDoorLo30
import Derived.Test.YtjoonmpjcophnaaGreatDoorLo31
namespace Go.Proofs.YtjoonmpjcophnaaGreatDoor
open Go.RowKit

set_option maxHeartbeats 4000000 in
set_option maxRecDepth 100000 in
theorem isacc (op : Int) (t : Bool) (h : (40 ≤ op ∧ op ≤ 62) ∧ t = true ∨ (op < 40 ∧ t = false) ∨ (40 ≤ op ∧ 62 < op ∧ t = false)) : Ct 187 #[.int .i64 op] (.bool t) := hide fun W => by
  rcases h with ⟨⟨h1, h2⟩, rfl⟩ | ⟨h1, rfl⟩ | ⟨h1, h2, rfl⟩
  · go_enter Tryz.func187, Tryz.ntmps187
    go_wp2_with fail
    go_ret
    exact ⟨rfl, Below.refl _ _⟩
  · have h2 : ¬ 40 ≤ op := by omega
    go_enter Tryz.func187, Tryz.ntmps187
    go_wp2_with fail
    go_ret
    exact ⟨rfl, Below.refl _ _⟩
  · have h3 : ¬ op ≤ 62 := by omega
    go_enter Tryz.func187, Tryz.ntmps187
    go_wp2_with fail
    go_ret
    exact ⟨rfl, Below.refl _ _⟩
end Go.Proofs.YtjoonmpjcophnaaGreatDoor
namespace Go.Proofs.YtjoonmpjcophnaaGreatDoor
open Go.RowKit

theorem Cs.old {c : Nat} {a : Option Addr} {len cap k : Nat} {xs : List Int} {k0 : Nat} {e e0 : Int} {w w' W0 : World} (h : Cs c a len cap xs k e w) (h0 : Cs c a len cap xs k0 e0 W0) (hb : Below W0.heap.size w w') : Cs c a len cap xs k e w' := by
  have hc := h0.1.lt
  refine ⟨⟨(hb.cell (p := ⟨c, 0, none⟩) hc).trans h.1.1, (hb.cell (p := ⟨c, 1, none⟩) hc).trans h.1.2.1, (hb.cell (p := ⟨c, 2, none⟩) hc).trans h.1.2.2.1, fun o ho => (hb.frozen (p := ⟨c, o, none⟩) hc).trans (h.1.2.2.2 o ho)⟩, ?_, h.2.2⟩
  obtain ⟨h1, h2, h3, h4⟩ := h.2.1
  refine ⟨h1, h2, h3, ?_⟩
  rcases h4 with h4 | ⟨b, off, h5, h6⟩
  · exact Or.inl h4
  · exact Or.inr ⟨b, off, h5, fun j hj => (hb.cell (p := ⟨b, off + j, none⟩) (h0.2.1.lt ⟨b, off, none⟩ h5 (by omega))).trans (h6 j hj)⟩
theorem Ow.fr {w w' : World} {B : Nat} {v : Value} {xs : List Int} {l : List Nat} (h : Ow w B v xs) (hf : Fr l w w') (hl : ∀ i ∈ l, i < B) : Ow w' B v xs := by
  refine ⟨h.1, ?_⟩
  rcases h.2 with hn | ⟨g, cap, cur, rfl, hg, hgg, rest⟩
  · exact .inl hn
  · exact .inr ⟨g, cap, cur, rfl, hg, by rw [hf.block g (Array.getElem?_eq_some_iff.1 hgg).1 (fun hm => by have := hl g hm; omega)]; exact hgg, rest⟩
end Go.Proofs.YtjoonmpjcophnaaGreatDoor
