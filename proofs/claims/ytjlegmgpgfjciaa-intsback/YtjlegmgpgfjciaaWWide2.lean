/- Contracts of wide.down and wide.Right. -/
import Derived.Test.YtjlegmgpgfjciaaWWide1
import Derived.LoopTactic
namespace Go.Proofs.Ytjlegmgpgfjciaa.W
open Go.RowKit

theorem bcell {W w1 : World} (hb : Below W.heap.size W w1) : (∀ b o, b < W.heap.size → w1.cell? ⟨b, o, none⟩ = W.cell? ⟨b, o, none⟩) ∧ (∀ b o, b < W.heap.size → w1.frozen? ⟨b, o, none⟩ = W.frozen? ⟨b, o, none⟩) :=
  ⟨fun b o h => hb.cell (p := ⟨b, o, none⟩) h, fun b o h => hb.frozen (p := ⟨b, o, none⟩) h⟩

/-- A number by a power of two, down. -/
def shrN (v : Nat) (n : Int) : Nat := v / 2 ^ n.toNat
theorem shrN_w {v : Nat} (n : Int) (hv : W2 v) : W2 (shrN v n) := Nat.lt_of_le_of_lt (Nat.div_le_self _ _) hv

/-- Whether something is lost by it. -/
def lostB (v : Nat) (n : Int) : Bool := decide (v % 2 ^ n.toNat ≠ 0)

theorem lost_iff (v : Nat) (n : Int) (hv : W2 v) : shlN (shrN v n) n = v ↔ lostB v n = false := by
  unfold shlN shrN lostB
  have h1 : v / 2 ^ n.toNat * 2 ^ n.toNat + v % 2 ^ n.toNat = v := Nat.div_add_mod' _ _
  unfold W2 at hv
  rw [Nat.mod_eq_of_lt (by omega)]
  simp
  omega

/-- Two cells of two words: what a store of the very same values leaves. -/
theorem keep_right {w' : World} {b : Nat} {x0 x1 y0 y1 : Value}
    (h : w'.cell? ⟨b, 0, none⟩ = some x0 ∧ w'.cell? ⟨b, 1, none⟩ = some x1 ∧ w'.cell? ⟨b + 1, 0, none⟩ = some y0 ∧ w'.cell? ⟨b + 1, 1, none⟩ = some y1) :
    ((w'.setCell ⟨b + 1, 0, none⟩ y0).setCell ⟨b + 1, 1, none⟩ y1).cell? ⟨b, 0, none⟩ = some x0 ∧ ((w'.setCell ⟨b + 1, 0, none⟩ y0).setCell ⟨b + 1, 1, none⟩ y1).cell? ⟨b, 1, none⟩ = some x1 ∧
      ((w'.setCell ⟨b + 1, 0, none⟩ y0).setCell ⟨b + 1, 1, none⟩ y1).cell? ⟨b + 1, 0, none⟩ = some y0 ∧ ((w'.setCell ⟨b + 1, 0, none⟩ y0).setCell ⟨b + 1, 1, none⟩ y1).cell? ⟨b + 1, 1, none⟩ = some y1 := by
  obtain ⟨h1, h2, h3, h4⟩ := h
  refine ⟨?_, ?_, ?_, ?_⟩
  · rw [World.cell?_setCell_other _ _ _ _ (by simp), World.cell?_setCell_other _ _ _ _ (by simp)]; exact h1
  · rw [World.cell?_setCell_other _ _ _ _ (by simp), World.cell?_setCell_other _ _ _ _ (by simp)]; exact h2
  · rw [World.cell?_setCell_other _ _ _ _ (by simp)]; exact World.cell?_setCell_same _ _ _ h3
  · exact World.cell?_setCell_same _ _ _ (u := y1) (by rw [World.cell?_setCell_other _ _ _ _ (by simp)]; exact h4)

theorem hide {p : Prop} (h : p) : Hid p := h
theorem unhide {p : Prop} (h : Hid p) : p := h
theorem keep2 {W w' : World} {b : Nat} {x y : Value} (hb : Below W.heap.size W w') (hz : b < W.heap.size) (h : W.cell? ⟨b, 0, none⟩ = some x ∧ W.cell? ⟨b, 1, none⟩ = some y) :
    w'.cell? ⟨b, 0, none⟩ = some x ∧ w'.cell? ⟨b, 1, none⟩ = some y :=
  ⟨by rw [hb.cell (p := ⟨b, 0, none⟩) hz]; exact h.1, by rw [hb.cell (p := ⟨b, 1, none⟩) hz]; exact h.2⟩
theorem bthen {a b c : World} (h : Below a.heap.size a b) (k : Below b.heap.size b c) : Below a.heap.size a c := h.trans (k.mono h.size)
theorem balloc {a b : World} (h : Below a.heap.size a b) (o : Obj) : Below a.heap.size a (b.alloc o) := h.alloc h.size o

end Go.Proofs.Ytjlegmgpgfjciaa.W
