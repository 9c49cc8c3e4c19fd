/- ScA. -/
import Derived.Test.YtjoonmpjcophnaaGreatDoorUa01
import Derived.Test.YtjoonmpjcophnaaGreatDoorUa05
import Derived.Laws.AppendOwn
import Derived.Laws.OwnMore
namespace Go.Proofs.YtjoonmpjcophnaaGreatDoor
open Go.RowKit

/-- But for these blocks all is as it was. -/
structure Fr (l : List Nat) (w w' : World) : Prop where
  os : w'.os = w.os
  tape : w'.tape = w.tape
  output : w'.output = w.output
  size : w.heap.size ≤ w'.heap.size
  block : ∀ k, k < w.heap.size → k ∉ l → w'.heap[k]? = w.heap[k]?
theorem Fr.refl (l : List Nat) (w : World) : Fr l w w := ⟨rfl, rfl, rfl, Nat.le_refl _, fun _ _ _ => rfl⟩
theorem Fr.thenL {l l' : List Nat} {a b c : World} (h : Fr l a b) (k : Fr l' b c) (hl : ∀ i ∈ l', i ∈ l ∨ a.heap.size ≤ i) : Fr l a c :=
  ⟨k.os.trans h.os, k.tape.trans h.tape, k.output.trans h.output, Nat.le_trans h.size k.size, fun i hi hn =>
    (k.block i (Nat.lt_of_lt_of_le hi h.size) (fun hm => by rcases hl i hm with q | q; exact hn q; omega)).trans (h.block i hi hn)⟩
theorem Fr.trans {l : List Nat} {a b c : World} (h : Fr l a b) (k : Fr l b c) : Fr l a c := h.thenL k fun _ hi => Or.inl hi
theorem Fr.mono {l l' : List Nat} {a b : World} (h : Fr l a b) (hl : ∀ i ∈ l, i ∈ l') : Fr l' a b := ⟨h.os, h.tape, h.output, h.size, fun i hi hn => h.block i hi fun hm => hn (hl i hm)⟩
theorem Fr.of {w w' : World} (h : Below w.heap.size w w') (l : List Nat) : Fr l w w' := ⟨h.os, h.tape, h.output, h.size, fun i hi _ => h.block i hi⟩
theorem Fr.bel {l : List Nat} {a b c : World} (h : Fr l a b) (k : Below b.heap.size b c) : Fr l a c := h.trans (Fr.of k l)
theorem Fr.alloc {l : List Nat} {a w : World} (h : Fr l a w) (o : Obj) : Fr l a (w.alloc o) := h.bel (below1 w o)
theorem Fr.drew {l : List Nat} {a w : World} (h : Fr l a w) : Fr l a w.drew := ⟨h.os, h.tape, h.output, h.size, h.block⟩
theorem Fr.set {l : List Nat} {a w : World} (h : Fr l a w) {b : Nat} (o : Nat) (hb : b ∈ l ∨ a.heap.size ≤ b) (v : Value) : Fr l a (w.setCell ⟨b, o, none⟩ v) :=
  ⟨h.os, h.tape, h.output, by simpa [World.setCell] using h.size, fun i hi hn => by
    rw [Below.heap_setCell _ _ _ _ (by intro he; subst he; rcases hb with q | q; exact hn q; exact absurd hi (by simpa using q))]
    exact h.block i hi hn⟩
theorem Fr.cell {l : List Nat} {w w' : World} (h : Fr l w w') {p : Addr} (hp : p.block < w.heap.size) (hn : p.block ∉ l) : w'.cell? p = w.cell? p := World.cell?_of_block (w := w) (h.block p.block hp hn)
theorem Fr.frozen {l : List Nat} {w w' : World} (h : Fr l w w') {p : Addr} (hp : p.block < w.heap.size) (hn : p.block ∉ l) : w'.frozen? p = w.frozen? p := World.frozen?_of_block (w := w) (h.block p.block hp hn)
theorem Fr.keep {l : List Nat} {w w' : World} (h : Fr l w w') {p : Addr} {v : Value} (hc : w.cell? p = some v) (hn : p.block ∉ l) : w'.cell? p = some v := (h.cell (World.block_lt_of_cell? w p hc) hn).trans hc
theorem Fr.below {l : List Nat} {w w' : World} (h : Fr l w w') (hl : ∀ i ∈ l, w.heap.size ≤ i) : Below w.heap.size w w' := ⟨h.os, h.tape, h.output, h.size, fun i hi => h.block i hi fun hm => by have := hl i hm; omega⟩
theorem Fr.nil {w w' : World} (h : Fr [] w w') : Below w.heap.size w w' := h.below (by simp)

/-- A block of three: bytes, a place, a failure. -/
def Cu (c : Nat) (a : Option Addr) (len cap k : Nat) (e : Int) (w : World) : Prop :=
  w.cell? ⟨c, 0, none⟩ = some (.slice a len cap) ∧ w.cell? ⟨c, 1, none⟩ = some (.int .i64 (k : Int)) ∧ w.cell? ⟨c, 2, none⟩ = some (.int .i64 e) ∧ ∀ o, o < 3 → w.frozen? ⟨c, o, none⟩ = false
theorem Cu.lt {c : Nat} {a : Option Addr} {len cap k : Nat} {e : Int} {w : World} (h : Cu c a len cap k e w) : c < w.heap.size := World.block_lt_of_cell? w _ h.1
theorem Cu.fr {c : Nat} {a : Option Addr} {len cap k : Nat} {e : Int} {w w' : World} {l : List Nat} (h : Cu c a len cap k e w) (hf : Fr l w w') (hn : c ∉ l) : Cu c a len cap k e w' :=
  ⟨hf.keep h.1 hn, hf.keep h.2.1 hn, hf.keep h.2.2.1 hn, fun o ho => (hf.frozen (p := ⟨c, o, none⟩) h.lt hn).trans (h.2.2.2 o ho)⟩
theorem Cu.bel {c : Nat} {a : Option Addr} {len cap k : Nat} {e : Int} {w w' : World} (h : Cu c a len cap k e w) (hf : Below w.heap.size w w') : Cu c a len cap k e w' := h.fr (Fr.of hf []) (by simp)
theorem cell_set_same {w : World} {b o : Nat} {v u : Value} (h : w.cell? ⟨b, o, none⟩ = some u) : (w.setCell ⟨b, o, none⟩ v).cell? ⟨b, o, none⟩ = some v := World.cell?_setCell_same _ _ _ h
theorem cell_set_off {w : World} {b o o' : Nat} {v u : Value} (hne : o ≠ o') (h : w.cell? ⟨b, o, none⟩ = some u) : (w.setCell ⟨b, o', none⟩ v).cell? ⟨b, o, none⟩ = some u := by
  rw [World.cell?_setCell_other _ _ _ _ (by intro he; injection he with _ h2; exact hne h2.symm)]; exact h
theorem Cu.place {c : Nat} {a : Option Addr} {len cap k : Nat} {e : Int} {w : World} (h : Cu c a len cap k e w) (k' : Nat) : Cu c a len cap k' e (w.setCell ⟨c, 1, none⟩ (.int .i64 (k' : Int))) :=
  ⟨cell_set_off (by decide) h.1, cell_set_same h.2.1, cell_set_off (by decide) h.2.2.1, fun o ho => by rw [frozen_set]; exact h.2.2.2 o ho⟩
theorem Cu.err {c : Nat} {a : Option Addr} {len cap k : Nat} {e : Int} {w : World} (h : Cu c a len cap k e w) (e' : Int) : Cu c a len cap k e' (w.setCell ⟨c, 2, none⟩ (.int .i64 e')) :=
  ⟨cell_set_off (by decide) h.1, cell_set_off (by decide) h.2.1, cell_set_same h.2.2.1, fun o ho => by rw [frozen_set]; exact h.2.2.2 o ho⟩

theorem Sl.fr {w w' : World} {a : Option Addr} {len cap : Nat} {xs : List Int} {l : List Nat} (h : Sl w a len cap xs) (hf : Fr l w w') (hn : ∀ p, a = some p → 0 < len → p.block ∉ l) : Sl w' a len cap xs := by
  obtain ⟨h1, h2, h3, h4⟩ := h
  refine ⟨h1, h2, h3, ?_⟩
  rcases h4 with h4 | ⟨b, off, h5, h6⟩
  · exact Or.inl h4
  · exact Or.inr ⟨b, off, h5, fun j hj => hf.keep (h6 j hj) (hn ⟨b, off, none⟩ h5 (by omega))⟩

/-- A place in bytes: they lie elsewhere, and are not many. -/
def Cs (c : Nat) (a : Option Addr) (len cap : Nat) (xs : List Int) (k : Nat) (e : Int) (w : World) : Prop :=
  Cu c a len cap k e w ∧ Sl w a len cap xs ∧ (∀ p, a = some p → 0 < len → p.block ≠ c) ∧ Byt xs ∧ k ≤ len ∧ len ≤ 7000
theorem Cs.fr {c : Nat} {a : Option Addr} {len cap k : Nat} {xs : List Int} {e : Int} {w w' : World} {l : List Nat} (h : Cs c a len cap xs k e w) (hf : Fr l w w') (hn : c ∉ l) (hm : ∀ p, a = some p → 0 < len → p.block ∉ l) : Cs c a len cap xs k e w' :=
  ⟨h.1.fr hf hn, h.2.1.fr hf hm, h.2.2⟩
theorem Cs.bel {c : Nat} {a : Option Addr} {len cap k : Nat} {xs : List Int} {e : Int} {w w' : World} (h : Cs c a len cap xs k e w) (hf : Below w.heap.size w w') : Cs c a len cap xs k e w' :=
  h.fr (Fr.of hf []) (by simp) (by simp)
theorem Cs.drew {c : Nat} {a : Option Addr} {len cap k : Nat} {xs : List Int} {e : Int} {w : World} (h : Cs c a len cap xs k e w) : Cs c a len cap xs k e w.drew := h.bel ((Below.refl _ _).drew)
theorem Cs.alloc {c : Nat} {a : Option Addr} {len cap k : Nat} {xs : List Int} {e : Int} {w : World} (h : Cs c a len cap xs k e w) (o : Obj) : Cs c a len cap xs k e (w.alloc o) := h.bel (below1 w o)
theorem Cs.own {c : Nat} {a : Option Addr} {len cap k k' : Nat} {xs : List Int} {e e' : Int} {w w' : World} (h : Cs c a len cap xs k e w) (hf : Fr [c] w w') (hc : Cu c a len cap k' e' w') (hk : k' ≤ len) : Cs c a len cap xs k' e' w' :=
  ⟨hc, h.2.1.fr hf (fun p hp hl => by simpa using h.2.2.1 p hp hl), h.2.2.1, h.2.2.2.1, hk, h.2.2.2.2.2⟩
theorem Cs.place {c : Nat} {a : Option Addr} {len cap k : Nat} {xs : List Int} {e : Int} {w : World} (h : Cs c a len cap xs k e w) (k' : Nat) (hk : k' ≤ len) : Cs c a len cap xs k' e (w.setCell ⟨c, 1, none⟩ (.int .i64 (k' : Int))) :=
  h.own ((Fr.refl _ _).set _ (Or.inl (by simp)) _) (h.1.place k') hk
theorem Cs.err {c : Nat} {a : Option Addr} {len cap k : Nat} {xs : List Int} {e : Int} {w : World} (h : Cs c a len cap xs k e w) (e' : Int) : Cs c a len cap xs k e' (w.setCell ⟨c, 2, none⟩ (.int .i64 e')) :=
  h.own ((Fr.refl _ _).set _ (Or.inl (by simp)) _) (h.1.err e') h.2.2.2.2.1
theorem Sl.lt {w : World} {a : Option Addr} {len cap : Nat} {xs : List Int} (h : Sl w a len cap xs) : ∀ p, a = some p → 0 < len → p.block < w.heap.size := by
  intro p hp hl
  rcases h.2.2.2 with h4 | ⟨b, off, h5, h6⟩
  · omega
  · rw [hp] at h5
    injection h5 with h5
    subst h5
    exact World.block_lt_of_cell? w _ (h6 0 hl)
/-- What is touched besides is newer than a world in which it was there. -/
theorem Cs.new {c : Nat} {a : Option Addr} {len cap k k0 : Nat} {xs : List Int} {e e0 : Int} {w w' W0 : World} {l : List Nat} (h : Cs c a len cap xs k e w) (h0 : Cs c a len cap xs k0 e0 W0) (hf : Fr l w w') (hl : ∀ i ∈ l, W0.heap.size ≤ i) : Cs c a len cap xs k e w' :=
  h.fr hf (fun hm => by have := hl c hm; have := h0.1.lt; omega) (fun p hp hn hm => by have := hl _ hm; have := h0.2.1.lt p hp hn; omega)
/-- A slice of bytes in memory from block n on. -/
def Nw (n : Nat) (x1 : Option Addr) (x2 x3 : Nat) (ys : List Int) (w : World) : Prop := Sl w x1 x2 x3 ys ∧ ∀ p, x1 = some p → 0 < x2 → n ≤ p.block
theorem Nw.fr {n : Nat} {x1 : Option Addr} {x2 x3 : Nat} {ys : List Int} {w w' : World} {l : List Nat} (h : Nw n x1 x2 x3 ys w) (hf : Fr l w w') (hl : ∀ i ∈ l, i < n) : Nw n x1 x2 x3 ys w' :=
  ⟨h.1.fr hf (fun p hp hn hm => by have := hl _ hm; have := h.2 p hp hn; omega), h.2⟩
theorem Nw.bel {n : Nat} {x1 : Option Addr} {x2 x3 : Nat} {ys : List Int} {w w' : World} (h : Nw n x1 x2 x3 ys w) (hf : Below w.heap.size w w') : Nw n x1 x2 x3 ys w' := h.fr (Fr.of hf []) (by simp)
theorem Nw.mono {n m : Nat} {x1 : Option Addr} {x2 x3 : Nat} {ys : List Int} {w : World} (h : Nw n x1 x2 x3 ys w) (hl : m ≤ n) : Nw m x1 x2 x3 ys w := ⟨h.1, fun p hp hn => Nat.le_trans hl (h.2 p hp hn)⟩
theorem nw_nil (n : Nat) (w : World) : Nw n none 0 0 [] w := ⟨⟨rfl, Nat.le_refl _, by omega, Or.inl ⟨rfl, rfl, rfl⟩⟩, by simp⟩
theorem Fr.set2 {l : List Nat} {a w : World} (h : Fr l a w) {b : Nat} (hb : b ∈ l ∨ a.heap.size ≤ b) (x y : Value) : Fr l a ((w.setCell ⟨b, 0, none⟩ x).setCell ⟨b, 1, none⟩ y) := (h.set 0 hb x).set 1 hb y
theorem Fr.set3 {l : List Nat} {a w : World} (h : Fr l a w) {b : Nat} (hb : b ∈ l ∨ a.heap.size ≤ b) (x y z : Value) : Fr l a (((w.setCell ⟨b, 0, none⟩ x).setCell ⟨b, 1, none⟩ y).setCell ⟨b, 2, none⟩ z) := (h.set2 hb x y).set 2 hb z
theorem Fr.place {c : Nat} {a w : World} (h : Fr [c] a w) (o : Nat) (v : Value) : Fr [c] a (w.setCell ⟨c, o, none⟩ v) := h.set o (Or.inl (by simp)) v
/-- What is answered: that, or nothing behind a failure. -/
def Got (z : Value) (e : Int) (V : Value → World → Prop) (v : Value) (w : World) : Prop := (e = 0 → V v w) ∧ (e ≠ 0 → v = z)
theorem Got.ok {z : Value} {V : Value → World → Prop} {v : Value} {w : World} (h : V v w) : Got z 0 V v w := ⟨fun _ => h, fun h => absurd rfl h⟩
theorem Got.no {z : Value} {e : Int} {V : Value → World → Prop} {w : World} (h : e ≠ 0) : Got z e V z w := ⟨fun k => absurd k h, fun _ => rfl⟩
end Go.Proofs.YtjoonmpjcophnaaGreatDoor
