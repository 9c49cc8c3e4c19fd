/- CdQ, CdX, MdH. -/
import Derived.Test.YtjoonmpjcophnaaGreatDoorCu01
import Derived.Test.YtjoonmpjcophnaaGreatDoorCu19
import Derived.Test.YtjoonmpjcophnaaGreatDoorCu29
import Derived.Test.YtjoonmpjcophnaaGreatDoorCu30
import Derived.Test.YtjoonmpjcophnaaGreatDoorCu31
import Derived.Test.YtjoonmpjcophnaaGreatDoorCu36
import Derived.Test.YtjoonmpjcophnaaGreatDoorCu37
import Derived.Test.YtjoonmpjcophnaaGreatDoorCu40
import Derived.Test.YtjoonmpjcophnaaGreatDoorCu41
namespace Go.Proofs.YtjoonmpjcophnaaGreatDoor
open Go.RowKit

/-- The document's reader's memory. -/
structure Rq (c rb : Nat) (a : Option Addr) (len cap : Nat) (xs : List Int) (sat : Bool) (k : Nat) (e : Int) (w : World) : Prop where
  cur : Cs c a len cap xs k e w
  rdr : At2 rb (.pointer (some ⟨c, 0, none⟩)) (.bool sat) w
  var : Mk w
  ne : rb ≠ c
  c3 : 4 ≤ c
  r3 : 4 ≤ rb
  far : ∀ p, a = some p → 0 < len → p.block ≠ rb
section
variable {c rb : Nat} {a : Option Addr} {len cap : Nat} {xs : List Int} {sat : Bool} {k : Nat} {e : Int} {w w' : World}
theorem Rq.old (h : Rq c rb a len cap xs sat k e w) {N : Nat} (hN : w.heap.size ≤ N) : Old N c rb a len :=
  have hc := h.cur.1.lt
  have hr := World.block_lt_of_cell? w _ h.rdr.1
  ⟨by have := h.c3; omega, by omega, by simp only at hr; omega, fun p hp hl => Nat.lt_of_lt_of_le (h.cur.2.1.lt p hp hl) hN⟩
theorem Rq.fr {l : List Nat} {N : Nat} (h : Rq c rb a len cap xs sat k e w) (hf : Fr l w w') (ho : Old N c rb a len) (hl : ∀ i ∈ l, N ≤ i) : Rq c rb a len cap xs sat k e w' :=
  ⟨h.cur.fr hf (fun hm => by have := hl c hm; have := ho.c; omega) (fun p hp hn hm => by have := hl _ hm; have := ho.b p hp hn; omega),
   h.rdr.fr hf (fun hm => by have := hl rb hm; have := ho.r; omega),
   h.var.fr hf (fun i hi => by have := hl i hi; have := ho.n3; omega), h.ne, h.c3, h.r3, h.far⟩
theorem Rq.bel (h : Rq c rb a len cap xs sat k e w) (hf : Below w.heap.size w w') : Rq c rb a len cap xs sat k e w' :=
  h.fr (Fr.of hf []) (h.old (Nat.le_refl _)) (by simp)
theorem Rq.step {k' : Nat} {e' : Int} (h : Rq c rb a len cap xs sat k e w) (hf : Fr [c] w w') (hc : Cs c a len cap xs k' e' w') : Rq c rb a len cap xs sat k' e' w' :=
  ⟨hc, h.rdr.fr hf (by simpa using h.ne), h.var.fr hf (by simpa using h.c3), h.ne, h.c3, h.r3, h.far⟩
theorem Rq.byt (h : Rq c rb a len cap xs sat k e w) : Byt xs := h.cur.2.2.2.1
end
end Go.Proofs.YtjoonmpjcophnaaGreatDoor
namespace Go.Proofs.YtjoonmpjcophnaaGreatDoor
open Go.RowKit

section
variable {P : Program} {ops : Array Oper} {Q : Exit → Act → World → Prop} {md : Region.Mode} {S : World → Prop}
end
/-- A row of numbers of one's own. -/
def Ou (w : World) (B : Nat) (v : Value) (ys : List Int) : Prop := w.ownsRow B 30 1 v ys.length (uCells ys)
theorem Ou.fr {w w' : World} {B : Nat} {v : Value} {ys : List Int} {l : List Nat} (h : Ou w B v ys) (hf : Fr l w w') (hl : ∀ i ∈ l, i < B) : Ou w' B v ys := by
  refine ⟨h.1, ?_⟩
  rcases h.2 with hn | ⟨g, cap, cur, h1, hb, hgg, rest⟩
  · exact .inl hn
  · refine .inr ⟨g, cap, cur, h1, hb, ?_, rest⟩
    rw [hf.block g (Array.getElem?_eq_some_iff.1 hgg).1 (fun hm => by have := hl g hm; omega)]
    exact hgg
theorem Ou.slice {w : World} {B : Nat} {v : Value} {ys : List Int} (h : Ou w B v ys) : ∃ p s, v = .slice p ys.length s := by
  rcases h.2 with ⟨h1, h2⟩ | ⟨g, cap, cur, h1, _⟩
  · exact ⟨none, 0, by rw [h1, h2]⟩
  · exact ⟨_, _, h1⟩
theorem Ou.slc {w : World} {B : Nat} {v : Value} {ys : List Int} (h : Ou w B v ys) : Slc w (fun b => B ≤ b) ys.length (uCells ys) v := slc_own h (by decide) (fun g hg => (h.lt g hg).1)
end Go.Proofs.YtjoonmpjcophnaaGreatDoor
namespace Go.Proofs.YtjoonmpjcophnaaGreatDoor
open Go.RowKit

/-- A variable of n cells. -/
structure Vr (ib n : Nat) (L : List Value) (w : World) : Prop where
  tab : Tab w ib L
  room : Room ib n w
  lt : ib < w.heap.size
theorem Vr.fr {ib n : Nat} {L : List Value} {w w' : World} {l : List Nat} (h : Vr ib n L w) (hf : Fr l w w') (hn : ib ∉ l) : Vr ib n L w' := ⟨h.tab.fr hf hn, h.room.fr hf hn, Nat.lt_of_lt_of_le h.lt hf.size⟩
theorem Vr.set {ib n : Nat} {L : List Value} {w : World} (h : Vr ib n L w) (o : Nat) (v : Value) : Vr ib n (L.set o v) (w.setCell ⟨ib, o, none⟩ v) := ⟨h.tab.set o v, h.room.set o v, by simpa [World.setCell] using h.lt⟩
theorem vr_new (cs : List Value) (t : TypeId) (W : World) : Vr W.heap.size cs.length cs (W.alloc (.cells cs.toArray t)) := by
  refine ⟨fun j v hj => ?_, room_cells (cs := cs) (t := t) W cs.length (Nat.le_refl _), by simp⟩
  rw [World.cell?_alloc_new]
  simpa using hj
theorem doneE_z {e e2 : Int} {k n : Nat} (h : doneE e e2 k n = 0) : e = 0 ∧ e2 = 0 := by
  unfold doneE at h
  by_cases h1 : e = 0
  · rw [if_neg (by simp [h1])] at h
    by_cases h2 : e2 = 0
    · exact ⟨h1, h2⟩
    · rw [if_pos h2] at h; exact absurd h h2
  · rw [if_pos h1] at h; exact absurd h h1
section
variable {c : Nat} {a : Option Addr} {len cap k : Nat} {xs : List Int} {e : Int} {W : World} {sat : Bool}
end
end Go.Proofs.YtjoonmpjcophnaaGreatDoor
