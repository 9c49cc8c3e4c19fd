/- What the texts share, and contracts of the sizes' own functions of package shape. -/
import Derived.Test.YtkpdanjfdcoldaaDoorRows
import Derived.WalkKit
import Derived.WalkSpells
import Derived.WalkLawsBesides
import Derived.Laws.MathBits
import Derived.Laws.Pointers
import Derived.Deep.RegionHeld3
import Derived.RowKit3
import Derived.Laws.Bits64b
namespace Go.Proofs.YtkpdanjfdcoldaaDoor
open Go.RowKit

theorem hide {p : Prop} (h : p) : Hid p := h
theorem unhide {p : Prop} (h : Hid p) : p := h
/-- What a function answers, in every world. -/
def Ct (f : Nat) (args : Array Value) (res : Value) : Prop := Hid (∀ W, Calls Tryd.prog f args W fun r W' => r = .returned res ∧ Below W.heap.size W W')
theorem bthen {a b c : World} (h : Below a.heap.size a b) (k : Below b.heap.size b c) : Below a.heap.size a c := h.trans (k.mono h.size)
theorem balloc {a b : World} (h : Below a.heap.size a b) (o : Obj) : Below a.heap.size a (b.alloc o) := h.alloc h.size o
theorem below1 (w : World) (o1 : Obj) : Below w.heap.size w (w.alloc o1) := (Below.refl _ _).alloc (Nat.le_refl _) _
theorem below2 (w : World) (o1 o2 : Obj) : Below w.heap.size w ((w.alloc o1).alloc o2) := ((Below.refl _ _).alloc (Nat.le_refl _) _).alloc (by simp) _
theorem ret1 {k : IntKind} {a c : Int} (h1 : a = c) : Ending.returned (.int k a) = .returned (.int k c) := by rw [h1]
theorem retb {a b : Bool} (h : a = b) : Ending.returned (.bool a) = .returned (.bool b) := by rw [h]

/-- The sizes of a width's fields, with the powers of two that go with them: P of the fraction, Q of the exponent, and the bias. -/
def Sz (e f P Q b : Int) : Prop := (e = 8 ∧ f = 23 ∧ P = 8388608 ∧ Q = 256 ∧ b = 127) ∨ (e = 11 ∧ f = 52 ∧ P = 4503599627370496 ∧ Q = 2048 ∧ b = 1023) ∨ (e = 0 ∧ f = 0 ∧ P = 1 ∧ Q = 1 ∧ b = -1)
def Wd (w e f P Q b : Int) : Prop := (w = 32 ∧ e = 8 ∧ f = 23 ∧ P = 8388608 ∧ Q = 256 ∧ b = 127) ∨ (w = 64 ∧ e = 11 ∧ f = 52 ∧ P = 4503599627370496 ∧ Q = 2048 ∧ b = 1023) ∨ ((w ≠ 32 ∧ w ≠ 64) ∧ e = 0 ∧ f = 0 ∧ P = 1 ∧ Q = 1 ∧ b = -1)
theorem Wd.sz {w e f P Q b : Int} (h : Wd w e f P Q b) : Sz e f P Q b := by
  rcases h with h | h | h
  · exact Or.inl h.2
  · exact Or.inr (Or.inl h.2)
  · exact Or.inr (Or.inr h.2)
theorem wd_ex (w : Int) : ∃ e f P Q b, Wd w e f P Q b := by
  by_cases h : w = 32
  · exact ⟨_, _, _, _, _, Or.inl ⟨h, rfl, rfl, rfl, rfl, rfl⟩⟩
  · by_cases h2 : w = 64
    · exact ⟨_, _, _, _, _, Or.inr (Or.inl ⟨h2, rfl, rfl, rfl, rfl, rfl⟩)⟩
    · exact ⟨_, _, _, _, _, Or.inr (Or.inr ⟨⟨h, h2⟩, rfl, rfl, rfl, rfl, rfl⟩)⟩

theorem bcell {W w1 : World} (hb : Below W.heap.size W w1) (b o : Nat) (h : b < W.heap.size) : w1.cell? ⟨b, o, none⟩ = W.cell? ⟨b, o, none⟩ := hb.cell (p := ⟨b, o, none⟩) h
theorem keep1 {W w' : World} {b o : Nat} {x : Value} (hb : Below W.heap.size W w') (hz : b < W.heap.size) (h : W.cell? ⟨b, o, none⟩ = some x) : w'.cell? ⟨b, o, none⟩ = some x := by rw [bcell hb b o hz]; exact h
theorem lt_of_cell {W : World} {b o : Nat} {x : Value} (h : W.cell? ⟨b, o, none⟩ = some x) : b < W.heap.size := by
  apply Decidable.byContradiction
  intro hn
  simp [World.cell?, Nat.le_of_not_lt hn] at h
/-- A block that holds two values. -/
def At2 (b : Nat) (x y : Value) (w : World) : Prop := w.cell? ⟨b, 0, none⟩ = some x ∧ w.cell? ⟨b, 1, none⟩ = some y
def At5 (b : Nat) (x y z u v : Value) (w : World) : Prop := w.cell? ⟨b, 0, none⟩ = some x ∧ w.cell? ⟨b, 1, none⟩ = some y ∧ w.cell? ⟨b, 2, none⟩ = some z ∧ w.cell? ⟨b, 3, none⟩ = some u ∧ w.cell? ⟨b, 4, none⟩ = some v
theorem At2.below {b : Nat} {x y : Value} {w w' : World} (h : At2 b x y w) (hb : Below w.heap.size w w') : At2 b x y w' :=
  have hz := lt_of_cell h.1
  ⟨keep1 hb hz h.1, keep1 hb hz h.2⟩
theorem At5.below {b : Nat} {x y z u v : Value} {w w' : World} (h : At5 b x y z u v w) (hb : Below w.heap.size w w') : At5 b x y z u v w' :=
  have hz := lt_of_cell h.1
  ⟨keep1 hb hz h.1, keep1 hb hz h.2.1, keep1 hb hz h.2.2.1, keep1 hb hz h.2.2.2.1, keep1 hb hz h.2.2.2.2⟩

theorem i64_id {x : Int} (h1 : -9223372036854775808 ≤ x) (h2 : x < 9223372036854775808) : IntKind.i64.wrap x = x := by
  simp only [IntKind.wrap, IntKind.bits, IntKind.signed]
  simp
  omega

section
variable {P : Program} {ops : Array Oper} {Q : Exit → Act → World → Prop} {md : Region.Mode} {S : World → Prop}
theorem anyH_at {fuel : Nat} {listed : Array Bool} {a : Act} {w : World} (l : Array Bool) (h : listed = l) (k : wpAnyH P md ops Q S fuel l a w) : wpAnyH P md ops Q S fuel listed a w := h ▸ k
end
/-- What is kept where only new memory is touched. -/
def Stable (T : World → Prop) : Prop := ∀ w w', T w → Below w.heap.size w w' → T w'
theorem Stable.and {A B : World → Prop} (ha : Stable A) (hb : Stable B) : Stable (fun w => A w ∧ B w) := fun w w' h k => ⟨ha w w' h.1 k, hb w w' h.2 k⟩
theorem stable_cell (p : Addr) (v : Value) : Stable (fun w => w.cell? p = some v) := fun w _ h k => (k.cell (World.block_lt_of_cell? w p h)).trans h
theorem Stable.self {T : World → Prop} (h : Stable T) {w w' : World} (k : T w) (hb : Below w.heap.size w w') : T w' := h w w' k hb

/-- A block that can be written. -/
def Room (b n : Nat) (w : World) : Prop := ∀ o, o < n → (∃ v, w.cell? ⟨b, o, none⟩ = some v) ∧ w.frozen? ⟨b, o, none⟩ = false
theorem stable_room (b n : Nat) : Stable (Room b n) := fun w _ h k o ho => by
  obtain ⟨⟨v, h1⟩, h2⟩ := h o ho
  have hz := World.block_lt_of_cell? w _ h1
  exact ⟨⟨v, (k.cell hz).trans h1⟩, (k.frozen hz).trans h2⟩
theorem Room.below {b n : Nat} {w w' : World} (h : Room b n w) (hb : Below w.heap.size w w') : Room b n w' := stable_room b n w w' h hb
theorem Room.drew {b n : Nat} {w : World} (h : Room b n w) : Room b n w.drew := h.below ((Below.refl _ _).drew)
theorem Room.alloc {b n : Nat} {w : World} (h : Room b n w) (o : Obj) : Room b n (w.alloc o) := h.below (below1 w o)

/-- Nothing is asked of a world. -/
def Free (_ : World) : Prop := True
theorem free (w : World) : Free w := True.intro

theorem frozen_set (w : World) (p q : Addr) (v : Value) : (w.setCell p v).frozen? q = w.frozen? q := by simp [go_sem]
theorem keep_set {w : World} {b o : Nat} {x : Value} (b' o' : Nat) (v : Value) (hne : b ≠ b') (h : w.cell? ⟨b, o, none⟩ = some x) : (w.setCell ⟨b', o', none⟩ v).cell? ⟨b, o, none⟩ = some x := by
  rw [World.cell?_setCell_other _ _ _ _ (by intro he; injection he with he1; exact hne he1.symm)]; exact h
theorem Room.set {b n : Nat} {w : World} (h : Room b n w) (o' : Nat) (v : Value) : Room b n (w.setCell ⟨b, o', none⟩ v) := fun o ho => by
  obtain ⟨⟨u, h1⟩, h2⟩ := h o ho
  refine ⟨?_, by rw [frozen_set]; exact h2⟩
  by_cases he : o = o'
  · subst he; exact ⟨v, World.cell?_setCell_same _ _ _ h1⟩
  · exact ⟨u, by rw [World.cell?_setCell_other _ _ _ _ (by intro hh; injection hh with _ h3; exact he h3.symm)]; exact h1⟩
theorem bset {a b : World} (h : Below a.heap.size a b) (n : Nat) (hn : a.heap.size ≤ n) (o : Nat) (v : Value) : Below a.heap.size a (b.setCell ⟨n, o, none⟩ v) := h.setCell hn v

theorem and_mask (k : Nat) (z m : Int) (h0 : 0 ≤ z) (h1 : z < 18446744073709551616) (hm : m = ((2 ^ k - 1 : Nat) : Int)) (hk : k ≤ 63) : bits .and .u64 z m = z % ((2 ^ k : Nat) : Int) := by
  obtain ⟨Z, rfl⟩ := Int.eq_ofNat_of_zero_le h0
  have hp : 2 ^ k ≤ 2 ^ 63 := Nat.pow_le_pow_right (by omega) hk
  rw [hm, Go.bits_and_u64_nat Z (2 ^ k - 1) (by omega) (by omega), Nat.and_two_pow_sub_one_eq_mod, Int.natCast_emod]

end Go.Proofs.YtkpdanjfdcoldaaDoor
