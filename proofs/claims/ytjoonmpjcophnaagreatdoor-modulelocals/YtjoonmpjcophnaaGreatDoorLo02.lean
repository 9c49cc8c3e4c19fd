/- Base, Tk, Bs, RnA, RdA, RdC, Var, NuA. -/
import Derived.Test.YtjoonmpjcophnaaGreatDoorRows
import Derived.WalkKit
import Derived.WalkSpells
import Derived.WalkLawsBesides
import Derived.Laws.MathBits
import Derived.Laws.Pointers
import Derived.Deep.RegionHeld3
import Derived.RowKit3
import Derived.Laws.Bits64b
import Derived.Laws.Rows
import Derived.LoopN
namespace Go.Proofs.YtjoonmpjcophnaaGreatDoor
open Go.RowKit

theorem hide {p : Prop} (h : p) : Hid p := h
theorem unhide {p : Prop} (h : Hid p) : p := h
/-- What a function answers, in every world. -/
def Ct (f : Nat) (args : Array Value) (res : Value) : Prop := Hid (∀ W, Calls Tryz.prog f args W fun r W' => r = .returned res ∧ Below W.heap.size W W')
theorem bthen {a b c : World} (h : Below a.heap.size a b) (k : Below b.heap.size b c) : Below a.heap.size a c := h.trans (k.mono h.size)
theorem balloc {a b : World} (h : Below a.heap.size a b) (o : Obj) : Below a.heap.size a (b.alloc o) := h.alloc h.size o
theorem below1 (w : World) (o1 : Obj) : Below w.heap.size w (w.alloc o1) := (Below.refl _ _).alloc (Nat.le_refl _) _
theorem below2 (w : World) (o1 o2 : Obj) : Below w.heap.size w ((w.alloc o1).alloc o2) := ((Below.refl _ _).alloc (Nat.le_refl _) _).alloc (by simp) _
/-- The sizes of a width's fields, with the powers of two that go with them: P of the fraction, Q of the exponent, and the bias. -/
def Sz (e f P Q b : Int) : Prop := (e = 8 ∧ f = 23 ∧ P = 8388608 ∧ Q = 256 ∧ b = 127) ∨ (e = 11 ∧ f = 52 ∧ P = 4503599627370496 ∧ Q = 2048 ∧ b = 1023) ∨ (e = 0 ∧ f = 0 ∧ P = 1 ∧ Q = 1 ∧ b = -1)
def Wd (w e f P Q b : Int) : Prop := (w = 32 ∧ e = 8 ∧ f = 23 ∧ P = 8388608 ∧ Q = 256 ∧ b = 127) ∨ (w = 64 ∧ e = 11 ∧ f = 52 ∧ P = 4503599627370496 ∧ Q = 2048 ∧ b = 1023) ∨ ((w ≠ 32 ∧ w ≠ 64) ∧ e = 0 ∧ f = 0 ∧ P = 1 ∧ Q = 1 ∧ b = -1)
theorem Wd.sz {w e f P Q b : Int} (h : Wd w e f P Q b) : Sz e f P Q b := by
  rcases h with h | h | h
  · exact Or.inl h.2
  · exact Or.inr (Or.inl h.2)
  · exact Or.inr (Or.inr h.2)
theorem bcell {W w1 : World} (hb : Below W.heap.size W w1) (b o : Nat) (h : b < W.heap.size) : w1.cell? ⟨b, o, none⟩ = W.cell? ⟨b, o, none⟩ := hb.cell (p := ⟨b, o, none⟩) h
theorem keep1 {W w' : World} {b o : Nat} {x : Value} (hb : Below W.heap.size W w') (hz : b < W.heap.size) (h : W.cell? ⟨b, o, none⟩ = some x) : w'.cell? ⟨b, o, none⟩ = some x := by rw [bcell hb b o hz]; exact h
theorem lt_of_cell {W : World} {b o : Nat} {x : Value} (h : W.cell? ⟨b, o, none⟩ = some x) : b < W.heap.size := by
  apply Decidable.byContradiction
  intro hn
  simp [World.cell?, Nat.le_of_not_lt hn] at h
/-- A block that holds two values. -/
def At2 (b : Nat) (x y : Value) (w : World) : Prop := w.cell? ⟨b, 0, none⟩ = some x ∧ w.cell? ⟨b, 1, none⟩ = some y
def At5 (b : Nat) (x y z u v : Value) (w : World) : Prop := w.cell? ⟨b, 0, none⟩ = some x ∧ w.cell? ⟨b, 1, none⟩ = some y ∧ w.cell? ⟨b, 2, none⟩ = some z ∧ w.cell? ⟨b, 3, none⟩ = some u ∧ w.cell? ⟨b, 4, none⟩ = some v
theorem At2.below {b : Nat} {x y : Value} {w w' : World} (h : At2 b x y w) (hb : Below w.heap.size w w') : At2 b x y w' :=
  have hz := lt_of_cell h.1
  ⟨keep1 hb hz h.1, keep1 hb hz h.2⟩
theorem At5.below {b : Nat} {x y z u v : Value} {w w' : World} (h : At5 b x y z u v w) (hb : Below w.heap.size w w') : At5 b x y z u v w' :=
  have hz := lt_of_cell h.1
  ⟨keep1 hb hz h.1, keep1 hb hz h.2.1, keep1 hb hz h.2.2.1, keep1 hb hz h.2.2.2.1, keep1 hb hz h.2.2.2.2⟩

theorem i64_id {x : Int} (h1 : -9223372036854775808 ≤ x) (h2 : x < 9223372036854775808) : IntKind.i64.wrap x = x := by
  simp only [IntKind.wrap, IntKind.bits, IntKind.signed]
  simp
  omega

section
variable {P : Program} {ops : Array Oper} {Q : Exit → Act → World → Prop} {md : Region.Mode} {S : World → Prop}
end
/-- What is kept where only new memory is touched. -/
def Stable (T : World → Prop) : Prop := ∀ w w', T w → Below w.heap.size w w' → T w'
theorem Stable.and {A B : World → Prop} (ha : Stable A) (hb : Stable B) : Stable (fun w => A w ∧ B w) := fun w w' h k => ⟨ha w w' h.1 k, hb w w' h.2 k⟩
/-- A block that can be written. -/
def Room (b n : Nat) (w : World) : Prop := ∀ o, o < n → (∃ v, w.cell? ⟨b, o, none⟩ = some v) ∧ w.frozen? ⟨b, o, none⟩ = false
theorem stable_room (b n : Nat) : Stable (Room b n) := fun w _ h k o ho => by
  obtain ⟨⟨v, h1⟩, h2⟩ := h o ho
  have hz := World.block_lt_of_cell? w _ h1
  exact ⟨⟨v, (k.cell hz).trans h1⟩, (k.frozen hz).trans h2⟩
theorem Room.below {b n : Nat} {w w' : World} (h : Room b n w) (hb : Below w.heap.size w w') : Room b n w' := stable_room b n w w' h hb
theorem Room.drew {b n : Nat} {w : World} (h : Room b n w) : Room b n w.drew := h.below ((Below.refl _ _).drew)
theorem Room.alloc {b n : Nat} {w : World} (h : Room b n w) (o : Obj) : Room b n (w.alloc o) := h.below (below1 w o)

/-- Nothing is asked of a world. -/
def Free (_ : World) : Prop := True
theorem free (w : World) : Free w := True.intro

theorem frozen_set (w : World) (p q : Addr) (v : Value) : (w.setCell p v).frozen? q = w.frozen? q := by simp [go_sem]
theorem Room.set {b n : Nat} {w : World} (h : Room b n w) (o' : Nat) (v : Value) : Room b n (w.setCell ⟨b, o', none⟩ v) := fun o ho => by
  obtain ⟨⟨u, h1⟩, h2⟩ := h o ho
  refine ⟨?_, by rw [frozen_set]; exact h2⟩
  by_cases he : o = o'
  · subst he; exact ⟨v, World.cell?_setCell_same _ _ _ h1⟩
  · exact ⟨u, by rw [World.cell?_setCell_other _ _ _ _ (by intro hh; injection hh with _ h3; exact he h3.symm)]; exact h1⟩
theorem and_mask (k : Nat) (z m : Int) (h0 : 0 ≤ z) (h1 : z < 18446744073709551616) (hm : m = ((2 ^ k - 1 : Nat) : Int)) (hk : k ≤ 63) : bits .and .u64 z m = z % ((2 ^ k : Nat) : Int) := by
  obtain ⟨Z, rfl⟩ := Int.eq_ofNat_of_zero_le h0
  have hp : 2 ^ k ≤ 2 ^ 63 := Nat.pow_le_pow_right (by omega) hk
  rw [hm, Go.bits_and_u64_nat Z (2 ^ k - 1) (by omega) (by omega), Nat.and_two_pow_sub_one_eq_mod, Int.natCast_emod]

end Go.Proofs.YtjoonmpjcophnaaGreatDoor
namespace Go.Proofs.YtjoonmpjcophnaaGreatDoor
open Go.RowKit

section
variable {P : Program} {ops : Array Oper} {Q : Exit → Act → World → Prop} {md : Region.Mode} {S : World → Prop}
/-- The first n bits of a number. -/
def lsb : Nat → Nat → List Bool
  | 0, _ => []
  | n + 1, m => (m % 2 == 1) :: lsb n (m / 2)
def lst (n m : Nat) : Array Bool := ⟨lsb n m⟩
theorem lst0 (n : Nat) {fuel : Nat} {listed : Array Bool} {a : Act} {w : World} (h : listed = lst n 0) (k : wpAnyH P md ops Q S fuel (lst n 0) a w) : wpAnyH P md ops Q S fuel listed a w := h ▸ k
/-- An operation that reads is taken: number i, into slot d; m' has come up then. -/
theorem tkH (i d m' : Nat) (v : Value) {op : Op} {ty : TypeId} {pos : String} {af : Array Edge} {g : Option (Nat × Bool)} {n m fuel : Nat} {a : Act} {w : World} (hi : ops[i]? = some ⟨some d, op, ty, pos, af, g⟩)
    (hc : (Region.noSelect ops && Region.free md ops (lst n m) i && (Region.ready md ops (lst n m)).contains i) = true) (he : (lst n m).setIfInBounds i true = lst n m')
    (hQ : ∀ c a w, Q (.panic c) (a.put (some d) v) w → Q (.panic c) a w) (hS : S w) (hy : YieldsIf P ops S ⟨some d, op, ty, pos, af, g⟩ v a)
    (h : wpAnyH P md ops Q S fuel (lst n m') (a.put (some d) v) w) : wpAnyH P md ops Q S (fuel + 1) (lst n m) a w := by
  simp only [Bool.and_eq_true] at hc
  refine wpAnyH_take hi hc.1.1 hc.1.2 hc.2 hQ hy hS ?_
  rw [he]
  exact h
/-- The only one that may come up. -/
theorem rdH (i m' : Nat) {ds : Option Tmp} {op : Op} {ty : TypeId} {pos : String} {af : Array Edge} {g : Option (Nat × Bool)} {n m fuel : Nat} {a : Act} {w : World} (hi : ops[i]? = some ⟨ds, op, ty, pos, af, g⟩)
    (hr : Region.ready md ops (lst n m) = [i]) (he : (lst n m).setIfInBounds i true = lst n m')
    (h : ∀ K' : Act → World → Prop, Shut (∀ a w, S w → (S w → wpAnyH P md ops Q S fuel (lst n m') a w) → K' a w) → if Region.wanted ⟨ds, op, ty, pos, af, g⟩ (yielded ops a.tmps) = true then Oper.wp P ⟨ds, op, ty, pos, af, g⟩ a w K' Q else K' (a.put ds undef) w) : wpAnyH P md ops Q S (fuel + 1) (lst n m) a w :=
  wpAnyH_ready hr (by simp) (AllReadyH.cons hi (fun K' hK => h K' (by rw [he] at hK; exact hK)) AllReadyH.nil)
/-- An operation that reads is taken: number i, into slot d; m' has come up then. -/
theorem tkA (i d m' : Nat) {v : Value} {op : Op} {ty : TypeId} {pos : String} {af : Array Edge} {g : Option (Nat × Bool)} {n m fuel : Nat} {a a' : Act} {w : World}
    (h : wpAnyH P md ops Q S fuel (lst n m') a' w)
    (hi : ops[i]? = some ⟨some d, op, ty, pos, af, g⟩ := by rfl)
    (hc : (Region.noSelect ops && Region.free md ops (lst n m) i && (Region.ready md ops (lst n m)).contains i) = true := by kernel_rfl)
    (he : (lst n m).setIfInBounds i true = lst n m' := by kernel_rfl)
    (hQ : ∀ c a w, Q (.panic c) (a.put (some d) v) w → Q (.panic c) a w := by exact fun _ _ _ h => h)
    (hS : S w := by assumption)
    (hy : YieldsIf P ops S ⟨some d, op, ty, pos, af, g⟩ v a := by (refine Or.inl ⟨by rfl, ?_⟩; ((intro w hSw; (try dsimp only at hSw); go_simp) <;> with_reducible rfl)))
    (ha : a.put (some d) v = a' := by ((try simp only [Act.put, List.setIfInBounds_toArray, List.set_cons_zero, List.set_cons_succ]); rfl)) :
    wpAnyH P md ops Q S (fuel + 1) (lst n m) a w := by
  subst ha
  exact tkH i d m' v hi hc he hQ hS hy h
/-- The only one that may come up. -/
theorem rdA (i m' : Nat) {ds : Option Tmp} {op : Op} {ty : TypeId} {pos : String} {af : Array Edge} {g : Option (Nat × Bool)} {n m fuel : Nat} {a : Act} {w : World}
    (h : ∀ K' : Act → World → Prop, Shut (∀ a w, S w → (S w → wpAnyH P md ops Q S fuel (lst n m') a w) → K' a w) → if Region.wanted ⟨ds, op, ty, pos, af, g⟩ (yielded ops a.tmps) = true then Oper.wp P ⟨ds, op, ty, pos, af, g⟩ a w K' Q else K' (a.put ds undef) w)
    (hi : ops[i]? = some ⟨ds, op, ty, pos, af, g⟩ := by rfl) (hr : Region.ready md ops (lst n m) = [i] := by kernel_rfl) (he : (lst n m).setIfInBounds i true = lst n m' := by kernel_rfl) : wpAnyH P md ops Q S (fuel + 1) (lst n m) a w := rdH i m' hi hr he h
end

end Go.Proofs.YtjoonmpjcophnaaGreatDoor
namespace Go.Proofs.YtjoonmpjcophnaaGreatDoor
open Go.RowKit

theorem get_at {α : Type} (L : List α) (d : α) (i : Nat) (h : i < L.length) : L[i]? = some (L.getD i d) := by
  rw [List.getD_eq_getElem?_getD, List.getElem?_eq_getElem h]; rfl
end Go.Proofs.YtjoonmpjcophnaaGreatDoor
namespace Go.Proofs.YtjoonmpjcophnaaGreatDoor
open Go.RowKit

/-- What lies in a block, cell by cell. -/
def Tab (W : World) (g : Nat) (L : List Value) : Prop := ∀ j v, L[j]? = some v → W.cell? ⟨g, j, none⟩ = some v
theorem Tab.below {w w' : World} {g : Nat} {L : List Value} (h : Tab w g L) (hb : Below w.heap.size w w') : Tab w' g L := fun j v hv => keep1 hb (lt_of_cell (h j v hv)) (h j v hv)
end Go.Proofs.YtjoonmpjcophnaaGreatDoor
namespace Go.Proofs.YtjoonmpjcophnaaGreatDoor
open Go.RowKit

def codL : List Int := [0, 1, 2, 3, 4, 5, 11, 12, 13, 14, 15, 16, 17, 26, 27, 32, 33, 34, 35, 36, 63, 64, 65, 66, 67, 68]
def immL : List Int := [0, 0, 1, 1, 1, 12, 12, 2, 2, 3, 0, 4, 5, 0, 0, 4, 4, 4, 4, 4, 7, 7, 8, 9, 10, 11]
end Go.Proofs.YtjoonmpjcophnaaGreatDoor
namespace Go.Proofs.YtjoonmpjcophnaaGreatDoor
open Go.RowKit

theorem first_at (op : Int) : ∀ n, (∃ k, k < n ∧ codL.getD k 0 = op ∧ ∀ j, j < k → codL.getD j 0 ≠ op) ∨ ∀ j, j < n → codL.getD j 0 ≠ op
  | 0 => .inr (fun _ h => absurd h (by omega))
  | n + 1 => by
    rcases first_at op n with ⟨k, h1, h2, h3⟩ | h
    · exact .inl ⟨k, by omega, h2, h3⟩
    · by_cases e : codL.getD n 0 = op
      · exact .inl ⟨n, by omega, e, h⟩
      · refine .inr fun j hj => ?_
        by_cases hjn : j = n
        · subst hjn; exact e
        · exact h j (by omega)
end Go.Proofs.YtjoonmpjcophnaaGreatDoor
namespace Go.Proofs.YtjoonmpjcophnaaGreatDoor
open Go.RowKit

def gL : List Value := [.int .i64 69, .int .i64 11, .int .i64 0, .int .u8 127, .int .i64 80, .int .i64 11, .int .i64 0, .int .u8 126, .int .i64 91, .int .i64 6, .int .i64 1, .int .u8 125, .int .i64 97, .int .i64 6, .int .i64 1, .int .u8 124, .int .i64 103, .int .i64 18, .int .i64 2, .int .u8 127, .int .i64 121, .int .i64 18, .int .i64 2, .int .u8 126, .int .i64 139, .int .i64 14, .int .i64 3, .int .u8 125, .int .i64 153, .int .i64 14, .int .i64 3, .int .u8 124, .int .i64 167, .int .i64 25, .int .i64 4, .int .u8 0, .int .i64 64512, .int .i64 8, .int .i64 5, .int .u8 0]
def cL : List Value := [126, 127, 125, 127, 125, 127, 124, 127, 124, 127, 127, 126, 127, 126, 125, 126, 125, 126, 124, 126, 124, 126, 127, 125, 127, 125, 126, 125, 126, 125, 124, 125, 127, 124, 127, 124, 126, 124, 126, 124, 125, 124, 125, 127, 124, 126, 127, 125, 126, 124].map fun n : Int => .int .u8 n
def sL : List Value := [125, 127, 125, 127, 124, 127, 124, 127, 125, 126, 125, 126, 124, 126, 124, 126].map fun n : Int => .int .u8 n
structure Mk (W : World) : Prop where
  groups : Tab W 1 gL
  changed : Tab W 2 cL
  stopped : Tab W 3 sL
theorem Mk.below {w w' : World} (h : Mk w) (hb : Below w.heap.size w w') : Mk w' :=
  ⟨h.groups.below hb, h.changed.below hb, h.stopped.below hb⟩
/-- What a function answers where the variables hold that. -/
def Cm (f : Nat) (args : Array Value) (res : Value) : Prop := Hid (∀ W, Mk W → Calls Tryz.prog f args W fun r W' => r = .returned res ∧ Below W.heap.size W W')
theorem Ct.m {f : Nat} {args : Array Value} {res : Value} (h : Ct f args res) : Cm f args res := fun W _ => h W
end Go.Proofs.YtjoonmpjcophnaaGreatDoor
namespace Go.Proofs.YtjoonmpjcophnaaGreatDoor
open Go.RowKit

theorem one_l (l a : Int) : Ct 193 #[.int .i64 l, .int .i64 a] (.int .i64 (if a ≤ l then 1 else 2)) := by
  refine hide (fun W => ?_)
  by_cases h : a ≤ l
  · rw [if_pos h]
    go_enter Tryz.func193, Tryz.ntmps193
    go_wp2_with fail
    go_ret
    exact ⟨rfl, Below.refl _ _⟩
  · rw [if_neg h]
    go_enter Tryz.func193, Tryz.ntmps193
    go_wp2_with fail
    go_ret
    exact ⟨rfl, Below.refl _ _⟩
set_option maxHeartbeats 4000000 in
set_option maxRecDepth 100000 in
theorem types_0 (f n o a : Int) : Ct 191 #[.agg #[.int .i64 f, .int .i64 n, .int .i64 0, .int .u8 o], .int .i64 a] (.agg #[.int .u8 o, .int .u8 127]) := by
  refine hide (fun W => ?_)
  go_enter Tryz.func191, Tryz.ntmps191
  go_wp2_with fail
  exact bodyPost_ret (v := .agg #[.int .u8 o, .int .u8 127]) (by simp [results, Tryz.results191, go_sem]) rfl ⟨rfl, below2 _ _ _⟩
set_option maxHeartbeats 4000000 in
set_option maxRecDepth 100000 in
theorem types_1 (f n o a : Int) : Ct 191 #[.agg #[.int .i64 f, .int .i64 n, .int .i64 1, .int .u8 o], .int .i64 a] (.agg #[.int .u8 o, .int .u8 127]) := by
  refine hide (fun W => ?_)
  go_enter Tryz.func191, Tryz.ntmps191
  go_wp2_with fail
  exact bodyPost_ret (v := .agg #[.int .u8 o, .int .u8 127]) (by simp [results, Tryz.results191, go_sem]) rfl ⟨rfl, below2 _ _ _⟩
set_option maxHeartbeats 4000000 in
set_option maxRecDepth 100000 in
theorem types_2 (f n o a : Int) : Ct 191 #[.agg #[.int .i64 f, .int .i64 n, .int .i64 2, .int .u8 o], .int .i64 a] (.agg #[.int .u8 o, .int .u8 o]) := by
  refine hide (fun W => ?_)
  go_enter Tryz.func191, Tryz.ntmps191
  go_wp2_with fail
  exact bodyPost_ret (v := .agg #[.int .u8 o, .int .u8 o]) (by simp [results, Tryz.results191, go_sem]) rfl ⟨rfl, below2 _ _ _⟩
set_option maxHeartbeats 4000000 in
set_option maxRecDepth 100000 in
theorem types_3 (f n o a : Int) : Ct 191 #[.agg #[.int .i64 f, .int .i64 n, .int .i64 3, .int .u8 o], .int .i64 a] (.agg #[.int .u8 o, .int .u8 o]) := by
  refine hide (fun W => ?_)
  go_enter Tryz.func191, Tryz.ntmps191
  go_wp2_with fail
  exact bodyPost_ret (v := .agg #[.int .u8 o, .int .u8 o]) (by simp [results, Tryz.results191, go_sem]) rfl ⟨rfl, below2 _ _ _⟩
set_option maxHeartbeats 4000000 in
set_option maxRecDepth 100000 in
theorem types_4 (f n o : Int) {x y : Int} {a : Nat} (h : a < 25) (hx : cL[a * 2]? = some (.int .u8 x)) (hy : cL[a * 2 + 1]? = some (.int .u8 y)) : Cm 191 #[.agg #[.int .i64 f, .int .i64 n, .int .i64 4, .int .u8 o], .int .i64 (a : Int)] (.agg #[.int .u8 x, .int .u8 y]) := by
  refine hide (fun W m => ?_)
  have c0 := fun o1 o2 => keep1 (below2 W o1 o2) (lt_of_cell (m.changed _ _ hx)) (m.changed _ _ hx)
  have c1 := fun o1 o2 => keep1 (below2 W o1 o2) (lt_of_cell (m.changed _ _ hy)) (m.changed _ _ hy)
  clear hx hy m
  go_enter Tryz.func191, Tryz.ntmps191
  go_wp2_with fail
  exact bodyPost_ret (v := .agg #[.int .u8 x, .int .u8 y]) (by simp [results, Tryz.results191, go_sem]) rfl ⟨rfl, below2 _ _ _⟩
set_option maxHeartbeats 4000000 in
set_option maxRecDepth 100000 in
theorem types_5 (f n o : Int) {x y : Int} {a : Nat} (h : a < 8) (hx : sL[a * 2]? = some (.int .u8 x)) (hy : sL[a * 2 + 1]? = some (.int .u8 y)) : Cm 191 #[.agg #[.int .i64 f, .int .i64 n, .int .i64 5, .int .u8 o], .int .i64 (a : Int)] (.agg #[.int .u8 x, .int .u8 y]) := by
  refine hide (fun W m => ?_)
  have c0 := fun o1 o2 => keep1 (below2 W o1 o2) (lt_of_cell (m.stopped _ _ hx)) (m.stopped _ _ hx)
  have c1 := fun o1 o2 => keep1 (below2 W o1 o2) (lt_of_cell (m.stopped _ _ hy)) (m.stopped _ _ hy)
  clear hx hy m
  go_enter Tryz.func191, Tryz.ntmps191
  go_wp2_with fail
  exact bodyPost_ret (v := .agg #[.int .u8 x, .int .u8 y]) (by simp [results, Tryz.results191, go_sem]) rfl ⟨rfl, below2 _ _ _⟩
end Go.Proofs.YtjoonmpjcophnaaGreatDoor
