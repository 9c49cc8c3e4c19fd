/- Base, Tk, Var, Laid, Leaf, Bits, Ends, NuA, NuB, Ref, Open, SgA, SgB, ChA. -/
import Derived.Test.YtpbgpdmffejdgaaGreatDoorRows
import Derived.WalkKit
import Derived.WalkSpells
import Derived.WalkLawsBesides
import Derived.Laws.MathBits
import Derived.Laws.Pointers
import Derived.Deep.RegionHeld3
import Derived.RowKit3
import Derived.Laws.Bits64b
import Derived.Shelf.Spec.TrailingZeros
import Derived.Test.YtpbgpdmffejdgaaGreatDoorTie
import Derived.ProofKit
import Derived.LaidMore
import Derived.OpenShut
import Derived.Stop.Joined
import Derived.Lib.SmallJoins
import Derived.LoopN
namespace Go.Proofs.YtpbgpdmffejdgaaGreatDoor
open Go.RowKit

theorem hide {p : Prop} (h : p) : Hid p := h
theorem unhide {p : Prop} (h : Hid p) : p := h
/-- What a function answers, in every world. -/
def Ct (f : Nat) (args : Array Value) (res : Value) : Prop := Hid (∀ W, Calls Tryz.prog f args W fun r W' => r = .returned res ∧ Below W.heap.size W W')
theorem bthen {a b c : World} (h : Below a.heap.size a b) (k : Below b.heap.size b c) : Below a.heap.size a c := h.trans (k.mono h.size)
theorem balloc {a b : World} (h : Below a.heap.size a b) (o : Obj) : Below a.heap.size a (b.alloc o) := h.alloc h.size o
theorem below1 (w : World) (o1 : Obj) : Below w.heap.size w (w.alloc o1) := (Below.refl _ _).alloc (Nat.le_refl _) _
theorem below2 (w : World) (o1 o2 : Obj) : Below w.heap.size w ((w.alloc o1).alloc o2) := ((Below.refl _ _).alloc (Nat.le_refl _) _).alloc (by simp) _
theorem ret1 {k : IntKind} {a c : Int} (h1 : a = c) : Ending.returned (.int k a) = .returned (.int k c) := by rw [h1]
/-- The sizes of a width's fields, with the powers of two that go with them: P of the fraction, Q of the exponent, and the bias. -/
def Sz (e f P Q b : Int) : Prop := (e = 8 ∧ f = 23 ∧ P = 8388608 ∧ Q = 256 ∧ b = 127) ∨ (e = 11 ∧ f = 52 ∧ P = 4503599627370496 ∧ Q = 2048 ∧ b = 1023) ∨ (e = 0 ∧ f = 0 ∧ P = 1 ∧ Q = 1 ∧ b = -1)
def Wd (w e f P Q b : Int) : Prop := (w = 32 ∧ e = 8 ∧ f = 23 ∧ P = 8388608 ∧ Q = 256 ∧ b = 127) ∨ (w = 64 ∧ e = 11 ∧ f = 52 ∧ P = 4503599627370496 ∧ Q = 2048 ∧ b = 1023) ∨ ((w ≠ 32 ∧ w ≠ 64) ∧ e = 0 ∧ f = 0 ∧ P = 1 ∧ Q = 1 ∧ b = -1)
theorem Wd.sz {w e f P Q b : Int} (h : Wd w e f P Q b) : Sz e f P Q b := by
  rcases h with h | h | h
  · exact Or.inl h.2
  · exact Or.inr (Or.inl h.2)
  · exact Or.inr (Or.inr h.2)
set_option maxHeartbeats 400000 in
theorem sizesOf_any {w e f P Q b : Int} (h : Wd w e f P Q b) (W : World) :
    Calls Tryz.prog 60 #[.int .i64 w] W fun r W' => r = .returned (.agg #[.int .i64 e, .int .i64 f]) ∧ Below W.heap.size W W' := by
  rcases h with ⟨rfl, rfl, rfl, rfl, rfl, rfl⟩ | ⟨rfl, rfl, rfl, rfl, rfl, rfl⟩ | ⟨⟨h1, h2⟩, rfl, rfl, rfl, rfl, rfl⟩
  all_goals
    go_enter Tryz.func60, Tryz.ntmps60
    go_wp2
    refine bodyPost_ret (v := .agg #[.int .i64 _, .int .i64 _]) (by simp [results, Tryz.results60, go_sem]) rfl ⟨rfl, below1 _ _⟩

set_option maxHeartbeats 400000 in
theorem known_any (e f : Int) (W : World) :
    Calls Tryz.prog 47 #[.agg #[.int .i64 e, .int .i64 f]] W fun r W' => r = .returned (.bool (f != 0)) ∧ Below W.heap.size W W' := by
  go_enter Tryz.func47, Tryz.ntmps47
  go_wp2
  go_ret
  exact ⟨rfl, below1 _ _⟩

set_option maxHeartbeats 400000 in
theorem last_any {e f P Q b : Int} (h : Sz e f P Q b) (W : World) :
    Calls Tryz.prog 49 #[.agg #[.int .i64 e, .int .i64 f]] W fun r W' => r = .returned (.int .u64 (Q - 1)) ∧ Below W.heap.size W W' := by
  rcases h with ⟨rfl, rfl, rfl, rfl, rfl⟩ | ⟨rfl, rfl, rfl, rfl, rfl⟩ | ⟨rfl, rfl, rfl, rfl, rfl⟩
  all_goals
    go_enter Tryz.func49, Tryz.ntmps49
    go_wp2
    go_ret
    exact ⟨rfl, below1 _ _⟩

set_option maxHeartbeats 400000 in
theorem one_any {e f P Q b : Int} (h : Sz e f P Q b) (W : World) :
    Calls Tryz.prog 51 #[.agg #[.int .i64 e, .int .i64 f]] W fun r W' => r = .returned (.int .u64 P) ∧ Below W.heap.size W W' := by
  rcases h with ⟨rfl, rfl, rfl, rfl, rfl⟩ | ⟨rfl, rfl, rfl, rfl, rfl⟩ | ⟨rfl, rfl, rfl, rfl, rfl⟩
  all_goals
    go_enter Tryz.func51, Tryz.ntmps51
    go_wp2
    go_ret
    exact ⟨rfl, below1 _ _⟩

set_option maxHeartbeats 400000 in
theorem power_any {e f P Q b : Int} (x : Int) (h : Sz e f P Q b) (W : World) (h1 : -5000 ≤ x) (h2 : x ≤ 5000) :
    Calls Tryz.prog 50 #[.agg #[.int .i64 e, .int .i64 f], .int .i64 x] W fun r W' => r = .returned (.int .i64 (x - b - f)) ∧ Below W.heap.size W W' := by
  rcases h with ⟨rfl, rfl, rfl, rfl, rfl⟩ | ⟨rfl, rfl, rfl, rfl, rfl⟩ | ⟨rfl, rfl, rfl, rfl, rfl⟩
  all_goals
    go_enter Tryz.func50, Tryz.ntmps50
    go_wp2
    go_ret
    exact ⟨ret1 (by omega), below1 _ _⟩

theorem least_any {e f P Q b : Int} (h : Sz e f P Q b) (W : World) :
    Calls Tryz.prog 52 #[.agg #[.int .i64 e, .int .i64 f]] W fun r W' => r = .returned (.int .i64 (1 - b - f)) ∧ Below W.heap.size W W' := by
  go_enter Tryz.func52, Tryz.ntmps52
  go_wp2_with (go_at_call 50; refine (power_any 1 h _ (by omega) (by omega)).mono ?_; rintro _ w1 ⟨rfl, hb1⟩)
  go_ret
  exact ⟨rfl, bthen (below1 _ _) hb1⟩

theorem bcell {W w1 : World} (hb : Below W.heap.size W w1) (b o : Nat) (h : b < W.heap.size) : w1.cell? ⟨b, o, none⟩ = W.cell? ⟨b, o, none⟩ := hb.cell (p := ⟨b, o, none⟩) h
theorem keep1 {W w' : World} {b o : Nat} {x : Value} (hb : Below W.heap.size W w') (hz : b < W.heap.size) (h : W.cell? ⟨b, o, none⟩ = some x) : w'.cell? ⟨b, o, none⟩ = some x := by rw [bcell hb b o hz]; exact h
theorem lt_of_cell {W : World} {b o : Nat} {x : Value} (h : W.cell? ⟨b, o, none⟩ = some x) : b < W.heap.size := by
  apply Decidable.byContradiction
  intro hn
  simp [World.cell?, Nat.le_of_not_lt hn] at h
/-- A block that holds two values. -/
def At2 (b : Nat) (x y : Value) (w : World) : Prop := w.cell? ⟨b, 0, none⟩ = some x ∧ w.cell? ⟨b, 1, none⟩ = some y
def At5 (b : Nat) (x y z u v : Value) (w : World) : Prop := w.cell? ⟨b, 0, none⟩ = some x ∧ w.cell? ⟨b, 1, none⟩ = some y ∧ w.cell? ⟨b, 2, none⟩ = some z ∧ w.cell? ⟨b, 3, none⟩ = some u ∧ w.cell? ⟨b, 4, none⟩ = some v
theorem At2.below {b : Nat} {x y : Value} {w w' : World} (h : At2 b x y w) (hb : Below w.heap.size w w') : At2 b x y w' :=
  have hz := lt_of_cell h.1
  ⟨keep1 hb hz h.1, keep1 hb hz h.2⟩
theorem At5.below {b : Nat} {x y z u v : Value} {w w' : World} (h : At5 b x y z u v w) (hb : Below w.heap.size w w') : At5 b x y z u v w' :=
  have hz := lt_of_cell h.1
  ⟨keep1 hb hz h.1, keep1 hb hz h.2.1, keep1 hb hz h.2.2.1, keep1 hb hz h.2.2.2.1, keep1 hb hz h.2.2.2.2⟩

theorem i64_id {x : Int} (h1 : -9223372036854775808 ≤ x) (h2 : x < 9223372036854775808) : IntKind.i64.wrap x = x := by
  simp only [IntKind.wrap, IntKind.bits, IntKind.signed]
  simp
  omega

section
variable {P : Program} {ops : Array Oper} {Q : Exit → Act → World → Prop} {md : Region.Mode} {S : World → Prop}
theorem anyH_at {fuel : Nat} {listed : Array Bool} {a : Act} {w : World} (l : Array Bool) (h : listed = l) (k : wpAnyH P md ops Q S fuel l a w) : wpAnyH P md ops Q S fuel listed a w := h ▸ k
end
/-- What is kept where only new memory is touched. -/
def Stable (T : World → Prop) : Prop := ∀ w w', T w → Below w.heap.size w w' → T w'
theorem Stable.and {A B : World → Prop} (ha : Stable A) (hb : Stable B) : Stable (fun w => A w ∧ B w) := fun w w' h k => ⟨ha w w' h.1 k, hb w w' h.2 k⟩
theorem stable_cell (p : Addr) (v : Value) : Stable (fun w => w.cell? p = some v) := fun w _ h k => (k.cell (World.block_lt_of_cell? w p h)).trans h
/-- A block that can be written. -/
def Room (b n : Nat) (w : World) : Prop := ∀ o, o < n → (∃ v, w.cell? ⟨b, o, none⟩ = some v) ∧ w.frozen? ⟨b, o, none⟩ = false
theorem stable_room (b n : Nat) : Stable (Room b n) := fun w _ h k o ho => by
  obtain ⟨⟨v, h1⟩, h2⟩ := h o ho
  have hz := World.block_lt_of_cell? w _ h1
  exact ⟨⟨v, (k.cell hz).trans h1⟩, (k.frozen hz).trans h2⟩
theorem Room.below {b n : Nat} {w w' : World} (h : Room b n w) (hb : Below w.heap.size w w') : Room b n w' := stable_room b n w w' h hb
theorem Room.drew {b n : Nat} {w : World} (h : Room b n w) : Room b n w.drew := h.below ((Below.refl _ _).drew)
theorem Room.alloc {b n : Nat} {w : World} (h : Room b n w) (o : Obj) : Room b n (w.alloc o) := h.below (below1 w o)

/-- Nothing is asked of a world. -/
def Free (_ : World) : Prop := True
theorem free (w : World) : Free w := True.intro

theorem frozen_set (w : World) (p q : Addr) (v : Value) : (w.setCell p v).frozen? q = w.frozen? q := by simp [go_sem]
theorem keep_set {w : World} {b o : Nat} {x : Value} (b' o' : Nat) (v : Value) (hne : b ≠ b') (h : w.cell? ⟨b, o, none⟩ = some x) : (w.setCell ⟨b', o', none⟩ v).cell? ⟨b, o, none⟩ = some x := by
  rw [World.cell?_setCell_other _ _ _ _ (by intro he; injection he with he1; exact hne he1.symm)]; exact h
theorem Room.set {b n : Nat} {w : World} (h : Room b n w) (o' : Nat) (v : Value) : Room b n (w.setCell ⟨b, o', none⟩ v) := fun o ho => by
  obtain ⟨⟨u, h1⟩, h2⟩ := h o ho
  refine ⟨?_, by rw [frozen_set]; exact h2⟩
  by_cases he : o = o'
  · subst he; exact ⟨v, World.cell?_setCell_same _ _ _ h1⟩
  · exact ⟨u, by rw [World.cell?_setCell_other _ _ _ _ (by intro hh; injection hh with _ h3; exact he h3.symm)]; exact h1⟩
theorem bset {a b : World} (h : Below a.heap.size a b) (n : Nat) (hn : a.heap.size ≤ n) (o : Nat) (v : Value) : Below a.heap.size a (b.setCell ⟨n, o, none⟩ v) := h.setCell hn v

theorem and_mask (k : Nat) (z m : Int) (h0 : 0 ≤ z) (h1 : z < 18446744073709551616) (hm : m = ((2 ^ k - 1 : Nat) : Int)) (hk : k ≤ 63) : bits .and .u64 z m = z % ((2 ^ k : Nat) : Int) := by
  obtain ⟨Z, rfl⟩ := Int.eq_ofNat_of_zero_le h0
  have hp : 2 ^ k ≤ 2 ^ 63 := Nat.pow_le_pow_right (by omega) hk
  rw [hm, Go.bits_and_u64_nat Z (2 ^ k - 1) (by omega) (by omega), Nat.and_two_pow_sub_one_eq_mod, Int.natCast_emod]

set_option maxHeartbeats 1000000 in
theorem most_any {e f P Q b : Int} (h : Sz e f P Q b) (W : World) :
    Calls Tryz.prog 289 #[.agg #[.int .i64 e, .int .i64 f]] W fun r W' => r = .returned (.int .i64 (Q - 2 - b - f)) ∧ Below W.heap.size W W' := by
  have hQ : IntKind.i64.wrap (IntKind.i64.wrap (Q - 1) - 1) = Q - 2 ∧ -5000 ≤ Q - 2 ∧ Q - 2 ≤ 5000 := by
    have : 1 ≤ Q ∧ Q ≤ 2048 := by rcases h with h | h | h <;> omega
    rw [i64_id (x := Q - 1) (by omega) (by omega), i64_id (by omega) (by omega)]
    omega
  obtain ⟨q1, q2, q3⟩ := hQ
  go_enter Tryz.func289, Tryz.ntmps289
  go_wp2_with fail
  go_region_held3 (fun w' => w'.cell? ⟨W.heap.size, 0, none⟩ = some (.int .i64 e) ∧ w'.cell? ⟨W.heap.size, 1, none⟩ = some (.int .i64 f)) (first | exact At2.below ‹_› (by assumption) | (simp [go_sem]; done))
    (first
      | (go_at_call 49; refine (last_any h _).mono ?_; rintro _ w1 ⟨rfl, hb1⟩)
      | (go_at_call 50; refine (power_any _ h _ q2 q3).mono ?_; rintro _ w2 ⟨rfl, hb2⟩))
  go_wp2
  go_ret
  exact ⟨rfl, bthen (bthen (below1 _ _).drew hb1) hb2⟩

end Go.Proofs.YtpbgpdmffejdgaaGreatDoor
namespace Go.Proofs.YtpbgpdmffejdgaaGreatDoor
open Go.RowKit

section
variable {P : Program} {ops : Array Oper} {Q : Exit → Act → World → Prop} {md : Region.Mode} {S : World → Prop}
/-- The first n bits of a number. -/
def lsb : Nat → Nat → List Bool
  | 0, _ => []
  | n + 1, m => (m % 2 == 1) :: lsb n (m / 2)
def lst (n m : Nat) : Array Bool := ⟨lsb n m⟩
theorem lst0 (n : Nat) {fuel : Nat} {listed : Array Bool} {a : Act} {w : World} (h : listed = lst n 0) (k : wpAnyH P md ops Q S fuel (lst n 0) a w) : wpAnyH P md ops Q S fuel listed a w := h ▸ k
/-- An operation that reads is taken: number i, into slot d; m' has come up then. -/
theorem tkH (i d m' : Nat) (v : Value) {op : Op} {ty : TypeId} {pos : String} {af : Array Edge} {g : Option (Nat × Bool)} {n m fuel : Nat} {a : Act} {w : World} (hi : ops[i]? = some ⟨some d, op, ty, pos, af, g⟩)
    (hc : (Region.noSelect ops && Region.free md ops (lst n m) i && (Region.ready md ops (lst n m)).contains i) = true) (he : (lst n m).setIfInBounds i true = lst n m')
    (hQ : ∀ c a w, Q (.panic c) (a.put (some d) v) w → Q (.panic c) a w) (hS : S w) (hy : YieldsIf P ops S ⟨some d, op, ty, pos, af, g⟩ v a)
    (h : wpAnyH P md ops Q S fuel (lst n m') (a.put (some d) v) w) : wpAnyH P md ops Q S (fuel + 1) (lst n m) a w := by
  simp only [Bool.and_eq_true] at hc
  refine wpAnyH_take hi hc.1.1 hc.1.2 hc.2 hQ hy hS ?_
  rw [he]
  exact h
/-- The only one that may come up. -/
theorem rdH (i m' : Nat) {ds : Option Tmp} {op : Op} {ty : TypeId} {pos : String} {af : Array Edge} {g : Option (Nat × Bool)} {n m fuel : Nat} {a : Act} {w : World} (hi : ops[i]? = some ⟨ds, op, ty, pos, af, g⟩)
    (hr : Region.ready md ops (lst n m) = [i]) (he : (lst n m).setIfInBounds i true = lst n m')
    (h : ∀ K' : Act → World → Prop, Shut (∀ a w, S w → (S w → wpAnyH P md ops Q S fuel (lst n m') a w) → K' a w) → if Region.wanted ⟨ds, op, ty, pos, af, g⟩ (yielded ops a.tmps) = true then Oper.wp P ⟨ds, op, ty, pos, af, g⟩ a w K' Q else K' (a.put ds undef) w) : wpAnyH P md ops Q S (fuel + 1) (lst n m) a w :=
  wpAnyH_ready hr (by simp) (AllReadyH.cons hi (fun K' hK => h K' (by rw [he] at hK; exact hK)) AllReadyH.nil)
/-- An operation that reads is taken: number i, into slot d; m' has come up then. -/
theorem tkA (i d m' : Nat) {v : Value} {op : Op} {ty : TypeId} {pos : String} {af : Array Edge} {g : Option (Nat × Bool)} {n m fuel : Nat} {a a' : Act} {w : World}
    (h : wpAnyH P md ops Q S fuel (lst n m') a' w)
    (hi : ops[i]? = some ⟨some d, op, ty, pos, af, g⟩ := by rfl)
    (hc : (Region.noSelect ops && Region.free md ops (lst n m) i && (Region.ready md ops (lst n m)).contains i) = true := by kernel_rfl)
    (he : (lst n m).setIfInBounds i true = lst n m' := by kernel_rfl)
    (hQ : ∀ c a w, Q (.panic c) (a.put (some d) v) w → Q (.panic c) a w := by exact fun _ _ _ h => h)
    (hS : S w := by assumption)
    (hy : YieldsIf P ops S ⟨some d, op, ty, pos, af, g⟩ v a := by (refine Or.inl ⟨by rfl, ?_⟩; ((intro w hSw; (try dsimp only at hSw); go_simp) <;> with_reducible rfl)))
    (ha : a.put (some d) v = a' := by ((try simp only [Act.put, List.setIfInBounds_toArray, List.set_cons_zero, List.set_cons_succ]); rfl)) :
    wpAnyH P md ops Q S (fuel + 1) (lst n m) a w := by
  subst ha
  exact tkH i d m' v hi hc he hQ hS hy h
/-- One that is not wanted. -/
theorem tkU (i d m' : Nat) {op : Op} {ty : TypeId} {pos : String} {af : Array Edge} {g : Option (Nat × Bool)} {n m fuel : Nat} {a a' : Act} {w : World}
    (h : wpAnyH P md ops Q S fuel (lst n m') a' w)
    (hi : ops[i]? = some ⟨some d, op, ty, pos, af, g⟩ := by rfl)
    (hc : (Region.noSelect ops && Region.free md ops (lst n m) i && (Region.ready md ops (lst n m)).contains i) = true := by kernel_rfl)
    (he : (lst n m).setIfInBounds i true = lst n m' := by kernel_rfl)
    (hQ : ∀ c a w, Q (.panic c) (a.put (some d) undef) w → Q (.panic c) a w := by exact fun _ _ _ h => h)
    (hS : S w := by assumption)
    (hy : YieldsIf P ops S ⟨some d, op, ty, pos, af, g⟩ undef a := by exact Or.inr ⟨by rfl, rfl⟩)
    (ha : a.put (some d) undef = a' := by ((try simp only [Act.put, List.setIfInBounds_toArray, List.set_cons_zero, List.set_cons_succ]); rfl)) :
    wpAnyH P md ops Q S (fuel + 1) (lst n m) a w := by
  subst ha
  exact tkH i d m' undef hi hc he hQ hS hy h
/-- The only one that may come up. -/
theorem rdA (i m' : Nat) {ds : Option Tmp} {op : Op} {ty : TypeId} {pos : String} {af : Array Edge} {g : Option (Nat × Bool)} {n m fuel : Nat} {a : Act} {w : World}
    (h : ∀ K' : Act → World → Prop, Shut (∀ a w, S w → (S w → wpAnyH P md ops Q S fuel (lst n m') a w) → K' a w) → if Region.wanted ⟨ds, op, ty, pos, af, g⟩ (yielded ops a.tmps) = true then Oper.wp P ⟨ds, op, ty, pos, af, g⟩ a w K' Q else K' (a.put ds undef) w)
    (hi : ops[i]? = some ⟨ds, op, ty, pos, af, g⟩ := by rfl) (hr : Region.ready md ops (lst n m) = [i] := by kernel_rfl) (he : (lst n m).setIfInBounds i true = lst n m' := by kernel_rfl) : wpAnyH P md ops Q S (fuel + 1) (lst n m) a w := rdH i m' hi hr he h
end

end Go.Proofs.YtpbgpdmffejdgaaGreatDoor
namespace Go.Proofs.YtpbgpdmffejdgaaGreatDoor
open Go.RowKit

/-- The variable's first cells hold the list. -/
def Tab (W : World) (g : Nat) (L : List Value) : Prop := ∀ j v, L[j]? = some v → W.cell? ⟨g, j, none⟩ = some v
theorem Tab.below {w w' : World} {g : Nat} {L : List Value} (h : Tab w g L) (hb : Below w.heap.size w w') : Tab w' g L := fun j v hv => keep1 hb (lt_of_cell (h j v hv)) (h j v hv)
def gL : List Value := [.int .i64 69, .int .i64 11, .int .i64 0, .int .u8 127, .int .i64 80, .int .i64 11, .int .i64 0, .int .u8 126, .int .i64 91, .int .i64 6, .int .i64 1, .int .u8 125, .int .i64 97, .int .i64 6, .int .i64 1, .int .u8 124, .int .i64 103, .int .i64 18, .int .i64 2, .int .u8 127, .int .i64 121, .int .i64 18, .int .i64 2, .int .u8 126, .int .i64 139, .int .i64 14, .int .i64 3, .int .u8 125, .int .i64 153, .int .i64 14, .int .i64 3, .int .u8 124, .int .i64 167, .int .i64 25, .int .i64 4, .int .u8 0, .int .i64 64512, .int .i64 8, .int .i64 5, .int .u8 0]
def cL : List Value := [126, 127, 125, 127, 125, 127, 124, 127, 124, 127, 127, 126, 127, 126, 125, 126, 125, 126, 124, 126, 124, 126, 127, 125, 127, 125, 126, 125, 126, 125, 124, 125, 127, 124, 127, 124, 126, 124, 126, 124, 125, 124, 125, 127, 124, 126, 127, 125, 126, 124].map fun n : Int => .int .u8 n
def sL : List Value := [125, 127, 125, 127, 124, 127, 124, 127, 125, 126, 125, 126, 124, 126, 124, 126].map fun n : Int => .int .u8 n
structure Mk (W : World) : Prop where
  groups : Tab W 0 gL
  changed : Tab W 1 cL
  stopped : Tab W 2 sL
  marks : W.cell? ⟨3, 0, none⟩ = some (.int .i64 32) ∧ W.cell? ⟨3, 1, none⟩ = some (.int .u64 2147483648) ∧ W.cell? ⟨3, 2, none⟩ = some (.int .i64 64) ∧ W.cell? ⟨3, 3, none⟩ = some (.int .u64 9223372036854775808)
  tab : ∀ j, j < 64 → W.cell? ⟨4, j, none⟩ = some (.int .u8 (Lib.deBruijn64tab.getD j 0 : Nat))
theorem Mk.below {w w' : World} (h : Mk w) (hb : Below w.heap.size w w') : Mk w' :=
  have hz := lt_of_cell h.marks.1
  ⟨h.groups.below hb, h.changed.below hb, h.stopped.below hb, ⟨keep1 hb hz h.marks.1, keep1 hb hz h.marks.2.1, keep1 hb hz h.marks.2.2.1, keep1 hb hz h.marks.2.2.2⟩, fun j hj => keep1 hb (lt_of_cell (h.tab j hj)) (h.tab j hj)⟩
/-- What a function answers where the variables hold that. -/
def Cm (f : Nat) (args : Array Value) (res : Value) : Prop := Hid (∀ W, Mk W → Calls Tryz.prog f args W fun r W' => r = .returned res ∧ Below W.heap.size W W')
theorem Ct.m {f : Nat} {args : Array Value} {res : Value} (h : Ct f args res) : Cm f args res := fun W _ => h W
end Go.Proofs.YtpbgpdmffejdgaaGreatDoor
namespace Go.Proofs.YtpbgpdmffejdgaaGreatDoor
open Go.RowKit
open Go.ChangeShapes Go.WideShapes Go.ChangeAt Go.WideElems Go.Joins

def laidL : List (String × DataW Unit) := [("math/bits.deBruijn64tab", Rows.laid_math_bits_deBruijn64tab), ("trunnion/sign.marks", Rows.laid_trunnion_sign_marks), ("trunnion/numeric.groups", Rows.laid_trunnion_numeric_groups), ("trunnion/numeric.changed", Rows.laid_trunnion_numeric_changed), ("trunnion/numeric.stopped", Rows.laid_trunnion_numeric_stopped)]
theorem own : ownKnob Tryz.prog.godebug = none := by kernel_rfl
theorem gv4 : Tryz.prog.globalNamed "math/bits.deBruijn64tab" = some 4 := by kernel_rfl
theorem tv4 : (Tryz.prog.globals[4]?).map (·.type) = some 218 := by kernel_rfl
theorem gv3 : Tryz.prog.globalNamed "trunnion/sign.marks" = some 3 := by kernel_rfl
theorem tv3 : (Tryz.prog.globals[3]?).map (·.type) = some 188 := by kernel_rfl
theorem gv0 : Tryz.prog.globalNamed "trunnion/numeric.groups" = some 0 := by kernel_rfl
theorem tv0 : (Tryz.prog.globals[0]?).map (·.type) = some 93 := by kernel_rfl
theorem gv1 : Tryz.prog.globalNamed "trunnion/numeric.changed" = some 1 := by kernel_rfl
theorem tv1 : (Tryz.prog.globals[1]?).map (·.type) = some 94 := by kernel_rfl
theorem gv2 : Tryz.prog.globalNamed "trunnion/numeric.stopped" = some 2 := by kernel_rfl
theorem tv2 : (Tryz.prog.globals[2]?).map (·.type) = some 95 := by kernel_rfl
/-- The heap that the initialiser leaves meets the condition. -/
theorem door_met (os : Os) (args : Array Value) : laidMetH Tryz.prog laidL ((World.doorLaid Tryz.prog 400 os).forCall (fun _ _ => 0) ⟨#[], args, []⟩).memory :=
  laidMetH_of_parts3 (fuel := 8) (laidMet_of_run' 8 (by kernel_rfl) (by kernel_rfl)) (by kernel_rfl) (by kernel_rfl)
theorem cvI : Tryz.prog.cellsOf 3 = 1 := by kernel_rfl
theorem cvU : Tryz.prog.cellsOf 28 = 1 := by kernel_rfl
theorem cvB : Tryz.prog.cellsOf 5 = 1 := by kernel_rfl
theorem cvM : Tryz.prog.cellsOf 187 = 2 := by kernel_rfl
theorem cvG : Tryz.prog.cellsOf 55 = 4 := by kernel_rfl
theorem cvT : Tryz.prog.cellsOf 59 = 2 := by kernel_rfl
/-- Where each part lies as it should, the whole does. -/
theorem tab_parts {W : World} {g s : Nat} {cs : List Value} {α : Type} (D : List α) (c : α → List Value) (h : ∀ i a, D[i]? = some a → (cs.drop (i * s)).take s = c a) (hc : ∀ o, W.cell? ⟨g, o, none⟩ = cs[o]?) : Tab W g (D.flatMap c) := by
  have key : ∀ k, k ≤ D.length → (D.take k).flatMap c = cs.take (k * s) := by
    intro k
    induction k with
    | zero => intro _; simp
    | succ k ih =>
      intro hk
      have hg : D[k]? = some D[k] := List.getElem?_eq_getElem (by omega)
      rw [List.take_add_one, List.flatMap_append, ih (by omega), hg, Nat.add_mul, Nat.one_mul, List.take_add, h k _ hg]
      simp
  intro j v hv
  rw [← List.take_length (l := D), key _ (Nat.le_refl _)] at hv
  rw [hc j]
  rw [List.getElem?_take] at hv
  split at hv
  · exact hv
  · simp at hv
theorem tab_laid {H : Type} {enc : TypeId × Value → H} {W : World} {base : Nat} {sp : Nat → Bool} {hd : Bool} {m n g s : Nat} {e : TypeId} {cs : List Value} {xs : List (DataW H × List MemPlace)} {α : Type} (D : List α) (d : α → DataW H) (c : α → List Value) (hn : D.length = n)
    (hel : ∀ i, i < n → DataW.trod enc Tryz.prog W base sp hd m e ((cs.drop (i * s)).take s) = xs[i]?) (hx : D.map d = xs.map (·.1)) (hE : ∀ a x cs', DataW.trod enc Tryz.prog W base sp hd m e cs' = some x → x.1 = d a → cs' = c a) (hc : ∀ o, W.cell? ⟨g, o, none⟩ = cs[o]?) : Tab W g (D.flatMap c) := by
  refine tab_parts (s := s) D c (fun i a ha => ?_) hc
  have hi : i < D.length := by
    rcases List.getElem?_eq_some_iff.1 ha with ⟨h, _⟩
    exact h
  have h1 := congrArg (·[i]?) hx
  simp only [List.getElem?_map, ha, Option.map_some] at h1
  have h2 := hel i (by omega)
  cases hx' : xs[i]? with
  | none => rw [hx'] at h1; simp at h1
  | some x =>
    rw [hx'] at h1 h2
    simp only [Option.map_some, Option.some.injEq] at h1
    exact hE a x _ h2 h1.symm
set_option maxRecDepth 100000 in
theorem el_mark {H : Type} {enc : TypeId × Value → H} {W : World} {base : Nat} {sp : Nat → Bool} {hd : Bool} {n : Nat} (p : Int × Int) (x : DataW H × List MemPlace) (cs : List Value)
    (h : DataW.trod enc Tryz.prog W base sp hd n 187 cs = some x) (hx : x.1 = .agg [.lit (.int .i64 p.1), .lit (.int .u64 p.2)]) : cs = [.int .i64 p.1, .int .u64 p.2] := by
  obtain ⟨y0, y1, m, rfl, hl, h0, h1⟩ := trod_struct2 Tryz.underlying187 h
  rw [cvM] at hl
  obtain ⟨k0, e0, rfl, -⟩ := DataW.trod_int Tryz.underlying3 h0
  obtain ⟨k1, e1, rfl, -⟩ := DataW.trod_int Tryz.underlying28 h1
  simp only [DataW.agg.injEq, List.cons.injEq, DataW.lit.injEq, Lit.int.injEq, true_and, and_true] at hx
  obtain ⟨rfl, rfl⟩ := hx
  match cs, hl with
  | [v0, v1], _ =>
    simp [cvI] at e0
    simp [cvU] at e1
    rw [e0, e1]
set_option maxRecDepth 100000 in
theorem el_typed {H : Type} {enc : TypeId × Value → H} {W : World} {base : Nat} {sp : Nat → Bool} {hd : Bool} {n : Nat} (p : Int × Int) (x : DataW H × List MemPlace) (cs : List Value)
    (h : DataW.trod enc Tryz.prog W base sp hd n 59 cs = some x) (hx : x.1 = .agg [.lit (.int .u8 p.1), .lit (.int .u8 p.2)]) : cs = [.int .u8 p.1, .int .u8 p.2] := by
  obtain ⟨y0, y1, m, rfl, hl, h0, h1⟩ := trod_struct2 Tryz.underlying59 h
  rw [cvT] at hl
  obtain ⟨k0, e0, rfl, -⟩ := DataW.trod_int Tryz.underlying5 h0
  obtain ⟨k1, e1, rfl, -⟩ := DataW.trod_int Tryz.underlying5 h1
  simp only [DataW.agg.injEq, List.cons.injEq, DataW.lit.injEq, Lit.int.injEq, true_and, and_true] at hx
  obtain ⟨rfl, rfl⟩ := hx
  match cs, hl with
  | [v0, v1], _ =>
    simp [cvB] at e0
    simp [cvB] at e1
    rw [e0, e1]
set_option maxRecDepth 100000 in
theorem el_group {H : Type} {enc : TypeId × Value → H} {W : World} {base : Nat} {sp : Nat → Bool} {hd : Bool} {n : Nat} (p : Int × Int × Int × Int) (x : DataW H × List MemPlace) (cs : List Value)
    (h : DataW.trod enc Tryz.prog W base sp hd n 55 cs = some x) (hx : x.1 = .agg [.lit (.int .i64 p.1), .lit (.int .i64 p.2.1), .lit (.int .i64 p.2.2.1), .lit (.int .u8 p.2.2.2)]) : cs = [.int .i64 p.1, .int .i64 p.2.1, .int .i64 p.2.2.1, .int .u8 p.2.2.2] := by
  obtain ⟨y0, y1, y2, y3, m, rfl, hl, h0, h1, h2, h3⟩ := trod_struct4 Tryz.underlying55 h
  rw [cvG] at hl
  obtain ⟨k0, e0, rfl, -⟩ := DataW.trod_int Tryz.underlying3 h0
  obtain ⟨k1, e1, rfl, -⟩ := DataW.trod_int Tryz.underlying3 h1
  obtain ⟨k2, e2, rfl, -⟩ := DataW.trod_int Tryz.underlying3 h2
  obtain ⟨k3, e3, rfl, -⟩ := DataW.trod_int Tryz.underlying5 h3
  simp only [DataW.agg.injEq, List.cons.injEq, DataW.lit.injEq, Lit.int.injEq, true_and, and_true] at hx
  obtain ⟨rfl, rfl, rfl, rfl⟩ := hx
  match cs, hl with
  | [v0, v1, v2, v3], _ =>
    simp [cvI] at e0 e1 e2
    simp [cvB] at e3
    rw [e0, e1, e2, e3]
theorem el_byte {H : Type} {enc : TypeId × Value → H} {W : World} {base : Nat} {sp : Nat → Bool} {hd : Bool} {n : Nat} (p : Nat) (x : DataW H × List MemPlace) (cs : List Value)
    (h : DataW.trod enc Tryz.prog W base sp hd n 5 cs = some x) (hx : x.1 = .lit (.int .u8 (p : Int))) : cs = [.int .u8 (p : Int)] := by
  obtain ⟨k, e0, e1, -⟩ := DataW.trod_int Tryz.underlying5 h
  rw [e1] at hx
  simp only [DataW.lit.injEq, Lit.int.injEq, true_and] at hx
  rw [e0, hx]
def gD : List (Int × Int × Int × Int) := [(69, 11, 0, 127), (80, 11, 0, 126), (91, 6, 1, 125), (97, 6, 1, 124), (103, 18, 2, 127), (121, 18, 2, 126), (139, 14, 3, 125), (153, 14, 3, 124), (167, 25, 4, 0), (64512, 8, 5, 0)]
def cD : List (Int × Int) := [(126, 127), (125, 127), (125, 127), (124, 127), (124, 127), (127, 126), (127, 126), (125, 126), (125, 126), (124, 126), (124, 126), (127, 125), (127, 125), (126, 125), (126, 125), (124, 125), (127, 124), (127, 124), (126, 124), (126, 124), (125, 124), (125, 127), (124, 126), (127, 125), (126, 124)]
def sD : List (Int × Int) := [(125, 127), (125, 127), (124, 127), (124, 127), (125, 126), (125, 126), (124, 126), (124, 126)]
def mD : List (Int × Int) := [(32, 2147483648), (64, 9223372036854775808)]
set_option maxRecDepth 100000 in
theorem of_laid {W : World} (h : laidMetH Tryz.prog laidL W) : Mk W := by
  rw [MakeChecks.laidMetH_plain _ _ _ (by kernel_rfl)] at h
  obtain ⟨ps, ⟨g4', t4', ⟨cs4⟩, f4, p4, q4, hg4, ht4, hv4, hd4, ⟨g3', t3', ⟨cs3⟩, f3, p3, q3, hg3, ht3, hv3, hd3, ⟨g0', t0', ⟨cs0⟩, f0, p0, q0, hg0, ht0, hv0, hd0, ⟨g1', t1', ⟨cs1⟩, f1, p1, q1, hg1, ht1, hv1, hd1, ⟨g2', t2', ⟨cs2⟩, f2, p2, q2, hg2, ht2, hv2, hd2, _, _⟩, _⟩, _⟩, _⟩, _⟩, _, _⟩ := h
  obtain rfl := Option.some.inj (gv4.symm.trans hg4)
  obtain rfl := Option.some.inj (tv4.symm.trans ht4)
  obtain ⟨xs4, m4, -, hx4, -, -, hel4⟩ := DataW.trod_array Tryz.underlying218 hd4
  rw [cvB] at hel4
  have T4 := tab_laid Lib.deBruijn64tab (fun p : Nat => .lit (.int .u8 (p : Int))) (fun p : Nat => [.int .u8 (p : Int)]) rfl hel4 (by simp only [Prod.mk.injEq] at hx4; have hy := hx4.1; unfold Rows.laid_math_bits_deBruijn64tab at hy; injection hy) el_byte (fun o => by have := World.var?_cell hg4 hv4 o; simpa using this)
  obtain rfl := Option.some.inj (gv3.symm.trans hg3)
  obtain rfl := Option.some.inj (tv3.symm.trans ht3)
  obtain ⟨xs3, m3, -, hx3, -, -, hel3⟩ := DataW.trod_array Tryz.underlying188 hd3
  rw [cvM] at hel3
  have T3 := tab_laid mD (fun p => .agg [.lit (.int .i64 p.1), .lit (.int .u64 p.2)]) (fun p => [.int .i64 p.1, .int .u64 p.2]) rfl hel3 (by simp only [Prod.mk.injEq] at hx3; have hy := hx3.1; unfold Rows.laid_trunnion_sign_marks at hy; injection hy) el_mark (fun o => by have := World.var?_cell hg3 hv3 o; simpa using this)
  obtain rfl := Option.some.inj (gv0.symm.trans hg0)
  obtain rfl := Option.some.inj (tv0.symm.trans ht0)
  obtain ⟨xs0, m0, -, hx0, -, -, hel0⟩ := DataW.trod_array Tryz.underlying93 hd0
  rw [cvG] at hel0
  have T0 := tab_laid gD (fun p => .agg [.lit (.int .i64 p.1), .lit (.int .i64 p.2.1), .lit (.int .i64 p.2.2.1), .lit (.int .u8 p.2.2.2)]) (fun p => [.int .i64 p.1, .int .i64 p.2.1, .int .i64 p.2.2.1, .int .u8 p.2.2.2]) rfl hel0 (by simp only [Prod.mk.injEq] at hx0; have hy := hx0.1; unfold Rows.laid_trunnion_numeric_groups at hy; injection hy) el_group (fun o => by have := World.var?_cell hg0 hv0 o; simpa using this)
  obtain rfl := Option.some.inj (gv1.symm.trans hg1)
  obtain rfl := Option.some.inj (tv1.symm.trans ht1)
  obtain ⟨xs1, m1, -, hx1, -, -, hel1⟩ := DataW.trod_array Tryz.underlying94 hd1
  rw [cvT] at hel1
  have T1 := tab_laid cD (fun p => .agg [.lit (.int .u8 p.1), .lit (.int .u8 p.2)]) (fun p => [.int .u8 p.1, .int .u8 p.2]) rfl hel1 (by simp only [Prod.mk.injEq] at hx1; have hy := hx1.1; unfold Rows.laid_trunnion_numeric_changed at hy; injection hy) el_typed (fun o => by have := World.var?_cell hg1 hv1 o; simpa using this)
  obtain rfl := Option.some.inj (gv2.symm.trans hg2)
  obtain rfl := Option.some.inj (tv2.symm.trans ht2)
  obtain ⟨xs2, m2, -, hx2, -, -, hel2⟩ := DataW.trod_array Tryz.underlying95 hd2
  rw [cvT] at hel2
  have T2 := tab_laid sD (fun p => .agg [.lit (.int .u8 p.1), .lit (.int .u8 p.2)]) (fun p => [.int .u8 p.1, .int .u8 p.2]) rfl hel2 (by simp only [Prod.mk.injEq] at hx2; have hy := hx2.1; unfold Rows.laid_trunnion_numeric_stopped at hy; injection hy) el_typed (fun o => by have := World.var?_cell hg2 hv2 o; simpa using this)
  refine ⟨T0, T1, T2, ⟨T3 0 _ rfl, T3 1 _ rfl, T3 2 _ rfl, T3 3 _ rfl⟩, fun j hj => T4 j _ ?_⟩
  have hl : Lib.deBruijn64tab.length = 64 := rfl
  rw [show (Lib.deBruijn64tab.flatMap fun p : Nat => [Value.int .u8 (p : Int)]) = Lib.deBruijn64tab.map fun p : Nat => Value.int .u8 (p : Int) from rfl, List.getElem?_map, List.getElem?_eq_getElem (by omega), List.getD_eq_getElem?_getD, List.getElem?_eq_getElem (by omega)]
  rfl
theorem uwf {x : Int} (h : (Lit.int .u64 x).wf = true) : 0 ≤ x ∧ x < 18446744073709551616 := by
  simp [Lit.wf, IntKind.min, IntKind.max, IntKind.signed, IntKind.bits] at h
  exact ⟨by omega, by omega⟩
theorem iwf {x : Int} (h : (Lit.int .i64 x).wf = true) : -9223372036854775808 ≤ x ∧ x ≤ 9223372036854775807 := by
  simp [Lit.wf, IntKind.min, IntKind.max, IntKind.signed, IntKind.bits] at h
  exact ⟨by omega, by omega⟩
end Go.Proofs.YtpbgpdmffejdgaaGreatDoor
namespace Go.Proofs.YtpbgpdmffejdgaaGreatDoor
open Go.RowKit

set_option maxHeartbeats 1000000 in
theorem isNan_no {e f P Q b : Int} (n : Bool) (x y : Int) (h : Sz e f P Q b) (W : World) (hq : (x == Q - 1) = false) :
    Calls Tryz.prog 48 #[.agg #[.int .i64 e, .int .i64 f, .bool n, .int .u64 x, .int .u64 y]] W fun r W' => r = .returned (.bool (x == Q - 1 && y != 0)) ∧ Below W.heap.size W W' := by
  go_enter Tryz.func48, Tryz.ntmps48
  go_wp2_with fail
  refine wp_region_held_drew (S := fun w' => w'.cell? ⟨W.heap.size, 0, none⟩ = some (.int .i64 e) ∧ w'.cell? ⟨W.heap.size, 1, none⟩ = some (.int .i64 f) ∧ w'.cell? ⟨W.heap.size, 2, none⟩ = some (.bool n) ∧ w'.cell? ⟨W.heap.size, 3, none⟩ = some (.int .u64 x) ∧ w'.cell? ⟨W.heap.size, 4, none⟩ = some (.int .u64 y)) (by kernel_rfl) ?_ (fun hHeld => ?_)
  · (try dsimp only)
    simp [go_sem]
  refine lst0 12 (by kernel_rfl) ?_
  refine tkA 0 3 1 ?_
  refine tkA 1 4 3 ?_
  refine tkA 2 5 7 ?_
  refine tkA 3 6 15 ?_
  refine rdA 4 31 (fun Kk hKk => ?_)
  go_simp
  refine (last_any h _).mono ?_
  rintro _ w1 ⟨rfl, hbl⟩
  have HB := hide (bthen (below1 _ _).drew hbl)
  (try go_wp2_with fail)
  refine hKk.out _ _ ?_ (fun hHeld => ?_)
  · (try dsimp only)
    exact At5.below hHeld hbl
  clear hKk Kk
  (try simp only [List.setIfInBounds_toArray, List.set_cons_zero, List.set_cons_succ])
  refine tkA 5 8 63 ?_
  refine tkA 6 9 127 ?_
  refine tkU 7 10 255 ?_
  refine tkU 8 11 511 ?_
  refine tkU 9 12 1023 ?_
  refine tkA 10 13 2047 ?_
  refine tkA 11 2 4095 ?_
  refine wpAnyH_done (by kernel_rfl) ?_ _
  go_wp2
  go_ret
  exact ⟨by simp [hq], unhide HB⟩

set_option maxHeartbeats 1000000 in
theorem isNan_yes {e f P Q b : Int} (n : Bool) (x y : Int) (h : Sz e f P Q b) (W : World) (hq : (x == Q - 1) = true) :
    Calls Tryz.prog 48 #[.agg #[.int .i64 e, .int .i64 f, .bool n, .int .u64 x, .int .u64 y]] W fun r W' => r = .returned (.bool (x == Q - 1 && y != 0)) ∧ Below W.heap.size W W' := by
  go_enter Tryz.func48, Tryz.ntmps48
  go_wp2_with fail
  refine wp_region_held_drew (S := fun w' => w'.cell? ⟨W.heap.size, 0, none⟩ = some (.int .i64 e) ∧ w'.cell? ⟨W.heap.size, 1, none⟩ = some (.int .i64 f) ∧ w'.cell? ⟨W.heap.size, 2, none⟩ = some (.bool n) ∧ w'.cell? ⟨W.heap.size, 3, none⟩ = some (.int .u64 x) ∧ w'.cell? ⟨W.heap.size, 4, none⟩ = some (.int .u64 y)) (by kernel_rfl) ?_ (fun hHeld => ?_)
  · (try dsimp only)
    simp [go_sem]
  refine lst0 12 (by kernel_rfl) ?_
  refine tkA 0 3 1 ?_
  refine tkA 1 4 3 ?_
  refine tkA 2 5 7 ?_
  refine tkA 3 6 15 ?_
  refine rdA 4 31 (fun Kk hKk => ?_)
  go_simp
  refine (last_any h _).mono ?_
  rintro _ w1 ⟨rfl, hbl⟩
  have HB := hide (bthen (below1 _ _).drew hbl)
  (try go_wp2_with fail)
  refine hKk.out _ _ ?_ (fun hHeld => ?_)
  · (try dsimp only)
    exact At5.below hHeld hbl
  clear hKk Kk
  (try simp only [List.setIfInBounds_toArray, List.set_cons_zero, List.set_cons_succ])
  refine tkA 5 8 63 ?_
  refine tkA 6 9 127 ?_
  refine tkA 7 10 255 ?_
  refine tkA 8 11 511 ?_
  refine tkA 9 12 1023 ?_
  refine tkA 10 13 2047 ?_
  refine tkA 11 2 4095 ?_
  refine wpAnyH_done (by kernel_rfl) ?_ _
  go_wp2
  go_ret
  exact ⟨by simp [hq], unhide HB⟩

theorem isNan_any {e f P Q b : Int} (n : Bool) (x y : Int) (h : Sz e f P Q b) (W : World) :
    Calls Tryz.prog 48 #[.agg #[.int .i64 e, .int .i64 f, .bool n, .int .u64 x, .int .u64 y]] W fun r W' => r = .returned (.bool (x == Q - 1 && y != 0)) ∧ Below W.heap.size W W' := by
  cases hq : (x == Q - 1)
  · rw [← hq]; exact isNan_no n x y h W hq
  · rw [← hq]; exact isNan_yes n x y h W hq

set_option maxRecDepth 100000 in
set_option maxHeartbeats 4000000 in
theorem take_32 (x : Int) (W : World) (h0 : 0 ≤ x) (h1 : x < 18446744073709551616) :
    Calls Tryz.prog 46 #[.int .i64 32, .int .u64 x] W fun r W' => r = .returned (.agg #[.int .i64 8, .int .i64 23, .bool (x / 2147483648 % 2 == 1), .int .u64 (x / 8388608 % 256), .int .u64 (x % 8388608)]) ∧ Below W.heap.size W W' := by
  have h : Wd 32 8 23 8388608 256 (127) := Or.inl ⟨rfl, rfl, rfl, rfl, rfl, rfl⟩
  have hs := h.sz
  have k1 : IntKind.i64.wrap 31 = 31 := by decide +kernel
  have k2 : IntKind.u64.wrap 8388607 = 8388607 := by decide +kernel
  have a1 : bits .and .u64 (x / 2147483648) 1 = x / 2147483648 % 2 := and_mask 1 _ _ (by omega) (by omega) rfl (by omega)
  have a2 : bits .and .u64 (x / 8388608) 255 = x / 8388608 % 256 := and_mask 8 _ _ (by omega) (by omega) rfl (by omega)
  have a3 : bits .and .u64 x 8388607 = x % 8388608 := and_mask 23 _ _ (by omega) (by omega) rfl (by omega)
  clear h0 h1
  go_enter Tryz.func46, Tryz.ntmps46
  go_wp2_with fail
  refine (sizesOf_any h _).mono ?_
  rintro _ w1 ⟨rfl, hbl⟩
  have HB := hide (bthen (below1 _ _) hbl)
  have HR : Room W.heap.size 5 w1 := Room.below (w := W.alloc (.cells #[.int .i64 0, .int .i64 0, .bool false, .int .u64 0, .int .u64 0] 82)) (by
    intro o ho
    match o, ho with
    | 0, _ | 1, _ | 2, _ | 3, _ | 4, _ => simp [go_sem]) hbl
  have hz1 : W.heap.size < w1.heap.size := by have := hbl.size; simp at this; omega
  have HR := hide HR
  go_wp2_with fail
  have HB := hide ((balloc (unhide HB) (.cells #[.int .i64 8, .int .i64 23] 80)).drew)
  refine wp_region_held_drew (S := fun w' => (w'.cell? ⟨w1.heap.size, 0, none⟩ = some (.int .i64 8) ∧ w'.cell? ⟨w1.heap.size, 1, none⟩ = some (.int .i64 23)) ∧ Room W.heap.size 5 w') (by kernel_rfl) ?_ (fun hHeld => ?_)
  · (try dsimp only)
    exact ⟨by simp [go_sem], ((unhide HR).alloc _).drew⟩
  refine lst0 24 (by kernel_rfl) ?_
  refine tkA 0 8 1 ?_
  refine tkA 1 9 3 ?_
  refine tkA 2 10 7 ?_
  refine tkA 3 11 15 ?_
  refine tkA 4 12 31 ?_
  refine tkA 5 13 63 ?_
  refine tkA 6 14 127 ?_
  refine tkA 7 15 255 ?_
  refine tkA 8 16 511 ?_
  refine tkA 9 17 1023 ?_
  refine tkA 10 18 2047 ?_
  refine tkA 11 19 4095 ?_
  refine tkA 12 20 8191 ?_
  refine tkA 13 21 16383 ?_
  refine tkA 14 22 32767 ?_
  refine tkA 17 25 163839 ?_
  refine tkA 18 26 425983 ?_
  refine rdA 15 458751 (fun Kk hKk => ?_)
  go_simp
  refine (last_any hs _).mono ?_
  rintro _ w2 ⟨rfl, hbl⟩
  have HB := hide (bthen (unhide HB) hbl)
  (try go_wp2_with fail)
  refine hKk.out _ _ ?_ (fun hHeld => ?_)
  · (try dsimp only)
    exact ⟨At2.below hHeld.1 hbl, hHeld.2.below hbl⟩
  clear hKk Kk
  (try simp only [List.setIfInBounds_toArray, List.set_cons_zero, List.set_cons_succ])
  refine tkA 16 24 524287 ?_
  refine rdA 19 1048575 (fun Kk hKk => ?_)
  go_simp
  refine (one_any hs _).mono ?_
  rintro _ w3 ⟨rfl, hbl⟩
  have HB := hide (bthen (unhide HB) hbl)
  (try go_wp2_with fail)
  refine hKk.out _ _ ?_ (fun hHeld => ?_)
  · (try dsimp only)
    exact ⟨At2.below hHeld.1 hbl, hHeld.2.below hbl⟩
  clear hKk Kk
  (try simp only [List.setIfInBounds_toArray, List.set_cons_zero, List.set_cons_succ])
  refine tkA 20 28 2097151 ?_
  refine tkA 21 29 4194303 ?_
  refine tkA 22 30 8388607 ?_
  refine rdA 23 16777215 (fun Kk hKk => ?_)
  obtain ⟨⟨v0, c0⟩, f0⟩ := hHeld.2 0 (by omega)
  obtain ⟨⟨v1, c1⟩, f1⟩ := hHeld.2 1 (by omega)
  obtain ⟨⟨v2, c2⟩, f2⟩ := hHeld.2 2 (by omega)
  obtain ⟨⟨v3, c3⟩, f3⟩ := hHeld.2 3 (by omega)
  obtain ⟨⟨v4, c4⟩, f4⟩ := hHeld.2 4 (by omega)
  obtain ⟨g0, g1⟩ := hHeld.1
  go_simp
  refine hKk.out _ _ ?_ (fun hHeld => ?_)
  · (try dsimp only)
    exact ⟨⟨keep_set _ _ _ (by omega) (keep_set _ _ _ (by omega) (keep_set _ _ _ (by omega) (keep_set _ _ _ (by omega) (keep_set _ _ _ (by omega) g0)))), keep_set _ _ _ (by omega) (keep_set _ _ _ (by omega) (keep_set _ _ _ (by omega) (keep_set _ _ _ (by omega) (keep_set _ _ _ (by omega) g1))))⟩, ((((hHeld.2.set _ _).set _ _).set _ _).set _ _).set _ _⟩
  clear hKk Kk
  (try simp only [List.setIfInBounds_toArray, List.set_cons_zero, List.set_cons_succ])
  refine wpAnyH_done (by kernel_rfl) ?_ _
  clear hHeld
  go_wp2
  exact bodyPost_ret (v := .agg #[.int .i64 8, .int .i64 23, .bool (x / 2147483648 % 2 == 1), .int .u64 (x / 8388608 % 256), .int .u64 (x % 8388608)]) (by simp (maxDischargeDepth := 8) [results, Tryz.results46, go_sem, c0, c1, c2, c3, c4]) rfl ⟨rfl, bset (bset (bset (bset (bset (unhide HB) _ (Nat.le_refl _) _ _) _ (Nat.le_refl _) _ _) _ (Nat.le_refl _) _ _) _ (Nat.le_refl _) _ _) _ (Nat.le_refl _) _ _⟩

set_option maxRecDepth 100000 in
set_option maxHeartbeats 4000000 in
theorem take_64 (x : Int) (W : World) (h0 : 0 ≤ x) (h1 : x < 18446744073709551616) :
    Calls Tryz.prog 46 #[.int .i64 64, .int .u64 x] W fun r W' => r = .returned (.agg #[.int .i64 11, .int .i64 52, .bool (x / 9223372036854775808 % 2 == 1), .int .u64 (x / 4503599627370496 % 2048), .int .u64 (x % 4503599627370496)]) ∧ Below W.heap.size W W' := by
  have h : Wd 64 11 52 4503599627370496 2048 (1023) := Or.inr (Or.inl ⟨rfl, rfl, rfl, rfl, rfl, rfl⟩)
  have hs := h.sz
  have k1 : IntKind.i64.wrap 63 = 63 := by decide +kernel
  have k2 : IntKind.u64.wrap 4503599627370495 = 4503599627370495 := by decide +kernel
  have a1 : bits .and .u64 (x / 9223372036854775808) 1 = x / 9223372036854775808 % 2 := and_mask 1 _ _ (by omega) (by omega) rfl (by omega)
  have a2 : bits .and .u64 (x / 4503599627370496) 2047 = x / 4503599627370496 % 2048 := and_mask 11 _ _ (by omega) (by omega) rfl (by omega)
  have a3 : bits .and .u64 x 4503599627370495 = x % 4503599627370496 := and_mask 52 _ _ (by omega) (by omega) rfl (by omega)
  clear h0 h1
  go_enter Tryz.func46, Tryz.ntmps46
  go_wp2_with fail
  refine (sizesOf_any h _).mono ?_
  rintro _ w1 ⟨rfl, hbl⟩
  have HB := hide (bthen (below1 _ _) hbl)
  have HR : Room W.heap.size 5 w1 := Room.below (w := W.alloc (.cells #[.int .i64 0, .int .i64 0, .bool false, .int .u64 0, .int .u64 0] 82)) (by
    intro o ho
    match o, ho with
    | 0, _ | 1, _ | 2, _ | 3, _ | 4, _ => simp [go_sem]) hbl
  have hz1 : W.heap.size < w1.heap.size := by have := hbl.size; simp at this; omega
  have HR := hide HR
  go_wp2_with fail
  have HB := hide ((balloc (unhide HB) (.cells #[.int .i64 11, .int .i64 52] 80)).drew)
  refine wp_region_held_drew (S := fun w' => (w'.cell? ⟨w1.heap.size, 0, none⟩ = some (.int .i64 11) ∧ w'.cell? ⟨w1.heap.size, 1, none⟩ = some (.int .i64 52)) ∧ Room W.heap.size 5 w') (by kernel_rfl) ?_ (fun hHeld => ?_)
  · (try dsimp only)
    exact ⟨by simp [go_sem], ((unhide HR).alloc _).drew⟩
  refine lst0 24 (by kernel_rfl) ?_
  refine tkA 0 8 1 ?_
  refine tkA 1 9 3 ?_
  refine tkA 2 10 7 ?_
  refine tkA 3 11 15 ?_
  refine tkA 4 12 31 ?_
  refine tkA 5 13 63 ?_
  refine tkA 6 14 127 ?_
  refine tkA 7 15 255 ?_
  refine tkA 8 16 511 ?_
  refine tkA 9 17 1023 ?_
  refine tkA 10 18 2047 ?_
  refine tkA 11 19 4095 ?_
  refine tkA 12 20 8191 ?_
  refine tkA 13 21 16383 ?_
  refine tkA 14 22 32767 ?_
  refine tkA 17 25 163839 ?_
  refine tkA 18 26 425983 ?_
  refine rdA 15 458751 (fun Kk hKk => ?_)
  go_simp
  refine (last_any hs _).mono ?_
  rintro _ w2 ⟨rfl, hbl⟩
  have HB := hide (bthen (unhide HB) hbl)
  (try go_wp2_with fail)
  refine hKk.out _ _ ?_ (fun hHeld => ?_)
  · (try dsimp only)
    exact ⟨At2.below hHeld.1 hbl, hHeld.2.below hbl⟩
  clear hKk Kk
  (try simp only [List.setIfInBounds_toArray, List.set_cons_zero, List.set_cons_succ])
  refine tkA 16 24 524287 ?_
  refine rdA 19 1048575 (fun Kk hKk => ?_)
  go_simp
  refine (one_any hs _).mono ?_
  rintro _ w3 ⟨rfl, hbl⟩
  have HB := hide (bthen (unhide HB) hbl)
  (try go_wp2_with fail)
  refine hKk.out _ _ ?_ (fun hHeld => ?_)
  · (try dsimp only)
    exact ⟨At2.below hHeld.1 hbl, hHeld.2.below hbl⟩
  clear hKk Kk
  (try simp only [List.setIfInBounds_toArray, List.set_cons_zero, List.set_cons_succ])
  refine tkA 20 28 2097151 ?_
  refine tkA 21 29 4194303 ?_
  refine tkA 22 30 8388607 ?_
  refine rdA 23 16777215 (fun Kk hKk => ?_)
  obtain ⟨⟨v0, c0⟩, f0⟩ := hHeld.2 0 (by omega)
  obtain ⟨⟨v1, c1⟩, f1⟩ := hHeld.2 1 (by omega)
  obtain ⟨⟨v2, c2⟩, f2⟩ := hHeld.2 2 (by omega)
  obtain ⟨⟨v3, c3⟩, f3⟩ := hHeld.2 3 (by omega)
  obtain ⟨⟨v4, c4⟩, f4⟩ := hHeld.2 4 (by omega)
  obtain ⟨g0, g1⟩ := hHeld.1
  go_simp
  refine hKk.out _ _ ?_ (fun hHeld => ?_)
  · (try dsimp only)
    exact ⟨⟨keep_set _ _ _ (by omega) (keep_set _ _ _ (by omega) (keep_set _ _ _ (by omega) (keep_set _ _ _ (by omega) (keep_set _ _ _ (by omega) g0)))), keep_set _ _ _ (by omega) (keep_set _ _ _ (by omega) (keep_set _ _ _ (by omega) (keep_set _ _ _ (by omega) (keep_set _ _ _ (by omega) g1))))⟩, ((((hHeld.2.set _ _).set _ _).set _ _).set _ _).set _ _⟩
  clear hKk Kk
  (try simp only [List.setIfInBounds_toArray, List.set_cons_zero, List.set_cons_succ])
  refine wpAnyH_done (by kernel_rfl) ?_ _
  clear hHeld
  go_wp2
  exact bodyPost_ret (v := .agg #[.int .i64 11, .int .i64 52, .bool (x / 9223372036854775808 % 2 == 1), .int .u64 (x / 4503599627370496 % 2048), .int .u64 (x % 4503599627370496)]) (by simp (maxDischargeDepth := 8) [results, Tryz.results46, go_sem, c0, c1, c2, c3, c4]) rfl ⟨rfl, bset (bset (bset (bset (bset (unhide HB) _ (Nat.le_refl _) _ _) _ (Nat.le_refl _) _ _) _ (Nat.le_refl _) _ _) _ (Nat.le_refl _) _ _) _ (Nat.le_refl _) _ _⟩

set_option maxRecDepth 100000 in
set_option maxHeartbeats 4000000 in
theorem take_no (w : Int) (x : Int) (W : World) (h0 : 0 ≤ x) (h1 : x < 18446744073709551616) (hw : w ≠ 32 ∧ w ≠ 64) :
    Calls Tryz.prog 46 #[.int .i64 w, .int .u64 x] W fun r W' => r = .returned (.agg #[.int .i64 0, .int .i64 0, .bool (x % 2 == 1), .int .u64 0, .int .u64 0]) ∧ Below W.heap.size W W' := by
  have h : Wd w 0 0 1 1 (-1) := Or.inr (Or.inr ⟨hw, rfl, rfl, rfl, rfl, rfl⟩)
  have hs := h.sz
  have k1 : IntKind.i64.wrap 0 = 0 := by decide +kernel
  have k2 : IntKind.u64.wrap 0 = 0 := by decide +kernel
  have a1 : bits .and .u64 (x) 1 = x % 2 := and_mask 1 _ _ (by omega) (by omega) rfl (by omega)
  have a2 : bits .and .u64 x 0 = 0 := (and_mask 0 _ _ (by omega) (by omega) rfl (by omega)).trans (Int.emod_one _)
  clear h0 h1
  go_enter Tryz.func46, Tryz.ntmps46
  go_wp2_with fail
  refine (sizesOf_any h _).mono ?_
  rintro _ w1 ⟨rfl, hbl⟩
  have HB := hide (bthen (below1 _ _) hbl)
  have HR : Room W.heap.size 5 w1 := Room.below (w := W.alloc (.cells #[.int .i64 0, .int .i64 0, .bool false, .int .u64 0, .int .u64 0] 82)) (by
    intro o ho
    match o, ho with
    | 0, _ | 1, _ | 2, _ | 3, _ | 4, _ => simp [go_sem]) hbl
  have hz1 : W.heap.size < w1.heap.size := by have := hbl.size; simp at this; omega
  have HR := hide HR
  go_wp2_with fail
  have HB := hide ((balloc (unhide HB) (.cells #[.int .i64 0, .int .i64 0] 80)).drew)
  refine wp_region_held_drew (S := fun w' => (w'.cell? ⟨w1.heap.size, 0, none⟩ = some (.int .i64 0) ∧ w'.cell? ⟨w1.heap.size, 1, none⟩ = some (.int .i64 0)) ∧ Room W.heap.size 5 w') (by kernel_rfl) ?_ (fun hHeld => ?_)
  · (try dsimp only)
    exact ⟨by simp [go_sem], ((unhide HR).alloc _).drew⟩
  refine lst0 24 (by kernel_rfl) ?_
  refine tkA 0 8 1 ?_
  refine tkA 1 9 3 ?_
  refine tkA 2 10 7 ?_
  refine tkA 3 11 15 ?_
  refine tkA 4 12 31 ?_
  refine tkA 5 13 63 ?_
  refine tkA 6 14 127 ?_
  refine tkA 7 15 255 ?_
  refine tkA 8 16 511 ?_
  refine tkA 9 17 1023 ?_
  refine tkA 10 18 2047 ?_
  refine tkA 11 19 4095 ?_
  refine tkA 12 20 8191 ?_
  refine tkA 13 21 16383 ?_
  refine tkA 14 22 32767 ?_
  refine tkA 17 25 163839 ?_
  refine tkA 18 26 425983 ?_
  refine rdA 15 458751 (fun Kk hKk => ?_)
  go_simp
  refine (last_any hs _).mono ?_
  rintro _ w2 ⟨rfl, hbl⟩
  have HB := hide (bthen (unhide HB) hbl)
  (try go_wp2_with fail)
  refine hKk.out _ _ ?_ (fun hHeld => ?_)
  · (try dsimp only)
    exact ⟨At2.below hHeld.1 hbl, hHeld.2.below hbl⟩
  clear hKk Kk
  (try simp only [List.setIfInBounds_toArray, List.set_cons_zero, List.set_cons_succ])
  refine tkA 16 24 524287 ?_
  refine rdA 19 1048575 (fun Kk hKk => ?_)
  go_simp
  refine (one_any hs _).mono ?_
  rintro _ w3 ⟨rfl, hbl⟩
  have HB := hide (bthen (unhide HB) hbl)
  (try go_wp2_with fail)
  refine hKk.out _ _ ?_ (fun hHeld => ?_)
  · (try dsimp only)
    exact ⟨At2.below hHeld.1 hbl, hHeld.2.below hbl⟩
  clear hKk Kk
  (try simp only [List.setIfInBounds_toArray, List.set_cons_zero, List.set_cons_succ])
  refine tkA 20 28 2097151 ?_
  refine tkA 21 29 4194303 ?_
  refine tkA 22 30 8388607 ?_
  refine rdA 23 16777215 (fun Kk hKk => ?_)
  obtain ⟨⟨v0, c0⟩, f0⟩ := hHeld.2 0 (by omega)
  obtain ⟨⟨v1, c1⟩, f1⟩ := hHeld.2 1 (by omega)
  obtain ⟨⟨v2, c2⟩, f2⟩ := hHeld.2 2 (by omega)
  obtain ⟨⟨v3, c3⟩, f3⟩ := hHeld.2 3 (by omega)
  obtain ⟨⟨v4, c4⟩, f4⟩ := hHeld.2 4 (by omega)
  obtain ⟨g0, g1⟩ := hHeld.1
  go_simp
  refine hKk.out _ _ ?_ (fun hHeld => ?_)
  · (try dsimp only)
    exact ⟨⟨keep_set _ _ _ (by omega) (keep_set _ _ _ (by omega) (keep_set _ _ _ (by omega) (keep_set _ _ _ (by omega) (keep_set _ _ _ (by omega) g0)))), keep_set _ _ _ (by omega) (keep_set _ _ _ (by omega) (keep_set _ _ _ (by omega) (keep_set _ _ _ (by omega) (keep_set _ _ _ (by omega) g1))))⟩, ((((hHeld.2.set _ _).set _ _).set _ _).set _ _).set _ _⟩
  clear hKk Kk
  (try simp only [List.setIfInBounds_toArray, List.set_cons_zero, List.set_cons_succ])
  refine wpAnyH_done (by kernel_rfl) ?_ _
  clear hHeld
  go_wp2
  exact bodyPost_ret (v := .agg #[.int .i64 0, .int .i64 0, .bool (x % 2 == 1), .int .u64 0, .int .u64 0]) (by simp (maxDischargeDepth := 8) [results, Tryz.results46, go_sem, c0, c1, c2, c3, c4]) rfl ⟨rfl, bset (bset (bset (bset (bset (unhide HB) _ (Nat.le_refl _) _ _) _ (Nat.le_refl _) _ _) _ (Nat.le_refl _) _ _) _ (Nat.le_refl _) _ _) _ (Nat.le_refl _) _ _⟩

end Go.Proofs.YtpbgpdmffejdgaaGreatDoor
namespace Go.Proofs.YtpbgpdmffejdgaaGreatDoor
open Go.RowKit

theorem or_sum (k : Nat) (X Y : Int) (h0 : 0 ≤ X) (h1 : X < 18446744073709551616) (hm : X % ((2 ^ k : Nat) : Int) = 0) (y0 : 0 ≤ Y) (y1 : Y < ((2 ^ k : Nat) : Int)) (hk : k ≤ 63) : bits .or .u64 X Y = X + Y := by
  obtain ⟨A, rfl⟩ := Int.eq_ofNat_of_zero_le h0
  obtain ⟨B, rfl⟩ := Int.eq_ofNat_of_zero_le y0
  have hp : 2 ^ k ≤ 2 ^ 63 := Nat.pow_le_pow_right (by omega) hk
  rw [← Int.natCast_emod] at hm
  rw [Go.bits_or_u64_nat A B (by omega) (by omega), Go.nat_join k A B (by omega) (by omega), Int.natCast_add]
theorem or_sum' (k : Nat) (X Y : Int) (h0 : 0 ≤ X) (h1 : X < 18446744073709551616) (hm : X % ((2 ^ k : Nat) : Int) = 0) (y0 : 0 ≤ Y) (y1 : Y < ((2 ^ k : Nat) : Int)) (hk : k ≤ 63) : bits .or .u64 Y X = Y + X := by
  obtain ⟨A, rfl⟩ := Int.eq_ofNat_of_zero_le h0
  obtain ⟨B, rfl⟩ := Int.eq_ofNat_of_zero_le y0
  have hp : 2 ^ k ≤ 2 ^ 63 := Nat.pow_le_pow_right (by omega) hk
  rw [← Int.natCast_emod] at hm
  rw [Go.bits_or_u64_nat B A (by omega) (by omega), Nat.or_comm, Go.nat_join k A B (by omega) (by omega), Int.natCast_add, Int.add_comm]

theorem cells5 {W w1 : World} {v0 v1 v2 v3 v4 : Value} {t : TypeId} (hb : Below (W.alloc (.cells #[v0, v1, v2, v3, v4] t)).heap.size (W.alloc (.cells #[v0, v1, v2, v3, v4] t)) w1) : At5 W.heap.size v0 v1 v2 v3 v4 w1 :=
  At5.below (w := W.alloc (.cells #[v0, v1, v2, v3, v4] t)) (by unfold At5; simp [go_sem]) hb
set_option maxHeartbeats 1000000 in
theorem bits_no (n : Bool) (x y : Int) (W : World) :
    Calls Tryz.prog 54 #[.agg #[.int .i64 0, .int .i64 0, .bool n, .int .u64 x, .int .u64 y]] W fun r W' => r = .returned (.int .u64 0) ∧ Below W.heap.size W W' := by
  go_enter Tryz.func54, Tryz.ntmps54
  go_wp2_with fail
  refine (known_any 0 0 _).mono ?_
  rintro _ w1 ⟨rfl, hb1⟩
  go_wp2_with fail
  go_ret
  exact ⟨rfl, bthen (below1 _ _) hb1⟩

set_option maxHeartbeats 2000000 in
theorem bits_32p (x y : Int) (W : World) (x0 : 0 ≤ x) (x1 : x < 256) (y0 : 0 ≤ y) (y1 : y < 8388608) :
    Calls Tryz.prog 54 #[.agg #[.int .i64 8, .int .i64 23, .bool false, .int .u64 x, .int .u64 y]] W fun r W' => r = .returned (.int .u64 (x * 8388608 + y)) ∧ Below W.heap.size W W' := by
  have k1 : IntKind.u64.wrap (x * 8388608) = x * 8388608 := by rw [IntKind.wrap_u64]; omega
  have o1 : bits .or .u64 (x * 8388608) y = x * 8388608 + y := or_sum 23 _ _ (by omega) (by omega) (by omega) (by omega) (by omega) (by omega)
  clear x0 x1 y0 y1
  go_enter Tryz.func54, Tryz.ntmps54
  go_wp2_with fail
  refine (known_any 8 23 _).mono ?_
  rintro _ w1 ⟨rfl, hb1⟩
  obtain ⟨q0, q1, q2, q3, q4⟩ := cells5 hb1
  have HB := hide (bthen (below1 _ _) hb1)
  clear hb1
  go_wp2_with fail
  refine wp_region_held_drew (S := fun w' => w'.cell? ⟨W.heap.size, 0, none⟩ = some (.int .i64 8) ∧ w'.cell? ⟨W.heap.size, 1, none⟩ = some (.int .i64 23) ∧ w'.cell? ⟨W.heap.size, 2, none⟩ = some (.bool false) ∧ w'.cell? ⟨W.heap.size, 3, none⟩ = some (.int .u64 x) ∧ w'.cell? ⟨W.heap.size, 4, none⟩ = some (.int .u64 y)) (by kernel_rfl) ?_ (fun hHeld => ?_)
  · (try dsimp only)
    simp [go_sem, q0, q1, q2, q3, q4]
  refine lst0 10 (by kernel_rfl) ?_
  refine tkA 0 8 1 ?_
  refine tkA 1 9 3 ?_
  refine tkA 2 10 7 ?_
  refine tkA 3 11 15 ?_
  refine tkA 4 12 31 ?_
  refine tkA 5 13 63 ?_
  refine tkA 6 14 127 ?_
  refine tkA 7 15 255 ?_
  refine tkA 8 16 511 ?_
  refine tkA 9 3 1023 ?_
  refine wpAnyH_done (by kernel_rfl) ?_ _
  go_wp2_with fail
  go_ret
  exact ⟨rfl, (unhide HB).drew⟩

set_option maxHeartbeats 2000000 in
theorem bits_32m (x y : Int) (W : World) (x0 : 0 ≤ x) (x1 : x < 256) (y0 : 0 ≤ y) (y1 : y < 8388608) :
    Calls Tryz.prog 54 #[.agg #[.int .i64 8, .int .i64 23, .bool true, .int .u64 x, .int .u64 y]] W fun r W' => r = .returned (.int .u64 (x * 8388608 + y + 2147483648)) ∧ Below W.heap.size W W' := by
  have k1 : IntKind.u64.wrap (x * 8388608) = x * 8388608 := by rw [IntKind.wrap_u64]; omega
  have o1 : bits .or .u64 (x * 8388608) y = x * 8388608 + y := or_sum 23 _ _ (by omega) (by omega) (by omega) (by omega) (by omega) (by omega)
  have k2 : IntKind.i64.wrap 31 = 31 := by decide +kernel
  have o2 : bits .or .u64 (x * 8388608 + y) 2147483648 = x * 8388608 + y + 2147483648 := or_sum' 31 _ _ (by omega) (by omega) (by omega) (by omega) (by omega) (by omega)
  clear x0 x1 y0 y1
  go_enter Tryz.func54, Tryz.ntmps54
  go_wp2_with fail
  refine (known_any 8 23 _).mono ?_
  rintro _ w1 ⟨rfl, hb1⟩
  obtain ⟨q0, q1, q2, q3, q4⟩ := cells5 hb1
  have HB := hide (bthen (below1 _ _) hb1)
  clear hb1
  go_wp2_with fail
  refine wp_region_held_drew (S := fun w' => w'.cell? ⟨W.heap.size, 0, none⟩ = some (.int .i64 8) ∧ w'.cell? ⟨W.heap.size, 1, none⟩ = some (.int .i64 23) ∧ w'.cell? ⟨W.heap.size, 2, none⟩ = some (.bool true) ∧ w'.cell? ⟨W.heap.size, 3, none⟩ = some (.int .u64 x) ∧ w'.cell? ⟨W.heap.size, 4, none⟩ = some (.int .u64 y)) (by kernel_rfl) ?_ (fun hHeld => ?_)
  · (try dsimp only)
    simp [go_sem, q0, q1, q2, q3, q4]
  refine lst0 10 (by kernel_rfl) ?_
  refine tkA 0 8 1 ?_
  refine tkA 1 9 3 ?_
  refine tkA 2 10 7 ?_
  refine tkA 3 11 15 ?_
  refine tkA 4 12 31 ?_
  refine tkA 5 13 63 ?_
  refine tkA 6 14 127 ?_
  refine tkA 7 15 255 ?_
  refine tkA 8 16 511 ?_
  refine tkA 9 3 1023 ?_
  refine wpAnyH_done (by kernel_rfl) ?_ _
  go_wp2_with fail
  go_ret
  exact ⟨rfl, (unhide HB).drew⟩

set_option maxHeartbeats 2000000 in
theorem bits_64p (x y : Int) (W : World) (x0 : 0 ≤ x) (x1 : x < 2048) (y0 : 0 ≤ y) (y1 : y < 4503599627370496) :
    Calls Tryz.prog 54 #[.agg #[.int .i64 11, .int .i64 52, .bool false, .int .u64 x, .int .u64 y]] W fun r W' => r = .returned (.int .u64 (x * 4503599627370496 + y)) ∧ Below W.heap.size W W' := by
  have k1 : IntKind.u64.wrap (x * 4503599627370496) = x * 4503599627370496 := by rw [IntKind.wrap_u64]; omega
  have o1 : bits .or .u64 (x * 4503599627370496) y = x * 4503599627370496 + y := or_sum 52 _ _ (by omega) (by omega) (by omega) (by omega) (by omega) (by omega)
  clear x0 x1 y0 y1
  go_enter Tryz.func54, Tryz.ntmps54
  go_wp2_with fail
  refine (known_any 11 52 _).mono ?_
  rintro _ w1 ⟨rfl, hb1⟩
  obtain ⟨q0, q1, q2, q3, q4⟩ := cells5 hb1
  have HB := hide (bthen (below1 _ _) hb1)
  clear hb1
  go_wp2_with fail
  refine wp_region_held_drew (S := fun w' => w'.cell? ⟨W.heap.size, 0, none⟩ = some (.int .i64 11) ∧ w'.cell? ⟨W.heap.size, 1, none⟩ = some (.int .i64 52) ∧ w'.cell? ⟨W.heap.size, 2, none⟩ = some (.bool false) ∧ w'.cell? ⟨W.heap.size, 3, none⟩ = some (.int .u64 x) ∧ w'.cell? ⟨W.heap.size, 4, none⟩ = some (.int .u64 y)) (by kernel_rfl) ?_ (fun hHeld => ?_)
  · (try dsimp only)
    simp [go_sem, q0, q1, q2, q3, q4]
  refine lst0 10 (by kernel_rfl) ?_
  refine tkA 0 8 1 ?_
  refine tkA 1 9 3 ?_
  refine tkA 2 10 7 ?_
  refine tkA 3 11 15 ?_
  refine tkA 4 12 31 ?_
  refine tkA 5 13 63 ?_
  refine tkA 6 14 127 ?_
  refine tkA 7 15 255 ?_
  refine tkA 8 16 511 ?_
  refine tkA 9 3 1023 ?_
  refine wpAnyH_done (by kernel_rfl) ?_ _
  go_wp2_with fail
  go_ret
  exact ⟨rfl, (unhide HB).drew⟩

set_option maxHeartbeats 2000000 in
theorem bits_64m (x y : Int) (W : World) (x0 : 0 ≤ x) (x1 : x < 2048) (y0 : 0 ≤ y) (y1 : y < 4503599627370496) :
    Calls Tryz.prog 54 #[.agg #[.int .i64 11, .int .i64 52, .bool true, .int .u64 x, .int .u64 y]] W fun r W' => r = .returned (.int .u64 (x * 4503599627370496 + y + 9223372036854775808)) ∧ Below W.heap.size W W' := by
  have k1 : IntKind.u64.wrap (x * 4503599627370496) = x * 4503599627370496 := by rw [IntKind.wrap_u64]; omega
  have o1 : bits .or .u64 (x * 4503599627370496) y = x * 4503599627370496 + y := or_sum 52 _ _ (by omega) (by omega) (by omega) (by omega) (by omega) (by omega)
  have k2 : IntKind.i64.wrap 63 = 63 := by decide +kernel
  have o2 : bits .or .u64 (x * 4503599627370496 + y) 9223372036854775808 = x * 4503599627370496 + y + 9223372036854775808 := or_sum' 63 _ _ (by omega) (by omega) (by omega) (by omega) (by omega) (by omega)
  clear x0 x1 y0 y1
  go_enter Tryz.func54, Tryz.ntmps54
  go_wp2_with fail
  refine (known_any 11 52 _).mono ?_
  rintro _ w1 ⟨rfl, hb1⟩
  obtain ⟨q0, q1, q2, q3, q4⟩ := cells5 hb1
  have HB := hide (bthen (below1 _ _) hb1)
  clear hb1
  go_wp2_with fail
  refine wp_region_held_drew (S := fun w' => w'.cell? ⟨W.heap.size, 0, none⟩ = some (.int .i64 11) ∧ w'.cell? ⟨W.heap.size, 1, none⟩ = some (.int .i64 52) ∧ w'.cell? ⟨W.heap.size, 2, none⟩ = some (.bool true) ∧ w'.cell? ⟨W.heap.size, 3, none⟩ = some (.int .u64 x) ∧ w'.cell? ⟨W.heap.size, 4, none⟩ = some (.int .u64 y)) (by kernel_rfl) ?_ (fun hHeld => ?_)
  · (try dsimp only)
    simp [go_sem, q0, q1, q2, q3, q4]
  refine lst0 10 (by kernel_rfl) ?_
  refine tkA 0 8 1 ?_
  refine tkA 1 9 3 ?_
  refine tkA 2 10 7 ?_
  refine tkA 3 11 15 ?_
  refine tkA 4 12 31 ?_
  refine tkA 5 13 63 ?_
  refine tkA 6 14 127 ?_
  refine tkA 7 15 255 ?_
  refine tkA 8 16 511 ?_
  refine tkA 9 3 1023 ?_
  refine wpAnyH_done (by kernel_rfl) ?_ _
  go_wp2_with fail
  go_ret
  exact ⟨rfl, (unhide HB).drew⟩

end Go.Proofs.YtpbgpdmffejdgaaGreatDoor
namespace Go.Proofs.YtpbgpdmffejdgaaGreatDoor
open Go.RowKit

/-- A float of its fields; 0 of what is no width. -/
def put (f P Q : Int) (n : Bool) (x y : Int) : Int := if f = 0 then 0 else x * P + y + (if n then P * Q else 0)
/-- The sign's bit of a float. -/
def sg (P Q x : Int) : Bool := x / (P * Q) % 2 == 1

theorem take_any {w e f P Q b : Int} (x : Int) (h : Wd w e f P Q b) (W : World) (h0 : 0 ≤ x) (h1 : x < 18446744073709551616) :
    Calls Tryz.prog 46 #[.int .i64 w, .int .u64 x] W fun r W' => r = .returned (.agg #[.int .i64 e, .int .i64 f, .bool (sg P Q x), .int .u64 (x / P % Q), .int .u64 (x % P)]) ∧ Below W.heap.size W W' := by
  unfold sg
  rcases h with ⟨rfl, rfl, rfl, rfl, rfl, rfl⟩ | ⟨rfl, rfl, rfl, rfl, rfl, rfl⟩ | ⟨hw, rfl, rfl, rfl, rfl, rfl⟩
  · exact take_32 x W h0 h1
  · exact take_64 x W h0 h1
  · rw [Int.emod_one, Int.emod_one, Int.mul_one, Int.ediv_one]
    exact take_no w x W h0 h1 hw

theorem bits_any {e f P Q b : Int} (n : Bool) (x y : Int) (h : Sz e f P Q b) (W : World) (x0 : 0 ≤ x) (x1 : x < Q) (y0 : 0 ≤ y) (y1 : y < P) :
    Calls Tryz.prog 54 #[.agg #[.int .i64 e, .int .i64 f, .bool n, .int .u64 x, .int .u64 y]] W fun r W' => r = .returned (.int .u64 (put f P Q n x y)) ∧ Below W.heap.size W W' := by
  unfold put
  rcases h with ⟨rfl, rfl, rfl, rfl, rfl⟩ | ⟨rfl, rfl, rfl, rfl, rfl⟩ | ⟨rfl, rfl, rfl, rfl, rfl⟩
  · cases n
    · simpa using bits_32p x y W x0 x1 y0 y1
    · simpa using bits_32m x y W x0 x1 y0 y1
  · cases n
    · simpa using bits_64p x y W x0 x1 y0 y1
    · simpa using bits_64m x y W x0 x1 y0 y1
  · simpa using bits_no n x y W

theorem Sz.pos {e f P Q b : Int} (h : Sz e f P Q b) : 1 ≤ P ∧ P ≤ 4503599627370496 ∧ 1 ≤ Q ∧ Q ≤ 2048 := by rcases h with h | h | h <;> omega
theorem exp_in {Q : Int} (z : Int) (h : 1 ≤ Q) : 0 ≤ z % Q ∧ z % Q < Q := ⟨Int.emod_nonneg _ (by omega), Int.emod_lt_of_pos _ (by omega)⟩

/-- The lowest bits of a float's width. -/
def cutN (f P Q x : Int) : Int := if f = 0 then 0 else x % (2 * (P * Q))
theorem cut_put {e f P Q b : Int} (h : Sz e f P Q b) (x : Int) : put f P Q (sg P Q x) (x / P % Q) (x % P) = cutN f P Q x := by
  unfold put cutN sg
  rcases h with ⟨rfl, rfl, rfl, rfl, rfl⟩ | ⟨rfl, rfl, rfl, rfl, rfl⟩ | ⟨rfl, rfl, rfl, rfl, rfl⟩
  · show (if (23 : Int) = 0 then (0 : Int) else x / 8388608 % 256 * 8388608 + x % 8388608 + (if (x / 2147483648 % 2 == 1) = true then 2147483648 else 0)) = if (23 : Int) = 0 then 0 else x % 4294967296
    rw [if_neg (show ¬ (23 : Int) = 0 by decide), if_neg (show ¬ (23 : Int) = 0 by decide)]
    by_cases hn : x / 2147483648 % 2 = 1
    · rw [if_pos (by rw [hn]; rfl)]; omega
    · rw [if_neg (by simp [hn])]; omega
  · show (if (52 : Int) = 0 then (0 : Int) else x / 4503599627370496 % 2048 * 4503599627370496 + x % 4503599627370496 + (if (x / 9223372036854775808 % 2 == 1) = true then 9223372036854775808 else 0)) = if (52 : Int) = 0 then 0 else x % 18446744073709551616
    rw [if_neg (show ¬ (52 : Int) = 0 by decide), if_neg (show ¬ (52 : Int) = 0 by decide)]
    by_cases hn : x / 9223372036854775808 % 2 = 1
    · rw [if_pos (by rw [hn]; rfl)]; omega
    · rw [if_neg (by simp [hn])]; omega
  · rfl

set_option maxHeartbeats 1000000 in
theorem cut_any {w e f P Q b : Int} (x : Int) (h : Wd w e f P Q b) (W : World) (h0 : 0 ≤ x) (h1 : x < 18446744073709551616) :
    Calls Tryz.prog 17 #[.int .i64 w, .int .u64 x] W fun r W' => r = .returned (.int .u64 (cutN f P Q x)) ∧ Below W.heap.size W W' := by
  obtain ⟨p1, p2, p3, p4⟩ := h.sz.pos
  have E := exp_in (x / P) p3
  have F := exp_in x p1
  have HT := hide (fun W => take_any x h W h0 h1)
  have HC := hide (fun W => bits_any (sg P Q x) _ _ h.sz W E.1 E.2 F.1 F.2)
  have HE := hide (cut_put h.sz x)
  clear h0 h1 p1 p2 p3 p4 E F h
  generalize sg P Q x = n at *
  generalize x / P % Q = y at *
  generalize x % P = z at *
  go_enter Tryz.func17, Tryz.ntmps17
  go_wp2_with fail
  refine (unhide HT _).mono ?_
  rintro _ w1 ⟨rfl, hb1⟩
  go_wp2_with fail
  refine (unhide HC _).mono ?_
  rintro _ w2 ⟨rfl, hb2⟩
  go_wp2_with fail
  go_ret
  exact ⟨ret1 (unhide HE), bthen hb1 hb2⟩

set_option maxHeartbeats 1000000 in
theorem isNanW_any {w e f P Q b : Int} (x : Int) (h : Wd w e f P Q b) (W : World) (h0 : 0 ≤ x) (h1 : x < 18446744073709551616) :
    Calls Tryz.prog 261 #[.int .i64 w, .int .u64 x] W fun r W' => r = .returned (.bool (x / P % Q == Q - 1 && x % P != 0)) ∧ Below W.heap.size W W' := by
  have HT := hide (fun W => take_any x h W h0 h1)
  have HC := hide (fun W => isNan_any (sg P Q x) (x / P % Q) (x % P) h.sz W)
  clear h0 h1 h
  generalize sg P Q x = n at *
  generalize x / P % Q = y at *
  generalize x % P = z at *
  go_enter Tryz.func261, Tryz.ntmps261
  go_wp2_with fail
  refine (unhide HT _).mono ?_
  rintro _ w1 ⟨rfl, hb1⟩
  go_wp2_with fail
  refine (unhide HC _).mono ?_
  rintro _ w2 ⟨rfl, hb2⟩
  go_wp2_with fail
  go_ret
  exact ⟨rfl, bthen hb1 hb2⟩

set_option maxHeartbeats 1000000 in
theorem zero_any {w e f P Q b : Int} (n : Bool) (h : Wd w e f P Q b) (W : World) :
    Calls Tryz.prog 155 #[.int .i64 w, .bool n] W fun r W' => r = .returned (.int .u64 (put f P Q n 0 0)) ∧ Below W.heap.size W W' := by
  obtain ⟨p1, p2, p3, p4⟩ := h.sz.pos
  have HC := hide (fun W => bits_any n 0 0 h.sz W (by omega) (by omega) (by omega) (by omega))
  go_enter Tryz.func155, Tryz.ntmps155
  go_wp2_with fail
  refine (sizesOf_any h _).mono ?_
  rintro _ w1 ⟨rfl, hb1⟩
  go_wp2_with fail
  refine (unhide HC _).mono ?_
  rintro _ w2 ⟨rfl, hb2⟩
  go_wp2_with fail
  go_ret
  exact ⟨rfl, bthen hb1 hb2⟩

theorem and_not1 {e f P Q b : Int} (h : Sz e f P Q b) : ∃ M, bits .andNot .u64 (Q - 1) 1 = M ∧ 0 ≤ M ∧ M < Q ∧ (f ≠ 0 → M = Q - 2) := by
  rcases h with ⟨rfl, rfl, rfl, rfl, rfl⟩ | ⟨rfl, rfl, rfl, rfl, rfl⟩ | ⟨rfl, rfl, rfl, rfl, rfl⟩
  · exact ⟨254, by decide +kernel, by omega, by omega, by omega⟩
  · exact ⟨2046, by decide +kernel, by omega, by omega, by omega⟩
  · exact ⟨0, by decide +kernel, by omega, by omega, by omega⟩

set_option maxHeartbeats 2000000 in
theorem nan_any {w e f P Q b : Int} (h : Wd w e f P Q b) (W : World) :
    Calls Tryz.prog 156 #[.int .i64 w] W fun r W' => r = .returned (.int .u64 (put f P Q false (Q - 1) (P / 2))) ∧ Below W.heap.size W W' := by
  obtain ⟨p1, p2, p3, p4⟩ := h.sz.pos
  have hs := h.sz
  have HC := hide (fun W => bits_any false (Q - 1) (P / 2) h.sz W (by omega) (by omega) (by omega) (by omega))
  clear p1 p2 p3 p4
  go_enter Tryz.func156, Tryz.ntmps156
  go_wp2_with fail
  refine (sizesOf_any h _).mono ?_
  rintro _ w1 ⟨rfl, hb1⟩
  have HB := hide (balloc hb1 (.cells #[.int .i64 e, .int .i64 f] 80)).drew
  go_wp2_with fail
  refine wp_region_held_drew (S := fun w' => w'.cell? ⟨w1.heap.size, 0, none⟩ = some (.int .i64 e) ∧ w'.cell? ⟨w1.heap.size, 1, none⟩ = some (.int .i64 f)) (by kernel_rfl) ?_ (fun hHeld => ?_)
  · (try dsimp only)
    simp [go_sem]
  refine lst0 9 (by kernel_rfl) ?_
  refine tkA 0 6 1 ?_
  refine tkA 1 7 3 ?_
  refine tkA 3 9 11 ?_
  refine rdA 2 15 (fun Kk hKk => ?_)
  go_simp
  refine (last_any hs _).mono ?_
  rintro _ w2 ⟨rfl, hbl⟩
  have HB := hide (bthen (unhide HB) hbl)
  (try go_wp2_with fail)
  refine hKk.out _ _ ?_ (fun hHeld => ?_)
  · (try dsimp only)
    exact At2.below hHeld hbl
  clear hKk Kk
  (try simp only [List.setIfInBounds_toArray, List.set_cons_zero, List.set_cons_succ])
  refine rdA 4 31 (fun Kk hKk => ?_)
  go_simp
  refine (one_any hs _).mono ?_
  rintro _ w3 ⟨rfl, hbl⟩
  have HB := hide (bthen (unhide HB) hbl)
  (try go_wp2_with fail)
  refine hKk.out _ _ ?_ (fun hHeld => ?_)
  · (try dsimp only)
    exact At2.below hHeld hbl
  clear hKk Kk
  (try simp only [List.setIfInBounds_toArray, List.set_cons_zero, List.set_cons_succ])
  refine tkA 5 11 63 ?_
  refine tkA 6 12 127 ?_
  refine rdA 7 255 (fun Kk hKk => ?_)
  go_simp
  refine (unhide HC _).mono ?_
  rintro _ w4 ⟨rfl, hbl⟩
  have HB := hide (bthen (unhide HB) hbl)
  (try go_wp2_with fail)
  refine hKk.out _ _ ?_ (fun hHeld => ?_)
  · (try dsimp only)
    exact At2.below hHeld hbl
  clear hKk Kk
  (try simp only [List.setIfInBounds_toArray, List.set_cons_zero, List.set_cons_succ])
  refine tkA 8 2 511 ?_
  refine wpAnyH_done (by kernel_rfl) ?_ _
  go_wp2_with fail
  go_ret
  exact ⟨rfl, unhide HB⟩

set_option maxHeartbeats 2000000 in
theorem inf_any {w e f P Q b : Int} (n : Bool) (h : Wd w e f P Q b) (W : World) :
    Calls Tryz.prog 157 #[.int .i64 w, .bool n] W fun r W' => r = .returned (.int .u64 (put f P Q n (Q - 1) 0)) ∧ Below W.heap.size W W' := by
  obtain ⟨p1, p2, p3, p4⟩ := h.sz.pos
  have hs := h.sz
  have HC := hide (fun W => bits_any n (Q - 1) 0 h.sz W (by omega) (by omega) (by omega) (by omega))
  clear p1 p2 p3 p4
  go_enter Tryz.func157, Tryz.ntmps157
  go_wp2_with fail
  refine (sizesOf_any h _).mono ?_
  rintro _ w1 ⟨rfl, hb1⟩
  have HB := hide (balloc hb1 (.cells #[.int .i64 e, .int .i64 f] 80)).drew
  go_wp2_with fail
  refine wp_region_held_drew (S := fun w' => w'.cell? ⟨w1.heap.size, 0, none⟩ = some (.int .i64 e) ∧ w'.cell? ⟨w1.heap.size, 1, none⟩ = some (.int .i64 f)) (by kernel_rfl) ?_ (fun hHeld => ?_)
  · (try dsimp only)
    simp [go_sem]
  refine lst0 7 (by kernel_rfl) ?_
  refine tkA 0 8 1 ?_
  refine tkA 1 9 3 ?_
  refine tkA 2 10 7 ?_
  refine rdA 3 15 (fun Kk hKk => ?_)
  go_simp
  refine (last_any hs _).mono ?_
  rintro _ w2 ⟨rfl, hbl⟩
  have HB := hide (bthen (unhide HB) hbl)
  (try go_wp2_with fail)
  refine hKk.out _ _ ?_ (fun hHeld => ?_)
  · (try dsimp only)
    exact At2.below hHeld hbl
  clear hKk Kk
  (try simp only [List.setIfInBounds_toArray, List.set_cons_zero, List.set_cons_succ])
  refine tkA 4 12 31 ?_
  refine rdA 5 63 (fun Kk hKk => ?_)
  go_simp
  refine (unhide HC _).mono ?_
  rintro _ w4 ⟨rfl, hbl⟩
  have HB := hide (bthen (unhide HB) hbl)
  (try go_wp2_with fail)
  refine hKk.out _ _ ?_ (fun hHeld => ?_)
  · (try dsimp only)
    exact At2.below hHeld hbl
  clear hKk Kk
  (try simp only [List.setIfInBounds_toArray, List.set_cons_zero, List.set_cons_succ])
  refine tkA 6 4 127 ?_
  refine wpAnyH_done (by kernel_rfl) ?_ _
  go_wp2_with fail
  go_ret
  exact ⟨rfl, unhide HB⟩

set_option maxHeartbeats 2000000 in
theorem most_w {w e f P Q b : Int} (n : Bool) (h : Wd w e f P Q b) (W : World) :
    Calls Tryz.prog 55 #[.int .i64 w, .bool n] W fun r W' => r = .returned (.int .u64 (put f P Q n (Q - 2) (P - 1))) ∧ Below W.heap.size W W' := by
  obtain ⟨p1, p2, p3, p4⟩ := h.sz.pos
  have hs := h.sz
  obtain ⟨M, hM, m1, m2, m3⟩ := and_not1 hs
  have k1 : IntKind.u64.wrap (P - 1) = P - 1 := by rw [IntKind.wrap_u64]; omega
  have HC := hide (fun W => bits_any n M (P - 1) h.sz W (by omega) (by omega) (by omega) (by omega))
  have HE : Hid (put f P Q n M (P - 1) = put f P Q n (Q - 2) (P - 1)) := by
    by_cases hf : f = 0
    · simp [Hid, put, hf]
    · rw [m3 hf]; exact rfl
  clear p1 p2 p3 p4 m1 m2 m3
  go_enter Tryz.func55, Tryz.ntmps55
  go_wp2_with fail
  refine (sizesOf_any h _).mono ?_
  rintro _ w1 ⟨rfl, hb1⟩
  have HB := hide (balloc hb1 (.cells #[.int .i64 e, .int .i64 f] 80)).drew
  go_wp2_with fail
  refine wp_region_held_drew (S := fun w' => w'.cell? ⟨w1.heap.size, 0, none⟩ = some (.int .i64 e) ∧ w'.cell? ⟨w1.heap.size, 1, none⟩ = some (.int .i64 f)) (by kernel_rfl) ?_ (fun hHeld => ?_)
  · (try dsimp only)
    simp [go_sem]
  refine lst0 11 (by kernel_rfl) ?_
  refine tkA 0 8 1 ?_
  refine tkA 1 9 3 ?_
  refine tkA 2 10 7 ?_
  refine tkA 5 13 39 ?_
  refine rdA 3 47 (fun Kk hKk => ?_)
  go_simp
  refine (last_any hs _).mono ?_
  rintro _ w2 ⟨rfl, hbl⟩
  have HB := hide (bthen (unhide HB) hbl)
  (try go_wp2_with fail)
  refine hKk.out _ _ ?_ (fun hHeld => ?_)
  · (try dsimp only)
    exact At2.below hHeld hbl
  clear hKk Kk
  (try simp only [List.setIfInBounds_toArray, List.set_cons_zero, List.set_cons_succ])
  refine tkA 4 12 63 ?_
  refine rdA 6 127 (fun Kk hKk => ?_)
  go_simp
  refine (one_any hs _).mono ?_
  rintro _ w3 ⟨rfl, hbl⟩
  have HB := hide (bthen (unhide HB) hbl)
  (try go_wp2_with fail)
  refine hKk.out _ _ ?_ (fun hHeld => ?_)
  · (try dsimp only)
    exact At2.below hHeld hbl
  clear hKk Kk
  (try simp only [List.setIfInBounds_toArray, List.set_cons_zero, List.set_cons_succ])
  refine tkA 7 15 255 ?_
  refine tkA 8 16 511 ?_
  refine rdA 9 1023 (fun Kk hKk => ?_)
  go_simp
  refine (unhide HC _).mono ?_
  rintro _ w4 ⟨rfl, hbl⟩
  have HB := hide (bthen (unhide HB) hbl)
  (try go_wp2_with fail)
  refine hKk.out _ _ ?_ (fun hHeld => ?_)
  · (try dsimp only)
    exact At2.below hHeld hbl
  clear hKk Kk
  (try simp only [List.setIfInBounds_toArray, List.set_cons_zero, List.set_cons_succ])
  refine tkA 10 4 2047 ?_
  refine wpAnyH_done (by kernel_rfl) ?_ _
  go_wp2_with fail
  go_ret
  exact ⟨ret1 (unhide HE), unhide HB⟩

set_option maxHeartbeats 1000000 in
theorem fields_any {w e f P Q b : Int} (h : Wd w e f P Q b) (W : World) :
    Calls Tryz.prog 23 #[.int .i64 w] W fun r W' => r = .returned (.tuple #[.int .i64 e, .int .i64 f]) ∧ Below W.heap.size W W' := by
  go_enter Tryz.func23, Tryz.ntmps23
  go_wp2_with fail
  refine (sizesOf_any h _).mono ?_
  rintro _ w1 ⟨rfl, hb1⟩
  have HB := hide (balloc hb1 (.cells #[.int .i64 e, .int .i64 f] 80)).drew
  go_wp2_with fail
  refine wp_region_held_drew (S := fun w' => w'.cell? ⟨w1.heap.size, 0, none⟩ = some (.int .i64 e) ∧ w'.cell? ⟨w1.heap.size, 1, none⟩ = some (.int .i64 f)) (by kernel_rfl) ?_ (fun hHeld => ?_)
  · (try dsimp only)
    simp [go_sem]
  refine lst0 6 (by kernel_rfl) ?_
  refine tkA 0 7 1 ?_
  refine tkA 1 8 3 ?_
  refine tkA 2 9 7 ?_
  refine tkA 3 10 15 ?_
  refine tkA 4 2 31 ?_
  refine tkA 5 3 63 ?_
  refine wpAnyH_done (by kernel_rfl) ?_ _
  go_wp2_with fail
  go_ret2
  exact ⟨rfl, unhide HB⟩

end Go.Proofs.YtpbgpdmffejdgaaGreatDoor
namespace Go.Proofs.YtpbgpdmffejdgaaGreatDoor
open Go.RowKit

theorem truth_l (t : Bool) : Ct 34 #[.bool t] (.int .u64 (if t then 1 else 0)) := by
  refine hide (fun W => ?_)
  cases t
  · go_enter Tryz.func34, Tryz.ntmps34
    go_wp2_with fail
    go_ret
    exact ⟨rfl, Below.refl _ _⟩
  · go_enter Tryz.func34, Tryz.ntmps34
    go_wp2_with fail
    go_ret
    exact ⟨rfl, Below.refl _ _⟩
/-- How many bits a number of a type has. -/
def wdT (t : Int) : Int := if t = 127 ∨ t = 125 then 32 else 64
theorem width_l {t : Int} (h : t = 127 ∨ t = 126 ∨ t = 125 ∨ t = 124) : Ct 33 #[.int .u8 t] (.int .i64 (wdT t)) := by
  refine hide (fun W => ?_)
  rcases h with rfl | rfl | rfl | rfl
  · go_enter Tryz.func33, Tryz.ntmps33
    go_wp2_with fail
    go_ret
    exact ⟨rfl, Below.refl _ _⟩
  · go_enter Tryz.func33, Tryz.ntmps33
    go_wp2_with fail
    go_ret
    exact ⟨rfl, Below.refl _ _⟩
  · go_enter Tryz.func33, Tryz.ntmps33
    go_wp2_with fail
    go_ret
    exact ⟨rfl, Below.refl _ _⟩
  · go_enter Tryz.func33, Tryz.ntmps33
    go_wp2_with fail
    go_ret
    exact ⟨rfl, Below.refl _ _⟩
theorem one_l (l a : Int) : Ct 61 #[.int .i64 l, .int .i64 a] (.int .i64 (if a ≤ l then 1 else 2)) := by
  refine hide (fun W => ?_)
  by_cases h : a ≤ l
  · rw [if_pos h]
    go_enter Tryz.func61, Tryz.ntmps61
    go_wp2_with fail
    go_ret
    exact ⟨rfl, Below.refl _ _⟩
  · rw [if_neg h]
    go_enter Tryz.func61, Tryz.ntmps61
    go_wp2_with fail
    go_ret
    exact ⟨rfl, Below.refl _ _⟩
set_option maxHeartbeats 4000000 in
set_option maxRecDepth 100000 in
theorem types_0 (f n o a : Int) : Ct 25 #[.agg #[.int .i64 f, .int .i64 n, .int .i64 0, .int .u8 o], .int .i64 a] (.agg #[.int .u8 o, .int .u8 127]) := by
  refine hide (fun W => ?_)
  go_enter Tryz.func25, Tryz.ntmps25
  go_wp2_with fail
  exact bodyPost_ret (v := .agg #[.int .u8 o, .int .u8 127]) (by simp [results, Tryz.results25, go_sem]) rfl ⟨rfl, below2 _ _ _⟩
set_option maxHeartbeats 4000000 in
set_option maxRecDepth 100000 in
theorem types_1 (f n o a : Int) : Ct 25 #[.agg #[.int .i64 f, .int .i64 n, .int .i64 1, .int .u8 o], .int .i64 a] (.agg #[.int .u8 o, .int .u8 127]) := by
  refine hide (fun W => ?_)
  go_enter Tryz.func25, Tryz.ntmps25
  go_wp2_with fail
  exact bodyPost_ret (v := .agg #[.int .u8 o, .int .u8 127]) (by simp [results, Tryz.results25, go_sem]) rfl ⟨rfl, below2 _ _ _⟩
set_option maxHeartbeats 4000000 in
set_option maxRecDepth 100000 in
theorem types_2 (f n o a : Int) : Ct 25 #[.agg #[.int .i64 f, .int .i64 n, .int .i64 2, .int .u8 o], .int .i64 a] (.agg #[.int .u8 o, .int .u8 o]) := by
  refine hide (fun W => ?_)
  go_enter Tryz.func25, Tryz.ntmps25
  go_wp2_with fail
  exact bodyPost_ret (v := .agg #[.int .u8 o, .int .u8 o]) (by simp [results, Tryz.results25, go_sem]) rfl ⟨rfl, below2 _ _ _⟩
set_option maxHeartbeats 4000000 in
set_option maxRecDepth 100000 in
theorem types_3 (f n o a : Int) : Ct 25 #[.agg #[.int .i64 f, .int .i64 n, .int .i64 3, .int .u8 o], .int .i64 a] (.agg #[.int .u8 o, .int .u8 o]) := by
  refine hide (fun W => ?_)
  go_enter Tryz.func25, Tryz.ntmps25
  go_wp2_with fail
  exact bodyPost_ret (v := .agg #[.int .u8 o, .int .u8 o]) (by simp [results, Tryz.results25, go_sem]) rfl ⟨rfl, below2 _ _ _⟩
set_option maxHeartbeats 4000000 in
set_option maxRecDepth 100000 in
theorem types_4 (f n o : Int) {x y : Int} {a : Nat} (h : a < 25) (hx : cL[a * 2]? = some (.int .u8 x)) (hy : cL[a * 2 + 1]? = some (.int .u8 y)) : Cm 25 #[.agg #[.int .i64 f, .int .i64 n, .int .i64 4, .int .u8 o], .int .i64 (a : Int)] (.agg #[.int .u8 x, .int .u8 y]) := by
  refine hide (fun W m => ?_)
  have c0 := fun o1 o2 => keep1 (below2 W o1 o2) (lt_of_cell (m.changed _ _ hx)) (m.changed _ _ hx)
  have c1 := fun o1 o2 => keep1 (below2 W o1 o2) (lt_of_cell (m.changed _ _ hy)) (m.changed _ _ hy)
  clear hx hy m
  go_enter Tryz.func25, Tryz.ntmps25
  go_wp2_with fail
  exact bodyPost_ret (v := .agg #[.int .u8 x, .int .u8 y]) (by simp [results, Tryz.results25, go_sem]) rfl ⟨rfl, below2 _ _ _⟩
set_option maxHeartbeats 4000000 in
set_option maxRecDepth 100000 in
theorem types_5 (f n o : Int) {x y : Int} {a : Nat} (h : a < 8) (hx : sL[a * 2]? = some (.int .u8 x)) (hy : sL[a * 2 + 1]? = some (.int .u8 y)) : Cm 25 #[.agg #[.int .i64 f, .int .i64 n, .int .i64 5, .int .u8 o], .int .i64 (a : Int)] (.agg #[.int .u8 x, .int .u8 y]) := by
  refine hide (fun W m => ?_)
  have c0 := fun o1 o2 => keep1 (below2 W o1 o2) (lt_of_cell (m.stopped _ _ hx)) (m.stopped _ _ hx)
  have c1 := fun o1 o2 => keep1 (below2 W o1 o2) (lt_of_cell (m.stopped _ _ hy)) (m.stopped _ _ hy)
  clear hx hy m
  go_enter Tryz.func25, Tryz.ntmps25
  go_wp2_with fail
  exact bodyPost_ret (v := .agg #[.int .u8 x, .int .u8 y]) (by simp [results, Tryz.results25, go_sem]) rfl ⟨rfl, below2 _ _ _⟩
end Go.Proofs.YtpbgpdmffejdgaaGreatDoor
namespace Go.Proofs.YtpbgpdmffejdgaaGreatDoor
open Go.RowKit

/-- A variable that is loaded whole. -/
theorem load_tab {P : Program} {w : World} {g : Nat} {ty : TypeId} {L : List Value} {d : TypeDesc} (h : Tab w g L) (hu : P.underlying ty = some d) (hd : (match d with | .struct _ | .array _ _ => true | _ => false) = true) (hi : (P.info? ty).map (·.size) = some L.length) :
    (loadVar ty ⟨g, 0, none⟩).run P w = .ok (.agg L.toArray) w := by
  have hl : (loadCells ⟨g, 0, none⟩ L.length).run P w = .ok L.toArray w :=
    run_loadCells_list (P := P) w ⟨g, 0, none⟩ L (fun j v hv => by
      have hadd : (⟨g, 0, none⟩ : Addr).add j = ⟨g, j, none⟩ := by unfold Addr.add; split <;> simp_all
      rw [hadd]
      exact h j v hv)
  cases hq : P.info? ty with
  | none => simp [hq] at hi
  | some i =>
    have hs : i.size = L.length := by simpa [hq] using hi
    have hagg : (isAgg ty).run P w = .ok true w := by
      unfold isAgg
      rw [Sem.run_bind, run_underlying hu w]
      cases d <;> simp_all
    simp [loadVar, Sem.run_bind, hagg, sizeOf, typeInfo, hq, hs, hl]
theorem wpList_load_tab {P : Program} {ops : Array Oper} {rest : List Oper} {o : Oper} {a : Act} {w : World} {Q : Exit → Act → World → Prop} (hgd : o.guard = none) (ty : TypeId) (x : Operand) (ho : o.op = .load ty x)
    (g : Nat) (hx : a.eval x = .pointer (some ⟨g, 0, none⟩)) (L : List Value) (d : TypeDesc) (hg : Tab w g L)
    (hu : P.underlying ty = some d) (hd : (match d with | .struct _ | .array _ _ => true | _ => false) = true) (hi : (P.info? ty).map (·.size) = some L.length)
    (h : wpList P ops Q rest (a.put o.dst (.agg L.toArray)) w) : wpList P ops Q (o :: rest) a w :=
  wpList_plain hgd fun _ hK => by
    unfold Oper.wp execOp
    simp only [ho, hx, Instr.loadAt, Instr.sureAddr, Sem.run_bind, Sem.run_pure, Result.andThen_ok, load_tab hg hu hd hi]
    exact hK _ _ h
def gV : Value := .agg gL.toArray
theorem ix0 : ∀ w, (Instr.index 93 gV (.int .i64 0)).run Tryz.prog w = .ok (.agg #[.int .i64 69, .int .i64 11, .int .i64 0, .int .u8 127]) w := fun _ => by kernel_rfl
theorem ix1 : ∀ w, (Instr.index 93 gV (.int .i64 1)).run Tryz.prog w = .ok (.agg #[.int .i64 80, .int .i64 11, .int .i64 0, .int .u8 126]) w := fun _ => by kernel_rfl
theorem ix2 : ∀ w, (Instr.index 93 gV (.int .i64 2)).run Tryz.prog w = .ok (.agg #[.int .i64 91, .int .i64 6, .int .i64 1, .int .u8 125]) w := fun _ => by kernel_rfl
theorem ix3 : ∀ w, (Instr.index 93 gV (.int .i64 3)).run Tryz.prog w = .ok (.agg #[.int .i64 97, .int .i64 6, .int .i64 1, .int .u8 124]) w := fun _ => by kernel_rfl
theorem ix4 : ∀ w, (Instr.index 93 gV (.int .i64 4)).run Tryz.prog w = .ok (.agg #[.int .i64 103, .int .i64 18, .int .i64 2, .int .u8 127]) w := fun _ => by kernel_rfl
theorem ix5 : ∀ w, (Instr.index 93 gV (.int .i64 5)).run Tryz.prog w = .ok (.agg #[.int .i64 121, .int .i64 18, .int .i64 2, .int .u8 126]) w := fun _ => by kernel_rfl
theorem ix6 : ∀ w, (Instr.index 93 gV (.int .i64 6)).run Tryz.prog w = .ok (.agg #[.int .i64 139, .int .i64 14, .int .i64 3, .int .u8 125]) w := fun _ => by kernel_rfl
theorem ix7 : ∀ w, (Instr.index 93 gV (.int .i64 7)).run Tryz.prog w = .ok (.agg #[.int .i64 153, .int .i64 14, .int .i64 3, .int .u8 124]) w := fun _ => by kernel_rfl
theorem ix8 : ∀ w, (Instr.index 93 gV (.int .i64 8)).run Tryz.prog w = .ok (.agg #[.int .i64 167, .int .i64 25, .int .i64 4, .int .u8 0]) w := fun _ => by kernel_rfl
theorem ix9 : ∀ w, (Instr.index 93 gV (.int .i64 9)).run Tryz.prog w = .ok (.agg #[.int .i64 64512, .int .i64 8, .int .i64 5, .int .u8 0]) w := fun _ => by kernel_rfl
set_option maxHeartbeats 4000000 in
set_option maxRecDepth 100000 in
theorem find_0 {op : Int} (h0 : 69 ≤ op) (h1 : op < 80) : Cm 24 #[.int .i64 op] (.tuple #[.agg #[.int .i64 69, .int .i64 11, .int .i64 0, .int .u8 127], .int .i64 (op - 69), .bool true]) := by
  refine hide (fun W m => ?_)
  have HG := hide (fun o => (m.groups.below (below1 W o)))
  clear m
  have g0 : 69 ≤ op := by omega
  have e0 : IntKind.i64.wrap (op - 69) = op - 69 := i64_id (by omega) (by omega)
  have k0 : op - 69 < 11 := by omega
  go_enter Tryz.func24, Tryz.ntmps24
  go_wp2_with (refine wpList_load_tab rfl 93 (.global 0) rfl 0 rfl gL _ (unhide HG _) Tryz.underlying93 rfl (by kernel_rfl) ?_; rw [show Value.agg gL.toArray = gV from rfl])
  have i0 := ix0
  refine wp_loop_rounds 1 ?_
  rw [rounds_succ]
  go_wp2_with fail
  go_region
  go_wp2_with fail
  exact bodyPost_ret (v := .tuple #[.agg #[.int .i64 69, .int .i64 11, .int .i64 0, .int .u8 127], .int .i64 (op - 69), .bool true]) (by simp [results, Tryz.results24, go_sem]) rfl ⟨rfl, (balloc (balloc (Below.refl W.heap.size W) _) _).drew⟩
set_option maxHeartbeats 4000000 in
set_option maxRecDepth 100000 in
theorem find_1 {op : Int} (h0 : 80 ≤ op) (h1 : op < 91) : Cm 24 #[.int .i64 op] (.tuple #[.agg #[.int .i64 80, .int .i64 11, .int .i64 0, .int .u8 126], .int .i64 (op - 80), .bool true]) := by
  refine hide (fun W m => ?_)
  have HG := hide (fun o => (m.groups.below (below1 W o)))
  clear m
  have g0 : 69 ≤ op := by omega
  have e0 : IntKind.i64.wrap (op - 69) = op - 69 := i64_id (by omega) (by omega)
  have k0 : ¬ op - 69 < 11 := by omega
  have g1 : 80 ≤ op := by omega
  have e1 : IntKind.i64.wrap (op - 80) = op - 80 := i64_id (by omega) (by omega)
  have k1 : op - 80 < 11 := by omega
  go_enter Tryz.func24, Tryz.ntmps24
  go_wp2_with (refine wpList_load_tab rfl 93 (.global 0) rfl 0 rfl gL _ (unhide HG _) Tryz.underlying93 rfl (by kernel_rfl) ?_; rw [show Value.agg gL.toArray = gV from rfl])
  have i0 := ix0
  have i1 := ix1
  refine wp_loop_rounds 2 ?_
  rw [rounds_succ]
  go_wp2_with fail
  rw [rounds_succ]
  go_wp2_with fail
  go_region
  go_wp2_with fail
  exact bodyPost_ret (v := .tuple #[.agg #[.int .i64 80, .int .i64 11, .int .i64 0, .int .u8 126], .int .i64 (op - 80), .bool true]) (by simp [results, Tryz.results24, go_sem]) rfl ⟨rfl, (balloc (balloc (balloc (Below.refl W.heap.size W) _) _) _).drew⟩
set_option maxHeartbeats 4000000 in
set_option maxRecDepth 100000 in
theorem find_2 {op : Int} (h0 : 91 ≤ op) (h1 : op < 97) : Cm 24 #[.int .i64 op] (.tuple #[.agg #[.int .i64 91, .int .i64 6, .int .i64 1, .int .u8 125], .int .i64 (op - 91), .bool true]) := by
  refine hide (fun W m => ?_)
  have HG := hide (fun o => (m.groups.below (below1 W o)))
  clear m
  have g0 : 69 ≤ op := by omega
  have e0 : IntKind.i64.wrap (op - 69) = op - 69 := i64_id (by omega) (by omega)
  have k0 : ¬ op - 69 < 11 := by omega
  have g1 : 80 ≤ op := by omega
  have e1 : IntKind.i64.wrap (op - 80) = op - 80 := i64_id (by omega) (by omega)
  have k1 : ¬ op - 80 < 11 := by omega
  have g2 : 91 ≤ op := by omega
  have e2 : IntKind.i64.wrap (op - 91) = op - 91 := i64_id (by omega) (by omega)
  have k2 : op - 91 < 6 := by omega
  go_enter Tryz.func24, Tryz.ntmps24
  go_wp2_with (refine wpList_load_tab rfl 93 (.global 0) rfl 0 rfl gL _ (unhide HG _) Tryz.underlying93 rfl (by kernel_rfl) ?_; rw [show Value.agg gL.toArray = gV from rfl])
  have i0 := ix0
  have i1 := ix1
  have i2 := ix2
  refine wp_loop_rounds 3 ?_
  rw [rounds_succ]
  go_wp2_with fail
  rw [rounds_succ]
  go_wp2_with fail
  rw [rounds_succ]
  go_wp2_with fail
  go_region
  go_wp2_with fail
  exact bodyPost_ret (v := .tuple #[.agg #[.int .i64 91, .int .i64 6, .int .i64 1, .int .u8 125], .int .i64 (op - 91), .bool true]) (by simp [results, Tryz.results24, go_sem]) rfl ⟨rfl, (balloc (balloc (balloc (balloc (Below.refl W.heap.size W) _) _) _) _).drew⟩
set_option maxHeartbeats 4000000 in
set_option maxRecDepth 100000 in
theorem find_3 {op : Int} (h0 : 97 ≤ op) (h1 : op < 103) : Cm 24 #[.int .i64 op] (.tuple #[.agg #[.int .i64 97, .int .i64 6, .int .i64 1, .int .u8 124], .int .i64 (op - 97), .bool true]) := by
  refine hide (fun W m => ?_)
  have HG := hide (fun o => (m.groups.below (below1 W o)))
  clear m
  have g0 : 69 ≤ op := by omega
  have e0 : IntKind.i64.wrap (op - 69) = op - 69 := i64_id (by omega) (by omega)
  have k0 : ¬ op - 69 < 11 := by omega
  have g1 : 80 ≤ op := by omega
  have e1 : IntKind.i64.wrap (op - 80) = op - 80 := i64_id (by omega) (by omega)
  have k1 : ¬ op - 80 < 11 := by omega
  have g2 : 91 ≤ op := by omega
  have e2 : IntKind.i64.wrap (op - 91) = op - 91 := i64_id (by omega) (by omega)
  have k2 : ¬ op - 91 < 6 := by omega
  have g3 : 97 ≤ op := by omega
  have e3 : IntKind.i64.wrap (op - 97) = op - 97 := i64_id (by omega) (by omega)
  have k3 : op - 97 < 6 := by omega
  go_enter Tryz.func24, Tryz.ntmps24
  go_wp2_with (refine wpList_load_tab rfl 93 (.global 0) rfl 0 rfl gL _ (unhide HG _) Tryz.underlying93 rfl (by kernel_rfl) ?_; rw [show Value.agg gL.toArray = gV from rfl])
  have i0 := ix0
  have i1 := ix1
  have i2 := ix2
  have i3 := ix3
  refine wp_loop_rounds 4 ?_
  rw [rounds_succ]
  go_wp2_with fail
  rw [rounds_succ]
  go_wp2_with fail
  rw [rounds_succ]
  go_wp2_with fail
  rw [rounds_succ]
  go_wp2_with fail
  go_region
  go_wp2_with fail
  exact bodyPost_ret (v := .tuple #[.agg #[.int .i64 97, .int .i64 6, .int .i64 1, .int .u8 124], .int .i64 (op - 97), .bool true]) (by simp [results, Tryz.results24, go_sem]) rfl ⟨rfl, (balloc (balloc (balloc (balloc (balloc (Below.refl W.heap.size W) _) _) _) _) _).drew⟩
set_option maxHeartbeats 4000000 in
set_option maxRecDepth 100000 in
theorem find_4 {op : Int} (h0 : 103 ≤ op) (h1 : op < 121) : Cm 24 #[.int .i64 op] (.tuple #[.agg #[.int .i64 103, .int .i64 18, .int .i64 2, .int .u8 127], .int .i64 (op - 103), .bool true]) := by
  refine hide (fun W m => ?_)
  have HG := hide (fun o => (m.groups.below (below1 W o)))
  clear m
  have g0 : 69 ≤ op := by omega
  have e0 : IntKind.i64.wrap (op - 69) = op - 69 := i64_id (by omega) (by omega)
  have k0 : ¬ op - 69 < 11 := by omega
  have g1 : 80 ≤ op := by omega
  have e1 : IntKind.i64.wrap (op - 80) = op - 80 := i64_id (by omega) (by omega)
  have k1 : ¬ op - 80 < 11 := by omega
  have g2 : 91 ≤ op := by omega
  have e2 : IntKind.i64.wrap (op - 91) = op - 91 := i64_id (by omega) (by omega)
  have k2 : ¬ op - 91 < 6 := by omega
  have g3 : 97 ≤ op := by omega
  have e3 : IntKind.i64.wrap (op - 97) = op - 97 := i64_id (by omega) (by omega)
  have k3 : ¬ op - 97 < 6 := by omega
  have g4 : 103 ≤ op := by omega
  have e4 : IntKind.i64.wrap (op - 103) = op - 103 := i64_id (by omega) (by omega)
  have k4 : op - 103 < 18 := by omega
  go_enter Tryz.func24, Tryz.ntmps24
  go_wp2_with (refine wpList_load_tab rfl 93 (.global 0) rfl 0 rfl gL _ (unhide HG _) Tryz.underlying93 rfl (by kernel_rfl) ?_; rw [show Value.agg gL.toArray = gV from rfl])
  have i0 := ix0
  have i1 := ix1
  have i2 := ix2
  have i3 := ix3
  have i4 := ix4
  refine wp_loop_rounds 5 ?_
  rw [rounds_succ]
  go_wp2_with fail
  rw [rounds_succ]
  go_wp2_with fail
  rw [rounds_succ]
  go_wp2_with fail
  rw [rounds_succ]
  go_wp2_with fail
  rw [rounds_succ]
  go_wp2_with fail
  go_region
  go_wp2_with fail
  exact bodyPost_ret (v := .tuple #[.agg #[.int .i64 103, .int .i64 18, .int .i64 2, .int .u8 127], .int .i64 (op - 103), .bool true]) (by simp [results, Tryz.results24, go_sem]) rfl ⟨rfl, (balloc (balloc (balloc (balloc (balloc (balloc (Below.refl W.heap.size W) _) _) _) _) _) _).drew⟩
set_option maxHeartbeats 4000000 in
set_option maxRecDepth 100000 in
theorem find_5 {op : Int} (h0 : 121 ≤ op) (h1 : op < 139) : Cm 24 #[.int .i64 op] (.tuple #[.agg #[.int .i64 121, .int .i64 18, .int .i64 2, .int .u8 126], .int .i64 (op - 121), .bool true]) := by
  refine hide (fun W m => ?_)
  have HG := hide (fun o => (m.groups.below (below1 W o)))
  clear m
  have g0 : 69 ≤ op := by omega
  have e0 : IntKind.i64.wrap (op - 69) = op - 69 := i64_id (by omega) (by omega)
  have k0 : ¬ op - 69 < 11 := by omega
  have g1 : 80 ≤ op := by omega
  have e1 : IntKind.i64.wrap (op - 80) = op - 80 := i64_id (by omega) (by omega)
  have k1 : ¬ op - 80 < 11 := by omega
  have g2 : 91 ≤ op := by omega
  have e2 : IntKind.i64.wrap (op - 91) = op - 91 := i64_id (by omega) (by omega)
  have k2 : ¬ op - 91 < 6 := by omega
  have g3 : 97 ≤ op := by omega
  have e3 : IntKind.i64.wrap (op - 97) = op - 97 := i64_id (by omega) (by omega)
  have k3 : ¬ op - 97 < 6 := by omega
  have g4 : 103 ≤ op := by omega
  have e4 : IntKind.i64.wrap (op - 103) = op - 103 := i64_id (by omega) (by omega)
  have k4 : ¬ op - 103 < 18 := by omega
  have g5 : 121 ≤ op := by omega
  have e5 : IntKind.i64.wrap (op - 121) = op - 121 := i64_id (by omega) (by omega)
  have k5 : op - 121 < 18 := by omega
  go_enter Tryz.func24, Tryz.ntmps24
  go_wp2_with (refine wpList_load_tab rfl 93 (.global 0) rfl 0 rfl gL _ (unhide HG _) Tryz.underlying93 rfl (by kernel_rfl) ?_; rw [show Value.agg gL.toArray = gV from rfl])
  have i0 := ix0
  have i1 := ix1
  have i2 := ix2
  have i3 := ix3
  have i4 := ix4
  have i5 := ix5
  refine wp_loop_rounds 6 ?_
  rw [rounds_succ]
  go_wp2_with fail
  rw [rounds_succ]
  go_wp2_with fail
  rw [rounds_succ]
  go_wp2_with fail
  rw [rounds_succ]
  go_wp2_with fail
  rw [rounds_succ]
  go_wp2_with fail
  rw [rounds_succ]
  go_wp2_with fail
  go_region
  go_wp2_with fail
  exact bodyPost_ret (v := .tuple #[.agg #[.int .i64 121, .int .i64 18, .int .i64 2, .int .u8 126], .int .i64 (op - 121), .bool true]) (by simp [results, Tryz.results24, go_sem]) rfl ⟨rfl, (balloc (balloc (balloc (balloc (balloc (balloc (balloc (Below.refl W.heap.size W) _) _) _) _) _) _) _).drew⟩
set_option maxHeartbeats 4000000 in
set_option maxRecDepth 100000 in
theorem find_6 {op : Int} (h0 : 139 ≤ op) (h1 : op < 153) : Cm 24 #[.int .i64 op] (.tuple #[.agg #[.int .i64 139, .int .i64 14, .int .i64 3, .int .u8 125], .int .i64 (op - 139), .bool true]) := by
  refine hide (fun W m => ?_)
  have HG := hide (fun o => (m.groups.below (below1 W o)))
  clear m
  have g0 : 69 ≤ op := by omega
  have e0 : IntKind.i64.wrap (op - 69) = op - 69 := i64_id (by omega) (by omega)
  have k0 : ¬ op - 69 < 11 := by omega
  have g1 : 80 ≤ op := by omega
  have e1 : IntKind.i64.wrap (op - 80) = op - 80 := i64_id (by omega) (by omega)
  have k1 : ¬ op - 80 < 11 := by omega
  have g2 : 91 ≤ op := by omega
  have e2 : IntKind.i64.wrap (op - 91) = op - 91 := i64_id (by omega) (by omega)
  have k2 : ¬ op - 91 < 6 := by omega
  have g3 : 97 ≤ op := by omega
  have e3 : IntKind.i64.wrap (op - 97) = op - 97 := i64_id (by omega) (by omega)
  have k3 : ¬ op - 97 < 6 := by omega
  have g4 : 103 ≤ op := by omega
  have e4 : IntKind.i64.wrap (op - 103) = op - 103 := i64_id (by omega) (by omega)
  have k4 : ¬ op - 103 < 18 := by omega
  have g5 : 121 ≤ op := by omega
  have e5 : IntKind.i64.wrap (op - 121) = op - 121 := i64_id (by omega) (by omega)
  have k5 : ¬ op - 121 < 18 := by omega
  have g6 : 139 ≤ op := by omega
  have e6 : IntKind.i64.wrap (op - 139) = op - 139 := i64_id (by omega) (by omega)
  have k6 : op - 139 < 14 := by omega
  go_enter Tryz.func24, Tryz.ntmps24
  go_wp2_with (refine wpList_load_tab rfl 93 (.global 0) rfl 0 rfl gL _ (unhide HG _) Tryz.underlying93 rfl (by kernel_rfl) ?_; rw [show Value.agg gL.toArray = gV from rfl])
  have i0 := ix0
  have i1 := ix1
  have i2 := ix2
  have i3 := ix3
  have i4 := ix4
  have i5 := ix5
  have i6 := ix6
  refine wp_loop_rounds 7 ?_
  rw [rounds_succ]
  go_wp2_with fail
  rw [rounds_succ]
  go_wp2_with fail
  rw [rounds_succ]
  go_wp2_with fail
  rw [rounds_succ]
  go_wp2_with fail
  rw [rounds_succ]
  go_wp2_with fail
  rw [rounds_succ]
  go_wp2_with fail
  rw [rounds_succ]
  go_wp2_with fail
  go_region
  go_wp2_with fail
  exact bodyPost_ret (v := .tuple #[.agg #[.int .i64 139, .int .i64 14, .int .i64 3, .int .u8 125], .int .i64 (op - 139), .bool true]) (by simp [results, Tryz.results24, go_sem]) rfl ⟨rfl, (balloc (balloc (balloc (balloc (balloc (balloc (balloc (balloc (Below.refl W.heap.size W) _) _) _) _) _) _) _) _).drew⟩
set_option maxHeartbeats 4000000 in
set_option maxRecDepth 100000 in
theorem find_7 {op : Int} (h0 : 153 ≤ op) (h1 : op < 167) : Cm 24 #[.int .i64 op] (.tuple #[.agg #[.int .i64 153, .int .i64 14, .int .i64 3, .int .u8 124], .int .i64 (op - 153), .bool true]) := by
  refine hide (fun W m => ?_)
  have HG := hide (fun o => (m.groups.below (below1 W o)))
  clear m
  have g0 : 69 ≤ op := by omega
  have e0 : IntKind.i64.wrap (op - 69) = op - 69 := i64_id (by omega) (by omega)
  have k0 : ¬ op - 69 < 11 := by omega
  have g1 : 80 ≤ op := by omega
  have e1 : IntKind.i64.wrap (op - 80) = op - 80 := i64_id (by omega) (by omega)
  have k1 : ¬ op - 80 < 11 := by omega
  have g2 : 91 ≤ op := by omega
  have e2 : IntKind.i64.wrap (op - 91) = op - 91 := i64_id (by omega) (by omega)
  have k2 : ¬ op - 91 < 6 := by omega
  have g3 : 97 ≤ op := by omega
  have e3 : IntKind.i64.wrap (op - 97) = op - 97 := i64_id (by omega) (by omega)
  have k3 : ¬ op - 97 < 6 := by omega
  have g4 : 103 ≤ op := by omega
  have e4 : IntKind.i64.wrap (op - 103) = op - 103 := i64_id (by omega) (by omega)
  have k4 : ¬ op - 103 < 18 := by omega
  have g5 : 121 ≤ op := by omega
  have e5 : IntKind.i64.wrap (op - 121) = op - 121 := i64_id (by omega) (by omega)
  have k5 : ¬ op - 121 < 18 := by omega
  have g6 : 139 ≤ op := by omega
  have e6 : IntKind.i64.wrap (op - 139) = op - 139 := i64_id (by omega) (by omega)
  have k6 : ¬ op - 139 < 14 := by omega
  have g7 : 153 ≤ op := by omega
  have e7 : IntKind.i64.wrap (op - 153) = op - 153 := i64_id (by omega) (by omega)
  have k7 : op - 153 < 14 := by omega
  go_enter Tryz.func24, Tryz.ntmps24
  go_wp2_with (refine wpList_load_tab rfl 93 (.global 0) rfl 0 rfl gL _ (unhide HG _) Tryz.underlying93 rfl (by kernel_rfl) ?_; rw [show Value.agg gL.toArray = gV from rfl])
  have i0 := ix0
  have i1 := ix1
  have i2 := ix2
  have i3 := ix3
  have i4 := ix4
  have i5 := ix5
  have i6 := ix6
  have i7 := ix7
  refine wp_loop_rounds 8 ?_
  rw [rounds_succ]
  go_wp2_with fail
  rw [rounds_succ]
  go_wp2_with fail
  rw [rounds_succ]
  go_wp2_with fail
  rw [rounds_succ]
  go_wp2_with fail
  rw [rounds_succ]
  go_wp2_with fail
  rw [rounds_succ]
  go_wp2_with fail
  rw [rounds_succ]
  go_wp2_with fail
  rw [rounds_succ]
  go_wp2_with fail
  go_region
  go_wp2_with fail
  exact bodyPost_ret (v := .tuple #[.agg #[.int .i64 153, .int .i64 14, .int .i64 3, .int .u8 124], .int .i64 (op - 153), .bool true]) (by simp [results, Tryz.results24, go_sem]) rfl ⟨rfl, (balloc (balloc (balloc (balloc (balloc (balloc (balloc (balloc (balloc (Below.refl W.heap.size W) _) _) _) _) _) _) _) _) _).drew⟩
set_option maxHeartbeats 4000000 in
set_option maxRecDepth 100000 in
theorem find_8 {op : Int} (h0 : 167 ≤ op) (h1 : op < 192) : Cm 24 #[.int .i64 op] (.tuple #[.agg #[.int .i64 167, .int .i64 25, .int .i64 4, .int .u8 0], .int .i64 (op - 167), .bool true]) := by
  refine hide (fun W m => ?_)
  have HG := hide (fun o => (m.groups.below (below1 W o)))
  clear m
  have g0 : 69 ≤ op := by omega
  have e0 : IntKind.i64.wrap (op - 69) = op - 69 := i64_id (by omega) (by omega)
  have k0 : ¬ op - 69 < 11 := by omega
  have g1 : 80 ≤ op := by omega
  have e1 : IntKind.i64.wrap (op - 80) = op - 80 := i64_id (by omega) (by omega)
  have k1 : ¬ op - 80 < 11 := by omega
  have g2 : 91 ≤ op := by omega
  have e2 : IntKind.i64.wrap (op - 91) = op - 91 := i64_id (by omega) (by omega)
  have k2 : ¬ op - 91 < 6 := by omega
  have g3 : 97 ≤ op := by omega
  have e3 : IntKind.i64.wrap (op - 97) = op - 97 := i64_id (by omega) (by omega)
  have k3 : ¬ op - 97 < 6 := by omega
  have g4 : 103 ≤ op := by omega
  have e4 : IntKind.i64.wrap (op - 103) = op - 103 := i64_id (by omega) (by omega)
  have k4 : ¬ op - 103 < 18 := by omega
  have g5 : 121 ≤ op := by omega
  have e5 : IntKind.i64.wrap (op - 121) = op - 121 := i64_id (by omega) (by omega)
  have k5 : ¬ op - 121 < 18 := by omega
  have g6 : 139 ≤ op := by omega
  have e6 : IntKind.i64.wrap (op - 139) = op - 139 := i64_id (by omega) (by omega)
  have k6 : ¬ op - 139 < 14 := by omega
  have g7 : 153 ≤ op := by omega
  have e7 : IntKind.i64.wrap (op - 153) = op - 153 := i64_id (by omega) (by omega)
  have k7 : ¬ op - 153 < 14 := by omega
  have g8 : 167 ≤ op := by omega
  have e8 : IntKind.i64.wrap (op - 167) = op - 167 := i64_id (by omega) (by omega)
  have k8 : op - 167 < 25 := by omega
  go_enter Tryz.func24, Tryz.ntmps24
  go_wp2_with (refine wpList_load_tab rfl 93 (.global 0) rfl 0 rfl gL _ (unhide HG _) Tryz.underlying93 rfl (by kernel_rfl) ?_; rw [show Value.agg gL.toArray = gV from rfl])
  have i0 := ix0
  have i1 := ix1
  have i2 := ix2
  have i3 := ix3
  have i4 := ix4
  have i5 := ix5
  have i6 := ix6
  have i7 := ix7
  have i8 := ix8
  refine wp_loop_rounds 9 ?_
  rw [rounds_succ]
  go_wp2_with fail
  rw [rounds_succ]
  go_wp2_with fail
  rw [rounds_succ]
  go_wp2_with fail
  rw [rounds_succ]
  go_wp2_with fail
  rw [rounds_succ]
  go_wp2_with fail
  rw [rounds_succ]
  go_wp2_with fail
  rw [rounds_succ]
  go_wp2_with fail
  rw [rounds_succ]
  go_wp2_with fail
  rw [rounds_succ]
  go_wp2_with fail
  go_region
  go_wp2_with fail
  exact bodyPost_ret (v := .tuple #[.agg #[.int .i64 167, .int .i64 25, .int .i64 4, .int .u8 0], .int .i64 (op - 167), .bool true]) (by simp [results, Tryz.results24, go_sem]) rfl ⟨rfl, (balloc (balloc (balloc (balloc (balloc (balloc (balloc (balloc (balloc (balloc (Below.refl W.heap.size W) _) _) _) _) _) _) _) _) _) _).drew⟩
set_option maxHeartbeats 4000000 in
set_option maxRecDepth 100000 in
theorem find_9 {op : Int} (h0 : 64512 ≤ op) (h1 : op < 64520) : Cm 24 #[.int .i64 op] (.tuple #[.agg #[.int .i64 64512, .int .i64 8, .int .i64 5, .int .u8 0], .int .i64 (op - 64512), .bool true]) := by
  refine hide (fun W m => ?_)
  have HG := hide (fun o => (m.groups.below (below1 W o)))
  clear m
  have g0 : 69 ≤ op := by omega
  have e0 : IntKind.i64.wrap (op - 69) = op - 69 := i64_id (by omega) (by omega)
  have k0 : ¬ op - 69 < 11 := by omega
  have g1 : 80 ≤ op := by omega
  have e1 : IntKind.i64.wrap (op - 80) = op - 80 := i64_id (by omega) (by omega)
  have k1 : ¬ op - 80 < 11 := by omega
  have g2 : 91 ≤ op := by omega
  have e2 : IntKind.i64.wrap (op - 91) = op - 91 := i64_id (by omega) (by omega)
  have k2 : ¬ op - 91 < 6 := by omega
  have g3 : 97 ≤ op := by omega
  have e3 : IntKind.i64.wrap (op - 97) = op - 97 := i64_id (by omega) (by omega)
  have k3 : ¬ op - 97 < 6 := by omega
  have g4 : 103 ≤ op := by omega
  have e4 : IntKind.i64.wrap (op - 103) = op - 103 := i64_id (by omega) (by omega)
  have k4 : ¬ op - 103 < 18 := by omega
  have g5 : 121 ≤ op := by omega
  have e5 : IntKind.i64.wrap (op - 121) = op - 121 := i64_id (by omega) (by omega)
  have k5 : ¬ op - 121 < 18 := by omega
  have g6 : 139 ≤ op := by omega
  have e6 : IntKind.i64.wrap (op - 139) = op - 139 := i64_id (by omega) (by omega)
  have k6 : ¬ op - 139 < 14 := by omega
  have g7 : 153 ≤ op := by omega
  have e7 : IntKind.i64.wrap (op - 153) = op - 153 := i64_id (by omega) (by omega)
  have k7 : ¬ op - 153 < 14 := by omega
  have g8 : 167 ≤ op := by omega
  have e8 : IntKind.i64.wrap (op - 167) = op - 167 := i64_id (by omega) (by omega)
  have k8 : ¬ op - 167 < 25 := by omega
  have g9 : 64512 ≤ op := by omega
  have e9 : IntKind.i64.wrap (op - 64512) = op - 64512 := i64_id (by omega) (by omega)
  have k9 : op - 64512 < 8 := by omega
  go_enter Tryz.func24, Tryz.ntmps24
  go_wp2_with (refine wpList_load_tab rfl 93 (.global 0) rfl 0 rfl gL _ (unhide HG _) Tryz.underlying93 rfl (by kernel_rfl) ?_; rw [show Value.agg gL.toArray = gV from rfl])
  have i0 := ix0
  have i1 := ix1
  have i2 := ix2
  have i3 := ix3
  have i4 := ix4
  have i5 := ix5
  have i6 := ix6
  have i7 := ix7
  have i8 := ix8
  have i9 := ix9
  refine wp_loop_rounds 10 ?_
  rw [rounds_succ]
  go_wp2_with fail
  rw [rounds_succ]
  go_wp2_with fail
  rw [rounds_succ]
  go_wp2_with fail
  rw [rounds_succ]
  go_wp2_with fail
  rw [rounds_succ]
  go_wp2_with fail
  rw [rounds_succ]
  go_wp2_with fail
  rw [rounds_succ]
  go_wp2_with fail
  rw [rounds_succ]
  go_wp2_with fail
  rw [rounds_succ]
  go_wp2_with fail
  rw [rounds_succ]
  go_wp2_with fail
  go_region
  go_wp2_with fail
  exact bodyPost_ret (v := .tuple #[.agg #[.int .i64 64512, .int .i64 8, .int .i64 5, .int .u8 0], .int .i64 (op - 64512), .bool true]) (by simp [results, Tryz.results24, go_sem]) rfl ⟨rfl, (balloc (balloc (balloc (balloc (balloc (balloc (balloc (balloc (balloc (balloc (balloc (Below.refl W.heap.size W) _) _) _) _) _) _) _) _) _) _) _).drew⟩
set_option maxHeartbeats 4000000 in
set_option maxRecDepth 100000 in
theorem find_lo {op : Int} (h : op < 69) : Cm 24 #[.int .i64 op] (.tuple #[.agg #[.int .i64 0, .int .i64 0, .int .i64 0, .int .u8 0], .int .i64 0, .bool false]) := by
  refine hide (fun W m => ?_)
  have HG := hide (fun o => (m.groups.below (below1 W o)))
  clear m
  have g0 : ¬ 69 ≤ op := by omega
  have g1 : ¬ 80 ≤ op := by omega
  have g2 : ¬ 91 ≤ op := by omega
  have g3 : ¬ 97 ≤ op := by omega
  have g4 : ¬ 103 ≤ op := by omega
  have g5 : ¬ 121 ≤ op := by omega
  have g6 : ¬ 139 ≤ op := by omega
  have g7 : ¬ 153 ≤ op := by omega
  have g8 : ¬ 167 ≤ op := by omega
  have g9 : ¬ 64512 ≤ op := by omega
  go_enter Tryz.func24, Tryz.ntmps24
  go_wp2_with (refine wpList_load_tab rfl 93 (.global 0) rfl 0 rfl gL _ (unhide HG _) Tryz.underlying93 rfl (by kernel_rfl) ?_; rw [show Value.agg gL.toArray = gV from rfl])
  have i0 := ix0
  have i1 := ix1
  have i2 := ix2
  have i3 := ix3
  have i4 := ix4
  have i5 := ix5
  have i6 := ix6
  have i7 := ix7
  have i8 := ix8
  have i9 := ix9
  refine wp_loop_rounds 11 ?_
  rw [rounds_succ]
  go_wp2_with fail
  rw [rounds_succ]
  go_wp2_with fail
  rw [rounds_succ]
  go_wp2_with fail
  rw [rounds_succ]
  go_wp2_with fail
  rw [rounds_succ]
  go_wp2_with fail
  rw [rounds_succ]
  go_wp2_with fail
  rw [rounds_succ]
  go_wp2_with fail
  rw [rounds_succ]
  go_wp2_with fail
  rw [rounds_succ]
  go_wp2_with fail
  rw [rounds_succ]
  go_wp2_with fail
  rw [rounds_succ]
  go_wp2_with fail
  exact bodyPost_ret (v := .tuple #[.agg #[.int .i64 0, .int .i64 0, .int .i64 0, .int .u8 0], .int .i64 0, .bool false]) (by simp [results, Tryz.results24, go_sem]) rfl ⟨rfl, (balloc (balloc (balloc (balloc (balloc (balloc (balloc (balloc (balloc (balloc (balloc (Below.refl W.heap.size W) _) _) _) _) _) _) _) _) _) _) _)⟩
set_option maxHeartbeats 4000000 in
set_option maxRecDepth 100000 in
theorem find_mi {op : Int} (h0 : 192 ≤ op) (h1 : op < 64512) : Cm 24 #[.int .i64 op] (.tuple #[.agg #[.int .i64 0, .int .i64 0, .int .i64 0, .int .u8 0], .int .i64 0, .bool false]) := by
  refine hide (fun W m => ?_)
  have HG := hide (fun o => (m.groups.below (below1 W o)))
  clear m
  have g0 : 69 ≤ op := by omega
  have e0 : IntKind.i64.wrap (op - 69) = op - 69 := i64_id (by omega) (by omega)
  have k0 : ¬ op - 69 < 11 := by omega
  have g1 : 80 ≤ op := by omega
  have e1 : IntKind.i64.wrap (op - 80) = op - 80 := i64_id (by omega) (by omega)
  have k1 : ¬ op - 80 < 11 := by omega
  have g2 : 91 ≤ op := by omega
  have e2 : IntKind.i64.wrap (op - 91) = op - 91 := i64_id (by omega) (by omega)
  have k2 : ¬ op - 91 < 6 := by omega
  have g3 : 97 ≤ op := by omega
  have e3 : IntKind.i64.wrap (op - 97) = op - 97 := i64_id (by omega) (by omega)
  have k3 : ¬ op - 97 < 6 := by omega
  have g4 : 103 ≤ op := by omega
  have e4 : IntKind.i64.wrap (op - 103) = op - 103 := i64_id (by omega) (by omega)
  have k4 : ¬ op - 103 < 18 := by omega
  have g5 : 121 ≤ op := by omega
  have e5 : IntKind.i64.wrap (op - 121) = op - 121 := i64_id (by omega) (by omega)
  have k5 : ¬ op - 121 < 18 := by omega
  have g6 : 139 ≤ op := by omega
  have e6 : IntKind.i64.wrap (op - 139) = op - 139 := i64_id (by omega) (by omega)
  have k6 : ¬ op - 139 < 14 := by omega
  have g7 : 153 ≤ op := by omega
  have e7 : IntKind.i64.wrap (op - 153) = op - 153 := i64_id (by omega) (by omega)
  have k7 : ¬ op - 153 < 14 := by omega
  have g8 : 167 ≤ op := by omega
  have e8 : IntKind.i64.wrap (op - 167) = op - 167 := i64_id (by omega) (by omega)
  have k8 : ¬ op - 167 < 25 := by omega
  have g9 : ¬ 64512 ≤ op := by omega
  go_enter Tryz.func24, Tryz.ntmps24
  go_wp2_with (refine wpList_load_tab rfl 93 (.global 0) rfl 0 rfl gL _ (unhide HG _) Tryz.underlying93 rfl (by kernel_rfl) ?_; rw [show Value.agg gL.toArray = gV from rfl])
  have i0 := ix0
  have i1 := ix1
  have i2 := ix2
  have i3 := ix3
  have i4 := ix4
  have i5 := ix5
  have i6 := ix6
  have i7 := ix7
  have i8 := ix8
  have i9 := ix9
  refine wp_loop_rounds 11 ?_
  rw [rounds_succ]
  go_wp2_with fail
  rw [rounds_succ]
  go_wp2_with fail
  rw [rounds_succ]
  go_wp2_with fail
  rw [rounds_succ]
  go_wp2_with fail
  rw [rounds_succ]
  go_wp2_with fail
  rw [rounds_succ]
  go_wp2_with fail
  rw [rounds_succ]
  go_wp2_with fail
  rw [rounds_succ]
  go_wp2_with fail
  rw [rounds_succ]
  go_wp2_with fail
  rw [rounds_succ]
  go_wp2_with fail
  rw [rounds_succ]
  go_wp2_with fail
  exact bodyPost_ret (v := .tuple #[.agg #[.int .i64 0, .int .i64 0, .int .i64 0, .int .u8 0], .int .i64 0, .bool false]) (by simp [results, Tryz.results24, go_sem]) rfl ⟨rfl, (balloc (balloc (balloc (balloc (balloc (balloc (balloc (balloc (balloc (balloc (balloc (Below.refl W.heap.size W) _) _) _) _) _) _) _) _) _) _) _)⟩
set_option maxHeartbeats 4000000 in
set_option maxRecDepth 100000 in
theorem find_hi {op : Int} (h0 : 64520 ≤ op) (h1 : op ≤ 9223372036854775807) : Cm 24 #[.int .i64 op] (.tuple #[.agg #[.int .i64 0, .int .i64 0, .int .i64 0, .int .u8 0], .int .i64 0, .bool false]) := by
  refine hide (fun W m => ?_)
  have HG := hide (fun o => (m.groups.below (below1 W o)))
  clear m
  have g0 : 69 ≤ op := by omega
  have e0 : IntKind.i64.wrap (op - 69) = op - 69 := i64_id (by omega) (by omega)
  have k0 : ¬ op - 69 < 11 := by omega
  have g1 : 80 ≤ op := by omega
  have e1 : IntKind.i64.wrap (op - 80) = op - 80 := i64_id (by omega) (by omega)
  have k1 : ¬ op - 80 < 11 := by omega
  have g2 : 91 ≤ op := by omega
  have e2 : IntKind.i64.wrap (op - 91) = op - 91 := i64_id (by omega) (by omega)
  have k2 : ¬ op - 91 < 6 := by omega
  have g3 : 97 ≤ op := by omega
  have e3 : IntKind.i64.wrap (op - 97) = op - 97 := i64_id (by omega) (by omega)
  have k3 : ¬ op - 97 < 6 := by omega
  have g4 : 103 ≤ op := by omega
  have e4 : IntKind.i64.wrap (op - 103) = op - 103 := i64_id (by omega) (by omega)
  have k4 : ¬ op - 103 < 18 := by omega
  have g5 : 121 ≤ op := by omega
  have e5 : IntKind.i64.wrap (op - 121) = op - 121 := i64_id (by omega) (by omega)
  have k5 : ¬ op - 121 < 18 := by omega
  have g6 : 139 ≤ op := by omega
  have e6 : IntKind.i64.wrap (op - 139) = op - 139 := i64_id (by omega) (by omega)
  have k6 : ¬ op - 139 < 14 := by omega
  have g7 : 153 ≤ op := by omega
  have e7 : IntKind.i64.wrap (op - 153) = op - 153 := i64_id (by omega) (by omega)
  have k7 : ¬ op - 153 < 14 := by omega
  have g8 : 167 ≤ op := by omega
  have e8 : IntKind.i64.wrap (op - 167) = op - 167 := i64_id (by omega) (by omega)
  have k8 : ¬ op - 167 < 25 := by omega
  have g9 : 64512 ≤ op := by omega
  have e9 : IntKind.i64.wrap (op - 64512) = op - 64512 := i64_id (by omega) (by omega)
  have k9 : ¬ op - 64512 < 8 := by omega
  go_enter Tryz.func24, Tryz.ntmps24
  go_wp2_with (refine wpList_load_tab rfl 93 (.global 0) rfl 0 rfl gL _ (unhide HG _) Tryz.underlying93 rfl (by kernel_rfl) ?_; rw [show Value.agg gL.toArray = gV from rfl])
  have i0 := ix0
  have i1 := ix1
  have i2 := ix2
  have i3 := ix3
  have i4 := ix4
  have i5 := ix5
  have i6 := ix6
  have i7 := ix7
  have i8 := ix8
  have i9 := ix9
  refine wp_loop_rounds 11 ?_
  rw [rounds_succ]
  go_wp2_with fail
  rw [rounds_succ]
  go_wp2_with fail
  rw [rounds_succ]
  go_wp2_with fail
  rw [rounds_succ]
  go_wp2_with fail
  rw [rounds_succ]
  go_wp2_with fail
  rw [rounds_succ]
  go_wp2_with fail
  rw [rounds_succ]
  go_wp2_with fail
  rw [rounds_succ]
  go_wp2_with fail
  rw [rounds_succ]
  go_wp2_with fail
  rw [rounds_succ]
  go_wp2_with fail
  rw [rounds_succ]
  go_wp2_with fail
  exact bodyPost_ret (v := .tuple #[.agg #[.int .i64 0, .int .i64 0, .int .i64 0, .int .u8 0], .int .i64 0, .bool false]) (by simp [results, Tryz.results24, go_sem]) rfl ⟨rfl, (balloc (balloc (balloc (balloc (balloc (balloc (balloc (balloc (balloc (balloc (balloc (Below.refl W.heap.size W) _) _) _) _) _) _) _) _) _) _) _)⟩
end Go.Proofs.YtpbgpdmffejdgaaGreatDoor
namespace Go.Proofs.YtpbgpdmffejdgaaGreatDoor
open Go.RowKit

/-- A width that is one. -/
def Kd (w e f P Q b : Int) : Prop := (w = 32 ∧ e = 8 ∧ f = 23 ∧ P = 8388608 ∧ Q = 256 ∧ b = 127) ∨ (w = 64 ∧ e = 11 ∧ f = 52 ∧ P = 4503599627370496 ∧ Q = 2048 ∧ b = 1023)
theorem Kd.wd {w e f P Q b : Int} (h : Kd w e f P Q b) : Wd w e f P Q b := by
  rcases h with h | h
  · exact Or.inl h
  · exact Or.inr (Or.inl h)
theorem Wd.known {w e f P Q b : Int} (h : Wd w e f P Q b) (hf : f ≠ 0) : Kd w e f P Q b := by
  rcases h with h | h | h
  · exact Or.inl h
  · exact Or.inr h
  · exact absurd h.2.2.1 hf
theorem Kd.f0 {w e f P Q b : Int} (h : Kd w e f P Q b) : f ≠ 0 := by rcases h with h | h <;> omega

theorem put_no {f P Q x y : Int} (hf : f ≠ 0) : put f P Q false x y = x * P + y := by unfold put; rw [if_neg hf]; simp
theorem put_yes {f P Q x y : Int} (hf : f ≠ 0) : put f P Q true x y = x * P + y + P * Q := by unfold put; rw [if_neg hf]; simp

theorem Kd.pos {w e f P Q b : Int} (h : Kd w e f P Q b) : 2 ≤ P ∧ P ≤ 4503599627370496 ∧ 2 ≤ Q ∧ Q ≤ 2048 := by rcases h with h | h <;> omega

end Go.Proofs.YtpbgpdmffejdgaaGreatDoor
namespace Go.Proofs.YtpbgpdmffejdgaaGreatDoor
open Go.RowKit

theorem bset4 {a b : World} (h : Below a.heap.size a b) (v0 v1 v2 v3 : Value) : Below a.heap.size a ((((b.setCell ⟨a.heap.size, 0, none⟩ v0).setCell ⟨a.heap.size, 1, none⟩ v1).setCell ⟨a.heap.size, 2, none⟩ v2).setCell ⟨a.heap.size, 3, none⟩ v3) :=
  bset (bset (bset (bset h _ (Nat.le_refl _) _ _) _ (Nat.le_refl _) _ _) _ (Nat.le_refl _) _ _) _ (Nat.le_refl _) _ _
theorem room4 {W w1 : World} {v0 v1 v2 v3 : Value} {t : TypeId} (hb : Below (W.alloc (.cells #[v0, v1, v2, v3] t)).heap.size (W.alloc (.cells #[v0, v1, v2, v3] t)) w1) : Room W.heap.size 4 w1 :=
  Room.below (w := W.alloc (.cells #[v0, v1, v2, v3] t)) (by
    intro o ho
    match o, ho with
    | 0, _ | 1, _ | 2, _ | 3, _ => simp [go_sem]) hb
theorem At5.set {b c : Nat} {x y z u v : Value} {w : World} (h : At5 b x y z u v w) (hc : b ≠ c) (o : Nat) (k : Value) : At5 b x y z u v (w.setCell ⟨c, o, none⟩ k) :=
  ⟨keep_set _ _ _ hc h.1, keep_set _ _ _ hc h.2.1, keep_set _ _ _ hc h.2.2.1, keep_set _ _ _ hc h.2.2.2.1, keep_set _ _ _ hc h.2.2.2.2⟩

set_option maxRecDepth 100000 in
set_option maxHeartbeats 4000000 in
theorem open_no {w e f P Q b : Int} (x xx yy : Int) (n : Bool) (_ : Sz e f P Q b) (W : World)
    (HT : Ct 46 #[.int .i64 w, .int .u64 x] (.agg #[.int .i64 e, .int .i64 f, .bool n, .int .u64 xx, .int .u64 yy])) (hf : (f != 0) = false) :
    Calls Tryz.prog 15 #[.int .i64 w, .int .u64 x] W fun r W' => r = .returned (.agg #[.bool false, .int .i64 0, .int .i64 0, .int .u64 0]) ∧ Below W.heap.size W W' := by
  go_enter Tryz.func15, Tryz.ntmps15
  go_wp2_with fail
  refine (unhide HT _).mono ?_
  rintro _ w1 ⟨rfl, hbl⟩
  have HR := hide ((room4 hbl).alloc (.cells #[.int .i64 e, .int .i64 f, .bool n, .int .u64 xx, .int .u64 yy] 82))
  have HB := hide (balloc (bthen (below1 _ _) hbl) (.cells #[.int .i64 e, .int .i64 f, .bool n, .int .u64 xx, .int .u64 yy] 82))
  have HA : Hid (At5 w1.heap.size (.int .i64 e) (.int .i64 f) (.bool n) (.int .u64 xx) (.int .u64 yy) (w1.alloc (.cells #[.int .i64 e, .int .i64 f, .bool n, .int .u64 xx, .int .u64 yy] 82))) := by unfold Hid At5; simp [go_sem]
  have hz1 : W.heap.size < w1.heap.size := by have := hbl.size; simp at this; omega
  clear hbl HT
  go_wp2_with fail
  refine (known_any e f _).mono ?_
  rintro _ w2 ⟨rfl, hbl⟩
  have HB := hide (bthen (unhide HB) hbl)
  have HA := hide ((unhide HA).below hbl)
  have HR := hide ((unhide HR).below hbl)
  clear hbl
  obtain ⟨⟨v0, c0⟩, f0⟩ := (unhide HR) 0 (by omega)
  obtain ⟨⟨v1, c1⟩, f1⟩ := (unhide HR) 1 (by omega)
  obtain ⟨⟨v2, c2⟩, f2⟩ := (unhide HR) 2 (by omega)
  obtain ⟨⟨v3, c3⟩, f3⟩ := (unhide HR) 3 (by omega)
  go_wp2_with fail
  exact bodyPost_ret (v := .agg #[.bool false, .int .i64 0, .int .i64 0, .int .u64 0]) (by simp (maxDischargeDepth := 8) [results, Tryz.results15, go_sem, c0, c1, c2, c3]) rfl ⟨rfl, bset4 (unhide HB) _ _ _ _⟩

set_option maxRecDepth 100000 in
set_option maxHeartbeats 4000000 in
theorem open_nan {w e f P Q b : Int} (x xx yy : Int) (n : Bool) (hs : Sz e f P Q b) (W : World)
    (HT : Ct 46 #[.int .i64 w, .int .u64 x] (.agg #[.int .i64 e, .int .i64 f, .bool n, .int .u64 xx, .int .u64 yy])) (hf : (f != 0) = true) (h1 : (xx == Q - 1) = true) (h2 : (yy != 0) = true) :
    Calls Tryz.prog 15 #[.int .i64 w, .int .u64 x] W fun r W' => r = .returned (.agg #[.bool false, .int .i64 3, .int .i64 0, .int .u64 0]) ∧ Below W.heap.size W W' := by
  go_enter Tryz.func15, Tryz.ntmps15
  go_wp2_with fail
  refine (unhide HT _).mono ?_
  rintro _ w1 ⟨rfl, hbl⟩
  have HR := hide ((room4 hbl).alloc (.cells #[.int .i64 e, .int .i64 f, .bool n, .int .u64 xx, .int .u64 yy] 82))
  have HB := hide (balloc (bthen (below1 _ _) hbl) (.cells #[.int .i64 e, .int .i64 f, .bool n, .int .u64 xx, .int .u64 yy] 82))
  have HA : Hid (At5 w1.heap.size (.int .i64 e) (.int .i64 f) (.bool n) (.int .u64 xx) (.int .u64 yy) (w1.alloc (.cells #[.int .i64 e, .int .i64 f, .bool n, .int .u64 xx, .int .u64 yy] 82))) := by unfold Hid At5; simp [go_sem]
  have hz1 : W.heap.size < w1.heap.size := by have := hbl.size; simp at this; omega
  clear hbl HT
  go_wp2_with fail
  refine (known_any e f _).mono ?_
  rintro _ w2 ⟨rfl, hbl⟩
  have HB := hide (bthen (unhide HB) hbl)
  have HA := hide ((unhide HA).below hbl)
  have HR := hide ((unhide HR).below hbl)
  clear hbl
  obtain ⟨a0, a1, a2, a3, a4⟩ := unhide HA
  go_wp2_with fail
  refine (isNan_any n xx yy hs _).mono ?_
  rintro _ w3 ⟨rfl, hbl⟩
  clear a0 a1 a2 a3 a4
  have HB := hide (bthen (unhide HB) hbl)
  have HA := hide ((unhide HA).below hbl)
  have HR := hide ((unhide HR).below hbl)
  clear hbl
  obtain ⟨⟨v0, c0⟩, f0⟩ := (unhide HR) 0 (by omega)
  obtain ⟨⟨v1, c1⟩, f1⟩ := (unhide HR) 1 (by omega)
  obtain ⟨⟨v2, c2⟩, f2⟩ := (unhide HR) 2 (by omega)
  obtain ⟨⟨v3, c3⟩, f3⟩ := (unhide HR) 3 (by omega)
  rw [h1, h2]
  go_wp2_with fail
  exact bodyPost_ret (v := .agg #[.bool false, .int .i64 3, .int .i64 0, .int .u64 0]) (by simp (maxDischargeDepth := 8) [results, Tryz.results15, go_sem, c0, c1, c2, c3]) rfl ⟨rfl, bset4 (unhide HB) _ _ _ _⟩

set_option maxRecDepth 100000 in
set_option maxHeartbeats 4000000 in
theorem open_inf {w e f P Q b : Int} (x xx yy : Int) (n : Bool) (hs : Sz e f P Q b) (W : World)
    (HT : Ct 46 #[.int .i64 w, .int .u64 x] (.agg #[.int .i64 e, .int .i64 f, .bool n, .int .u64 xx, .int .u64 yy])) (hf : (f != 0) = true) (h1 : (xx == Q - 1) = true) (h2 : (yy != 0) = false) :
    Calls Tryz.prog 15 #[.int .i64 w, .int .u64 x] W fun r W' => r = .returned (.agg #[.bool n, .int .i64 2, .int .i64 0, .int .u64 0]) ∧ Below W.heap.size W W' := by
  go_enter Tryz.func15, Tryz.ntmps15
  go_wp2_with fail
  refine (unhide HT _).mono ?_
  rintro _ w1 ⟨rfl, hbl⟩
  have HR := hide ((room4 hbl).alloc (.cells #[.int .i64 e, .int .i64 f, .bool n, .int .u64 xx, .int .u64 yy] 82))
  have HB := hide (balloc (bthen (below1 _ _) hbl) (.cells #[.int .i64 e, .int .i64 f, .bool n, .int .u64 xx, .int .u64 yy] 82))
  have HA : Hid (At5 w1.heap.size (.int .i64 e) (.int .i64 f) (.bool n) (.int .u64 xx) (.int .u64 yy) (w1.alloc (.cells #[.int .i64 e, .int .i64 f, .bool n, .int .u64 xx, .int .u64 yy] 82))) := by unfold Hid At5; simp [go_sem]
  have hz1 : W.heap.size < w1.heap.size := by have := hbl.size; simp at this; omega
  clear hbl HT
  go_wp2_with fail
  refine (known_any e f _).mono ?_
  rintro _ w2 ⟨rfl, hbl⟩
  have HB := hide (bthen (unhide HB) hbl)
  have HA := hide ((unhide HA).below hbl)
  have HR := hide ((unhide HR).below hbl)
  clear hbl
  obtain ⟨a0, a1, a2, a3, a4⟩ := unhide HA
  go_wp2_with fail
  refine (isNan_any n xx yy hs _).mono ?_
  rintro _ w3 ⟨rfl, hbl⟩
  clear a0 a1 a2 a3 a4
  have HB := hide (bthen (unhide HB) hbl)
  have HA := hide ((unhide HA).below hbl)
  have HR := hide ((unhide HR).below hbl)
  clear hbl
  rw [h1, h2]
  go_wp2_with fail
  have HB := hide (unhide HB).drew
  have HA := hide ((unhide HA).below ((Below.refl _ _).drew))
  have HR := hide (unhide HR).drew
  refine wp_region_held_drew (S := fun w' => (w'.cell? ⟨w1.heap.size, 0, none⟩ = some (.int .i64 e) ∧ w'.cell? ⟨w1.heap.size, 1, none⟩ = some (.int .i64 f) ∧ w'.cell? ⟨w1.heap.size, 2, none⟩ = some (.bool n) ∧ w'.cell? ⟨w1.heap.size, 3, none⟩ = some (.int .u64 xx) ∧ w'.cell? ⟨w1.heap.size, 4, none⟩ = some (.int .u64 yy)) ∧ Room W.heap.size 4 w') (by kernel_rfl) ?_ (fun hHeld => ?_)
  · (try dsimp only)
    exact ⟨unhide HA, unhide HR⟩
  refine lst0 7 (by kernel_rfl) ?_
  refine tkA 0 20 1 ?_
  refine tkA 1 21 3 ?_
  refine tkA 2 22 7 ?_
  refine tkA 3 23 15 ?_
  refine rdA 4 31 (fun Kk hKk => ?_)
  go_simp
  refine (last_any hs _).mono ?_
  rintro _ w4 ⟨rfl, hbl⟩
  have HB := hide (bthen (unhide HB) hbl)
  have HA := hide ((unhide HA).below hbl)
  have HR := hide ((unhide HR).below hbl)
  clear hbl
  (try go_wp2_with fail)
  refine hKk.out _ _ ?_ (fun hHeld => ?_)
  · (try dsimp only)
    exact ⟨unhide HA, unhide HR⟩
  clear hKk Kk
  (try simp only [List.setIfInBounds_toArray, List.set_cons_zero, List.set_cons_succ])
  refine tkA 5 25 63 ?_
  refine tkA 6 19 127 ?_
  refine wpAnyH_done (by kernel_rfl) ?_ _
  clear hHeld
  obtain ⟨a0, a1, a2, a3, a4⟩ := unhide HA
  obtain ⟨⟨v0, c0⟩, f0⟩ := (unhide HR) 0 (by omega)
  obtain ⟨⟨v1, c1⟩, f1⟩ := (unhide HR) 1 (by omega)
  obtain ⟨⟨v2, c2⟩, f2⟩ := (unhide HR) 2 (by omega)
  obtain ⟨⟨v3, c3⟩, f3⟩ := (unhide HR) 3 (by omega)
  go_wp2_with fail
  exact bodyPost_ret (v := .agg #[.bool n, .int .i64 2, .int .i64 0, .int .u64 0]) (by simp (maxDischargeDepth := 8) [results, Tryz.results15, go_sem, c0, c1, c2, c3]) rfl ⟨rfl, bset4 (unhide HB) _ _ _ _⟩

set_option maxRecDepth 100000 in
set_option maxHeartbeats 4000000 in
theorem open_zer {w e f P Q b : Int} (x xx yy : Int) (n : Bool) (hs : Sz e f P Q b) (W : World)
    (HT : Ct 46 #[.int .i64 w, .int .u64 x] (.agg #[.int .i64 e, .int .i64 f, .bool n, .int .u64 xx, .int .u64 yy])) (hf : (f != 0) = true) (h1 : (xx == Q - 1) = false) (h3 : (xx != 0) = false) (h2 : (yy != 0) = false) :
    Calls Tryz.prog 15 #[.int .i64 w, .int .u64 x] W fun r W' => r = .returned (.agg #[.bool n, .int .i64 0, .int .i64 0, .int .u64 0]) ∧ Below W.heap.size W W' := by
  go_enter Tryz.func15, Tryz.ntmps15
  go_wp2_with fail
  refine (unhide HT _).mono ?_
  rintro _ w1 ⟨rfl, hbl⟩
  have HR := hide ((room4 hbl).alloc (.cells #[.int .i64 e, .int .i64 f, .bool n, .int .u64 xx, .int .u64 yy] 82))
  have HB := hide (balloc (bthen (below1 _ _) hbl) (.cells #[.int .i64 e, .int .i64 f, .bool n, .int .u64 xx, .int .u64 yy] 82))
  have HA : Hid (At5 w1.heap.size (.int .i64 e) (.int .i64 f) (.bool n) (.int .u64 xx) (.int .u64 yy) (w1.alloc (.cells #[.int .i64 e, .int .i64 f, .bool n, .int .u64 xx, .int .u64 yy] 82))) := by unfold Hid At5; simp [go_sem]
  have hz1 : W.heap.size < w1.heap.size := by have := hbl.size; simp at this; omega
  clear hbl HT
  go_wp2_with fail
  refine (known_any e f _).mono ?_
  rintro _ w2 ⟨rfl, hbl⟩
  have HB := hide (bthen (unhide HB) hbl)
  have HA := hide ((unhide HA).below hbl)
  have HR := hide ((unhide HR).below hbl)
  clear hbl
  obtain ⟨a0, a1, a2, a3, a4⟩ := unhide HA
  go_wp2_with fail
  refine (isNan_any n xx yy hs _).mono ?_
  rintro _ w3 ⟨rfl, hbl⟩
  clear a0 a1 a2 a3 a4
  have HB := hide (bthen (unhide HB) hbl)
  have HA := hide ((unhide HA).below hbl)
  have HR := hide ((unhide HR).below hbl)
  clear hbl
  rw [h1, Bool.false_and]
  go_wp2_with fail
  have HB := hide (unhide HB).drew
  have HA := hide ((unhide HA).below ((Below.refl _ _).drew))
  have HR := hide (unhide HR).drew
  refine wp_region_held_drew (S := fun w' => (w'.cell? ⟨w1.heap.size, 0, none⟩ = some (.int .i64 e) ∧ w'.cell? ⟨w1.heap.size, 1, none⟩ = some (.int .i64 f) ∧ w'.cell? ⟨w1.heap.size, 2, none⟩ = some (.bool n) ∧ w'.cell? ⟨w1.heap.size, 3, none⟩ = some (.int .u64 xx) ∧ w'.cell? ⟨w1.heap.size, 4, none⟩ = some (.int .u64 yy)) ∧ Room W.heap.size 4 w') (by kernel_rfl) ?_ (fun hHeld => ?_)
  · (try dsimp only)
    exact ⟨unhide HA, unhide HR⟩
  refine lst0 7 (by kernel_rfl) ?_
  refine tkA 0 20 1 ?_
  refine tkA 1 21 3 ?_
  refine tkA 2 22 7 ?_
  refine tkA 3 23 15 ?_
  refine rdA 4 31 (fun Kk hKk => ?_)
  go_simp
  refine (last_any hs _).mono ?_
  rintro _ w4 ⟨rfl, hbl⟩
  have HB := hide (bthen (unhide HB) hbl)
  have HA := hide ((unhide HA).below hbl)
  have HR := hide ((unhide HR).below hbl)
  clear hbl
  (try go_wp2_with fail)
  refine hKk.out _ _ ?_ (fun hHeld => ?_)
  · (try dsimp only)
    exact ⟨unhide HA, unhide HR⟩
  clear hKk Kk
  (try simp only [List.setIfInBounds_toArray, List.set_cons_zero, List.set_cons_succ])
  refine tkA 5 25 63 ?_
  refine tkA 6 19 127 ?_
  refine wpAnyH_done (by kernel_rfl) ?_ _
  clear hHeld
  obtain ⟨a0, a1, a2, a3, a4⟩ := unhide HA
  obtain ⟨⟨v0, c0⟩, f0⟩ := (unhide HR) 0 (by omega)
  obtain ⟨⟨v1, c1⟩, f1⟩ := (unhide HR) 1 (by omega)
  obtain ⟨⟨v2, c2⟩, f2⟩ := (unhide HR) 2 (by omega)
  obtain ⟨⟨v3, c3⟩, f3⟩ := (unhide HR) 3 (by omega)
  go_wp2_with fail
  exact bodyPost_ret (v := .agg #[.bool n, .int .i64 0, .int .i64 0, .int .u64 0]) (by simp (maxDischargeDepth := 8) [results, Tryz.results15, go_sem, c0, c1, c2, c3]) rfl ⟨rfl, bset4 (unhide HB) _ _ _ _⟩

set_option maxRecDepth 100000 in
set_option maxHeartbeats 4000000 in
theorem open_sub {w e f P Q b : Int} (x xx yy : Int) (n : Bool) (hs : Sz e f P Q b) (W : World)
    (HT : Ct 46 #[.int .i64 w, .int .u64 x] (.agg #[.int .i64 e, .int .i64 f, .bool n, .int .u64 xx, .int .u64 yy])) (hf : (f != 0) = true) (h1 : (xx == Q - 1) = false) (h3 : (xx != 0) = false) (h2 : (yy != 0) = true) :
    Calls Tryz.prog 15 #[.int .i64 w, .int .u64 x] W fun r W' => r = .returned (.agg #[.bool n, .int .i64 1, .int .i64 (1 - b - f), .int .u64 yy]) ∧ Below W.heap.size W W' := by
  go_enter Tryz.func15, Tryz.ntmps15
  go_wp2_with fail
  refine (unhide HT _).mono ?_
  rintro _ w1 ⟨rfl, hbl⟩
  have HR := hide ((room4 hbl).alloc (.cells #[.int .i64 e, .int .i64 f, .bool n, .int .u64 xx, .int .u64 yy] 82))
  have HB := hide (balloc (bthen (below1 _ _) hbl) (.cells #[.int .i64 e, .int .i64 f, .bool n, .int .u64 xx, .int .u64 yy] 82))
  have HA : Hid (At5 w1.heap.size (.int .i64 e) (.int .i64 f) (.bool n) (.int .u64 xx) (.int .u64 yy) (w1.alloc (.cells #[.int .i64 e, .int .i64 f, .bool n, .int .u64 xx, .int .u64 yy] 82))) := by unfold Hid At5; simp [go_sem]
  have hz1 : W.heap.size < w1.heap.size := by have := hbl.size; simp at this; omega
  clear hbl HT
  go_wp2_with fail
  refine (known_any e f _).mono ?_
  rintro _ w2 ⟨rfl, hbl⟩
  have HB := hide (bthen (unhide HB) hbl)
  have HA := hide ((unhide HA).below hbl)
  have HR := hide ((unhide HR).below hbl)
  clear hbl
  obtain ⟨a0, a1, a2, a3, a4⟩ := unhide HA
  go_wp2_with fail
  refine (isNan_any n xx yy hs _).mono ?_
  rintro _ w3 ⟨rfl, hbl⟩
  clear a0 a1 a2 a3 a4
  have HB := hide (bthen (unhide HB) hbl)
  have HA := hide ((unhide HA).below hbl)
  have HR := hide ((unhide HR).below hbl)
  clear hbl
  rw [h1, Bool.false_and]
  go_wp2_with fail
  have HB := hide (unhide HB).drew
  have HA := hide ((unhide HA).below ((Below.refl _ _).drew))
  have HR := hide (unhide HR).drew
  refine wp_region_held_drew (S := fun w' => (w'.cell? ⟨w1.heap.size, 0, none⟩ = some (.int .i64 e) ∧ w'.cell? ⟨w1.heap.size, 1, none⟩ = some (.int .i64 f) ∧ w'.cell? ⟨w1.heap.size, 2, none⟩ = some (.bool n) ∧ w'.cell? ⟨w1.heap.size, 3, none⟩ = some (.int .u64 xx) ∧ w'.cell? ⟨w1.heap.size, 4, none⟩ = some (.int .u64 yy)) ∧ Room W.heap.size 4 w') (by kernel_rfl) ?_ (fun hHeld => ?_)
  · (try dsimp only)
    exact ⟨unhide HA, unhide HR⟩
  refine lst0 7 (by kernel_rfl) ?_
  refine tkA 0 20 1 ?_
  refine tkA 1 21 3 ?_
  refine tkA 2 22 7 ?_
  refine tkA 3 23 15 ?_
  refine rdA 4 31 (fun Kk hKk => ?_)
  go_simp
  refine (last_any hs _).mono ?_
  rintro _ w4 ⟨rfl, hbl⟩
  have HB := hide (bthen (unhide HB) hbl)
  have HA := hide ((unhide HA).below hbl)
  have HR := hide ((unhide HR).below hbl)
  clear hbl
  (try go_wp2_with fail)
  refine hKk.out _ _ ?_ (fun hHeld => ?_)
  · (try dsimp only)
    exact ⟨unhide HA, unhide HR⟩
  clear hKk Kk
  (try simp only [List.setIfInBounds_toArray, List.set_cons_zero, List.set_cons_succ])
  refine tkA 5 25 63 ?_
  refine tkA 6 19 127 ?_
  refine wpAnyH_done (by kernel_rfl) ?_ _
  clear hHeld
  obtain ⟨a0, a1, a2, a3, a4⟩ := unhide HA
  go_wp2_with fail
  clear a0 a1 a2 a3 a4
  have HB := hide (unhide HB).drew
  have HA := hide ((unhide HA).below ((Below.refl _ _).drew))
  have HR := hide (unhide HR).drew
  refine wp_region_held_drew (S := fun w' => (w'.cell? ⟨w1.heap.size, 0, none⟩ = some (.int .i64 e) ∧ w'.cell? ⟨w1.heap.size, 1, none⟩ = some (.int .i64 f) ∧ w'.cell? ⟨w1.heap.size, 2, none⟩ = some (.bool n) ∧ w'.cell? ⟨w1.heap.size, 3, none⟩ = some (.int .u64 xx) ∧ w'.cell? ⟨w1.heap.size, 4, none⟩ = some (.int .u64 yy)) ∧ Room W.heap.size 4 w') (by kernel_rfl) ?_ (fun hHeld => ?_)
  · (try dsimp only)
    exact ⟨unhide HA, unhide HR⟩
  refine lst0 9 (by kernel_rfl) ?_
  refine tkA 0 52 1 ?_
  refine tkA 1 53 3 ?_
  refine tkA 2 54 7 ?_
  refine tkA 3 55 15 ?_
  refine tkA 5 57 47 ?_
  refine tkA 6 58 111 ?_
  refine rdA 4 127 (fun Kk hKk => ?_)
  go_simp
  refine (least_any hs _).mono ?_
  rintro _ w5 ⟨rfl, hbl⟩
  have HB := hide (bthen (unhide HB) hbl)
  have HA := hide ((unhide HA).below hbl)
  have HR := hide ((unhide HR).below hbl)
  clear hbl
  (try go_wp2_with fail)
  refine hKk.out _ _ ?_ (fun hHeld => ?_)
  · (try dsimp only)
    exact ⟨unhide HA, unhide HR⟩
  clear hKk Kk
  (try simp only [List.setIfInBounds_toArray, List.set_cons_zero, List.set_cons_succ])
  refine tkA 7 59 255 ?_
  refine rdA 8 511 (fun Kk hKk => ?_)
  obtain ⟨⟨v0, c0⟩, f0⟩ := hHeld.2 0 (by omega)
  obtain ⟨⟨v1, c1⟩, f1⟩ := hHeld.2 1 (by omega)
  obtain ⟨⟨v2, c2⟩, f2⟩ := hHeld.2 2 (by omega)
  obtain ⟨⟨v3, c3⟩, f3⟩ := hHeld.2 3 (by omega)
  go_simp
  refine hKk.out _ _ ?_ (fun hHeld => ?_)
  · (try dsimp only)
    exact ⟨At5.set (At5.set (At5.set (At5.set (unhide HA) (by omega) _ _) (by omega) _ _) (by omega) _ _) (by omega) _ _, (((hHeld.2.set _ _).set _ _).set _ _).set _ _⟩
  clear hKk Kk
  (try simp only [List.setIfInBounds_toArray, List.set_cons_zero, List.set_cons_succ])
  refine wpAnyH_done (by kernel_rfl) ?_ _
  clear hHeld
  go_wp2_with fail
  exact bodyPost_ret (v := .agg #[.bool n, .int .i64 1, .int .i64 (1 - b - f), .int .u64 yy]) (by simp (maxDischargeDepth := 8) [results, Tryz.results15, go_sem, c0, c1, c2, c3]) rfl ⟨rfl, bset4 (unhide HB) _ _ _ _⟩

set_option maxRecDepth 100000 in
set_option maxHeartbeats 4000000 in
theorem open_nor {w e f P Q b : Int} (x xx yy : Int) (n : Bool) (hs : Sz e f P Q b) (W : World)
    (HT : Ct 46 #[.int .i64 w, .int .u64 x] (.agg #[.int .i64 e, .int .i64 f, .bool n, .int .u64 xx, .int .u64 yy])) (hf : (f != 0) = true) (h1 : (xx == Q - 1) = false) (h3 : (xx != 0) = true) (k1 : IntKind.i64.wrap xx = xx) (k2 : bits .or .u64 P yy = P + yy) (x0 : -5000 ≤ xx) (x1 : xx ≤ 5000) :
    Calls Tryz.prog 15 #[.int .i64 w, .int .u64 x] W fun r W' => r = .returned (.agg #[.bool n, .int .i64 1, .int .i64 (xx - b - f), .int .u64 (P + yy)]) ∧ Below W.heap.size W W' := by
  go_enter Tryz.func15, Tryz.ntmps15
  go_wp2_with fail
  refine (unhide HT _).mono ?_
  rintro _ w1 ⟨rfl, hbl⟩
  have HR := hide ((room4 hbl).alloc (.cells #[.int .i64 e, .int .i64 f, .bool n, .int .u64 xx, .int .u64 yy] 82))
  have HB := hide (balloc (bthen (below1 _ _) hbl) (.cells #[.int .i64 e, .int .i64 f, .bool n, .int .u64 xx, .int .u64 yy] 82))
  have HA : Hid (At5 w1.heap.size (.int .i64 e) (.int .i64 f) (.bool n) (.int .u64 xx) (.int .u64 yy) (w1.alloc (.cells #[.int .i64 e, .int .i64 f, .bool n, .int .u64 xx, .int .u64 yy] 82))) := by unfold Hid At5; simp [go_sem]
  have hz1 : W.heap.size < w1.heap.size := by have := hbl.size; simp at this; omega
  clear hbl HT
  go_wp2_with fail
  refine (known_any e f _).mono ?_
  rintro _ w2 ⟨rfl, hbl⟩
  have HB := hide (bthen (unhide HB) hbl)
  have HA := hide ((unhide HA).below hbl)
  have HR := hide ((unhide HR).below hbl)
  clear hbl
  obtain ⟨a0, a1, a2, a3, a4⟩ := unhide HA
  go_wp2_with fail
  refine (isNan_any n xx yy hs _).mono ?_
  rintro _ w3 ⟨rfl, hbl⟩
  clear a0 a1 a2 a3 a4
  have HB := hide (bthen (unhide HB) hbl)
  have HA := hide ((unhide HA).below hbl)
  have HR := hide ((unhide HR).below hbl)
  clear hbl
  rw [h1, Bool.false_and]
  go_wp2_with fail
  have HB := hide (unhide HB).drew
  have HA := hide ((unhide HA).below ((Below.refl _ _).drew))
  have HR := hide (unhide HR).drew
  refine wp_region_held_drew (S := fun w' => (w'.cell? ⟨w1.heap.size, 0, none⟩ = some (.int .i64 e) ∧ w'.cell? ⟨w1.heap.size, 1, none⟩ = some (.int .i64 f) ∧ w'.cell? ⟨w1.heap.size, 2, none⟩ = some (.bool n) ∧ w'.cell? ⟨w1.heap.size, 3, none⟩ = some (.int .u64 xx) ∧ w'.cell? ⟨w1.heap.size, 4, none⟩ = some (.int .u64 yy)) ∧ Room W.heap.size 4 w') (by kernel_rfl) ?_ (fun hHeld => ?_)
  · (try dsimp only)
    exact ⟨unhide HA, unhide HR⟩
  refine lst0 7 (by kernel_rfl) ?_
  refine tkA 0 20 1 ?_
  refine tkA 1 21 3 ?_
  refine tkA 2 22 7 ?_
  refine tkA 3 23 15 ?_
  refine rdA 4 31 (fun Kk hKk => ?_)
  go_simp
  refine (last_any hs _).mono ?_
  rintro _ w4 ⟨rfl, hbl⟩
  have HB := hide (bthen (unhide HB) hbl)
  have HA := hide ((unhide HA).below hbl)
  have HR := hide ((unhide HR).below hbl)
  clear hbl
  (try go_wp2_with fail)
  refine hKk.out _ _ ?_ (fun hHeld => ?_)
  · (try dsimp only)
    exact ⟨unhide HA, unhide HR⟩
  clear hKk Kk
  (try simp only [List.setIfInBounds_toArray, List.set_cons_zero, List.set_cons_succ])
  refine tkA 5 25 63 ?_
  refine tkA 6 19 127 ?_
  refine wpAnyH_done (by kernel_rfl) ?_ _
  clear hHeld
  obtain ⟨a0, a1, a2, a3, a4⟩ := unhide HA
  go_wp2_with fail
  clear a0 a1 a2 a3 a4
  have HB := hide (unhide HB).drew
  have HA := hide ((unhide HA).below ((Below.refl _ _).drew))
  have HR := hide (unhide HR).drew
  refine wp_region_held_drew (S := fun w' => (w'.cell? ⟨w1.heap.size, 0, none⟩ = some (.int .i64 e) ∧ w'.cell? ⟨w1.heap.size, 1, none⟩ = some (.int .i64 f) ∧ w'.cell? ⟨w1.heap.size, 2, none⟩ = some (.bool n) ∧ w'.cell? ⟨w1.heap.size, 3, none⟩ = some (.int .u64 xx) ∧ w'.cell? ⟨w1.heap.size, 4, none⟩ = some (.int .u64 yy)) ∧ Room W.heap.size 4 w') (by kernel_rfl) ?_ (fun hHeld => ?_)
  · (try dsimp only)
    exact ⟨unhide HA, unhide HR⟩
  refine lst0 16 (by kernel_rfl) ?_
  refine tkA 0 33 1 ?_
  refine tkA 1 34 3 ?_
  refine tkA 2 35 7 ?_
  refine tkA 3 36 15 ?_
  refine tkA 4 37 31 ?_
  refine tkA 5 38 63 ?_
  refine tkA 6 39 127 ?_
  refine tkA 8 41 383 ?_
  refine tkA 9 42 895 ?_
  refine tkA 11 44 2943 ?_
  refine tkA 12 45 7039 ?_
  refine rdA 7 7167 (fun Kk hKk => ?_)
  go_simp
  refine (power_any xx hs _ x0 x1).mono ?_
  rintro _ w5 ⟨rfl, hbl⟩
  have HB := hide (bthen (unhide HB) hbl)
  have HA := hide ((unhide HA).below hbl)
  have HR := hide ((unhide HR).below hbl)
  clear hbl
  (try go_wp2_with fail)
  refine hKk.out _ _ ?_ (fun hHeld => ?_)
  · (try dsimp only)
    exact ⟨unhide HA, unhide HR⟩
  clear hKk Kk
  (try simp only [List.setIfInBounds_toArray, List.set_cons_zero, List.set_cons_succ])
  refine rdA 10 8191 (fun Kk hKk => ?_)
  go_simp
  refine (one_any hs _).mono ?_
  rintro _ w6 ⟨rfl, hbl⟩
  have HB := hide (bthen (unhide HB) hbl)
  have HA := hide ((unhide HA).below hbl)
  have HR := hide ((unhide HR).below hbl)
  clear hbl
  (try go_wp2_with fail)
  refine hKk.out _ _ ?_ (fun hHeld => ?_)
  · (try dsimp only)
    exact ⟨unhide HA, unhide HR⟩
  clear hKk Kk
  (try simp only [List.setIfInBounds_toArray, List.set_cons_zero, List.set_cons_succ])
  refine tkA 13 46 16383 ?_
  refine tkA 14 47 32767 ?_
  refine rdA 15 65535 (fun Kk hKk => ?_)
  obtain ⟨⟨v0, c0⟩, f0⟩ := hHeld.2 0 (by omega)
  obtain ⟨⟨v1, c1⟩, f1⟩ := hHeld.2 1 (by omega)
  obtain ⟨⟨v2, c2⟩, f2⟩ := hHeld.2 2 (by omega)
  obtain ⟨⟨v3, c3⟩, f3⟩ := hHeld.2 3 (by omega)
  go_simp
  refine hKk.out _ _ ?_ (fun hHeld => ?_)
  · (try dsimp only)
    exact ⟨At5.set (At5.set (At5.set (At5.set (unhide HA) (by omega) _ _) (by omega) _ _) (by omega) _ _) (by omega) _ _, (((hHeld.2.set _ _).set _ _).set _ _).set _ _⟩
  clear hKk Kk
  (try simp only [List.setIfInBounds_toArray, List.set_cons_zero, List.set_cons_succ])
  refine wpAnyH_done (by kernel_rfl) ?_ _
  clear hHeld
  go_wp2_with fail
  exact bodyPost_ret (v := .agg #[.bool n, .int .i64 1, .int .i64 (xx - b - f), .int .u64 (P + yy)]) (by simp (maxDischargeDepth := 8) [results, Tryz.results15, go_sem, c0, c1, c2, c3]) rfl ⟨rfl, bset4 (unhide HB) _ _ _ _⟩

/-- What a float of these fields is taken apart into. -/
def Opened (f P Q b : Int) (n : Bool) (x y : Int) (N : Bool) (K X S : Int) : Prop :=
  (f = 0 ∧ N = false ∧ K = 0 ∧ X = 0 ∧ S = 0) ∨
  (f ≠ 0 ∧ x = Q - 1 ∧ y ≠ 0 ∧ N = false ∧ K = 3 ∧ X = 0 ∧ S = 0) ∨
  (f ≠ 0 ∧ x = Q - 1 ∧ y = 0 ∧ N = n ∧ K = 2 ∧ X = 0 ∧ S = 0) ∨
  (f ≠ 0 ∧ x ≠ Q - 1 ∧ x ≠ 0 ∧ N = n ∧ K = 1 ∧ X = x - b - f ∧ S = P + y) ∨
  (f ≠ 0 ∧ x ≠ Q - 1 ∧ x = 0 ∧ y ≠ 0 ∧ N = n ∧ K = 1 ∧ X = 1 - b - f ∧ S = y) ∨
  (f ≠ 0 ∧ x ≠ Q - 1 ∧ x = 0 ∧ y = 0 ∧ N = n ∧ K = 0 ∧ X = 0 ∧ S = 0)
theorem ne_t {a b : Int} (h : a ≠ b) : (a != b) = true := by simp [h]
theorem ne_f {a b : Int} (h : a = b) : (a != b) = false := by simp [h]
theorem eq_t {a b : Int} (h : a = b) : (a == b) = true := by simp [h]
theorem eq_f {a b : Int} (h : a ≠ b) : (a == b) = false := by simp [h]

theorem open_any {w e f P Q b : Int} (x : Int) {N : Bool} {K X S : Int} (h : Wd w e f P Q b) (W : World) (h0 : 0 ≤ x) (h1 : x < 18446744073709551616)
    (ho : Opened f P Q b (sg P Q x) (x / P % Q) (x % P) N K X S) :
    Calls Tryz.prog 15 #[.int .i64 w, .int .u64 x] W fun r W' => r = .returned (.agg #[.bool N, .int .i64 K, .int .i64 X, .int .u64 S]) ∧ Below W.heap.size W W' := by
  have HT := hide (fun W => take_any x h W h0 h1)
  obtain ⟨p1, p2, q1, q2⟩ := h.sz.pos
  obtain ⟨u, v⟩ := exp_in (x / P) q1
  obtain ⟨u', v'⟩ := exp_in x p1
  rcases ho with ⟨a, rfl, rfl, rfl, rfl⟩ | ⟨a, c, d, rfl, rfl, rfl, rfl⟩ | ⟨a, c, d, rfl, rfl, rfl, rfl⟩ | ⟨a, c, d, rfl, rfl, rfl, rfl⟩ | ⟨a, c, d, g, rfl, rfl, rfl, rfl⟩ | ⟨a, c, d, g, rfl, rfl, rfl, rfl⟩
  · exact open_no x _ _ _ h.sz W HT (ne_f a)
  · exact open_nan x _ _ _ h.sz W HT (ne_t a) (eq_t c) (ne_t d)
  · exact open_inf x _ _ _ h.sz W HT (ne_t a) (eq_t c) (ne_f d)
  · refine open_nor x _ _ _ h.sz W HT (ne_t a) (eq_f c) (ne_t d) (i64_id (by omega) (by omega)) ?_ (by omega) (by omega)
    rcases h.sz with ⟨_, rfl, rfl, rfl, _⟩ | ⟨_, rfl, rfl, rfl, _⟩ | ⟨_, rfl, rfl, rfl, _⟩
    · exact or_sum 23 _ _ (by omega) (by omega) (by decide) (by omega) (by omega) (by omega)
    · exact or_sum 52 _ _ (by omega) (by omega) (by decide) (by omega) (by omega) (by omega)
    · exact absurd rfl a
  · exact open_sub x _ _ _ h.sz W HT (ne_t a) (eq_f c) (ne_f d) (ne_t g)
  · exact open_zer x _ _ _ h.sz W HT (ne_t a) (eq_f c) (ne_f d) (ne_f g)

def At4 (b : Nat) (x y z u : Value) (w : World) : Prop := w.cell? ⟨b, 0, none⟩ = some x ∧ w.cell? ⟨b, 1, none⟩ = some y ∧ w.cell? ⟨b, 2, none⟩ = some z ∧ w.cell? ⟨b, 3, none⟩ = some u
theorem At4.below {b : Nat} {x y z u : Value} {w w' : World} (h : At4 b x y z u w) (hb : Below w.heap.size w w') : At4 b x y z u w' :=
  have hz := lt_of_cell h.1
  ⟨keep1 hb hz h.1, keep1 hb hz h.2.1, keep1 hb hz h.2.2.1, keep1 hb hz h.2.2.2⟩
theorem at4_new (w : World) (x y z u : Value) (t : TypeId) : At4 w.heap.size x y z u (w.alloc (.cells #[x, y, z, u] t)) := by unfold At4; simp [go_sem]

end Go.Proofs.YtpbgpdmffejdgaaGreatDoor
namespace Go.Proofs.YtpbgpdmffejdgaaGreatDoor
open Go.RowKit

set_option maxHeartbeats 1000000 in
theorem bitOf_32 (W : World) (m : Mk W) :
    Calls Tryz.prog 149 #[.int .i64 32] W fun r W' => r = .returned (.int .u64 2147483648) ∧ Below W.heap.size W W' := by
  obtain ⟨c0, c1, c2, c3⟩ := m.marks
  have i0 : ∀ w, (Instr.index 188 (.agg #[.int .i64 32, .int .u64 2147483648, .int .i64 64, .int .u64 9223372036854775808]) (.int .i64 0)).run Tryz.prog w = .ok (.agg #[.int .i64 32, .int .u64 2147483648]) w := fun _ => by kernel_rfl
  have i1 : ∀ w, (Instr.index 188 (.agg #[.int .i64 32, .int .u64 2147483648, .int .i64 64, .int .u64 9223372036854775808]) (.int .i64 1)).run Tryz.prog w = .ok (.agg #[.int .i64 64, .int .u64 9223372036854775808]) w := fun _ => by kernel_rfl
  go_enter Tryz.func149, Tryz.ntmps149
  go_wp2_with fail
  refine wp_loop_rounds 1 ?_
  rw [rounds_succ]
  go_wp2_with fail
  go_ret
  exact ⟨rfl, below1 _ _⟩
set_option maxHeartbeats 1000000 in
theorem bitOf_64 (W : World) (m : Mk W) :
    Calls Tryz.prog 149 #[.int .i64 64] W fun r W' => r = .returned (.int .u64 9223372036854775808) ∧ Below W.heap.size W W' := by
  obtain ⟨c0, c1, c2, c3⟩ := m.marks
  have i0 : ∀ w, (Instr.index 188 (.agg #[.int .i64 32, .int .u64 2147483648, .int .i64 64, .int .u64 9223372036854775808]) (.int .i64 0)).run Tryz.prog w = .ok (.agg #[.int .i64 32, .int .u64 2147483648]) w := fun _ => by kernel_rfl
  have i1 : ∀ w, (Instr.index 188 (.agg #[.int .i64 32, .int .u64 2147483648, .int .i64 64, .int .u64 9223372036854775808]) (.int .i64 1)).run Tryz.prog w = .ok (.agg #[.int .i64 64, .int .u64 9223372036854775808]) w := fun _ => by kernel_rfl
  go_enter Tryz.func149, Tryz.ntmps149
  go_wp2_with fail
  refine wp_loop_rounds 2 ?_
  rw [rounds_succ]
  go_wp2_with fail
  rw [rounds_succ]
  go_wp2_with fail
  go_ret
  exact ⟨rfl, below2 _ _ _⟩
set_option maxHeartbeats 1000000 in
theorem bitOf_no (w : Int) (W : World) (m : Mk W) (h1 : w ≠ 32) (h2 : w ≠ 64) :
    Calls Tryz.prog 149 #[.int .i64 w] W fun r W' => r = .returned (.int .u64 0) ∧ Below W.heap.size W W' := by
  obtain ⟨c0, c1, c2, c3⟩ := m.marks
  have e1 : (32 == w) = false := by simpa using fun h => h1 h.symm
  have e2 : (64 == w) = false := by simpa using fun h => h2 h.symm
  have i0 : ∀ w, (Instr.index 188 (.agg #[.int .i64 32, .int .u64 2147483648, .int .i64 64, .int .u64 9223372036854775808]) (.int .i64 0)).run Tryz.prog w = .ok (.agg #[.int .i64 32, .int .u64 2147483648]) w := fun _ => by kernel_rfl
  have i1 : ∀ w, (Instr.index 188 (.agg #[.int .i64 32, .int .u64 2147483648, .int .i64 64, .int .u64 9223372036854775808]) (.int .i64 1)).run Tryz.prog w = .ok (.agg #[.int .i64 64, .int .u64 9223372036854775808]) w := fun _ => by kernel_rfl
  go_enter Tryz.func149, Tryz.ntmps149
  go_wp2_with fail
  refine wp_loop_rounds 3 ?_
  rw [rounds_succ]
  go_wp2_with fail
  rw [rounds_succ]
  go_wp2_with fail
  rw [rounds_succ]
  go_wp2_with fail
  go_ret
  exact ⟨rfl, below2 _ _ _⟩
end Go.Proofs.YtpbgpdmffejdgaaGreatDoor
namespace Go.Proofs.YtpbgpdmffejdgaaGreatDoor
open Go.RowKit

set_option maxHeartbeats 4000000 in
set_option maxRecDepth 100000 in
theorem abs_w {w x c B R : Int} (W : World) (HM : Hid (Mk W)) (HC : Ct 17 #[.int .i64 w, .int .u64 x] (.int .u64 c)) (HT : Cm 149 #[.int .i64 w] (.int .u64 B)) (h1 : bits .andNot .u64 c B = R) :
    Calls Tryz.prog 78 #[.int .i64 w, .int .u64 x] W fun r W' => r = .returned (.int .u64 R) ∧ Below W.heap.size W W' := by
  have HB := hide (Below.refl W.heap.size W)
  go_enter Tryz.func78, Tryz.ntmps78
  go_wp2_with fail
  refine (unhide HC _).mono ?_
  rintro _ w1 ⟨rfl, hb⟩
  have HB := hide (bthen (unhide HB) hb)
  have HM := hide ((unhide HM).below hb)
  clear hb
  go_wp2_with fail
  refine (unhide HT _ (unhide HM)).mono ?_
  rintro _ w2 ⟨rfl, hb⟩
  have HB := hide (bthen (unhide HB) hb)
  have HM := hide ((unhide HM).below hb)
  clear hb
  go_wp2_with fail
  go_ret
  exact ⟨rfl, unhide HB⟩
set_option maxHeartbeats 4000000 in
set_option maxRecDepth 100000 in
theorem neg_w {w x c B R : Int} (W : World) (HM : Hid (Mk W)) (HC : Ct 17 #[.int .i64 w, .int .u64 x] (.int .u64 c)) (HT : Cm 149 #[.int .i64 w] (.int .u64 B)) (h1 : bits .xor .u64 c B = R) :
    Calls Tryz.prog 79 #[.int .i64 w, .int .u64 x] W fun r W' => r = .returned (.int .u64 R) ∧ Below W.heap.size W W' := by
  have HB := hide (Below.refl W.heap.size W)
  go_enter Tryz.func79, Tryz.ntmps79
  go_wp2_with fail
  refine (unhide HC _).mono ?_
  rintro _ w1 ⟨rfl, hb⟩
  have HB := hide (bthen (unhide HB) hb)
  have HM := hide ((unhide HM).below hb)
  clear hb
  go_wp2_with fail
  refine (unhide HT _ (unhide HM)).mono ?_
  rintro _ w2 ⟨rfl, hb⟩
  have HB := hide (bthen (unhide HB) hb)
  have HM := hide ((unhide HM).below hb)
  clear hb
  go_wp2_with fail
  go_ret
  exact ⟨rfl, unhide HB⟩
set_option maxHeartbeats 4000000 in
set_option maxRecDepth 100000 in
theorem copy_w {w x y c B d R : Int} (W : World) (HM : Hid (Mk W)) (HA : Cm 78 #[.int .i64 w, .int .u64 x] (.int .u64 c)) (HT : Cm 149 #[.int .i64 w] (.int .u64 B)) (h1 : bits .and .u64 y B = d) (h2 : bits .or .u64 c d = R) :
    Calls Tryz.prog 91 #[.int .i64 w, .int .u64 x, .int .u64 y] W fun r W' => r = .returned (.int .u64 R) ∧ Below W.heap.size W W' := by
  have HB := hide (Below.refl W.heap.size W)
  go_enter Tryz.func91, Tryz.ntmps91
  go_wp2_with fail
  refine (unhide HA _ (unhide HM)).mono ?_
  rintro _ w1 ⟨rfl, hb⟩
  have HB := hide (bthen (unhide HB) hb)
  have HM := hide ((unhide HM).below hb)
  clear hb
  go_wp2_with fail
  refine (unhide HT _ (unhide HM)).mono ?_
  rintro _ w2 ⟨rfl, hb⟩
  have HB := hide (bthen (unhide HB) hb)
  have HM := hide ((unhide HM).below hb)
  clear hb
  go_wp2_with fail
  go_ret
  exact ⟨rfl, unhide HB⟩
end Go.Proofs.YtpbgpdmffejdgaaGreatDoor
namespace Go.Proofs.YtpbgpdmffejdgaaGreatDoor
open Go.RowKit

set_option maxHeartbeats 4000000 in
set_option maxRecDepth 100000 in
theorem kn_l {k e f : Int} (W : World) (HF : Ct 23 #[.int .i64 k] (.tuple #[.int .i64 e, .int .i64 f])) :
    Calls Tryz.prog 245 #[.int .i64 k] W fun r W' => r = .returned (.bool (e != 0)) ∧ Below W.heap.size W W' := by
  have HB := hide (Below.refl W.heap.size W)
  go_enter Tryz.func245, Tryz.ntmps245
  go_wp2_with fail
  refine (unhide HF _).mono ?_
  rintro _ w1 ⟨rfl, hb⟩
  have HB := hide (bthen (unhide HB) hb)
  clear hb
  go_wp2_with fail
  go_ret
  exact ⟨rfl, unhide HB⟩
set_option maxHeartbeats 4000000 in
set_option maxRecDepth 100000 in
theorem ends_t {k a h L : Int} (W : World) (HC : Ct 17 #[.int .i64 k, .int .u64 18446744073709551615] (.int .u64 a)) (h1 : a / 2 = h) (h2 : IntKind.u64.wrap (a - h) = L) :
    Calls Tryz.prog 246 #[.int .i64 k, .bool true] W fun r W' => r = .returned (.tuple #[.int .u64 L, .int .u64 h]) ∧ Below W.heap.size W W' := by
  have HB := hide (Below.refl W.heap.size W)
  go_enter Tryz.func246, Tryz.ntmps246
  go_wp2_with fail
  refine (unhide HC _).mono ?_
  rintro _ w1 ⟨rfl, hb⟩
  have HB := hide (bthen (unhide HB) hb)
  clear hb
  go_wp2_with fail
  go_ret2
  exact ⟨rfl, unhide HB⟩
set_option maxHeartbeats 4000000 in
set_option maxRecDepth 100000 in
theorem ends_f {k a : Int} (W : World) (HC : Ct 17 #[.int .i64 k, .int .u64 18446744073709551615] (.int .u64 a)) :
    Calls Tryz.prog 246 #[.int .i64 k, .bool false] W fun r W' => r = .returned (.tuple #[.int .u64 0, .int .u64 a]) ∧ Below W.heap.size W W' := by
  have HB := hide (Below.refl W.heap.size W)
  go_enter Tryz.func246, Tryz.ntmps246
  go_wp2_with fail
  refine (unhide HC _).mono ?_
  rintro _ w1 ⟨rfl, hb⟩
  have HB := hide (bthen (unhide HB) hb)
  clear hb
  go_wp2_with fail
  go_ret2
  exact ⟨rfl, unhide HB⟩
set_option maxHeartbeats 4000000 in
set_option maxRecDepth 100000 in
theorem with_t {k x y V : Int} (W : World) (h1 : IntKind.u64.wrap (-x) = y) (HC : Ct 17 #[.int .i64 k, .int .u64 y] (.int .u64 V)) :
    Calls Tryz.prog 248 #[.int .i64 k, .bool true, .int .u64 x] W fun r W' => r = .returned (.int .u64 V) ∧ Below W.heap.size W W' := by
  have HB := hide (Below.refl W.heap.size W)
  go_enter Tryz.func248, Tryz.ntmps248
  go_wp2_with fail
  refine (unhide HC _).mono ?_
  rintro _ w1 ⟨rfl, hb⟩
  have HB := hide (bthen (unhide HB) hb)
  clear hb
  go_wp2_with fail
  go_ret
  exact ⟨rfl, unhide HB⟩
set_option maxHeartbeats 4000000 in
set_option maxRecDepth 100000 in
theorem with_f {k x : Int} (W : World)  :
    Calls Tryz.prog 248 #[.int .i64 k, .bool false, .int .u64 x] W fun r W' => r = .returned (.int .u64 x) ∧ Below W.heap.size W W' := by
  have HB := hide (Below.refl W.heap.size W)
  go_enter Tryz.func248, Tryz.ntmps248
  go_wp2_with fail
  go_ret
  exact ⟨rfl, unhide HB⟩
set_option maxHeartbeats 4000000 in
set_option maxRecDepth 100000 in
theorem trap_y {w k x a t : Int} {s : Bool} (W : World) (HC : Ct 168 #[.int .i64 w, .int .i64 k, .int .u64 x, .bool s] (.tuple #[.int .u64 a, .int .i64 t])) (g : (t != 0) = true) :
    Calls Tryz.prog 92 #[.int .i64 w, .int .i64 k, .int .u64 x, .bool s] W fun r W' => r = .returned (.tuple #[.int .u64 0, .int .i64 t]) ∧ Below W.heap.size W W' := by
  have HB := hide (Below.refl W.heap.size W)
  go_enter Tryz.func92, Tryz.ntmps92
  go_wp2_with fail
  refine (unhide HC _).mono ?_
  rintro _ w1 ⟨rfl, hb⟩
  have HB := hide (bthen (unhide HB) hb)
  clear hb
  go_wp2_with fail
  go_ret2
  exact ⟨rfl, unhide HB⟩
set_option maxHeartbeats 4000000 in
set_option maxRecDepth 100000 in
theorem trap_n {w k x a : Int} {s : Bool} (W : World) (HC : Ct 168 #[.int .i64 w, .int .i64 k, .int .u64 x, .bool s] (.tuple #[.int .u64 a, .int .i64 0])) :
    Calls Tryz.prog 92 #[.int .i64 w, .int .i64 k, .int .u64 x, .bool s] W fun r W' => r = .returned (.tuple #[.int .u64 a, .int .i64 0]) ∧ Below W.heap.size W W' := by
  have HB := hide (Below.refl W.heap.size W)
  go_enter Tryz.func92, Tryz.ntmps92
  go_wp2_with fail
  refine (unhide HC _).mono ?_
  rintro _ w1 ⟨rfl, hb⟩
  have HB := hide (bthen (unhide HB) hb)
  clear hb
  go_wp2_with fail
  go_ret2
  exact ⟨rfl, unhide HB⟩
set_option maxHeartbeats 4000000 in
set_option maxRecDepth 100000 in
theorem sat_l {w k x a t : Int} {s : Bool} (W : World) (HC : Ct 168 #[.int .i64 w, .int .i64 k, .int .u64 x, .bool s] (.tuple #[.int .u64 a, .int .i64 t])) :
    Calls Tryz.prog 98 #[.int .i64 w, .int .i64 k, .int .u64 x, .bool s] W fun r W' => r = .returned (.int .u64 a) ∧ Below W.heap.size W W' := by
  have HB := hide (Below.refl W.heap.size W)
  go_enter Tryz.func98, Tryz.ntmps98
  go_wp2_with fail
  refine (unhide HC _).mono ?_
  rintro _ w1 ⟨rfl, hb⟩
  have HB := hide (bthen (unhide HB) hb)
  clear hb
  go_wp2_with fail
  go_ret
  exact ⟨rfl, unhide HB⟩
end Go.Proofs.YtpbgpdmffejdgaaGreatDoor
