/- Near, SumA, Base, New, Tk. -/
import Derived.Laws.MathBits
import Derived.Test.YtefpknkbfmjajaaRows
import Derived.WalkKit
import Derived.WalkSpells
import Derived.WalkLawsBesides
import Derived.Laws.Pointers
import Derived.Deep.RegionHeld3
import Derived.RowKit3
import Derived.Laws.Bits64b
namespace Go.Proofs.Ytefpknkbfmjajaa

/-- a by b to the nearest whole number, ties to even. -/
def near (a b : Nat) : Nat := if b < 2 * (a % b) ∨ (2 * (a % b) = b ∧ a / b % 2 = 1) then a / b + 1 else a / b

theorem near_scale (a b c : Nat) (hc : 0 < c) : near (a * c) (b * c) = near a b := by
  unfold near
  rw [Nat.mul_mod_mul_right, Nat.mul_div_mul_right _ _ hc]
  have e1 : (b * c < 2 * (a % b * c)) = (b < 2 * (a % b)) := by
    rw [← Nat.mul_assoc]
    exact propext (Nat.mul_lt_mul_right hc)
  have e2 : (2 * (a % b * c) = b * c) = (2 * (a % b) = b) := by
    rw [← Nat.mul_assoc]
    exact propext (Nat.mul_right_cancel_iff hc)
  simp only [e1, e2]
theorem near_ge {a b k : Nat} (hb : 0 < b) (h : k * b ≤ a) : k ≤ near a b := by
  have := (Nat.le_div_iff_mul_le hb).2 h
  unfold near
  split <;> omega
theorem near_le {a b k : Nat} (hb : 0 < b) (h : a ≤ k * b) : near a b ≤ k := by
  unfold near
  have h1 : a / b ≤ k := Nat.div_le_of_le_mul (by rw [Nat.mul_comm]; exact h)
  split
  · rename_i hc
    refine Decidable.byContradiction fun hn => ?_
    have he : a / b = k := by omega
    have h2 := Nat.div_add_mod a b
    rw [he, Nat.mul_comm b k] at h2
    omega
  · exact h1
theorem near_mono {a c b : Nat} (h : a ≤ c) : near a b ≤ near c b := by
  have h1 : a / b ≤ c / b := Nat.div_le_div_right h
  by_cases he : a / b = c / b
  · have ha := Nat.div_add_mod a b
    have hc := Nat.div_add_mod c b
    rw [← he] at hc
    have hr : a % b ≤ c % b := by omega
    unfold near
    rw [← he]
    split
    · rw [if_pos (by omega)]
      omega
    · split <;> omega
  · unfold near
    split <;> split <;> omega
theorem near_one (a : Nat) : near a 1 = a := by
  unfold near
  rw [Nat.mod_one, if_neg (by omega), Nat.div_one]
theorem near_zero (b : Nat) : near 0 b = 0 := by
  unfold near
  rw [Nat.zero_mod, Nat.zero_div, if_neg (by omega)]
theorem near_mul (a b : Nat) (hb : 0 < b) : near (a * b) b = a := by
  have := near_scale a 1 b hb
  rw [Nat.one_mul, near_one] at this
  exact this

theorem bl_lt {x k : Nat} (h : Go.bitLen x ≤ k) : x < 2 ^ k := Nat.lt_of_lt_of_le (Go.bitLen_spec x).1 (Nat.pow_le_pow_right (by omega) h)
theorem bl_ge {x k : Nat} (h : k < Go.bitLen x) : 2 ^ k ≤ x := by
  have hx : x ≠ 0 := fun h0 => by rw [h0] at h; exact absurd h (by rw [show Go.bitLen 0 = 0 from rfl]; omega)
  exact Nat.le_trans (Nat.pow_le_pow_right (by omega) (by omega)) ((Go.bitLen_spec x).2 hx)
theorem bl_mono {x y : Nat} (h : x ≤ y) : Go.bitLen x ≤ Go.bitLen y := by
  refine Decidable.byContradiction fun hn => ?_
  have h1 := bl_ge (x := x) (k := Go.bitLen y) (by omega)
  have h2 := (Go.bitLen_spec y).1
  omega
theorem bl_shl (x k : Nat) (h : x ≠ 0) : Go.bitLen (x * 2 ^ k) = k + Go.bitLen x := by
  have h1 := Nat.mul_div_cancel x (Nat.two_pow_pos k)
  rw [Go.bitLen_shift (x * 2 ^ k) k (by rw [h1]; exact h), h1]
/-- The place of the last bit of the float that is nearest to X. -/
def unitOf (f L X : Nat) : Nat := max (Go.bitLen X - (f + 1)) L
/-- That float's number among the floats. -/
def code (f L X : Nat) : Nat := (unitOf f L X - L) * 2 ^ f + near X (2 ^ unitOf f L X)

theorem unit_le (f L X : Nat) : L ≤ unitOf f L X := by unfold unitOf; omega
theorem unit_up (f L X : Nat) : near X (2 ^ unitOf f L X) ≤ 2 * 2 ^ f := by
  refine near_le (Nat.two_pow_pos _) ?_
  rw [show 2 * 2 ^ f = 2 ^ (f + 1) by rw [Nat.pow_succ]; omega, ← Nat.pow_add]
  exact Nat.le_of_lt (bl_lt (by unfold unitOf; omega))
theorem unit_dn {f L X : Nat} (h : L < unitOf f L X) : 2 ^ f ≤ near X (2 ^ unitOf f L X) := by
  refine near_ge (Nat.two_pow_pos _) ?_
  rw [← Nat.pow_add]
  exact bl_ge (by unfold unitOf at h ⊢; omega)

theorem code_mono (f L : Nat) {X Y : Nat} (h : X ≤ Y) : code f L X ≤ code f L Y := by
  have hu : unitOf f L X ≤ unitOf f L Y := by have := bl_mono h; unfold unitOf; omega
  unfold code
  by_cases he : unitOf f L X = unitOf f L Y
  · rw [he]
    exact Nat.add_le_add_left (near_mono h) _
  · have h1 := unit_up f L X
    have h2 := unit_dn (f := f) (L := L) (X := Y) (by have := unit_le f L X; omega)
    have h3 := unit_le f L X
    generalize unitOf f L X = u at *
    generalize unitOf f L Y = v at *
    generalize near X (2 ^ u) = s at *
    generalize near Y (2 ^ v) = t at *
    have h4 : (u - L + 1) * 2 ^ f ≤ (v - L) * 2 ^ f := Nat.mul_le_mul_right _ (by omega)
    rw [Nat.add_mul, Nat.one_mul] at h4
    omega
theorem code_zero (f L : Nat) : code f L 0 = 0 := by
  have : unitOf f L 0 = L := by unfold unitOf; rw [show Go.bitLen 0 = 0 from rfl]; omega
  unfold code
  rw [near_zero, this, Nat.sub_self, Nat.zero_mul]
/-- A number that has no more bits than a float is its own. -/
theorem code_exact (f L s k : Nat) (h1 : s < 2 ^ (f + 1)) (hk : L ≤ k) (h2 : L < k → 2 ^ f ≤ s) : code f L (s * 2 ^ k) = (k - L) * 2 ^ f + s := by
  by_cases hs : s = 0
  · subst hs
    have hL : ¬ L < k := fun h => by have := h2 h; have := Nat.two_pow_pos f; omega
    rw [Nat.zero_mul, code_zero f L, show k - L = 0 by omega, Nat.zero_mul]
  have hb1 : Go.bitLen s ≤ f + 1 := by
    refine Decidable.byContradiction fun hn => ?_
    have := bl_ge (x := s) (k := f + 1) (by omega)
    omega
  have hu : unitOf f L (s * 2 ^ k) = k := by
    unfold unitOf
    rw [bl_shl s k hs]
    by_cases hL : L < k
    · have h3 := h2 hL
      have : f < Go.bitLen s := Decidable.byContradiction fun hn => by
        have := bl_lt (x := s) (k := f) (by omega)
        omega
      omega
    · omega
  unfold code
  rw [hu, near_mul _ _ (Nat.two_pow_pos k)]

end Go.Proofs.Ytefpknkbfmjajaa
namespace Go.Proofs.Ytefpknkbfmjajaa

/-- The number of the float of a code. -/
def fval (f L c : Nat) : Nat := if c < 2 ^ (f + 1) then c * 2 ^ L else (2 ^ f + c % 2 ^ f) * 2 ^ (c / 2 ^ f - 1 + L)

theorem fval_norm (f L s k : Nat) (h1 : s < 2 ^ (f + 1)) (hk : L ≤ k) (h2 : L < k → 2 ^ f ≤ s) : fval f L ((k - L) * 2 ^ f + s) = s * 2 ^ k := by
  have e2 : 2 ^ (f + 1) = 2 ^ f + 2 ^ f := by rw [Nat.pow_succ]; omega
  have hp := Nat.two_pow_pos f
  by_cases hL : L < k
  · have h3 := h2 hL
    obtain ⟨r, rfl⟩ := Nat.exists_eq_add_of_le h3
    obtain ⟨j, rfl⟩ : ∃ j, k = L + (j + 1) := ⟨k - L - 1, by omega⟩
    rw [show L + (j + 1) - L = j + 1 by omega]
    have hc : (j + 1) * 2 ^ f + (2 ^ f + r) = 2 ^ f * (j + 2) + r := by
      rw [show (j + 1) * 2 ^ f = 2 ^ f * (j + 1) by rw [Nat.mul_comm], show j + 2 = j + 1 + 1 by omega, Nat.mul_add (2 ^ f) (j + 1) 1]
      omega
    have hlt : r < 2 ^ f := by omega
    rw [hc]
    unfold fval
    rw [if_neg (by
      have := Nat.mul_le_mul_left (2 ^ f) (show 2 ≤ j + 2 by omega)
      omega)]
    rw [Nat.mul_add_mod, Nat.mod_eq_of_lt hlt, Nat.mul_add_div hp, Nat.div_eq_of_lt hlt, show j + 2 + 0 - 1 + L = L + (j + 1) by omega]
  · have : k = L := by omega
    subst this
    rw [Nat.sub_self, Nat.zero_mul, Nat.zero_add]
    unfold fval
    rw [if_pos h1]
theorem fval_ex (f L c : Nat) : ∃ s k, c = (k - L) * 2 ^ f + s ∧ s < 2 ^ (f + 1) ∧ L ≤ k ∧ (L < k → 2 ^ f ≤ s) ∧ fval f L c = s * 2 ^ k := by
  have e2 : 2 ^ (f + 1) = 2 ^ f + 2 ^ f := by rw [Nat.pow_succ]; omega
  have hp := Nat.two_pow_pos f
  by_cases h : c < 2 ^ (f + 1)
  · refine ⟨c, L, by rw [Nat.sub_self, Nat.zero_mul, Nat.zero_add], h, Nat.le_refl _, fun h => absurd h (Nat.lt_irrefl _), ?_⟩
    unfold fval
    rw [if_pos h]
  · have hd := Nat.div_add_mod c (2 ^ f)
    have hm := Nat.mod_lt c hp
    have h2 : 2 ≤ c / 2 ^ f := (Nat.le_div_iff_mul_le hp).2 (by omega)
    refine ⟨2 ^ f + c % 2 ^ f, c / 2 ^ f - 1 + L, ?_, by omega, by omega, fun _ => by omega, ?_⟩
    · rw [show c / 2 ^ f - 1 + L - L = c / 2 ^ f - 1 by omega, Nat.sub_mul, Nat.mul_comm (c / 2 ^ f) (2 ^ f)]
      have := Nat.mul_le_mul_left (2 ^ f) h2
      omega
    · unfold fval
      rw [if_neg h]
theorem fval_code (f L c : Nat) : code f L (fval f L c) = c := by
  obtain ⟨s, k, h0, h1, h2, h3, h4⟩ := fval_ex f L c
  rw [h4, code_exact f L s k h1 h2 h3]
  exact h0.symm
theorem fval_le {f L c d : Nat} : fval f L c ≤ fval f L d ↔ c ≤ d := by
  constructor
  · intro h
    have := code_mono f L h
    rwa [fval_code, fval_code] at this
  · intro h
    refine Decidable.byContradiction fun hn => ?_
    have h1 := code_mono f L (show fval f L d ≤ fval f L c by omega)
    rw [fval_code, fval_code] at h1
    have : c = d := by omega
    subst this
    omega
theorem fval_zero (f L : Nat) : fval f L 0 = 0 := by
  unfold fval
  rw [if_pos (Nat.two_pow_pos _), Nat.zero_mul]
end Go.Proofs.Ytefpknkbfmjajaa
namespace Go.Proofs.Ytefpknkbfmjajaa
open Go.RowKit

theorem hide {p : Prop} (h : p) : Hid p := h
theorem unhide {p : Prop} (h : Hid p) : p := h
theorem bthen {a b c : World} (h : Below a.heap.size a b) (k : Below b.heap.size b c) : Below a.heap.size a c := h.trans (k.mono h.size)
theorem balloc {a b : World} (h : Below a.heap.size a b) (o : Obj) : Below a.heap.size a (b.alloc o) := h.alloc h.size o
theorem below1 (w : World) (o1 : Obj) : Below w.heap.size w (w.alloc o1) := (Below.refl _ _).alloc (Nat.le_refl _) _
theorem below2 (w : World) (o1 o2 : Obj) : Below w.heap.size w ((w.alloc o1).alloc o2) := ((Below.refl _ _).alloc (Nat.le_refl _) _).alloc (by simp) _
theorem ret1 {k : IntKind} {a c : Int} (h1 : a = c) : Ending.returned (.int k a) = .returned (.int k c) := by rw [h1]
theorem retb {a b : Bool} (h : a = b) : Ending.returned (.bool a) = .returned (.bool b) := by rw [h]

/-- The sizes of a width's fields, with the powers of two that go with them: P of the fraction, Q of the exponent, and the bias. -/
def Sz (e f P Q b : Int) : Prop := (e = 8 ∧ f = 23 ∧ P = 8388608 ∧ Q = 256 ∧ b = 127) ∨ (e = 11 ∧ f = 52 ∧ P = 4503599627370496 ∧ Q = 2048 ∧ b = 1023) ∨ (e = 0 ∧ f = 0 ∧ P = 1 ∧ Q = 1 ∧ b = -1)
def Wd (w e f P Q b : Int) : Prop := (w = 32 ∧ e = 8 ∧ f = 23 ∧ P = 8388608 ∧ Q = 256 ∧ b = 127) ∨ (w = 64 ∧ e = 11 ∧ f = 52 ∧ P = 4503599627370496 ∧ Q = 2048 ∧ b = 1023) ∨ ((w ≠ 32 ∧ w ≠ 64) ∧ e = 0 ∧ f = 0 ∧ P = 1 ∧ Q = 1 ∧ b = -1)
theorem Wd.sz {w e f P Q b : Int} (h : Wd w e f P Q b) : Sz e f P Q b := by
  rcases h with h | h | h
  · exact Or.inl h.2
  · exact Or.inr (Or.inl h.2)
  · exact Or.inr (Or.inr h.2)
theorem wd_ex (w : Int) : ∃ e f P Q b, Wd w e f P Q b := by
  by_cases h : w = 32
  · exact ⟨_, _, _, _, _, Or.inl ⟨h, rfl, rfl, rfl, rfl, rfl⟩⟩
  · by_cases h2 : w = 64
    · exact ⟨_, _, _, _, _, Or.inr (Or.inl ⟨h2, rfl, rfl, rfl, rfl, rfl⟩)⟩
    · exact ⟨_, _, _, _, _, Or.inr (Or.inr ⟨⟨h, h2⟩, rfl, rfl, rfl, rfl, rfl⟩)⟩

set_option maxHeartbeats 400000 in
theorem sizesOf_any {w e f P Q b : Int} (h : Wd w e f P Q b) (W : World) :
    Calls Try.prog 50 #[.int .i64 w] W fun r W' => r = .returned (.agg #[.int .i64 e, .int .i64 f]) ∧ Below W.heap.size W W' := by
  rcases h with ⟨rfl, rfl, rfl, rfl, rfl, rfl⟩ | ⟨rfl, rfl, rfl, rfl, rfl, rfl⟩ | ⟨⟨h1, h2⟩, rfl, rfl, rfl, rfl, rfl⟩
  all_goals
    go_enter Try.func50, Try.ntmps50
    go_wp2
    refine bodyPost_ret (v := .agg #[.int .i64 _, .int .i64 _]) (by simp [results, Try.results50, go_sem]) rfl ⟨rfl, below1 _ _⟩

set_option maxHeartbeats 400000 in
theorem known_any (e f : Int) (W : World) :
    Calls Try.prog 59 #[.agg #[.int .i64 e, .int .i64 f]] W fun r W' => r = .returned (.bool (f != 0)) ∧ Below W.heap.size W W' := by
  go_enter Try.func59, Try.ntmps59
  go_wp2
  go_ret
  exact ⟨rfl, below1 _ _⟩

set_option maxHeartbeats 400000 in
theorem last_any {e f P Q b : Int} (h : Sz e f P Q b) (W : World) :
    Calls Try.prog 51 #[.agg #[.int .i64 e, .int .i64 f]] W fun r W' => r = .returned (.int .u64 (Q - 1)) ∧ Below W.heap.size W W' := by
  rcases h with ⟨rfl, rfl, rfl, rfl, rfl⟩ | ⟨rfl, rfl, rfl, rfl, rfl⟩ | ⟨rfl, rfl, rfl, rfl, rfl⟩
  all_goals
    go_enter Try.func51, Try.ntmps51
    go_wp2
    go_ret
    exact ⟨rfl, below1 _ _⟩

set_option maxHeartbeats 400000 in
theorem one_any {e f P Q b : Int} (h : Sz e f P Q b) (W : World) :
    Calls Try.prog 52 #[.agg #[.int .i64 e, .int .i64 f]] W fun r W' => r = .returned (.int .u64 P) ∧ Below W.heap.size W W' := by
  rcases h with ⟨rfl, rfl, rfl, rfl, rfl⟩ | ⟨rfl, rfl, rfl, rfl, rfl⟩ | ⟨rfl, rfl, rfl, rfl, rfl⟩
  all_goals
    go_enter Try.func52, Try.ntmps52
    go_wp2
    go_ret
    exact ⟨rfl, below1 _ _⟩

theorem bcell {W w1 : World} (hb : Below W.heap.size W w1) (b o : Nat) (h : b < W.heap.size) : w1.cell? ⟨b, o, none⟩ = W.cell? ⟨b, o, none⟩ := hb.cell (p := ⟨b, o, none⟩) h
theorem keep1 {W w' : World} {b o : Nat} {x : Value} (hb : Below W.heap.size W w') (hz : b < W.heap.size) (h : W.cell? ⟨b, o, none⟩ = some x) : w'.cell? ⟨b, o, none⟩ = some x := by rw [bcell hb b o hz]; exact h
theorem lt_of_cell {W : World} {b o : Nat} {x : Value} (h : W.cell? ⟨b, o, none⟩ = some x) : b < W.heap.size := by
  apply Decidable.byContradiction
  intro hn
  simp [World.cell?, Nat.le_of_not_lt hn] at h
/-- A block that holds two values. -/
def At2 (b : Nat) (x y : Value) (w : World) : Prop := w.cell? ⟨b, 0, none⟩ = some x ∧ w.cell? ⟨b, 1, none⟩ = some y
def At5 (b : Nat) (x y z u v : Value) (w : World) : Prop := w.cell? ⟨b, 0, none⟩ = some x ∧ w.cell? ⟨b, 1, none⟩ = some y ∧ w.cell? ⟨b, 2, none⟩ = some z ∧ w.cell? ⟨b, 3, none⟩ = some u ∧ w.cell? ⟨b, 4, none⟩ = some v
theorem At2.below {b : Nat} {x y : Value} {w w' : World} (h : At2 b x y w) (hb : Below w.heap.size w w') : At2 b x y w' :=
  have hz := lt_of_cell h.1
  ⟨keep1 hb hz h.1, keep1 hb hz h.2⟩
theorem At5.below {b : Nat} {x y z u v : Value} {w w' : World} (h : At5 b x y z u v w) (hb : Below w.heap.size w w') : At5 b x y z u v w' :=
  have hz := lt_of_cell h.1
  ⟨keep1 hb hz h.1, keep1 hb hz h.2.1, keep1 hb hz h.2.2.1, keep1 hb hz h.2.2.2.1, keep1 hb hz h.2.2.2.2⟩

theorem i64_id {x : Int} (h1 : -9223372036854775808 ≤ x) (h2 : x < 9223372036854775808) : IntKind.i64.wrap x = x := by
  simp only [IntKind.wrap, IntKind.bits, IntKind.signed]
  simp
  omega

section
variable {P : Program} {ops : Array Oper} {Q : Exit → Act → World → Prop} {md : Region.Mode} {S : World → Prop}
end
/-- What is kept where only new memory is touched. -/
def Stable (T : World → Prop) : Prop := ∀ w w', T w → Below w.heap.size w w' → T w'
theorem Stable.and {A B : World → Prop} (ha : Stable A) (hb : Stable B) : Stable (fun w => A w ∧ B w) := fun w w' h k => ⟨ha w w' h.1 k, hb w w' h.2 k⟩
/-- A block that can be written. -/
def Room (b n : Nat) (w : World) : Prop := ∀ o, o < n → (∃ v, w.cell? ⟨b, o, none⟩ = some v) ∧ w.frozen? ⟨b, o, none⟩ = false
theorem stable_room (b n : Nat) : Stable (Room b n) := fun w _ h k o ho => by
  obtain ⟨⟨v, h1⟩, h2⟩ := h o ho
  have hz := World.block_lt_of_cell? w _ h1
  exact ⟨⟨v, (k.cell hz).trans h1⟩, (k.frozen hz).trans h2⟩
theorem Room.below {b n : Nat} {w w' : World} (h : Room b n w) (hb : Below w.heap.size w w') : Room b n w' := stable_room b n w w' h hb
theorem Room.drew {b n : Nat} {w : World} (h : Room b n w) : Room b n w.drew := h.below ((Below.refl _ _).drew)
theorem Room.alloc {b n : Nat} {w : World} (h : Room b n w) (o : Obj) : Room b n (w.alloc o) := h.below (below1 w o)

/-- Nothing is asked of a world. -/
def Free (_ : World) : Prop := True
theorem free (w : World) : Free w := True.intro

theorem frozen_set (w : World) (p q : Addr) (v : Value) : (w.setCell p v).frozen? q = w.frozen? q := by simp [go_sem]
theorem keep_set {w : World} {b o : Nat} {x : Value} (b' o' : Nat) (v : Value) (hne : b ≠ b') (h : w.cell? ⟨b, o, none⟩ = some x) : (w.setCell ⟨b', o', none⟩ v).cell? ⟨b, o, none⟩ = some x := by
  rw [World.cell?_setCell_other _ _ _ _ (by intro he; injection he with he1; exact hne he1.symm)]; exact h
theorem Room.set {b n : Nat} {w : World} (h : Room b n w) (o' : Nat) (v : Value) : Room b n (w.setCell ⟨b, o', none⟩ v) := fun o ho => by
  obtain ⟨⟨u, h1⟩, h2⟩ := h o ho
  refine ⟨?_, by rw [frozen_set]; exact h2⟩
  by_cases he : o = o'
  · subst he; exact ⟨v, World.cell?_setCell_same _ _ _ h1⟩
  · exact ⟨u, by rw [World.cell?_setCell_other _ _ _ _ (by intro hh; injection hh with _ h3; exact he h3.symm)]; exact h1⟩
theorem bset {a b : World} (h : Below a.heap.size a b) (n : Nat) (hn : a.heap.size ≤ n) (o : Nat) (v : Value) : Below a.heap.size a (b.setCell ⟨n, o, none⟩ v) := h.setCell hn v

theorem and_mask (k : Nat) (z m : Int) (h0 : 0 ≤ z) (h1 : z < 18446744073709551616) (hm : m = ((2 ^ k - 1 : Nat) : Int)) (hk : k ≤ 63) : bits .and .u64 z m = z % ((2 ^ k : Nat) : Int) := by
  obtain ⟨Z, rfl⟩ := Int.eq_ofNat_of_zero_le h0
  have hp : 2 ^ k ≤ 2 ^ 63 := Nat.pow_le_pow_right (by omega) hk
  rw [hm, Go.bits_and_u64_nat Z (2 ^ k - 1) (by omega) (by omega), Nat.and_two_pow_sub_one_eq_mod, Int.natCast_emod]

end Go.Proofs.Ytefpknkbfmjajaa
namespace Go.Proofs.Ytefpknkbfmjajaa
open Go.RowKit

section
variable {P : Program} {ops : Array Oper} {Q : Exit → Act → World → Prop} {md : Region.Mode} {S : World → Prop}

/-- A new variable that still holds its zero values. -/
structure Fresh (N : Nat) (vs : Array Value) (b : Nat) (w : World) : Prop where
  cell : ∀ o v, vs[o]? = some v → w.cell? ⟨b, o, none⟩ = some v
  thawed : ∀ o, w.frozen? ⟨b, o, none⟩ = false
  size : b < w.heap.size
  base : N ≤ b
theorem Fresh.below {N b : Nat} {vs : Array Value} {w w' : World} (h : Fresh N vs b w) (hb : Below w.heap.size w w') : Fresh N vs b w' :=
  ⟨fun o v hv => by rw [hb.cell (p := ⟨b, o, none⟩) h.size]; exact h.cell o v hv, fun o => by rw [hb.frozen (p := ⟨b, o, none⟩) h.size]; exact h.thawed o, Nat.lt_of_lt_of_le h.size hb.size, h.base⟩
theorem Fresh.new {N : Nat} {vs : Array Value} {t : TypeId} {w : World} (h : N ≤ w.heap.size) : Fresh N vs w.heap.size (w.alloc (.cells vs t)) :=
  ⟨fun o v hv => by rw [World.cell?_alloc_new]; exact hv, fun o => by simp [go_sem], by simp, h⟩

variable {N i1 d1 : Nat} {v1 : Array Value} {t1 : TypeId} {f : Nat}

end
end Go.Proofs.Ytefpknkbfmjajaa
namespace Go.Proofs.Ytefpknkbfmjajaa
open Go.RowKit

section
variable {P : Program} {ops : Array Oper} {Q : Exit → Act → World → Prop} {md : Region.Mode} {S : World → Prop}
/-- The first n bits of a number. -/
def lsb : Nat → Nat → List Bool
  | 0, _ => []
  | n + 1, m => (m % 2 == 1) :: lsb n (m / 2)
def lst (n m : Nat) : Array Bool := ⟨lsb n m⟩
theorem lst0 (n : Nat) {fuel : Nat} {listed : Array Bool} {a : Act} {w : World} (h : listed = lst n 0) (k : wpAnyH P md ops Q S fuel (lst n 0) a w) : wpAnyH P md ops Q S fuel listed a w := h ▸ k
/-- An operation that reads is taken: number i, into slot d; m' has come up then. -/
theorem tkH (i d m' : Nat) (v : Value) {op : Op} {ty : TypeId} {pos : String} {af : Array Edge} {g : Option (Nat × Bool)} {n m fuel : Nat} {a : Act} {w : World} (hi : ops[i]? = some ⟨some d, op, ty, pos, af, g⟩)
    (hc : (Region.noSelect ops && Region.free md ops (lst n m) i && (Region.ready md ops (lst n m)).contains i) = true) (he : (lst n m).setIfInBounds i true = lst n m')
    (hQ : ∀ c a w, Q (.panic c) (a.put (some d) v) w → Q (.panic c) a w) (hS : S w) (hy : YieldsIf P ops S ⟨some d, op, ty, pos, af, g⟩ v a)
    (h : wpAnyH P md ops Q S fuel (lst n m') (a.put (some d) v) w) : wpAnyH P md ops Q S (fuel + 1) (lst n m) a w := by
  simp only [Bool.and_eq_true] at hc
  refine wpAnyH_take hi hc.1.1 hc.1.2 hc.2 hQ hy hS ?_
  rw [he]
  exact h
/-- The only one that may come up. -/
theorem rdH (i m' : Nat) {ds : Option Tmp} {op : Op} {ty : TypeId} {pos : String} {af : Array Edge} {g : Option (Nat × Bool)} {n m fuel : Nat} {a : Act} {w : World} (hi : ops[i]? = some ⟨ds, op, ty, pos, af, g⟩)
    (hr : Region.ready md ops (lst n m) = [i]) (he : (lst n m).setIfInBounds i true = lst n m')
    (h : ∀ K' : Act → World → Prop, Shut (∀ a w, S w → (S w → wpAnyH P md ops Q S fuel (lst n m') a w) → K' a w) → if Region.wanted ⟨ds, op, ty, pos, af, g⟩ (yielded ops a.tmps) = true then Oper.wp P ⟨ds, op, ty, pos, af, g⟩ a w K' Q else K' (a.put ds undef) w) : wpAnyH P md ops Q S (fuel + 1) (lst n m) a w :=
  wpAnyH_ready hr (by simp) (AllReadyH.cons hi (fun K' hK => h K' (by rw [he] at hK; exact hK)) AllReadyH.nil)
end

end Go.Proofs.Ytefpknkbfmjajaa
