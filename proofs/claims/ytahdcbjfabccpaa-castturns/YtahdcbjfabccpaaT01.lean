/- Near, SumA, Base, New, Tk. -/
import Derived.Laws.MathBits
import Derived.Test.YtahdcbjfabccpaaRows
import Derived.WalkKit
import Derived.WalkSpells
import Derived.WalkLawsBesides
import Derived.Laws.Pointers
import Derived.Deep.RegionHeld3
import Derived.RowKit3
import Derived.Laws.Bits64b
namespace Go.Proofs.Ytahdcbjfabccpaa

/-- a by b to the nearest whole number, ties to even. -/
def near (a b : Nat) : Nat := if b < 2 * (a % b) ∨ (2 * (a % b) = b ∧ a / b % 2 = 1) then a / b + 1 else a / b

theorem near_scale (a b c : Nat) (hc : 0 < c) : near (a * c) (b * c) = near a b := by
  unfold near
  rw [Nat.mul_mod_mul_right, Nat.mul_div_mul_right _ _ hc]
  have e1 : (b * c < 2 * (a % b * c)) = (b < 2 * (a % b)) := by
    rw [← Nat.mul_assoc]
    exact propext (Nat.mul_lt_mul_right hc)
  have e2 : (2 * (a % b * c) = b * c) = (2 * (a % b) = b) := by
    rw [← Nat.mul_assoc]
    exact propext (Nat.mul_right_cancel_iff hc)
  simp only [e1, e2]
theorem near_ge {a b k : Nat} (hb : 0 < b) (h : k * b ≤ a) : k ≤ near a b := by
  have := (Nat.le_div_iff_mul_le hb).2 h
  unfold near
  split <;> omega
theorem near_le {a b k : Nat} (hb : 0 < b) (h : a ≤ k * b) : near a b ≤ k := by
  unfold near
  have h1 : a / b ≤ k := Nat.div_le_of_le_mul (by rw [Nat.mul_comm]; exact h)
  split
  · rename_i hc
    refine Decidable.byContradiction fun hn => ?_
    have he : a / b = k := by omega
    have h2 := Nat.div_add_mod a b
    rw [he, Nat.mul_comm b k] at h2
    omega
  · exact h1
theorem near_zero (b : Nat) : near 0 b = 0 := by
  unfold near
  rw [Nat.zero_mod, Nat.zero_div, if_neg (by omega)]
theorem bl_lt {x k : Nat} (h : Go.bitLen x ≤ k) : x < 2 ^ k := Nat.lt_of_lt_of_le (Go.bitLen_spec x).1 (Nat.pow_le_pow_right (by omega) h)
theorem bl_ge {x k : Nat} (h : k < Go.bitLen x) : 2 ^ k ≤ x := by
  have hx : x ≠ 0 := fun h0 => by rw [h0] at h; exact absurd h (by rw [show Go.bitLen 0 = 0 from rfl]; omega)
  exact Nat.le_trans (Nat.pow_le_pow_right (by omega) (by omega)) ((Go.bitLen_spec x).2 hx)
theorem bl_shl (x k : Nat) (h : x ≠ 0) : Go.bitLen (x * 2 ^ k) = k + Go.bitLen x := by
  have h1 := Nat.mul_div_cancel x (Nat.two_pow_pos k)
  rw [Go.bitLen_shift (x * 2 ^ k) k (by rw [h1]; exact h), h1]
theorem bl_pos {x : Nat} (h : x ≠ 0) : 0 < Go.bitLen x := by
  unfold Go.bitLen
  rw [if_neg h]
  omega
theorem bl_two (v m : Nat) (hm : m ≤ 1) (h : 2 * v + m ≠ 0) : Go.bitLen (2 * v + m) = Go.bitLen v + 1 := by
  by_cases hv : v = 0
  · subst hv
    have : m = 1 := by omega
    subst this
    decide +kernel
  · have h1 : (2 * v + m) / 2 ^ 1 = v := by omega
    rw [Go.bitLen_shift (2 * v + m) 1 (by rw [h1]; exact hv), h1]
    omega

/-- The place of the last bit of the float that is nearest to X. -/
def unitOf (f L X : Nat) : Nat := max (Go.bitLen X - (f + 1)) L
/-- That float's number among the floats. -/
def code (f L X : Nat) : Nat := (unitOf f L X - L) * 2 ^ f + near X (2 ^ unitOf f L X)

theorem unit_le (f L X : Nat) : L ≤ unitOf f L X := by unfold unitOf; omega
theorem unit_up (f L X : Nat) : near X (2 ^ unitOf f L X) ≤ 2 * 2 ^ f := by
  refine near_le (Nat.two_pow_pos _) ?_
  rw [show 2 * 2 ^ f = 2 ^ (f + 1) by rw [Nat.pow_succ]; omega, ← Nat.pow_add]
  exact Nat.le_of_lt (bl_lt (by unfold unitOf; omega))
theorem unit_dn {f L X : Nat} (h : L < unitOf f L X) : 2 ^ f ≤ near X (2 ^ unitOf f L X) := by
  refine near_ge (Nat.two_pow_pos _) ?_
  rw [← Nat.pow_add]
  exact bl_ge (by unfold unitOf at h ⊢; omega)

theorem code_zero (f L : Nat) : code f L 0 = 0 := by
  have : unitOf f L 0 = L := by unfold unitOf; rw [show Go.bitLen 0 = 0 from rfl]; omega
  unfold code
  rw [near_zero, this, Nat.sub_self, Nat.zero_mul]
/-- What the halves tell: by a unit above the number's own last bit. -/
theorem near_halves (v m j n r : Nat) (hm : m ≤ 1) (hn : n = v / 2 ^ j) (hr : r = v % 2 ^ j) :
    near (2 * v + m) (2 ^ (j + 2)) = if n % 2 = 1 ∧ ((r ≠ 0 ∨ m = 1) ∨ n / 2 % 2 = 1) then n / 2 + 1 else n / 2 := by
  have hc := Nat.two_pow_pos j
  have hv := Nat.div_add_mod v (2 ^ j)
  have hlt := Nat.mod_lt v hc
  rw [← hn, ← hr] at hv
  rw [← hr] at hlt
  have e4 : 2 ^ (j + 2) = 4 * 2 ^ j := by rw [Nat.pow_add]; omega
  clear hn hr
  generalize 2 ^ j = c at *
  have hns : n = 2 * (n / 2) + n % 2 := by omega
  have hh : n % 2 < 2 := Nat.mod_lt _ (by omega)
  generalize n / 2 = s at *
  generalize n % 2 = h at *
  subst hns
  have hN : 2 * v + m = 4 * c * s + (2 * c * h + 2 * r + m) := by
    rw [← hv, Nat.mul_add c, show c * (2 * s) = 2 * (c * s) by rw [Nat.mul_left_comm], show 4 * c * s = 4 * (c * s) by rw [Nat.mul_assoc], show 2 * c * h = 2 * (c * h) by rw [Nat.mul_assoc]]
    omega
  have hR : 2 * c * h + 2 * r + m < 4 * c := by
    rcases (show h = 0 ∨ h = 1 by omega) with h0 | h0 <;> subst h0
    · omega
    · omega
  have hq : (2 * v + m) / (4 * c) = s := by
    rw [hN, Nat.mul_add_div (by omega), Nat.div_eq_of_lt hR]
    rfl
  have hr2 : (2 * v + m) % (4 * c) = 2 * c * h + 2 * r + m := by
    rw [hN, Nat.mul_add_mod, Nat.mod_eq_of_lt hR]
  unfold near
  rw [e4, hq, hr2]
  rcases (show h = 0 ∨ h = 1 by omega) with h0 | h0 <;> subst h0
  · rw [if_neg (by omega), if_neg (by omega)]
  · by_cases hl : r ≠ 0 ∨ m = 1
    · rw [if_pos (by omega), if_pos (by omega)]
    · by_cases ho : s % 2 = 1
      · rw [if_pos (by omega), if_pos (by omega)]
      · rw [if_neg (by omega), if_neg (by omega)]
/-- By a unit that isn't. -/
theorem near_two (n : Nat) : near n 2 = if n % 2 = 1 ∧ n / 2 % 2 = 1 then n / 2 + 1 else n / 2 := by
  unfold near
  by_cases h : n % 2 = 1 ∧ n / 2 % 2 = 1
  · rw [if_pos (by omega), if_pos h]
  · rw [if_neg (by omega), if_neg h]

end Go.Proofs.Ytahdcbjfabccpaa
namespace Go.Proofs.Ytahdcbjfabccpaa

/-- The number of the float of a code. -/
def fval (f L c : Nat) : Nat := if c < 2 ^ (f + 1) then c * 2 ^ L else (2 ^ f + c % 2 ^ f) * 2 ^ (c / 2 ^ f - 1 + L)

theorem fval_norm (f L s k : Nat) (h1 : s < 2 ^ (f + 1)) (hk : L ≤ k) (h2 : L < k → 2 ^ f ≤ s) : fval f L ((k - L) * 2 ^ f + s) = s * 2 ^ k := by
  have e2 : 2 ^ (f + 1) = 2 ^ f + 2 ^ f := by rw [Nat.pow_succ]; omega
  have hp := Nat.two_pow_pos f
  by_cases hL : L < k
  · have h3 := h2 hL
    obtain ⟨r, rfl⟩ := Nat.exists_eq_add_of_le h3
    obtain ⟨j, rfl⟩ : ∃ j, k = L + (j + 1) := ⟨k - L - 1, by omega⟩
    rw [show L + (j + 1) - L = j + 1 by omega]
    have hc : (j + 1) * 2 ^ f + (2 ^ f + r) = 2 ^ f * (j + 2) + r := by
      rw [show (j + 1) * 2 ^ f = 2 ^ f * (j + 1) by rw [Nat.mul_comm], show j + 2 = j + 1 + 1 by omega, Nat.mul_add (2 ^ f) (j + 1) 1]
      omega
    have hlt : r < 2 ^ f := by omega
    rw [hc]
    unfold fval
    rw [if_neg (by
      have := Nat.mul_le_mul_left (2 ^ f) (show 2 ≤ j + 2 by omega)
      omega)]
    rw [Nat.mul_add_mod, Nat.mod_eq_of_lt hlt, Nat.mul_add_div hp, Nat.div_eq_of_lt hlt, show j + 2 + 0 - 1 + L = L + (j + 1) by omega]
  · have : k = L := by omega
    subst this
    rw [Nat.sub_self, Nat.zero_mul, Nat.zero_add]
    unfold fval
    rw [if_pos h1]
theorem fval_zero (f L : Nat) : fval f L 0 = 0 := by
  unfold fval
  rw [if_pos (Nat.two_pow_pos _), Nat.zero_mul]
end Go.Proofs.Ytahdcbjfabccpaa
namespace Go.Proofs.Ytahdcbjfabccpaa
open Go.RowKit

theorem hide {p : Prop} (h : p) : Hid p := h
theorem unhide {p : Prop} (h : Hid p) : p := h
/-- What a function answers, in every world. -/
def Ct (f : Nat) (args : Array Value) (res : Value) : Prop := Hid (∀ W, Calls Try.prog f args W fun r W' => r = .returned res ∧ Below W.heap.size W W')
theorem bthen {a b c : World} (h : Below a.heap.size a b) (k : Below b.heap.size b c) : Below a.heap.size a c := h.trans (k.mono h.size)
theorem balloc {a b : World} (h : Below a.heap.size a b) (o : Obj) : Below a.heap.size a (b.alloc o) := h.alloc h.size o
theorem below1 (w : World) (o1 : Obj) : Below w.heap.size w (w.alloc o1) := (Below.refl _ _).alloc (Nat.le_refl _) _
theorem below2 (w : World) (o1 o2 : Obj) : Below w.heap.size w ((w.alloc o1).alloc o2) := ((Below.refl _ _).alloc (Nat.le_refl _) _).alloc (by simp) _
theorem ret1 {k : IntKind} {a c : Int} (h1 : a = c) : Ending.returned (.int k a) = .returned (.int k c) := by rw [h1]
theorem retb {a b : Bool} (h : a = b) : Ending.returned (.bool a) = .returned (.bool b) := by rw [h]

/-- The sizes of a width's fields, with the powers of two that go with them: P of the fraction, Q of the exponent, and the bias. -/
def Sz (e f P Q b : Int) : Prop := (e = 8 ∧ f = 23 ∧ P = 8388608 ∧ Q = 256 ∧ b = 127) ∨ (e = 11 ∧ f = 52 ∧ P = 4503599627370496 ∧ Q = 2048 ∧ b = 1023) ∨ (e = 0 ∧ f = 0 ∧ P = 1 ∧ Q = 1 ∧ b = -1)
def Wd (w e f P Q b : Int) : Prop := (w = 32 ∧ e = 8 ∧ f = 23 ∧ P = 8388608 ∧ Q = 256 ∧ b = 127) ∨ (w = 64 ∧ e = 11 ∧ f = 52 ∧ P = 4503599627370496 ∧ Q = 2048 ∧ b = 1023) ∨ ((w ≠ 32 ∧ w ≠ 64) ∧ e = 0 ∧ f = 0 ∧ P = 1 ∧ Q = 1 ∧ b = -1)
theorem Wd.sz {w e f P Q b : Int} (h : Wd w e f P Q b) : Sz e f P Q b := by
  rcases h with h | h | h
  · exact Or.inl h.2
  · exact Or.inr (Or.inl h.2)
  · exact Or.inr (Or.inr h.2)
set_option maxHeartbeats 400000 in
theorem sizesOf_any {w e f P Q b : Int} (h : Wd w e f P Q b) (W : World) :
    Calls Try.prog 47 #[.int .i64 w] W fun r W' => r = .returned (.agg #[.int .i64 e, .int .i64 f]) ∧ Below W.heap.size W W' := by
  rcases h with ⟨rfl, rfl, rfl, rfl, rfl, rfl⟩ | ⟨rfl, rfl, rfl, rfl, rfl, rfl⟩ | ⟨⟨h1, h2⟩, rfl, rfl, rfl, rfl, rfl⟩
  all_goals
    go_enter Try.func47, Try.ntmps47
    go_wp2
    refine bodyPost_ret (v := .agg #[.int .i64 _, .int .i64 _]) (by simp [results, Try.results47, go_sem]) rfl ⟨rfl, below1 _ _⟩

set_option maxHeartbeats 400000 in
theorem known_any (e f : Int) (W : World) :
    Calls Try.prog 32 #[.agg #[.int .i64 e, .int .i64 f]] W fun r W' => r = .returned (.bool (f != 0)) ∧ Below W.heap.size W W' := by
  go_enter Try.func32, Try.ntmps32
  go_wp2
  go_ret
  exact ⟨rfl, below1 _ _⟩

set_option maxHeartbeats 400000 in
theorem last_any {e f P Q b : Int} (h : Sz e f P Q b) (W : World) :
    Calls Try.prog 34 #[.agg #[.int .i64 e, .int .i64 f]] W fun r W' => r = .returned (.int .u64 (Q - 1)) ∧ Below W.heap.size W W' := by
  rcases h with ⟨rfl, rfl, rfl, rfl, rfl⟩ | ⟨rfl, rfl, rfl, rfl, rfl⟩ | ⟨rfl, rfl, rfl, rfl, rfl⟩
  all_goals
    go_enter Try.func34, Try.ntmps34
    go_wp2
    go_ret
    exact ⟨rfl, below1 _ _⟩

set_option maxHeartbeats 400000 in
theorem one_any {e f P Q b : Int} (h : Sz e f P Q b) (W : World) :
    Calls Try.prog 36 #[.agg #[.int .i64 e, .int .i64 f]] W fun r W' => r = .returned (.int .u64 P) ∧ Below W.heap.size W W' := by
  rcases h with ⟨rfl, rfl, rfl, rfl, rfl⟩ | ⟨rfl, rfl, rfl, rfl, rfl⟩ | ⟨rfl, rfl, rfl, rfl, rfl⟩
  all_goals
    go_enter Try.func36, Try.ntmps36
    go_wp2
    go_ret
    exact ⟨rfl, below1 _ _⟩

set_option maxHeartbeats 400000 in
theorem power_any {e f P Q b : Int} (x : Int) (h : Sz e f P Q b) (W : World) (h1 : -5000 ≤ x) (h2 : x ≤ 5000) :
    Calls Try.prog 35 #[.agg #[.int .i64 e, .int .i64 f], .int .i64 x] W fun r W' => r = .returned (.int .i64 (x - b - f)) ∧ Below W.heap.size W W' := by
  rcases h with ⟨rfl, rfl, rfl, rfl, rfl⟩ | ⟨rfl, rfl, rfl, rfl, rfl⟩ | ⟨rfl, rfl, rfl, rfl, rfl⟩
  all_goals
    go_enter Try.func35, Try.ntmps35
    go_wp2
    go_ret
    exact ⟨ret1 (by omega), below1 _ _⟩

theorem least_any {e f P Q b : Int} (h : Sz e f P Q b) (W : World) :
    Calls Try.prog 37 #[.agg #[.int .i64 e, .int .i64 f]] W fun r W' => r = .returned (.int .i64 (1 - b - f)) ∧ Below W.heap.size W W' := by
  go_enter Try.func37, Try.ntmps37
  go_wp2_with (go_at_call 35; refine (power_any 1 h _ (by omega) (by omega)).mono ?_; rintro _ w1 ⟨rfl, hb1⟩)
  go_ret
  exact ⟨rfl, bthen (below1 _ _) hb1⟩

theorem bcell {W w1 : World} (hb : Below W.heap.size W w1) (b o : Nat) (h : b < W.heap.size) : w1.cell? ⟨b, o, none⟩ = W.cell? ⟨b, o, none⟩ := hb.cell (p := ⟨b, o, none⟩) h
theorem keep1 {W w' : World} {b o : Nat} {x : Value} (hb : Below W.heap.size W w') (hz : b < W.heap.size) (h : W.cell? ⟨b, o, none⟩ = some x) : w'.cell? ⟨b, o, none⟩ = some x := by rw [bcell hb b o hz]; exact h
theorem lt_of_cell {W : World} {b o : Nat} {x : Value} (h : W.cell? ⟨b, o, none⟩ = some x) : b < W.heap.size := by
  apply Decidable.byContradiction
  intro hn
  simp [World.cell?, Nat.le_of_not_lt hn] at h
/-- A block that holds two values. -/
def At2 (b : Nat) (x y : Value) (w : World) : Prop := w.cell? ⟨b, 0, none⟩ = some x ∧ w.cell? ⟨b, 1, none⟩ = some y
def At5 (b : Nat) (x y z u v : Value) (w : World) : Prop := w.cell? ⟨b, 0, none⟩ = some x ∧ w.cell? ⟨b, 1, none⟩ = some y ∧ w.cell? ⟨b, 2, none⟩ = some z ∧ w.cell? ⟨b, 3, none⟩ = some u ∧ w.cell? ⟨b, 4, none⟩ = some v
theorem At2.below {b : Nat} {x y : Value} {w w' : World} (h : At2 b x y w) (hb : Below w.heap.size w w') : At2 b x y w' :=
  have hz := lt_of_cell h.1
  ⟨keep1 hb hz h.1, keep1 hb hz h.2⟩
theorem At5.below {b : Nat} {x y z u v : Value} {w w' : World} (h : At5 b x y z u v w) (hb : Below w.heap.size w w') : At5 b x y z u v w' :=
  have hz := lt_of_cell h.1
  ⟨keep1 hb hz h.1, keep1 hb hz h.2.1, keep1 hb hz h.2.2.1, keep1 hb hz h.2.2.2.1, keep1 hb hz h.2.2.2.2⟩

theorem i64_id {x : Int} (h1 : -9223372036854775808 ≤ x) (h2 : x < 9223372036854775808) : IntKind.i64.wrap x = x := by
  simp only [IntKind.wrap, IntKind.bits, IntKind.signed]
  simp
  omega

section
variable {P : Program} {ops : Array Oper} {Q : Exit → Act → World → Prop} {md : Region.Mode} {S : World → Prop}
theorem anyH_at {fuel : Nat} {listed : Array Bool} {a : Act} {w : World} (l : Array Bool) (h : listed = l) (k : wpAnyH P md ops Q S fuel l a w) : wpAnyH P md ops Q S fuel listed a w := h ▸ k
end
/-- What is kept where only new memory is touched. -/
def Stable (T : World → Prop) : Prop := ∀ w w', T w → Below w.heap.size w w' → T w'
theorem Stable.and {A B : World → Prop} (ha : Stable A) (hb : Stable B) : Stable (fun w => A w ∧ B w) := fun w w' h k => ⟨ha w w' h.1 k, hb w w' h.2 k⟩
theorem stable_cell (p : Addr) (v : Value) : Stable (fun w => w.cell? p = some v) := fun w _ h k => (k.cell (World.block_lt_of_cell? w p h)).trans h
/-- A block that can be written. -/
def Room (b n : Nat) (w : World) : Prop := ∀ o, o < n → (∃ v, w.cell? ⟨b, o, none⟩ = some v) ∧ w.frozen? ⟨b, o, none⟩ = false
theorem stable_room (b n : Nat) : Stable (Room b n) := fun w _ h k o ho => by
  obtain ⟨⟨v, h1⟩, h2⟩ := h o ho
  have hz := World.block_lt_of_cell? w _ h1
  exact ⟨⟨v, (k.cell hz).trans h1⟩, (k.frozen hz).trans h2⟩
theorem Room.below {b n : Nat} {w w' : World} (h : Room b n w) (hb : Below w.heap.size w w') : Room b n w' := stable_room b n w w' h hb
theorem Room.drew {b n : Nat} {w : World} (h : Room b n w) : Room b n w.drew := h.below ((Below.refl _ _).drew)
theorem Room.alloc {b n : Nat} {w : World} (h : Room b n w) (o : Obj) : Room b n (w.alloc o) := h.below (below1 w o)

/-- Nothing is asked of a world. -/
def Free (_ : World) : Prop := True
theorem free (w : World) : Free w := True.intro

theorem frozen_set (w : World) (p q : Addr) (v : Value) : (w.setCell p v).frozen? q = w.frozen? q := by simp [go_sem]
theorem keep_set {w : World} {b o : Nat} {x : Value} (b' o' : Nat) (v : Value) (hne : b ≠ b') (h : w.cell? ⟨b, o, none⟩ = some x) : (w.setCell ⟨b', o', none⟩ v).cell? ⟨b, o, none⟩ = some x := by
  rw [World.cell?_setCell_other _ _ _ _ (by intro he; injection he with he1; exact hne he1.symm)]; exact h
theorem Room.set {b n : Nat} {w : World} (h : Room b n w) (o' : Nat) (v : Value) : Room b n (w.setCell ⟨b, o', none⟩ v) := fun o ho => by
  obtain ⟨⟨u, h1⟩, h2⟩ := h o ho
  refine ⟨?_, by rw [frozen_set]; exact h2⟩
  by_cases he : o = o'
  · subst he; exact ⟨v, World.cell?_setCell_same _ _ _ h1⟩
  · exact ⟨u, by rw [World.cell?_setCell_other _ _ _ _ (by intro hh; injection hh with _ h3; exact he h3.symm)]; exact h1⟩
theorem bset {a b : World} (h : Below a.heap.size a b) (n : Nat) (hn : a.heap.size ≤ n) (o : Nat) (v : Value) : Below a.heap.size a (b.setCell ⟨n, o, none⟩ v) := h.setCell hn v

theorem and_mask (k : Nat) (z m : Int) (h0 : 0 ≤ z) (h1 : z < 18446744073709551616) (hm : m = ((2 ^ k - 1 : Nat) : Int)) (hk : k ≤ 63) : bits .and .u64 z m = z % ((2 ^ k : Nat) : Int) := by
  obtain ⟨Z, rfl⟩ := Int.eq_ofNat_of_zero_le h0
  have hp : 2 ^ k ≤ 2 ^ 63 := Nat.pow_le_pow_right (by omega) hk
  rw [hm, Go.bits_and_u64_nat Z (2 ^ k - 1) (by omega) (by omega), Nat.and_two_pow_sub_one_eq_mod, Int.natCast_emod]

set_option maxHeartbeats 1000000 in
theorem most_any {e f P Q b : Int} (h : Sz e f P Q b) (W : World) :
    Calls Try.prog 81 #[.agg #[.int .i64 e, .int .i64 f]] W fun r W' => r = .returned (.int .i64 (Q - 2 - b - f)) ∧ Below W.heap.size W W' := by
  have hQ : IntKind.i64.wrap (IntKind.i64.wrap (Q - 1) - 1) = Q - 2 ∧ -5000 ≤ Q - 2 ∧ Q - 2 ≤ 5000 := by
    have : 1 ≤ Q ∧ Q ≤ 2048 := by rcases h with h | h | h <;> omega
    rw [i64_id (x := Q - 1) (by omega) (by omega), i64_id (by omega) (by omega)]
    omega
  obtain ⟨q1, q2, q3⟩ := hQ
  go_enter Try.func81, Try.ntmps81
  go_wp2_with fail
  go_region_held3 (fun w' => w'.cell? ⟨W.heap.size, 0, none⟩ = some (.int .i64 e) ∧ w'.cell? ⟨W.heap.size, 1, none⟩ = some (.int .i64 f)) (first | exact At2.below ‹_› (by assumption) | (simp [go_sem]; done))
    (first
      | (go_at_call 34; refine (last_any h _).mono ?_; rintro _ w1 ⟨rfl, hb1⟩)
      | (go_at_call 35; refine (power_any _ h _ q2 q3).mono ?_; rintro _ w2 ⟨rfl, hb2⟩))
  go_wp2
  go_ret
  exact ⟨rfl, bthen (bthen (below1 _ _).drew hb1) hb2⟩

end Go.Proofs.Ytahdcbjfabccpaa
namespace Go.Proofs.Ytahdcbjfabccpaa
open Go.RowKit

section
variable {P : Program} {ops : Array Oper} {Q : Exit → Act → World → Prop} {md : Region.Mode} {S : World → Prop}

/-- Operation j neither looks at temporary d nor writes it. -/
def noTouch (ops : Array Oper) (j d : Nat) : Bool :=
  match ops[j]? with
  | some o => !(o.looksAt ops).contains d && o.dst != some d
  | none => false

/-- Whether a pointer lies already in a temporary that operation j does not touch makes no difference to it. -/
theorem wpOp_over {j d : Nat} {v : Value} (hn : noTouch ops j d = true) (hs : Region.noSelect ops = true)
    (hQ : ∀ c a w, Q (.panic c) a w → Q (.panic c) (a.put (some d) v) w) {K : Act → World → Prop} {a : Act} {w : World}
    (h : wpOp P ops Q j (fun a' w' => K (a'.put (some d) v) w') a w) : wpOp P ops Q j K (a.put (some d) v) w := by
  unfold noTouch at hn
  cases hj : ops[j]? with
  | none => simp [hj] at hn
  | some oj =>
    simp [hj] at hn
    obtain ⟨h1', h2'⟩ := hn
    have h1 : ∀ e, some d = some e → e ∉ oj.looksAt ops := fun e he => by injection he with he; subst he; exact h1'
    have h2 : ∀ e, oj.dst = some e → some d ≠ some e := fun e he hd => h2' (by rw [he, hd])
    have hsj : ∀ cs b, oj.op ≠ .select cs b := fun cs b => Region.noSelect_spec hs j oj cs b hj
    unfold wpOp at *
    simp only [hj] at *
    rw [wanted_put oj a (some d) v h1]
    split
    · rename_i hw
      simp only [hw, if_true] at h
      rcases h with h | ⟨hasks, hlets⟩
      case inr => exact .inr ⟨by unfold Oper.asks at *; rw [execOp_put oj hsj a (some d) v h1]; exact hasks, hlets⟩
      refine .inl ?_
      unfold Oper.wp at *
      rw [execOp_put oj hsj a (some d) v h1]
      generalize (execOp a.eval oj).run P w = r at *
      cases r with
      | ok n w' =>
        cases n <;> simp only [Oper.upon] at h ⊢
        case value u => rw [← Act.put_comm a u v h2]; exact h
        case skip => rw [← Act.put_comm a undef v h2]; exact h
        case defer dd =>
          rw [Act.put_defers, ← Act.put_comm _ undef v h2]
          exact h
        case enter f args =>
          refine Calls.mono h fun e w'' he => ?_
          cases e with
          | returned u => simp only [] at he ⊢; rw [← Act.put_comm a u v h2]; exact he
          | panicked c => exact hQ _ _ _ he
          | outgrown => exact he
        case row row args => exact Rows.mono h fun u w'' he => by rw [← Act.put_comm a u v h2]; exact he
      | halt x w' =>
        cases x <;> simp only [Oper.upon] at h ⊢
        case panic u => exact hQ _ _ _ h
        all_goals exact h
    · rename_i hw
      simp only [hw] at h
      rw [← Act.put_comm a undef v h2]; exact h

def ptr (b : Nat) : Value := .pointer (some ⟨b, 0, none⟩)

/-- A new variable that still holds its zero values. -/
structure Fresh (N : Nat) (vs : Array Value) (b : Nat) (w : World) : Prop where
  cell : ∀ o v, vs[o]? = some v → w.cell? ⟨b, o, none⟩ = some v
  thawed : ∀ o, w.frozen? ⟨b, o, none⟩ = false
  size : b < w.heap.size
  base : N ≤ b
theorem Fresh.below {N b : Nat} {vs : Array Value} {w w' : World} (h : Fresh N vs b w) (hb : Below w.heap.size w w') : Fresh N vs b w' :=
  ⟨fun o v hv => by rw [hb.cell (p := ⟨b, o, none⟩) h.size]; exact h.cell o v hv, fun o => by rw [hb.frozen (p := ⟨b, o, none⟩) h.size]; exact h.thawed o, Nat.lt_of_lt_of_le h.size hb.size, h.base⟩
theorem Fresh.new {N : Nat} {vs : Array Value} {t : TypeId} {w : World} (h : N ≤ w.heap.size) : Fresh N vs w.heap.size (w.alloc (.cells vs t)) :=
  ⟨fun o v hv => by rw [World.cell?_alloc_new]; exact hv, fun o => by simp [go_sem], by simp, h⟩

/-- Operation i makes a new variable, whatever the state and the world are. -/
def Makes (P : Program) (ops : Array Oper) (Q : Exit → Act → World → Prop) (i d : Nat) (vs : Array Value) (t : TypeId) : Prop :=
  ∀ (a : Act) (w : World) (K : Act → World → Prop), K (a.put (some d) (ptr w.heap.size)) (w.alloc (.cells vs t)) → wpOp P ops Q i K a w

theorem not_ready {L : Array Bool} {i : Nat} : i ∉ Region.ready md ops (L.setIfInBounds i true) := by
  intro h
  have h0 := (mem_ready.1 h).1
  rw [Array.getD_eq_getD_getElem?, Array.getElem?_setIfInBounds] at h0
  simp at h0
  split at h0 <;> simp_all

theorem alloc_stable {T : World → Prop} (h : Stable T) {w : World} (hT : T w) (o : Obj) : T (w.alloc o) := h _ _ hT (below1 _ _)

theorem yields_over {i d : Nat} {oi : Oper} {v p : Value} {a : Act} (hi : ops[i]? = some oi) (hs : Region.noSelect ops = true) (hn : noTouch ops i d = true) (h : YieldsIf P ops S oi v a) : YieldsIf P ops S oi v (a.put (some d) p) := by
  unfold noTouch at hn
  simp [hi] at hn
  have h1 : ∀ e, some d = some e → e ∉ oi.looksAt ops := fun e he => by injection he with he; subst he; exact hn.1
  exact h.of_same (execOp_put oi (fun cs b => Region.noSelect_spec hs i oi cs b hi) a (some d) p h1) (wanted_put oi a (some d) p h1)

theorem dst_ne {i d : Nat} {oi : Oper} (hi : ops[i]? = some oi) (hn : noTouch ops i d = true) : ∀ e, oi.dst = some e → some d ≠ some e := by
  unfold noTouch at hn
  simp [hi] at hn
  exact fun e he hd => hn.2 (by rw [he, hd])

/-- A walk that leaves the new variable out. -/
def WO (P : Program) (ops : Array Oper) (Q : Exit → Act → World → Prop) (md : Region.Mode) (S : World → Prop) (N i1 d1 : Nat) (v1 : Array Value) (f : Nat) : Nat → Array Bool → Act → (World → Prop) → Prop
  | 0, L, a, T => (!(Region.ready md ops L).isEmpty && (Region.ready md ops L).all (fun j => j == i1)) = true ∧
      ∀ w b1, S w → T w → Fresh N v1 b1 w → wpAnyH P md ops Q S f (L.setIfInBounds i1 true) (a.put (some d1) (ptr b1)) w
  | n + 1, L, a, T =>
    (∃ i oi v, ops[i]? = some oi ∧ [L, L.setIfInBounds i1 true].all (fun L' => Region.free md ops L' i && (Region.ready md ops L').contains i) = true ∧ noTouch ops i d1 = true ∧ i ≠ i1 ∧
      (∀ c a w, Q (.panic c) (a.put oi.dst v) w → Q (.panic c) a w) ∧ YieldsIf P ops S oi v a ∧ WO P ops Q md S N i1 d1 v1 f n (L.setIfInBounds i true) (a.put oi.dst v) T) ∨
    (∃ c, [L, L.setIfInBounds i1 true].all (fun L' => !(Region.ready md ops L').isEmpty && (Region.ready md ops L').all (fun j => j == c || j == i1)) = true ∧ noTouch ops c d1 = true ∧ c ≠ i1 ∧
      ∀ w, S w → T w → wpOp P ops Q c (fun a' w' => Below w.heap.size w w' ∧ ∃ T', Stable T' ∧ T' w' ∧ WO P ops Q md S N i1 d1 v1 f n (L.setIfInBounds c true) a' T') a w)

variable {N i1 d1 : Nat} {v1 : Array Value} {t1 : TypeId} {f : Nat}

theorem wo_any (hs : Region.noSelect ops = true) (hQ : ∀ c a d v w, Q (.panic c) a w → Q (.panic c) (a.put (some d) v) w) (hS : Stable S) (m1 : Makes P ops Q i1 d1 v1 t1) :
    ∀ (n : Nat) (L : Array Bool) (a : Act) (T : World → Prop), Stable T → WO P ops Q md S N i1 d1 v1 f n L a T →
      (∀ w, S w → T w → N ≤ w.heap.size → wpAnyH P md ops Q S (f + n + 1) L a w) ∧
      (∀ w b1, S w → T w → N ≤ w.heap.size → Fresh N v1 b1 w → wpAnyH P md ops Q S (f + n) (L.setIfInBounds i1 true) (a.put (some d1) (ptr b1)) w) := by
  intro n
  induction n with
  | zero =>
    intro L a T hT h
    obtain ⟨hr, h1⟩ := h
    simp only [Bool.and_eq_true, List.all_eq_true, beq_iff_eq, Bool.not_eq_true', List.isEmpty_eq_false_iff] at hr
    obtain ⟨e0, r0⟩ := hr
    have g1 : ∀ w b1, S w → T w → N ≤ w.heap.size → Fresh N v1 b1 w → wpAnyH P md ops Q S (f + 0) (L.setIfInBounds i1 true) (a.put (some d1) (ptr b1)) w :=
      fun w b1 hSw hTw _ k1 => h1 w b1 hSw hTw k1
    refine ⟨?_, g1⟩
    intro w hSw hTw hN
    refine ⟨fun h => absurd h e0, fun j hj => ?_⟩
    have hji := r0 j hj
    subst hji
    exact m1 _ _ _ ⟨alloc_stable hS hSw _, g1 _ _ (alloc_stable hS hSw _) (alloc_stable hT hTw _) (by simp; omega) (Fresh.new hN)⟩
  | succ n ih =>
    intro L a T hT h
    rcases h with ⟨i, oi, v, ho, hr, nt1, hi1, hP, hy, hW⟩ | ⟨c, hr, nt1, hc1, hc⟩
    · obtain ⟨h0, h1⟩ := ih _ _ T hT hW
      simp only [List.all_cons, List.all_nil, Bool.and_true, Bool.and_eq_true] at hr
      obtain ⟨⟨f0, r0⟩, ⟨f1, r1⟩⟩ := hr
      refine ⟨?_, ?_⟩
      · intro w hSw hTw hN
        exact wpAnyH_take ho hs f0 r0 hP hy hSw (h0 w hSw hTw hN)
      · intro w b1 hSw hTw hN k1
        refine wpAnyH_take ho hs f1 r1 hP (yields_over ho hs nt1 hy) hSw ?_
        rw [← Act.put_comm a _ _ (dst_ne ho nt1), ← Array.setIfInBounds_comm _ _ hi1]
        exact h1 w b1 hSw hTw hN k1
    · simp only [List.all_cons, List.all_nil, Bool.and_true, Bool.and_eq_true, List.all_eq_true, Bool.or_eq_true, beq_iff_eq, Bool.not_eq_true', List.isEmpty_eq_false_iff] at hr
      obtain ⟨⟨e0, r0⟩, ⟨e1, r1⟩⟩ := hr
      have sz : ∀ {w w' : World}, N ≤ w.heap.size → Below w.heap.size w w' → N ≤ w'.heap.size := fun h k => Nat.le_trans h k.size
      have g1 : ∀ w b1, S w → T w → N ≤ w.heap.size → Fresh N v1 b1 w → wpAnyH P md ops Q S (f + (n + 1)) (L.setIfInBounds i1 true) (a.put (some d1) (ptr b1)) w := by
        intro w b1 hSw hTw hN k1
        refine ⟨fun h => absurd h e1, fun j hj => ?_⟩
        rcases r1 j hj with rfl | rfl
        · refine wpOp_over nt1 hs (fun c a w h => hQ c a _ _ w h) (wpOp_mono (fun a' w' hh => ?_) (hc w hSw hTw))
          obtain ⟨hB, T', hT', hTw', hW⟩ := hh
          refine ⟨hS _ _ hSw hB, ?_⟩
          rw [← Array.setIfInBounds_comm _ _ hc1]
          exact (ih _ _ T' hT' hW).2 w' b1 (hS _ _ hSw hB) hTw' (sz hN hB) (k1.below hB)
        · exact absurd hj not_ready
      refine ⟨?_, g1⟩
      intro w hSw hTw hN
      refine ⟨fun h => absurd h e0, fun j hj => ?_⟩
      rcases r0 j hj with rfl | rfl
      · refine wpOp_mono (fun a' w' hh => ?_) (hc w hSw hTw)
        obtain ⟨hB, T', hT', hTw', hW⟩ := hh
        exact ⟨hS _ _ hSw hB, (ih _ _ T' hT' hW).1 w' (hS _ _ hSw hB) hTw' (sz hN hB)⟩
      · exact m1 _ _ _ ⟨alloc_stable hS hSw _, g1 _ _ (alloc_stable hS hSw _) (alloc_stable hT hTw _) (by simp; omega) (Fresh.new hN)⟩

theorem wo_start {m n : Nat} {L : Array Bool} {a : Act} {T : World → Prop} {w : World} (hm : m = f + n + 1) (hs : Region.noSelect ops = true) (hQ : ∀ c a d v w, Q (.panic c) a w → Q (.panic c) (a.put (some d) v) w) (hS : Stable S)
    (m1 : Makes P ops Q i1 d1 v1 t1) (hT : Stable T) (hSw : S w) (hTw : T w) (hN : N ≤ w.heap.size) (h : WO P ops Q md S N i1 d1 v1 f n L a T) : wpAnyH P md ops Q S m L a w := by
  subst hm
  exact (wo_any hs hQ hS m1 n L a T hT h).1 w hSw hTw hN
theorem wo_take {i : Nat} {oi : Oper} {v : Value} {n : Nat} {L : Array Bool} {a : Act} {T : World → Prop} (ho : ops[i]? = some oi)
    (hr : [L, L.setIfInBounds i1 true].all (fun L' => Region.free md ops L' i && (Region.ready md ops L').contains i) = true) (ht : (noTouch ops i d1 && i != i1) = true)
    (hQ : ∀ c a w, Q (.panic c) (a.put oi.dst v) w → Q (.panic c) a w) (hy : YieldsIf P ops S oi v a) (h : WO P ops Q md S N i1 d1 v1 f n (L.setIfInBounds i true) (a.put oi.dst v) T) :
    WO P ops Q md S N i1 d1 v1 f (n + 1) L a T := by
  simp at ht
  exact Or.inl ⟨i, oi, v, ho, hr, ht.1, ht.2, hQ, hy, h⟩
theorem woA (i d : Nat) {v : Value} {op : Op} {ty : TypeId} {pos : String} {af : Array Edge} {g : Option (Nat × Bool)} {n : Nat} {L : Array Bool} {a a' : Act} {T : World → Prop}
    (h : WO P ops Q md S N i1 d1 v1 f n (L.setIfInBounds i true) a' T)
    (ho : ops[i]? = some ⟨some d, op, ty, pos, af, g⟩ := by rfl)
    (hr : [L, L.setIfInBounds i1 true].all (fun L' => Region.free md ops L' i && (Region.ready md ops L').contains i) = true := by kernel_rfl) (ht : (noTouch ops i d1 && i != i1) = true := by kernel_rfl)
    (hQ : ∀ c a w, Q (.panic c) (a.put (some d) v) w → Q (.panic c) a w := by exact fun _ _ _ h => h)
    (hy : YieldsIf P ops S ⟨some d, op, ty, pos, af, g⟩ v a := by exact Or.inl ⟨by rfl, fun w hSw => by (try dsimp only at hSw); go_simp; with_reducible rfl⟩)
    (ha : a.put (some d) v = a' := by ((try simp only [Act.put, List.setIfInBounds_toArray, List.set_cons_zero, List.set_cons_succ]); rfl)) :
    WO P ops Q md S N i1 d1 v1 f (n + 1) L a T := by
  subst ha
  exact wo_take ho hr ht hQ hy h
theorem wo_call {c : Nat} {o : Oper} {n : Nat} {L : Array Bool} {a : Act} {T : World → Prop} (ho : ops[c]? = some o)
    (hr : [L, L.setIfInBounds i1 true].all (fun L' => !(Region.ready md ops L').isEmpty && (Region.ready md ops L').all (fun j => j == c || j == i1)) = true) (ht : (noTouch ops c d1 && c != i1) = true)
    (h : ∀ w, S w → T w → ∀ K' : Act → World → Prop, Shut (∀ a' w' T', Below w.heap.size w w' → Stable T' → T' w' → WO P ops Q md S N i1 d1 v1 f n (L.setIfInBounds c true) a' T' → K' a' w') → if Region.wanted o (yielded ops a.tmps) = true then Oper.wp P o a w K' Q else K' (a.put o.dst undef) w) :
    WO P ops Q md S N i1 d1 v1 f (n + 1) L a T := by
  simp at ht
  refine Or.inr ⟨c, hr, ht.1, ht.2, fun w hSw hTw => ?_⟩
  exact wpOp_step ho (fun K' hK => h w hSw hTw K' (fun a' w' T' hB hT' hTw' hW => hK a' w' ⟨hB, T', hT', hTw', hW⟩))
theorem wo_fin {L : Array Bool} {a : Act} {T : World → Prop} (hr : (!(Region.ready md ops L).isEmpty && (Region.ready md ops L).all (fun j => j == i1)) = true)
    (h : ∀ w b1, S w → T w → Fresh N v1 b1 w → wpAnyH P md ops Q S f (L.setIfInBounds i1 true) (a.put (some d1) (ptr b1)) w) :
    WO P ops Q md S N i1 d1 v1 f 0 L a T := ⟨hr, h⟩

theorem stable_below (w0 : World) : Stable (fun w => Below w0.heap.size w0 w) := fun _ _ h k => bthen h k

end
end Go.Proofs.Ytahdcbjfabccpaa
namespace Go.Proofs.Ytahdcbjfabccpaa
open Go.RowKit

section
variable {P : Program} {ops : Array Oper} {Q : Exit → Act → World → Prop} {md : Region.Mode} {S : World → Prop}
/-- The first n bits of a number. -/
def lsb : Nat → Nat → List Bool
  | 0, _ => []
  | n + 1, m => (m % 2 == 1) :: lsb n (m / 2)
def lst (n m : Nat) : Array Bool := ⟨lsb n m⟩
theorem lst0 (n : Nat) {fuel : Nat} {listed : Array Bool} {a : Act} {w : World} (h : listed = lst n 0) (k : wpAnyH P md ops Q S fuel (lst n 0) a w) : wpAnyH P md ops Q S fuel listed a w := h ▸ k
/-- An operation that reads is taken: number i, into slot d; m' has come up then. -/
theorem tkH (i d m' : Nat) (v : Value) {op : Op} {ty : TypeId} {pos : String} {af : Array Edge} {g : Option (Nat × Bool)} {n m fuel : Nat} {a : Act} {w : World} (hi : ops[i]? = some ⟨some d, op, ty, pos, af, g⟩)
    (hc : (Region.noSelect ops && Region.free md ops (lst n m) i && (Region.ready md ops (lst n m)).contains i) = true) (he : (lst n m).setIfInBounds i true = lst n m')
    (hQ : ∀ c a w, Q (.panic c) (a.put (some d) v) w → Q (.panic c) a w) (hS : S w) (hy : YieldsIf P ops S ⟨some d, op, ty, pos, af, g⟩ v a)
    (h : wpAnyH P md ops Q S fuel (lst n m') (a.put (some d) v) w) : wpAnyH P md ops Q S (fuel + 1) (lst n m) a w := by
  simp only [Bool.and_eq_true] at hc
  refine wpAnyH_take hi hc.1.1 hc.1.2 hc.2 hQ hy hS ?_
  rw [he]
  exact h
/-- The only one that may come up. -/
theorem rdH (i m' : Nat) {ds : Option Tmp} {op : Op} {ty : TypeId} {pos : String} {af : Array Edge} {g : Option (Nat × Bool)} {n m fuel : Nat} {a : Act} {w : World} (hi : ops[i]? = some ⟨ds, op, ty, pos, af, g⟩)
    (hr : Region.ready md ops (lst n m) = [i]) (he : (lst n m).setIfInBounds i true = lst n m')
    (h : ∀ K' : Act → World → Prop, Shut (∀ a w, S w → (S w → wpAnyH P md ops Q S fuel (lst n m') a w) → K' a w) → if Region.wanted ⟨ds, op, ty, pos, af, g⟩ (yielded ops a.tmps) = true then Oper.wp P ⟨ds, op, ty, pos, af, g⟩ a w K' Q else K' (a.put ds undef) w) : wpAnyH P md ops Q S (fuel + 1) (lst n m) a w :=
  wpAnyH_ready hr (by simp) (AllReadyH.cons hi (fun K' hK => h K' (by rw [he] at hK; exact hK)) AllReadyH.nil)
/-- An operation that reads is taken: number i, into slot d; m' has come up then. -/
theorem tkA (i d m' : Nat) {v : Value} {op : Op} {ty : TypeId} {pos : String} {af : Array Edge} {g : Option (Nat × Bool)} {n m fuel : Nat} {a a' : Act} {w : World}
    (h : wpAnyH P md ops Q S fuel (lst n m') a' w)
    (hi : ops[i]? = some ⟨some d, op, ty, pos, af, g⟩ := by rfl)
    (hc : (Region.noSelect ops && Region.free md ops (lst n m) i && (Region.ready md ops (lst n m)).contains i) = true := by kernel_rfl)
    (he : (lst n m).setIfInBounds i true = lst n m' := by kernel_rfl)
    (hQ : ∀ c a w, Q (.panic c) (a.put (some d) v) w → Q (.panic c) a w := by exact fun _ _ _ h => h)
    (hS : S w := by assumption)
    (hy : YieldsIf P ops S ⟨some d, op, ty, pos, af, g⟩ v a := by (refine Or.inl ⟨by rfl, ?_⟩; ((intro w hSw; (try dsimp only at hSw); go_simp) <;> with_reducible rfl)))
    (ha : a.put (some d) v = a' := by ((try simp only [Act.put, List.setIfInBounds_toArray, List.set_cons_zero, List.set_cons_succ]); rfl)) :
    wpAnyH P md ops Q S (fuel + 1) (lst n m) a w := by
  subst ha
  exact tkH i d m' v hi hc he hQ hS hy h
/-- One that is not wanted. -/
theorem tkU (i d m' : Nat) {op : Op} {ty : TypeId} {pos : String} {af : Array Edge} {g : Option (Nat × Bool)} {n m fuel : Nat} {a a' : Act} {w : World}
    (h : wpAnyH P md ops Q S fuel (lst n m') a' w)
    (hi : ops[i]? = some ⟨some d, op, ty, pos, af, g⟩ := by rfl)
    (hc : (Region.noSelect ops && Region.free md ops (lst n m) i && (Region.ready md ops (lst n m)).contains i) = true := by kernel_rfl)
    (he : (lst n m).setIfInBounds i true = lst n m' := by kernel_rfl)
    (hQ : ∀ c a w, Q (.panic c) (a.put (some d) undef) w → Q (.panic c) a w := by exact fun _ _ _ h => h)
    (hS : S w := by assumption)
    (hy : YieldsIf P ops S ⟨some d, op, ty, pos, af, g⟩ undef a := by exact Or.inr ⟨by rfl, rfl⟩)
    (ha : a.put (some d) undef = a' := by ((try simp only [Act.put, List.setIfInBounds_toArray, List.set_cons_zero, List.set_cons_succ]); rfl)) :
    wpAnyH P md ops Q S (fuel + 1) (lst n m) a w := by
  subst ha
  exact tkH i d m' undef hi hc he hQ hS hy h
/-- The only one that may come up. -/
theorem rdA (i m' : Nat) {ds : Option Tmp} {op : Op} {ty : TypeId} {pos : String} {af : Array Edge} {g : Option (Nat × Bool)} {n m fuel : Nat} {a : Act} {w : World}
    (h : ∀ K' : Act → World → Prop, Shut (∀ a w, S w → (S w → wpAnyH P md ops Q S fuel (lst n m') a w) → K' a w) → if Region.wanted ⟨ds, op, ty, pos, af, g⟩ (yielded ops a.tmps) = true then Oper.wp P ⟨ds, op, ty, pos, af, g⟩ a w K' Q else K' (a.put ds undef) w)
    (hi : ops[i]? = some ⟨ds, op, ty, pos, af, g⟩ := by rfl) (hr : Region.ready md ops (lst n m) = [i] := by kernel_rfl) (he : (lst n m).setIfInBounds i true = lst n m' := by kernel_rfl) : wpAnyH P md ops Q S (fuel + 1) (lst n m) a w := rdH i m' hi hr he h
end

end Go.Proofs.Ytahdcbjfabccpaa
