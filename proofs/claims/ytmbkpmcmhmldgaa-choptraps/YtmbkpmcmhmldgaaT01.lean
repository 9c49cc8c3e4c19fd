/- Base, Tk, ChA, Leaf. -/
import Derived.Test.YtmbkpmcmhmldgaaRows
import Derived.WalkKit
import Derived.WalkSpells
import Derived.WalkLawsBesides
import Derived.Laws.MathBits
import Derived.Laws.Pointers
import Derived.Deep.RegionHeld3
import Derived.RowKit3
import Derived.Laws.Bits64b
namespace Go.Proofs.Ytmbkpmcmhmldgaa
open Go.RowKit

theorem hide {p : Prop} (h : p) : Hid p := h
theorem unhide {p : Prop} (h : Hid p) : p := h
/-- What a function answers, in every world. -/
def Ct (f : Nat) (args : Array Value) (res : Value) : Prop := Hid (∀ W, Calls Try.prog f args W fun r W' => r = .returned res ∧ Below W.heap.size W W')
theorem bthen {a b c : World} (h : Below a.heap.size a b) (k : Below b.heap.size b c) : Below a.heap.size a c := h.trans (k.mono h.size)
theorem balloc {a b : World} (h : Below a.heap.size a b) (o : Obj) : Below a.heap.size a (b.alloc o) := h.alloc h.size o
theorem below1 (w : World) (o1 : Obj) : Below w.heap.size w (w.alloc o1) := (Below.refl _ _).alloc (Nat.le_refl _) _
theorem below2 (w : World) (o1 o2 : Obj) : Below w.heap.size w ((w.alloc o1).alloc o2) := ((Below.refl _ _).alloc (Nat.le_refl _) _).alloc (by simp) _
theorem ret1 {k : IntKind} {a c : Int} (h1 : a = c) : Ending.returned (.int k a) = .returned (.int k c) := by rw [h1]
theorem retb {a b : Bool} (h : a = b) : Ending.returned (.bool a) = .returned (.bool b) := by rw [h]

/-- The sizes of a width's fields, with the powers of two that go with them: P of the fraction, Q of the exponent, and the bias. -/
def Sz (e f P Q b : Int) : Prop := (e = 8 ∧ f = 23 ∧ P = 8388608 ∧ Q = 256 ∧ b = 127) ∨ (e = 11 ∧ f = 52 ∧ P = 4503599627370496 ∧ Q = 2048 ∧ b = 1023) ∨ (e = 0 ∧ f = 0 ∧ P = 1 ∧ Q = 1 ∧ b = -1)
def Wd (w e f P Q b : Int) : Prop := (w = 32 ∧ e = 8 ∧ f = 23 ∧ P = 8388608 ∧ Q = 256 ∧ b = 127) ∨ (w = 64 ∧ e = 11 ∧ f = 52 ∧ P = 4503599627370496 ∧ Q = 2048 ∧ b = 1023) ∨ ((w ≠ 32 ∧ w ≠ 64) ∧ e = 0 ∧ f = 0 ∧ P = 1 ∧ Q = 1 ∧ b = -1)
theorem Wd.sz {w e f P Q b : Int} (h : Wd w e f P Q b) : Sz e f P Q b := by
  rcases h with h | h | h
  · exact Or.inl h.2
  · exact Or.inr (Or.inl h.2)
  · exact Or.inr (Or.inr h.2)
theorem wd_ex (w : Int) : ∃ e f P Q b, Wd w e f P Q b := by
  by_cases h : w = 32
  · exact ⟨_, _, _, _, _, Or.inl ⟨h, rfl, rfl, rfl, rfl, rfl⟩⟩
  · by_cases h2 : w = 64
    · exact ⟨_, _, _, _, _, Or.inr (Or.inl ⟨h2, rfl, rfl, rfl, rfl, rfl⟩)⟩
    · exact ⟨_, _, _, _, _, Or.inr (Or.inr ⟨⟨h, h2⟩, rfl, rfl, rfl, rfl, rfl⟩)⟩

set_option maxHeartbeats 400000 in
theorem sizesOf_any {w e f P Q b : Int} (h : Wd w e f P Q b) (W : World) :
    Calls Try.prog 52 #[.int .i64 w] W fun r W' => r = .returned (.agg #[.int .i64 e, .int .i64 f]) ∧ Below W.heap.size W W' := by
  rcases h with ⟨rfl, rfl, rfl, rfl, rfl, rfl⟩ | ⟨rfl, rfl, rfl, rfl, rfl, rfl⟩ | ⟨⟨h1, h2⟩, rfl, rfl, rfl, rfl, rfl⟩
  all_goals
    go_enter Try.func52, Try.ntmps52
    go_wp2
    refine bodyPost_ret (v := .agg #[.int .i64 _, .int .i64 _]) (by simp [results, Try.results52, go_sem]) rfl ⟨rfl, below1 _ _⟩

set_option maxHeartbeats 400000 in
theorem known_any (e f : Int) (W : World) :
    Calls Try.prog 43 #[.agg #[.int .i64 e, .int .i64 f]] W fun r W' => r = .returned (.bool (f != 0)) ∧ Below W.heap.size W W' := by
  go_enter Try.func43, Try.ntmps43
  go_wp2
  go_ret
  exact ⟨rfl, below1 _ _⟩

set_option maxHeartbeats 400000 in
theorem last_any {e f P Q b : Int} (h : Sz e f P Q b) (W : World) :
    Calls Try.prog 45 #[.agg #[.int .i64 e, .int .i64 f]] W fun r W' => r = .returned (.int .u64 (Q - 1)) ∧ Below W.heap.size W W' := by
  rcases h with ⟨rfl, rfl, rfl, rfl, rfl⟩ | ⟨rfl, rfl, rfl, rfl, rfl⟩ | ⟨rfl, rfl, rfl, rfl, rfl⟩
  all_goals
    go_enter Try.func45, Try.ntmps45
    go_wp2
    go_ret
    exact ⟨rfl, below1 _ _⟩

set_option maxHeartbeats 400000 in
theorem one_any {e f P Q b : Int} (h : Sz e f P Q b) (W : World) :
    Calls Try.prog 47 #[.agg #[.int .i64 e, .int .i64 f]] W fun r W' => r = .returned (.int .u64 P) ∧ Below W.heap.size W W' := by
  rcases h with ⟨rfl, rfl, rfl, rfl, rfl⟩ | ⟨rfl, rfl, rfl, rfl, rfl⟩ | ⟨rfl, rfl, rfl, rfl, rfl⟩
  all_goals
    go_enter Try.func47, Try.ntmps47
    go_wp2
    go_ret
    exact ⟨rfl, below1 _ _⟩

set_option maxHeartbeats 400000 in
theorem power_any {e f P Q b : Int} (x : Int) (h : Sz e f P Q b) (W : World) (h1 : -5000 ≤ x) (h2 : x ≤ 5000) :
    Calls Try.prog 46 #[.agg #[.int .i64 e, .int .i64 f], .int .i64 x] W fun r W' => r = .returned (.int .i64 (x - b - f)) ∧ Below W.heap.size W W' := by
  rcases h with ⟨rfl, rfl, rfl, rfl, rfl⟩ | ⟨rfl, rfl, rfl, rfl, rfl⟩ | ⟨rfl, rfl, rfl, rfl, rfl⟩
  all_goals
    go_enter Try.func46, Try.ntmps46
    go_wp2
    go_ret
    exact ⟨ret1 (by omega), below1 _ _⟩

theorem least_any {e f P Q b : Int} (h : Sz e f P Q b) (W : World) :
    Calls Try.prog 48 #[.agg #[.int .i64 e, .int .i64 f]] W fun r W' => r = .returned (.int .i64 (1 - b - f)) ∧ Below W.heap.size W W' := by
  go_enter Try.func48, Try.ntmps48
  go_wp2_with (go_at_call 46; refine (power_any 1 h _ (by omega) (by omega)).mono ?_; rintro _ w1 ⟨rfl, hb1⟩)
  go_ret
  exact ⟨rfl, bthen (below1 _ _) hb1⟩

theorem bcell {W w1 : World} (hb : Below W.heap.size W w1) (b o : Nat) (h : b < W.heap.size) : w1.cell? ⟨b, o, none⟩ = W.cell? ⟨b, o, none⟩ := hb.cell (p := ⟨b, o, none⟩) h
theorem keep1 {W w' : World} {b o : Nat} {x : Value} (hb : Below W.heap.size W w') (hz : b < W.heap.size) (h : W.cell? ⟨b, o, none⟩ = some x) : w'.cell? ⟨b, o, none⟩ = some x := by rw [bcell hb b o hz]; exact h
theorem lt_of_cell {W : World} {b o : Nat} {x : Value} (h : W.cell? ⟨b, o, none⟩ = some x) : b < W.heap.size := by
  apply Decidable.byContradiction
  intro hn
  simp [World.cell?, Nat.le_of_not_lt hn] at h
/-- A block that holds two values. -/
def At2 (b : Nat) (x y : Value) (w : World) : Prop := w.cell? ⟨b, 0, none⟩ = some x ∧ w.cell? ⟨b, 1, none⟩ = some y
def At5 (b : Nat) (x y z u v : Value) (w : World) : Prop := w.cell? ⟨b, 0, none⟩ = some x ∧ w.cell? ⟨b, 1, none⟩ = some y ∧ w.cell? ⟨b, 2, none⟩ = some z ∧ w.cell? ⟨b, 3, none⟩ = some u ∧ w.cell? ⟨b, 4, none⟩ = some v
theorem At2.below {b : Nat} {x y : Value} {w w' : World} (h : At2 b x y w) (hb : Below w.heap.size w w') : At2 b x y w' :=
  have hz := lt_of_cell h.1
  ⟨keep1 hb hz h.1, keep1 hb hz h.2⟩
theorem At5.below {b : Nat} {x y z u v : Value} {w w' : World} (h : At5 b x y z u v w) (hb : Below w.heap.size w w') : At5 b x y z u v w' :=
  have hz := lt_of_cell h.1
  ⟨keep1 hb hz h.1, keep1 hb hz h.2.1, keep1 hb hz h.2.2.1, keep1 hb hz h.2.2.2.1, keep1 hb hz h.2.2.2.2⟩

theorem i64_id {x : Int} (h1 : -9223372036854775808 ≤ x) (h2 : x < 9223372036854775808) : IntKind.i64.wrap x = x := by
  simp only [IntKind.wrap, IntKind.bits, IntKind.signed]
  simp
  omega

section
variable {P : Program} {ops : Array Oper} {Q : Exit → Act → World → Prop} {md : Region.Mode} {S : World → Prop}
end
/-- What is kept where only new memory is touched. -/
def Stable (T : World → Prop) : Prop := ∀ w w', T w → Below w.heap.size w w' → T w'
theorem Stable.and {A B : World → Prop} (ha : Stable A) (hb : Stable B) : Stable (fun w => A w ∧ B w) := fun w w' h k => ⟨ha w w' h.1 k, hb w w' h.2 k⟩
/-- A block that can be written. -/
def Room (b n : Nat) (w : World) : Prop := ∀ o, o < n → (∃ v, w.cell? ⟨b, o, none⟩ = some v) ∧ w.frozen? ⟨b, o, none⟩ = false
theorem stable_room (b n : Nat) : Stable (Room b n) := fun w _ h k o ho => by
  obtain ⟨⟨v, h1⟩, h2⟩ := h o ho
  have hz := World.block_lt_of_cell? w _ h1
  exact ⟨⟨v, (k.cell hz).trans h1⟩, (k.frozen hz).trans h2⟩
theorem Room.below {b n : Nat} {w w' : World} (h : Room b n w) (hb : Below w.heap.size w w') : Room b n w' := stable_room b n w w' h hb
theorem Room.drew {b n : Nat} {w : World} (h : Room b n w) : Room b n w.drew := h.below ((Below.refl _ _).drew)
theorem Room.alloc {b n : Nat} {w : World} (h : Room b n w) (o : Obj) : Room b n (w.alloc o) := h.below (below1 w o)

/-- Nothing is asked of a world. -/
def Free (_ : World) : Prop := True
theorem free (w : World) : Free w := True.intro

theorem frozen_set (w : World) (p q : Addr) (v : Value) : (w.setCell p v).frozen? q = w.frozen? q := by simp [go_sem]
theorem keep_set {w : World} {b o : Nat} {x : Value} (b' o' : Nat) (v : Value) (hne : b ≠ b') (h : w.cell? ⟨b, o, none⟩ = some x) : (w.setCell ⟨b', o', none⟩ v).cell? ⟨b, o, none⟩ = some x := by
  rw [World.cell?_setCell_other _ _ _ _ (by intro he; injection he with he1; exact hne he1.symm)]; exact h
theorem Room.set {b n : Nat} {w : World} (h : Room b n w) (o' : Nat) (v : Value) : Room b n (w.setCell ⟨b, o', none⟩ v) := fun o ho => by
  obtain ⟨⟨u, h1⟩, h2⟩ := h o ho
  refine ⟨?_, by rw [frozen_set]; exact h2⟩
  by_cases he : o = o'
  · subst he; exact ⟨v, World.cell?_setCell_same _ _ _ h1⟩
  · exact ⟨u, by rw [World.cell?_setCell_other _ _ _ _ (by intro hh; injection hh with _ h3; exact he h3.symm)]; exact h1⟩
theorem bset {a b : World} (h : Below a.heap.size a b) (n : Nat) (hn : a.heap.size ≤ n) (o : Nat) (v : Value) : Below a.heap.size a (b.setCell ⟨n, o, none⟩ v) := h.setCell hn v

theorem and_mask (k : Nat) (z m : Int) (h0 : 0 ≤ z) (h1 : z < 18446744073709551616) (hm : m = ((2 ^ k - 1 : Nat) : Int)) (hk : k ≤ 63) : bits .and .u64 z m = z % ((2 ^ k : Nat) : Int) := by
  obtain ⟨Z, rfl⟩ := Int.eq_ofNat_of_zero_le h0
  have hp : 2 ^ k ≤ 2 ^ 63 := Nat.pow_le_pow_right (by omega) hk
  rw [hm, Go.bits_and_u64_nat Z (2 ^ k - 1) (by omega) (by omega), Nat.and_two_pow_sub_one_eq_mod, Int.natCast_emod]

end Go.Proofs.Ytmbkpmcmhmldgaa
namespace Go.Proofs.Ytmbkpmcmhmldgaa
open Go.RowKit

section
variable {P : Program} {ops : Array Oper} {Q : Exit → Act → World → Prop} {md : Region.Mode} {S : World → Prop}
/-- The first n bits of a number. -/
def lsb : Nat → Nat → List Bool
  | 0, _ => []
  | n + 1, m => (m % 2 == 1) :: lsb n (m / 2)
def lst (n m : Nat) : Array Bool := ⟨lsb n m⟩
theorem lst0 (n : Nat) {fuel : Nat} {listed : Array Bool} {a : Act} {w : World} (h : listed = lst n 0) (k : wpAnyH P md ops Q S fuel (lst n 0) a w) : wpAnyH P md ops Q S fuel listed a w := h ▸ k
/-- An operation that reads is taken: number i, into slot d; m' has come up then. -/
theorem tkH (i d m' : Nat) (v : Value) {op : Op} {ty : TypeId} {pos : String} {af : Array Edge} {g : Option (Nat × Bool)} {n m fuel : Nat} {a : Act} {w : World} (hi : ops[i]? = some ⟨some d, op, ty, pos, af, g⟩)
    (hc : (Region.noSelect ops && Region.free md ops (lst n m) i && (Region.ready md ops (lst n m)).contains i) = true) (he : (lst n m).setIfInBounds i true = lst n m')
    (hQ : ∀ c a w, Q (.panic c) (a.put (some d) v) w → Q (.panic c) a w) (hS : S w) (hy : YieldsIf P ops S ⟨some d, op, ty, pos, af, g⟩ v a)
    (h : wpAnyH P md ops Q S fuel (lst n m') (a.put (some d) v) w) : wpAnyH P md ops Q S (fuel + 1) (lst n m) a w := by
  simp only [Bool.and_eq_true] at hc
  refine wpAnyH_take hi hc.1.1 hc.1.2 hc.2 hQ hy hS ?_
  rw [he]
  exact h
/-- The only one that may come up. -/
theorem rdH (i m' : Nat) {ds : Option Tmp} {op : Op} {ty : TypeId} {pos : String} {af : Array Edge} {g : Option (Nat × Bool)} {n m fuel : Nat} {a : Act} {w : World} (hi : ops[i]? = some ⟨ds, op, ty, pos, af, g⟩)
    (hr : Region.ready md ops (lst n m) = [i]) (he : (lst n m).setIfInBounds i true = lst n m')
    (h : ∀ K' : Act → World → Prop, Shut (∀ a w, S w → (S w → wpAnyH P md ops Q S fuel (lst n m') a w) → K' a w) → if Region.wanted ⟨ds, op, ty, pos, af, g⟩ (yielded ops a.tmps) = true then Oper.wp P ⟨ds, op, ty, pos, af, g⟩ a w K' Q else K' (a.put ds undef) w) : wpAnyH P md ops Q S (fuel + 1) (lst n m) a w :=
  wpAnyH_ready hr (by simp) (AllReadyH.cons hi (fun K' hK => h K' (by rw [he] at hK; exact hK)) AllReadyH.nil)
/-- An operation that reads is taken: number i, into slot d; m' has come up then. -/
theorem tkA (i d m' : Nat) {v : Value} {op : Op} {ty : TypeId} {pos : String} {af : Array Edge} {g : Option (Nat × Bool)} {n m fuel : Nat} {a a' : Act} {w : World}
    (h : wpAnyH P md ops Q S fuel (lst n m') a' w)
    (hi : ops[i]? = some ⟨some d, op, ty, pos, af, g⟩ := by rfl)
    (hc : (Region.noSelect ops && Region.free md ops (lst n m) i && (Region.ready md ops (lst n m)).contains i) = true := by kernel_rfl)
    (he : (lst n m).setIfInBounds i true = lst n m' := by kernel_rfl)
    (hQ : ∀ c a w, Q (.panic c) (a.put (some d) v) w → Q (.panic c) a w := by exact fun _ _ _ h => h)
    (hS : S w := by assumption)
    (hy : YieldsIf P ops S ⟨some d, op, ty, pos, af, g⟩ v a := by (refine Or.inl ⟨by rfl, ?_⟩; ((intro w hSw; (try dsimp only at hSw); go_simp) <;> with_reducible rfl)))
    (ha : a.put (some d) v = a' := by ((try simp only [Act.put, List.setIfInBounds_toArray, List.set_cons_zero, List.set_cons_succ]); rfl)) :
    wpAnyH P md ops Q S (fuel + 1) (lst n m) a w := by
  subst ha
  exact tkH i d m' v hi hc he hQ hS hy h
/-- One that is not wanted. -/
theorem tkU (i d m' : Nat) {op : Op} {ty : TypeId} {pos : String} {af : Array Edge} {g : Option (Nat × Bool)} {n m fuel : Nat} {a a' : Act} {w : World}
    (h : wpAnyH P md ops Q S fuel (lst n m') a' w)
    (hi : ops[i]? = some ⟨some d, op, ty, pos, af, g⟩ := by rfl)
    (hc : (Region.noSelect ops && Region.free md ops (lst n m) i && (Region.ready md ops (lst n m)).contains i) = true := by kernel_rfl)
    (he : (lst n m).setIfInBounds i true = lst n m' := by kernel_rfl)
    (hQ : ∀ c a w, Q (.panic c) (a.put (some d) undef) w → Q (.panic c) a w := by exact fun _ _ _ h => h)
    (hS : S w := by assumption)
    (hy : YieldsIf P ops S ⟨some d, op, ty, pos, af, g⟩ undef a := by exact Or.inr ⟨by rfl, rfl⟩)
    (ha : a.put (some d) undef = a' := by ((try simp only [Act.put, List.setIfInBounds_toArray, List.set_cons_zero, List.set_cons_succ]); rfl)) :
    wpAnyH P md ops Q S (fuel + 1) (lst n m) a w := by
  subst ha
  exact tkH i d m' undef hi hc he hQ hS hy h
/-- The only one that may come up. -/
theorem rdA (i m' : Nat) {ds : Option Tmp} {op : Op} {ty : TypeId} {pos : String} {af : Array Edge} {g : Option (Nat × Bool)} {n m fuel : Nat} {a : Act} {w : World}
    (h : ∀ K' : Act → World → Prop, Shut (∀ a w, S w → (S w → wpAnyH P md ops Q S fuel (lst n m') a w) → K' a w) → if Region.wanted ⟨ds, op, ty, pos, af, g⟩ (yielded ops a.tmps) = true then Oper.wp P ⟨ds, op, ty, pos, af, g⟩ a w K' Q else K' (a.put ds undef) w)
    (hi : ops[i]? = some ⟨ds, op, ty, pos, af, g⟩ := by rfl) (hr : Region.ready md ops (lst n m) = [i] := by kernel_rfl) (he : (lst n m).setIfInBounds i true = lst n m' := by kernel_rfl) : wpAnyH P md ops Q S (fuel + 1) (lst n m) a w := rdH i m' hi hr he h
end

end Go.Proofs.Ytmbkpmcmhmldgaa
namespace Go.Proofs.Ytmbkpmcmhmldgaa
open Go.RowKit

set_option maxHeartbeats 4000000 in
set_option maxRecDepth 100000 in
theorem kn_l {k e f : Int} (W : World) (HF : Ct 42 #[.int .i64 k] (.tuple #[.int .i64 e, .int .i64 f])) :
    Calls Try.prog 25 #[.int .i64 k] W fun r W' => r = .returned (.bool (e != 0)) ∧ Below W.heap.size W W' := by
  have HB := hide (Below.refl W.heap.size W)
  go_enter Try.func25, Try.ntmps25
  go_wp2_with fail
  refine (unhide HF _).mono ?_
  rintro _ w1 ⟨rfl, hb⟩
  have HB := hide (bthen (unhide HB) hb)
  clear hb
  go_wp2_with fail
  go_ret
  exact ⟨rfl, unhide HB⟩
set_option maxHeartbeats 4000000 in
set_option maxRecDepth 100000 in
theorem ends_t {k a h L : Int} (W : World) (HC : Ct 15 #[.int .i64 k, .int .u64 18446744073709551615] (.int .u64 a)) (h1 : a / 2 = h) (h2 : IntKind.u64.wrap (a - h) = L) :
    Calls Try.prog 8 #[.int .i64 k, .bool true] W fun r W' => r = .returned (.tuple #[.int .u64 L, .int .u64 h]) ∧ Below W.heap.size W W' := by
  have HB := hide (Below.refl W.heap.size W)
  go_enter Try.func8, Try.ntmps8
  go_wp2_with fail
  refine (unhide HC _).mono ?_
  rintro _ w1 ⟨rfl, hb⟩
  have HB := hide (bthen (unhide HB) hb)
  clear hb
  go_wp2_with fail
  go_ret2
  exact ⟨rfl, unhide HB⟩
set_option maxHeartbeats 4000000 in
set_option maxRecDepth 100000 in
theorem ends_f {k a : Int} (W : World) (HC : Ct 15 #[.int .i64 k, .int .u64 18446744073709551615] (.int .u64 a)) :
    Calls Try.prog 8 #[.int .i64 k, .bool false] W fun r W' => r = .returned (.tuple #[.int .u64 0, .int .u64 a]) ∧ Below W.heap.size W W' := by
  have HB := hide (Below.refl W.heap.size W)
  go_enter Try.func8, Try.ntmps8
  go_wp2_with fail
  refine (unhide HC _).mono ?_
  rintro _ w1 ⟨rfl, hb⟩
  have HB := hide (bthen (unhide HB) hb)
  clear hb
  go_wp2_with fail
  go_ret2
  exact ⟨rfl, unhide HB⟩
set_option maxHeartbeats 4000000 in
set_option maxRecDepth 100000 in
theorem with_t {k x y V : Int} (W : World) (h1 : IntKind.u64.wrap (-x) = y) (HC : Ct 15 #[.int .i64 k, .int .u64 y] (.int .u64 V)) :
    Calls Try.prog 30 #[.int .i64 k, .bool true, .int .u64 x] W fun r W' => r = .returned (.int .u64 V) ∧ Below W.heap.size W W' := by
  have HB := hide (Below.refl W.heap.size W)
  go_enter Try.func30, Try.ntmps30
  go_wp2_with fail
  refine (unhide HC _).mono ?_
  rintro _ w1 ⟨rfl, hb⟩
  have HB := hide (bthen (unhide HB) hb)
  clear hb
  go_wp2_with fail
  go_ret
  exact ⟨rfl, unhide HB⟩
set_option maxHeartbeats 4000000 in
set_option maxRecDepth 100000 in
theorem with_f {k x : Int} (W : World)  :
    Calls Try.prog 30 #[.int .i64 k, .bool false, .int .u64 x] W fun r W' => r = .returned (.int .u64 x) ∧ Below W.heap.size W W' := by
  have HB := hide (Below.refl W.heap.size W)
  go_enter Try.func30, Try.ntmps30
  go_wp2_with fail
  go_ret
  exact ⟨rfl, unhide HB⟩
set_option maxHeartbeats 4000000 in
set_option maxRecDepth 100000 in
theorem trap_y {w k x a t : Int} {s : Bool} (W : World) (HC : Ct 14 #[.int .i64 w, .int .i64 k, .int .u64 x, .bool s] (.tuple #[.int .u64 a, .int .i64 t])) (g : (t != 0) = true) :
    Calls Try.prog 6 #[.int .i64 w, .int .i64 k, .int .u64 x, .bool s] W fun r W' => r = .returned (.tuple #[.int .u64 0, .int .i64 t]) ∧ Below W.heap.size W W' := by
  have HB := hide (Below.refl W.heap.size W)
  go_enter Try.func6, Try.ntmps6
  go_wp2_with fail
  refine (unhide HC _).mono ?_
  rintro _ w1 ⟨rfl, hb⟩
  have HB := hide (bthen (unhide HB) hb)
  clear hb
  go_wp2_with fail
  go_ret2
  exact ⟨rfl, unhide HB⟩
set_option maxHeartbeats 4000000 in
set_option maxRecDepth 100000 in
theorem trap_n {w k x a : Int} {s : Bool} (W : World) (HC : Ct 14 #[.int .i64 w, .int .i64 k, .int .u64 x, .bool s] (.tuple #[.int .u64 a, .int .i64 0])) :
    Calls Try.prog 6 #[.int .i64 w, .int .i64 k, .int .u64 x, .bool s] W fun r W' => r = .returned (.tuple #[.int .u64 a, .int .i64 0]) ∧ Below W.heap.size W W' := by
  have HB := hide (Below.refl W.heap.size W)
  go_enter Try.func6, Try.ntmps6
  go_wp2_with fail
  refine (unhide HC _).mono ?_
  rintro _ w1 ⟨rfl, hb⟩
  have HB := hide (bthen (unhide HB) hb)
  clear hb
  go_wp2_with fail
  go_ret2
  exact ⟨rfl, unhide HB⟩
set_option maxHeartbeats 4000000 in
set_option maxRecDepth 100000 in
theorem sat_l {w k x a t : Int} {s : Bool} (W : World) (HC : Ct 14 #[.int .i64 w, .int .i64 k, .int .u64 x, .bool s] (.tuple #[.int .u64 a, .int .i64 t])) :
    Calls Try.prog 7 #[.int .i64 w, .int .i64 k, .int .u64 x, .bool s] W fun r W' => r = .returned (.int .u64 a) ∧ Below W.heap.size W W' := by
  have HB := hide (Below.refl W.heap.size W)
  go_enter Try.func7, Try.ntmps7
  go_wp2_with fail
  refine (unhide HC _).mono ?_
  rintro _ w1 ⟨rfl, hb⟩
  have HB := hide (bthen (unhide HB) hb)
  clear hb
  go_wp2_with fail
  go_ret
  exact ⟨rfl, unhide HB⟩
end Go.Proofs.Ytmbkpmcmhmldgaa
namespace Go.Proofs.Ytmbkpmcmhmldgaa
open Go.RowKit

set_option maxHeartbeats 1000000 in
theorem isNan_no {e f P Q b : Int} (n : Bool) (x y : Int) (h : Sz e f P Q b) (W : World) (hq : (x == Q - 1) = false) :
    Calls Try.prog 44 #[.agg #[.int .i64 e, .int .i64 f, .bool n, .int .u64 x, .int .u64 y]] W fun r W' => r = .returned (.bool (x == Q - 1 && y != 0)) ∧ Below W.heap.size W W' := by
  go_enter Try.func44, Try.ntmps44
  go_wp2_with fail
  refine wp_region_held_drew (S := fun w' => w'.cell? ⟨W.heap.size, 0, none⟩ = some (.int .i64 e) ∧ w'.cell? ⟨W.heap.size, 1, none⟩ = some (.int .i64 f) ∧ w'.cell? ⟨W.heap.size, 2, none⟩ = some (.bool n) ∧ w'.cell? ⟨W.heap.size, 3, none⟩ = some (.int .u64 x) ∧ w'.cell? ⟨W.heap.size, 4, none⟩ = some (.int .u64 y)) (by kernel_rfl) ?_ (fun hHeld => ?_)
  · (try dsimp only)
    simp [go_sem]
  refine lst0 12 (by kernel_rfl) ?_
  refine tkA 0 3 1 ?_
  refine tkA 1 4 3 ?_
  refine tkA 2 5 7 ?_
  refine tkA 3 6 15 ?_
  refine rdA 4 31 (fun Kk hKk => ?_)
  go_simp
  refine (last_any h _).mono ?_
  rintro _ w1 ⟨rfl, hbl⟩
  have HB := hide (bthen (below1 _ _).drew hbl)
  (try go_wp2_with fail)
  refine hKk.out _ _ ?_ (fun hHeld => ?_)
  · (try dsimp only)
    exact At5.below hHeld hbl
  clear hKk Kk
  (try simp only [List.setIfInBounds_toArray, List.set_cons_zero, List.set_cons_succ])
  refine tkA 5 8 63 ?_
  refine tkA 6 9 127 ?_
  refine tkU 7 10 255 ?_
  refine tkU 8 11 511 ?_
  refine tkU 9 12 1023 ?_
  refine tkA 10 13 2047 ?_
  refine tkA 11 2 4095 ?_
  refine wpAnyH_done (by kernel_rfl) ?_ _
  go_wp2
  go_ret
  exact ⟨by simp [hq], unhide HB⟩

set_option maxHeartbeats 1000000 in
theorem isNan_yes {e f P Q b : Int} (n : Bool) (x y : Int) (h : Sz e f P Q b) (W : World) (hq : (x == Q - 1) = true) :
    Calls Try.prog 44 #[.agg #[.int .i64 e, .int .i64 f, .bool n, .int .u64 x, .int .u64 y]] W fun r W' => r = .returned (.bool (x == Q - 1 && y != 0)) ∧ Below W.heap.size W W' := by
  go_enter Try.func44, Try.ntmps44
  go_wp2_with fail
  refine wp_region_held_drew (S := fun w' => w'.cell? ⟨W.heap.size, 0, none⟩ = some (.int .i64 e) ∧ w'.cell? ⟨W.heap.size, 1, none⟩ = some (.int .i64 f) ∧ w'.cell? ⟨W.heap.size, 2, none⟩ = some (.bool n) ∧ w'.cell? ⟨W.heap.size, 3, none⟩ = some (.int .u64 x) ∧ w'.cell? ⟨W.heap.size, 4, none⟩ = some (.int .u64 y)) (by kernel_rfl) ?_ (fun hHeld => ?_)
  · (try dsimp only)
    simp [go_sem]
  refine lst0 12 (by kernel_rfl) ?_
  refine tkA 0 3 1 ?_
  refine tkA 1 4 3 ?_
  refine tkA 2 5 7 ?_
  refine tkA 3 6 15 ?_
  refine rdA 4 31 (fun Kk hKk => ?_)
  go_simp
  refine (last_any h _).mono ?_
  rintro _ w1 ⟨rfl, hbl⟩
  have HB := hide (bthen (below1 _ _).drew hbl)
  (try go_wp2_with fail)
  refine hKk.out _ _ ?_ (fun hHeld => ?_)
  · (try dsimp only)
    exact At5.below hHeld hbl
  clear hKk Kk
  (try simp only [List.setIfInBounds_toArray, List.set_cons_zero, List.set_cons_succ])
  refine tkA 5 8 63 ?_
  refine tkA 6 9 127 ?_
  refine tkA 7 10 255 ?_
  refine tkA 8 11 511 ?_
  refine tkA 9 12 1023 ?_
  refine tkA 10 13 2047 ?_
  refine tkA 11 2 4095 ?_
  refine wpAnyH_done (by kernel_rfl) ?_ _
  go_wp2
  go_ret
  exact ⟨by simp [hq], unhide HB⟩

theorem isNan_any {e f P Q b : Int} (n : Bool) (x y : Int) (h : Sz e f P Q b) (W : World) :
    Calls Try.prog 44 #[.agg #[.int .i64 e, .int .i64 f, .bool n, .int .u64 x, .int .u64 y]] W fun r W' => r = .returned (.bool (x == Q - 1 && y != 0)) ∧ Below W.heap.size W W' := by
  cases hq : (x == Q - 1)
  · rw [← hq]; exact isNan_no n x y h W hq
  · rw [← hq]; exact isNan_yes n x y h W hq

set_option maxRecDepth 100000 in
set_option maxHeartbeats 4000000 in
theorem take_32 (x : Int) (W : World) (h0 : 0 ≤ x) (h1 : x < 18446744073709551616) :
    Calls Try.prog 31 #[.int .i64 32, .int .u64 x] W fun r W' => r = .returned (.agg #[.int .i64 8, .int .i64 23, .bool (x / 2147483648 % 2 == 1), .int .u64 (x / 8388608 % 256), .int .u64 (x % 8388608)]) ∧ Below W.heap.size W W' := by
  have h : Wd 32 8 23 8388608 256 (127) := Or.inl ⟨rfl, rfl, rfl, rfl, rfl, rfl⟩
  have hs := h.sz
  have k1 : IntKind.i64.wrap 31 = 31 := by decide +kernel
  have k2 : IntKind.u64.wrap 8388607 = 8388607 := by decide +kernel
  have a1 : bits .and .u64 (x / 2147483648) 1 = x / 2147483648 % 2 := and_mask 1 _ _ (by omega) (by omega) rfl (by omega)
  have a2 : bits .and .u64 (x / 8388608) 255 = x / 8388608 % 256 := and_mask 8 _ _ (by omega) (by omega) rfl (by omega)
  have a3 : bits .and .u64 x 8388607 = x % 8388608 := and_mask 23 _ _ (by omega) (by omega) rfl (by omega)
  clear h0 h1
  go_enter Try.func31, Try.ntmps31
  go_wp2_with fail
  refine (sizesOf_any h _).mono ?_
  rintro _ w1 ⟨rfl, hbl⟩
  have HB := hide (bthen (below1 _ _) hbl)
  have HR : Room W.heap.size 5 w1 := Room.below (w := W.alloc (.cells #[.int .i64 0, .int .i64 0, .bool false, .int .u64 0, .int .u64 0] 67)) (by
    intro o ho
    match o, ho with
    | 0, _ | 1, _ | 2, _ | 3, _ | 4, _ => simp [go_sem]) hbl
  have hz1 : W.heap.size < w1.heap.size := by have := hbl.size; simp at this; omega
  have HR := hide HR
  go_wp2_with fail
  have HB := hide ((balloc (unhide HB) (.cells #[.int .i64 8, .int .i64 23] 65)).drew)
  refine wp_region_held_drew (S := fun w' => (w'.cell? ⟨w1.heap.size, 0, none⟩ = some (.int .i64 8) ∧ w'.cell? ⟨w1.heap.size, 1, none⟩ = some (.int .i64 23)) ∧ Room W.heap.size 5 w') (by kernel_rfl) ?_ (fun hHeld => ?_)
  · (try dsimp only)
    exact ⟨by simp [go_sem], ((unhide HR).alloc _).drew⟩
  refine lst0 24 (by kernel_rfl) ?_
  refine tkA 0 8 1 ?_
  refine tkA 1 9 3 ?_
  refine tkA 2 10 7 ?_
  refine tkA 3 11 15 ?_
  refine tkA 4 12 31 ?_
  refine tkA 5 13 63 ?_
  refine tkA 6 14 127 ?_
  refine tkA 7 15 255 ?_
  refine tkA 8 16 511 ?_
  refine tkA 9 17 1023 ?_
  refine tkA 10 18 2047 ?_
  refine tkA 11 19 4095 ?_
  refine tkA 12 20 8191 ?_
  refine tkA 13 21 16383 ?_
  refine tkA 14 22 32767 ?_
  refine tkA 17 25 163839 ?_
  refine tkA 18 26 425983 ?_
  refine rdA 15 458751 (fun Kk hKk => ?_)
  go_simp
  refine (last_any hs _).mono ?_
  rintro _ w2 ⟨rfl, hbl⟩
  have HB := hide (bthen (unhide HB) hbl)
  (try go_wp2_with fail)
  refine hKk.out _ _ ?_ (fun hHeld => ?_)
  · (try dsimp only)
    exact ⟨At2.below hHeld.1 hbl, hHeld.2.below hbl⟩
  clear hKk Kk
  (try simp only [List.setIfInBounds_toArray, List.set_cons_zero, List.set_cons_succ])
  refine tkA 16 24 524287 ?_
  refine rdA 19 1048575 (fun Kk hKk => ?_)
  go_simp
  refine (one_any hs _).mono ?_
  rintro _ w3 ⟨rfl, hbl⟩
  have HB := hide (bthen (unhide HB) hbl)
  (try go_wp2_with fail)
  refine hKk.out _ _ ?_ (fun hHeld => ?_)
  · (try dsimp only)
    exact ⟨At2.below hHeld.1 hbl, hHeld.2.below hbl⟩
  clear hKk Kk
  (try simp only [List.setIfInBounds_toArray, List.set_cons_zero, List.set_cons_succ])
  refine tkA 20 28 2097151 ?_
  refine tkA 21 29 4194303 ?_
  refine tkA 22 30 8388607 ?_
  refine rdA 23 16777215 (fun Kk hKk => ?_)
  obtain ⟨⟨v0, c0⟩, f0⟩ := hHeld.2 0 (by omega)
  obtain ⟨⟨v1, c1⟩, f1⟩ := hHeld.2 1 (by omega)
  obtain ⟨⟨v2, c2⟩, f2⟩ := hHeld.2 2 (by omega)
  obtain ⟨⟨v3, c3⟩, f3⟩ := hHeld.2 3 (by omega)
  obtain ⟨⟨v4, c4⟩, f4⟩ := hHeld.2 4 (by omega)
  obtain ⟨g0, g1⟩ := hHeld.1
  go_simp
  refine hKk.out _ _ ?_ (fun hHeld => ?_)
  · (try dsimp only)
    exact ⟨⟨keep_set _ _ _ (by omega) (keep_set _ _ _ (by omega) (keep_set _ _ _ (by omega) (keep_set _ _ _ (by omega) (keep_set _ _ _ (by omega) g0)))), keep_set _ _ _ (by omega) (keep_set _ _ _ (by omega) (keep_set _ _ _ (by omega) (keep_set _ _ _ (by omega) (keep_set _ _ _ (by omega) g1))))⟩, ((((hHeld.2.set _ _).set _ _).set _ _).set _ _).set _ _⟩
  clear hKk Kk
  (try simp only [List.setIfInBounds_toArray, List.set_cons_zero, List.set_cons_succ])
  refine wpAnyH_done (by kernel_rfl) ?_ _
  clear hHeld
  go_wp2
  exact bodyPost_ret (v := .agg #[.int .i64 8, .int .i64 23, .bool (x / 2147483648 % 2 == 1), .int .u64 (x / 8388608 % 256), .int .u64 (x % 8388608)]) (by simp (maxDischargeDepth := 8) [results, Try.results31, go_sem, c0, c1, c2, c3, c4]) rfl ⟨rfl, bset (bset (bset (bset (bset (unhide HB) _ (Nat.le_refl _) _ _) _ (Nat.le_refl _) _ _) _ (Nat.le_refl _) _ _) _ (Nat.le_refl _) _ _) _ (Nat.le_refl _) _ _⟩

set_option maxRecDepth 100000 in
set_option maxHeartbeats 4000000 in
theorem take_64 (x : Int) (W : World) (h0 : 0 ≤ x) (h1 : x < 18446744073709551616) :
    Calls Try.prog 31 #[.int .i64 64, .int .u64 x] W fun r W' => r = .returned (.agg #[.int .i64 11, .int .i64 52, .bool (x / 9223372036854775808 % 2 == 1), .int .u64 (x / 4503599627370496 % 2048), .int .u64 (x % 4503599627370496)]) ∧ Below W.heap.size W W' := by
  have h : Wd 64 11 52 4503599627370496 2048 (1023) := Or.inr (Or.inl ⟨rfl, rfl, rfl, rfl, rfl, rfl⟩)
  have hs := h.sz
  have k1 : IntKind.i64.wrap 63 = 63 := by decide +kernel
  have k2 : IntKind.u64.wrap 4503599627370495 = 4503599627370495 := by decide +kernel
  have a1 : bits .and .u64 (x / 9223372036854775808) 1 = x / 9223372036854775808 % 2 := and_mask 1 _ _ (by omega) (by omega) rfl (by omega)
  have a2 : bits .and .u64 (x / 4503599627370496) 2047 = x / 4503599627370496 % 2048 := and_mask 11 _ _ (by omega) (by omega) rfl (by omega)
  have a3 : bits .and .u64 x 4503599627370495 = x % 4503599627370496 := and_mask 52 _ _ (by omega) (by omega) rfl (by omega)
  clear h0 h1
  go_enter Try.func31, Try.ntmps31
  go_wp2_with fail
  refine (sizesOf_any h _).mono ?_
  rintro _ w1 ⟨rfl, hbl⟩
  have HB := hide (bthen (below1 _ _) hbl)
  have HR : Room W.heap.size 5 w1 := Room.below (w := W.alloc (.cells #[.int .i64 0, .int .i64 0, .bool false, .int .u64 0, .int .u64 0] 67)) (by
    intro o ho
    match o, ho with
    | 0, _ | 1, _ | 2, _ | 3, _ | 4, _ => simp [go_sem]) hbl
  have hz1 : W.heap.size < w1.heap.size := by have := hbl.size; simp at this; omega
  have HR := hide HR
  go_wp2_with fail
  have HB := hide ((balloc (unhide HB) (.cells #[.int .i64 11, .int .i64 52] 65)).drew)
  refine wp_region_held_drew (S := fun w' => (w'.cell? ⟨w1.heap.size, 0, none⟩ = some (.int .i64 11) ∧ w'.cell? ⟨w1.heap.size, 1, none⟩ = some (.int .i64 52)) ∧ Room W.heap.size 5 w') (by kernel_rfl) ?_ (fun hHeld => ?_)
  · (try dsimp only)
    exact ⟨by simp [go_sem], ((unhide HR).alloc _).drew⟩
  refine lst0 24 (by kernel_rfl) ?_
  refine tkA 0 8 1 ?_
  refine tkA 1 9 3 ?_
  refine tkA 2 10 7 ?_
  refine tkA 3 11 15 ?_
  refine tkA 4 12 31 ?_
  refine tkA 5 13 63 ?_
  refine tkA 6 14 127 ?_
  refine tkA 7 15 255 ?_
  refine tkA 8 16 511 ?_
  refine tkA 9 17 1023 ?_
  refine tkA 10 18 2047 ?_
  refine tkA 11 19 4095 ?_
  refine tkA 12 20 8191 ?_
  refine tkA 13 21 16383 ?_
  refine tkA 14 22 32767 ?_
  refine tkA 17 25 163839 ?_
  refine tkA 18 26 425983 ?_
  refine rdA 15 458751 (fun Kk hKk => ?_)
  go_simp
  refine (last_any hs _).mono ?_
  rintro _ w2 ⟨rfl, hbl⟩
  have HB := hide (bthen (unhide HB) hbl)
  (try go_wp2_with fail)
  refine hKk.out _ _ ?_ (fun hHeld => ?_)
  · (try dsimp only)
    exact ⟨At2.below hHeld.1 hbl, hHeld.2.below hbl⟩
  clear hKk Kk
  (try simp only [List.setIfInBounds_toArray, List.set_cons_zero, List.set_cons_succ])
  refine tkA 16 24 524287 ?_
  refine rdA 19 1048575 (fun Kk hKk => ?_)
  go_simp
  refine (one_any hs _).mono ?_
  rintro _ w3 ⟨rfl, hbl⟩
  have HB := hide (bthen (unhide HB) hbl)
  (try go_wp2_with fail)
  refine hKk.out _ _ ?_ (fun hHeld => ?_)
  · (try dsimp only)
    exact ⟨At2.below hHeld.1 hbl, hHeld.2.below hbl⟩
  clear hKk Kk
  (try simp only [List.setIfInBounds_toArray, List.set_cons_zero, List.set_cons_succ])
  refine tkA 20 28 2097151 ?_
  refine tkA 21 29 4194303 ?_
  refine tkA 22 30 8388607 ?_
  refine rdA 23 16777215 (fun Kk hKk => ?_)
  obtain ⟨⟨v0, c0⟩, f0⟩ := hHeld.2 0 (by omega)
  obtain ⟨⟨v1, c1⟩, f1⟩ := hHeld.2 1 (by omega)
  obtain ⟨⟨v2, c2⟩, f2⟩ := hHeld.2 2 (by omega)
  obtain ⟨⟨v3, c3⟩, f3⟩ := hHeld.2 3 (by omega)
  obtain ⟨⟨v4, c4⟩, f4⟩ := hHeld.2 4 (by omega)
  obtain ⟨g0, g1⟩ := hHeld.1
  go_simp
  refine hKk.out _ _ ?_ (fun hHeld => ?_)
  · (try dsimp only)
    exact ⟨⟨keep_set _ _ _ (by omega) (keep_set _ _ _ (by omega) (keep_set _ _ _ (by omega) (keep_set _ _ _ (by omega) (keep_set _ _ _ (by omega) g0)))), keep_set _ _ _ (by omega) (keep_set _ _ _ (by omega) (keep_set _ _ _ (by omega) (keep_set _ _ _ (by omega) (keep_set _ _ _ (by omega) g1))))⟩, ((((hHeld.2.set _ _).set _ _).set _ _).set _ _).set _ _⟩
  clear hKk Kk
  (try simp only [List.setIfInBounds_toArray, List.set_cons_zero, List.set_cons_succ])
  refine wpAnyH_done (by kernel_rfl) ?_ _
  clear hHeld
  go_wp2
  exact bodyPost_ret (v := .agg #[.int .i64 11, .int .i64 52, .bool (x / 9223372036854775808 % 2 == 1), .int .u64 (x / 4503599627370496 % 2048), .int .u64 (x % 4503599627370496)]) (by simp (maxDischargeDepth := 8) [results, Try.results31, go_sem, c0, c1, c2, c3, c4]) rfl ⟨rfl, bset (bset (bset (bset (bset (unhide HB) _ (Nat.le_refl _) _ _) _ (Nat.le_refl _) _ _) _ (Nat.le_refl _) _ _) _ (Nat.le_refl _) _ _) _ (Nat.le_refl _) _ _⟩

set_option maxRecDepth 100000 in
set_option maxHeartbeats 4000000 in
theorem take_no (w : Int) (x : Int) (W : World) (h0 : 0 ≤ x) (h1 : x < 18446744073709551616) (hw : w ≠ 32 ∧ w ≠ 64) :
    Calls Try.prog 31 #[.int .i64 w, .int .u64 x] W fun r W' => r = .returned (.agg #[.int .i64 0, .int .i64 0, .bool (x % 2 == 1), .int .u64 0, .int .u64 0]) ∧ Below W.heap.size W W' := by
  have h : Wd w 0 0 1 1 (-1) := Or.inr (Or.inr ⟨hw, rfl, rfl, rfl, rfl, rfl⟩)
  have hs := h.sz
  have k1 : IntKind.i64.wrap 0 = 0 := by decide +kernel
  have k2 : IntKind.u64.wrap 0 = 0 := by decide +kernel
  have a1 : bits .and .u64 (x) 1 = x % 2 := and_mask 1 _ _ (by omega) (by omega) rfl (by omega)
  have a2 : bits .and .u64 x 0 = 0 := (and_mask 0 _ _ (by omega) (by omega) rfl (by omega)).trans (Int.emod_one _)
  clear h0 h1
  go_enter Try.func31, Try.ntmps31
  go_wp2_with fail
  refine (sizesOf_any h _).mono ?_
  rintro _ w1 ⟨rfl, hbl⟩
  have HB := hide (bthen (below1 _ _) hbl)
  have HR : Room W.heap.size 5 w1 := Room.below (w := W.alloc (.cells #[.int .i64 0, .int .i64 0, .bool false, .int .u64 0, .int .u64 0] 67)) (by
    intro o ho
    match o, ho with
    | 0, _ | 1, _ | 2, _ | 3, _ | 4, _ => simp [go_sem]) hbl
  have hz1 : W.heap.size < w1.heap.size := by have := hbl.size; simp at this; omega
  have HR := hide HR
  go_wp2_with fail
  have HB := hide ((balloc (unhide HB) (.cells #[.int .i64 0, .int .i64 0] 65)).drew)
  refine wp_region_held_drew (S := fun w' => (w'.cell? ⟨w1.heap.size, 0, none⟩ = some (.int .i64 0) ∧ w'.cell? ⟨w1.heap.size, 1, none⟩ = some (.int .i64 0)) ∧ Room W.heap.size 5 w') (by kernel_rfl) ?_ (fun hHeld => ?_)
  · (try dsimp only)
    exact ⟨by simp [go_sem], ((unhide HR).alloc _).drew⟩
  refine lst0 24 (by kernel_rfl) ?_
  refine tkA 0 8 1 ?_
  refine tkA 1 9 3 ?_
  refine tkA 2 10 7 ?_
  refine tkA 3 11 15 ?_
  refine tkA 4 12 31 ?_
  refine tkA 5 13 63 ?_
  refine tkA 6 14 127 ?_
  refine tkA 7 15 255 ?_
  refine tkA 8 16 511 ?_
  refine tkA 9 17 1023 ?_
  refine tkA 10 18 2047 ?_
  refine tkA 11 19 4095 ?_
  refine tkA 12 20 8191 ?_
  refine tkA 13 21 16383 ?_
  refine tkA 14 22 32767 ?_
  refine tkA 17 25 163839 ?_
  refine tkA 18 26 425983 ?_
  refine rdA 15 458751 (fun Kk hKk => ?_)
  go_simp
  refine (last_any hs _).mono ?_
  rintro _ w2 ⟨rfl, hbl⟩
  have HB := hide (bthen (unhide HB) hbl)
  (try go_wp2_with fail)
  refine hKk.out _ _ ?_ (fun hHeld => ?_)
  · (try dsimp only)
    exact ⟨At2.below hHeld.1 hbl, hHeld.2.below hbl⟩
  clear hKk Kk
  (try simp only [List.setIfInBounds_toArray, List.set_cons_zero, List.set_cons_succ])
  refine tkA 16 24 524287 ?_
  refine rdA 19 1048575 (fun Kk hKk => ?_)
  go_simp
  refine (one_any hs _).mono ?_
  rintro _ w3 ⟨rfl, hbl⟩
  have HB := hide (bthen (unhide HB) hbl)
  (try go_wp2_with fail)
  refine hKk.out _ _ ?_ (fun hHeld => ?_)
  · (try dsimp only)
    exact ⟨At2.below hHeld.1 hbl, hHeld.2.below hbl⟩
  clear hKk Kk
  (try simp only [List.setIfInBounds_toArray, List.set_cons_zero, List.set_cons_succ])
  refine tkA 20 28 2097151 ?_
  refine tkA 21 29 4194303 ?_
  refine tkA 22 30 8388607 ?_
  refine rdA 23 16777215 (fun Kk hKk => ?_)
  obtain ⟨⟨v0, c0⟩, f0⟩ := hHeld.2 0 (by omega)
  obtain ⟨⟨v1, c1⟩, f1⟩ := hHeld.2 1 (by omega)
  obtain ⟨⟨v2, c2⟩, f2⟩ := hHeld.2 2 (by omega)
  obtain ⟨⟨v3, c3⟩, f3⟩ := hHeld.2 3 (by omega)
  obtain ⟨⟨v4, c4⟩, f4⟩ := hHeld.2 4 (by omega)
  obtain ⟨g0, g1⟩ := hHeld.1
  go_simp
  refine hKk.out _ _ ?_ (fun hHeld => ?_)
  · (try dsimp only)
    exact ⟨⟨keep_set _ _ _ (by omega) (keep_set _ _ _ (by omega) (keep_set _ _ _ (by omega) (keep_set _ _ _ (by omega) (keep_set _ _ _ (by omega) g0)))), keep_set _ _ _ (by omega) (keep_set _ _ _ (by omega) (keep_set _ _ _ (by omega) (keep_set _ _ _ (by omega) (keep_set _ _ _ (by omega) g1))))⟩, ((((hHeld.2.set _ _).set _ _).set _ _).set _ _).set _ _⟩
  clear hKk Kk
  (try simp only [List.setIfInBounds_toArray, List.set_cons_zero, List.set_cons_succ])
  refine wpAnyH_done (by kernel_rfl) ?_ _
  clear hHeld
  go_wp2
  exact bodyPost_ret (v := .agg #[.int .i64 0, .int .i64 0, .bool (x % 2 == 1), .int .u64 0, .int .u64 0]) (by simp (maxDischargeDepth := 8) [results, Try.results31, go_sem, c0, c1, c2, c3, c4]) rfl ⟨rfl, bset (bset (bset (bset (bset (unhide HB) _ (Nat.le_refl _) _ _) _ (Nat.le_refl _) _ _) _ (Nat.le_refl _) _ _) _ (Nat.le_refl _) _ _) _ (Nat.le_refl _) _ _⟩

end Go.Proofs.Ytmbkpmcmhmldgaa
