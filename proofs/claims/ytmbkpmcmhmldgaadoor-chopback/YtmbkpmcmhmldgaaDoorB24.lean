/- Near, CloseW, Parts, Float. -/
import Derived.Test.YtmbkpmcmhmldgaaDoorB01
import Derived.Test.YtmbkpmcmhmldgaaDoorB11
import Derived.Test.YtmbkpmcmhmldgaaDoorB20
import Derived.Laws.MathBits
namespace Go.Proofs.YtmbkpmcmhmldgaaDoor

/-- a by b to the nearest whole number, ties to even. -/
def near (a b : Nat) : Nat := if b < 2 * (a % b) ∨ (2 * (a % b) = b ∧ a / b % 2 = 1) then a / b + 1 else a / b

theorem near_scale (a b c : Nat) (hc : 0 < c) : near (a * c) (b * c) = near a b := by
  unfold near
  rw [Nat.mul_mod_mul_right, Nat.mul_div_mul_right _ _ hc]
  have e1 : (b * c < 2 * (a % b * c)) = (b < 2 * (a % b)) := by
    rw [← Nat.mul_assoc]
    exact propext (Nat.mul_lt_mul_right hc)
  have e2 : (2 * (a % b * c) = b * c) = (2 * (a % b) = b) := by
    rw [← Nat.mul_assoc]
    exact propext (Nat.mul_right_cancel_iff hc)
  simp only [e1, e2]
theorem near_ge {a b k : Nat} (hb : 0 < b) (h : k * b ≤ a) : k ≤ near a b := by
  have := (Nat.le_div_iff_mul_le hb).2 h
  unfold near
  split <;> omega
theorem near_le {a b k : Nat} (hb : 0 < b) (h : a ≤ k * b) : near a b ≤ k := by
  unfold near
  have h1 : a / b ≤ k := Nat.div_le_of_le_mul (by rw [Nat.mul_comm]; exact h)
  split
  · rename_i hc
    refine Decidable.byContradiction fun hn => ?_
    have he : a / b = k := by omega
    have h2 := Nat.div_add_mod a b
    rw [he, Nat.mul_comm b k] at h2
    omega
  · exact h1
theorem near_mono {a c b : Nat} (h : a ≤ c) : near a b ≤ near c b := by
  have h1 : a / b ≤ c / b := Nat.div_le_div_right h
  by_cases he : a / b = c / b
  · have ha := Nat.div_add_mod a b
    have hc := Nat.div_add_mod c b
    rw [← he] at hc
    have hr : a % b ≤ c % b := by omega
    unfold near
    rw [← he]
    split
    · rw [if_pos (by omega)]
      omega
    · split <;> omega
  · unfold near
    split <;> split <;> omega
theorem near_one (a : Nat) : near a 1 = a := by
  unfold near
  rw [Nat.mod_one, if_neg (by omega), Nat.div_one]
theorem near_zero (b : Nat) : near 0 b = 0 := by
  unfold near
  rw [Nat.zero_mod, Nat.zero_div, if_neg (by omega)]
theorem near_mul (a b : Nat) (hb : 0 < b) : near (a * b) b = a := by
  have := near_scale a 1 b hb
  rw [Nat.one_mul, near_one] at this
  exact this

theorem bl_lt {x k : Nat} (h : Go.bitLen x ≤ k) : x < 2 ^ k := Nat.lt_of_lt_of_le (Go.bitLen_spec x).1 (Nat.pow_le_pow_right (by omega) h)
theorem bl_ge {x k : Nat} (h : k < Go.bitLen x) : 2 ^ k ≤ x := by
  have hx : x ≠ 0 := fun h0 => by rw [h0] at h; exact absurd h (by rw [show Go.bitLen 0 = 0 from rfl]; omega)
  exact Nat.le_trans (Nat.pow_le_pow_right (by omega) (by omega)) ((Go.bitLen_spec x).2 hx)
theorem bl_mono {x y : Nat} (h : x ≤ y) : Go.bitLen x ≤ Go.bitLen y := by
  refine Decidable.byContradiction fun hn => ?_
  have h1 := bl_ge (x := x) (k := Go.bitLen y) (by omega)
  have h2 := (Go.bitLen_spec y).1
  omega
theorem bl_shl (x k : Nat) (h : x ≠ 0) : Go.bitLen (x * 2 ^ k) = k + Go.bitLen x := by
  have h1 := Nat.mul_div_cancel x (Nat.two_pow_pos k)
  rw [Go.bitLen_shift (x * 2 ^ k) k (by rw [h1]; exact h), h1]
theorem bl_two (v m : Nat) (hm : m ≤ 1) (h : 2 * v + m ≠ 0) : Go.bitLen (2 * v + m) = Go.bitLen v + 1 := by
  by_cases hv : v = 0
  · subst hv
    have : m = 1 := by omega
    subst this
    decide +kernel
  · have h1 : (2 * v + m) / 2 ^ 1 = v := by omega
    rw [Go.bitLen_shift (2 * v + m) 1 (by rw [h1]; exact hv), h1]
    omega

/-- The place of the last bit of the float that is nearest to X. -/
def unitOf (f L X : Nat) : Nat := max (Go.bitLen X - (f + 1)) L
/-- That float's number among the floats. -/
def code (f L X : Nat) : Nat := (unitOf f L X - L) * 2 ^ f + near X (2 ^ unitOf f L X)

theorem unit_le (f L X : Nat) : L ≤ unitOf f L X := by unfold unitOf; omega
theorem unit_up (f L X : Nat) : near X (2 ^ unitOf f L X) ≤ 2 * 2 ^ f := by
  refine near_le (Nat.two_pow_pos _) ?_
  rw [show 2 * 2 ^ f = 2 ^ (f + 1) by rw [Nat.pow_succ]; omega, ← Nat.pow_add]
  exact Nat.le_of_lt (bl_lt (by unfold unitOf; omega))
theorem unit_dn {f L X : Nat} (h : L < unitOf f L X) : 2 ^ f ≤ near X (2 ^ unitOf f L X) := by
  refine near_ge (Nat.two_pow_pos _) ?_
  rw [← Nat.pow_add]
  exact bl_ge (by unfold unitOf at h ⊢; omega)

theorem code_mono (f L : Nat) {X Y : Nat} (h : X ≤ Y) : code f L X ≤ code f L Y := by
  have hu : unitOf f L X ≤ unitOf f L Y := by have := bl_mono h; unfold unitOf; omega
  unfold code
  by_cases he : unitOf f L X = unitOf f L Y
  · rw [he]
    exact Nat.add_le_add_left (near_mono h) _
  · have h1 := unit_up f L X
    have h2 := unit_dn (f := f) (L := L) (X := Y) (by have := unit_le f L X; omega)
    have h3 := unit_le f L X
    generalize unitOf f L X = u at *
    generalize unitOf f L Y = v at *
    generalize near X (2 ^ u) = s at *
    generalize near Y (2 ^ v) = t at *
    have h4 : (u - L + 1) * 2 ^ f ≤ (v - L) * 2 ^ f := Nat.mul_le_mul_right _ (by omega)
    rw [Nat.add_mul, Nat.one_mul] at h4
    omega
theorem code_zero (f L : Nat) : code f L 0 = 0 := by
  have : unitOf f L 0 = L := by unfold unitOf; rw [show Go.bitLen 0 = 0 from rfl]; omega
  unfold code
  rw [near_zero, this, Nat.sub_self, Nat.zero_mul]
/-- A number that has no more bits than a float is its own. -/
theorem code_exact (f L s k : Nat) (h1 : s < 2 ^ (f + 1)) (hk : L ≤ k) (h2 : L < k → 2 ^ f ≤ s) : code f L (s * 2 ^ k) = (k - L) * 2 ^ f + s := by
  by_cases hs : s = 0
  · subst hs
    have hL : ¬ L < k := fun h => by have := h2 h; have := Nat.two_pow_pos f; omega
    rw [Nat.zero_mul, code_zero f L, show k - L = 0 by omega, Nat.zero_mul]
  have hb1 : Go.bitLen s ≤ f + 1 := by
    refine Decidable.byContradiction fun hn => ?_
    have := bl_ge (x := s) (k := f + 1) (by omega)
    omega
  have hu : unitOf f L (s * 2 ^ k) = k := by
    unfold unitOf
    rw [bl_shl s k hs]
    by_cases hL : L < k
    · have h3 := h2 hL
      have : f < Go.bitLen s := Decidable.byContradiction fun hn => by
        have := bl_lt (x := s) (k := f) (by omega)
        omega
      omega
    · omega
  unfold code
  rw [hu, near_mul _ _ (Nat.two_pow_pos k)]

/-- What the halves tell: by a unit above the number's own last bit. -/
theorem near_halves (v m j n r : Nat) (hm : m ≤ 1) (hn : n = v / 2 ^ j) (hr : r = v % 2 ^ j) :
    near (2 * v + m) (2 ^ (j + 2)) = if n % 2 = 1 ∧ ((r ≠ 0 ∨ m = 1) ∨ n / 2 % 2 = 1) then n / 2 + 1 else n / 2 := by
  have hc := Nat.two_pow_pos j
  have hv := Nat.div_add_mod v (2 ^ j)
  have hlt := Nat.mod_lt v hc
  rw [← hn, ← hr] at hv
  rw [← hr] at hlt
  have e4 : 2 ^ (j + 2) = 4 * 2 ^ j := by rw [Nat.pow_add]; omega
  clear hn hr
  generalize 2 ^ j = c at *
  have hns : n = 2 * (n / 2) + n % 2 := by omega
  have hh : n % 2 < 2 := Nat.mod_lt _ (by omega)
  generalize n / 2 = s at *
  generalize n % 2 = h at *
  subst hns
  have hN : 2 * v + m = 4 * c * s + (2 * c * h + 2 * r + m) := by
    rw [← hv, Nat.mul_add c, show c * (2 * s) = 2 * (c * s) by rw [Nat.mul_left_comm], show 4 * c * s = 4 * (c * s) by rw [Nat.mul_assoc], show 2 * c * h = 2 * (c * h) by rw [Nat.mul_assoc]]
    omega
  have hR : 2 * c * h + 2 * r + m < 4 * c := by
    rcases (show h = 0 ∨ h = 1 by omega) with h0 | h0 <;> subst h0
    · omega
    · omega
  have hq : (2 * v + m) / (4 * c) = s := by
    rw [hN, Nat.mul_add_div (by omega), Nat.div_eq_of_lt hR]
    rfl
  have hr2 : (2 * v + m) % (4 * c) = 2 * c * h + 2 * r + m := by
    rw [hN, Nat.mul_add_mod, Nat.mod_eq_of_lt hR]
  unfold near
  rw [e4, hq, hr2]
  rcases (show h = 0 ∨ h = 1 by omega) with h0 | h0 <;> subst h0
  · rw [if_neg (by omega), if_neg (by omega)]
  · by_cases hl : r ≠ 0 ∨ m = 1
    · rw [if_pos (by omega), if_pos (by omega)]
    · by_cases ho : s % 2 = 1
      · rw [if_pos (by omega), if_pos (by omega)]
      · rw [if_neg (by omega), if_neg (by omega)]
/-- By a unit that isn't. -/
theorem near_two (n : Nat) : near n 2 = if n % 2 = 1 ∧ n / 2 % 2 = 1 then n / 2 + 1 else n / 2 := by
  unfold near
  by_cases h : n % 2 = 1 ∧ n / 2 % 2 = 1
  · rw [if_pos (by omega), if_pos h]
  · rw [if_neg (by omega), if_neg h]

end Go.Proofs.YtmbkpmcmhmldgaaDoor
namespace Go.Proofs.YtmbkpmcmhmldgaaDoor
open Go.RowKit

/-- The float of a finite one's parts, and the error: 0 or 2. -/
def ClosedF (f P Q b : Int) (n : Bool) (X S V c : Int) : Prop :=
  (S < P ∧ S ≠ 0 ∧ X = 1 - b - f ∧ V = put f P Q n 0 (S % P) ∧ c = 0) ∨
  (P ≤ S ∧ S < 2 * P ∧ 1 - b - f ≤ X ∧ X ≤ Q - 2 - b - f ∧ V = put f P Q n (X + b + f) (S % P) ∧ c = 0) ∨
  (¬ (S < P ∧ S ≠ 0 ∧ X = 1 - b - f) ∧ ¬ (P ≤ S ∧ S < 2 * P ∧ 1 - b - f ≤ X ∧ X ≤ Q - 2 - b - f) ∧ V = 0 ∧ c = 2)
theorem dt {p : Prop} [Decidable p] (h : p) : decide p = true := by simp [h]
theorem df {p : Prop} [Decidable p] (h : ¬ p) : decide p = false := by simp [h]

theorem fin_any {w e f P Q b K X S V c : Int} {n : Bool} (W : World) (h : Kd w e f P Q b) (s0 : 0 ≤ S) (s1 : S < 18446744073709551616) (hc : ClosedF f P Q b n X S V c) :
    Calls Tryd.prog 57 #[.agg #[.int .i64 e, .int .i64 f], .agg #[.bool n, .int .i64 K, .int .i64 X, .int .u64 S]] W fun r W' => r = .returned (.tuple #[.int .u64 V, .int .i64 c]) ∧ Below W.heap.size W W' := by
  have hs := h.wd.sz
  obtain ⟨p1, p2, q1, q2⟩ := h.pos
  obtain ⟨u', v'⟩ := exp_in S (show 1 ≤ P by omega)
  have g : 0 ≤ f ∧ f ≤ 63 ∧ 0 ≤ b ∧ b ≤ 2000 ∧ Q = 2 * b + 2 := by rcases h with h | h <;> omega
  obtain ⟨g0, g1, g2, g3, g4⟩ := g
  have kp : IntKind.u64.wrap (P - 1) = P - 1 := by rw [IntKind.wrap_u64]; omega
  have ka : bits .and .u64 S (P - 1) = S % P := by
    rcases h with ⟨_, _, rfl, rfl, _, _⟩ | ⟨_, _, rfl, rfl, _, _⟩
    · exact and_mask 23 _ _ (by omega) (by omega) rfl (by omega)
    · exact and_mask 52 _ _ (by omega) (by omega) rfl (by omega)
  have kd : S / 2 ^ f.toNat = S / P := by rcases h with ⟨_, _, rfl, rfl, _, _⟩ | ⟨_, _, rfl, rfl, _, _⟩ <;> rfl
  have D0 : (S / P = 0 ↔ S < P) ∧ (S / P = 1 ↔ P ≤ S ∧ S < 2 * P) := by
    rcases h with ⟨_, _, _, rfl, _, _⟩ | ⟨_, _, _, rfl, _, _⟩ <;> omega
  obtain ⟨D0, D1⟩ := D0
  rcases hc with ⟨c1, c2, c3, rfl, rfl⟩ | ⟨c1, c2, c3, c4, rfl, rfl⟩ | ⟨c1, c2, rfl, rfl⟩
  · exact fin_sub W hs g0 g1 kp ka kd (eq_t (D0.2 c1)) (eq_f c2) (ne_f c3) (hide (fun W => bits_any n 0 (S % P) hs W (by omega) (by omega) u' v'))
  · refine fin_nor (E := X + b + f) W hs g0 g1 kp ka kd (eq_f (fun hh => by have := D0.1 hh; omega)) (eq_t (D1.2 ⟨c1, c2⟩)) (df (by omega)) (df (by omega)) (hide (fun W => power_any 0 hs W (by omega) (by omega))) ?_ ?_
      (hide (fun W => bits_any n (X + b + f) (S % P) hs W (by omega) (by omega) u' v'))
    · rw [i64_id (by omega) (by omega)]; omega
    · rw [IntKind.wrap_u64]; omega
  · by_cases e0 : S < P
    · by_cases e1 : S = 0
      · exact fin_z W hs g0 g1 kp ka kd (eq_t (D0.2 e0)) (eq_t e1)
      · exact fin_x W hs g0 g1 kp ka kd (eq_t (D0.2 e0)) (eq_f e1) (ne_t (fun hh => c1 ⟨e0, e1, hh⟩))
    · have d0 := eq_f (fun hh => e0 (D0.1 hh))
      by_cases e1 : S < 2 * P
      · have d1 := eq_t (D1.2 ⟨by omega, e1⟩)
        by_cases e2 : X < 1 - b - f
        · exact fin_lo W hs g0 g1 kp ka kd d0 d1 (dt e2)
        · exact fin_hi W hs g0 g1 kp ka kd d0 d1 (df e2) (dt (by omega))
      · exact fin_big W hs g0 g1 kp ka kd d0 (eq_f (fun hh => e1 (D1.1 hh).2))

set_option maxHeartbeats 1000000 in
theorem close_fin {w e f P Q b K X S : Int} {n : Bool} (W : World) (h : Wd w e f P Q b) (hf : (f != 0) = true) (k1 : (K == 1) = true) {V c : Int} (HC : Ct 57 #[.agg #[.int .i64 e, .int .i64 f], .agg #[.bool n, .int .i64 K, .int .i64 X, .int .u64 S]] (.tuple #[.int .u64 V, .int .i64 c])) :
    Calls Tryd.prog 56 #[.int .i64 w, .agg #[.bool n, .int .i64 K, .int .i64 X, .int .u64 S]] W fun r W' => r = .returned (.tuple #[.int .u64 V, .int .i64 c]) ∧ Below W.heap.size W W' := by
  go_enter Tryd.func56, Tryd.ntmps56
  go_wp2_with fail
  refine (sizesOf_any h _).mono ?_
  rintro _ w1 ⟨rfl, hbl⟩
  have HA4 := hide (((at4_new W (.bool n) (.int .i64 K) (.int .i64 X) (.int .u64 S) 40).below hbl).below (below1 _ (.cells #[.int .i64 e, .int .i64 f] 56)))
  have HA2 : Hid (At2 w1.heap.size (.int .i64 e) (.int .i64 f) (w1.alloc (.cells #[.int .i64 e, .int .i64 f] 56))) := by unfold Hid At2; simp [go_sem]
  have HB := hide (balloc (bthen (below1 _ _) hbl) (.cells #[.int .i64 e, .int .i64 f] 56))
  clear hbl
  go_wp2_with fail
  refine (known_any e f _).mono ?_
  rintro _ w2 ⟨rfl, hbl⟩
  obtain ⟨p0, p1, p2, p3⟩ := (unhide HA4).below hbl
  obtain ⟨q0, q1⟩ := (unhide HA2).below hbl
  have HB := hide (bthen (unhide HB) hbl)
  clear hbl HA4 HA2
  go_wp2_with fail
  refine (unhide HC _).mono ?_
  rintro _ w3 ⟨rfl, hbl⟩
  have HB := hide (bthen (unhide HB) hbl)
  go_wp2_with fail
  go_ret2
  exact ⟨rfl, unhide HB⟩

set_option maxHeartbeats 1000000 in
theorem close_e1 {w e f P Q b K X S : Int} {n : Bool} (W : World) (h : Wd w e f P Q b) (hf : (f != 0) = true) (k1 : (K == 1) = false) (z1 : (S != 0) = true) :
    Calls Tryd.prog 56 #[.int .i64 w, .agg #[.bool n, .int .i64 K, .int .i64 X, .int .u64 S]] W fun r W' => r = .returned (.tuple #[.int .u64 0, .int .i64 2]) ∧ Below W.heap.size W W' := by
  go_enter Tryd.func56, Tryd.ntmps56
  go_wp2_with fail
  refine (sizesOf_any h _).mono ?_
  rintro _ w1 ⟨rfl, hbl⟩
  have HA4 := hide (((at4_new W (.bool n) (.int .i64 K) (.int .i64 X) (.int .u64 S) 40).below hbl).below (below1 _ (.cells #[.int .i64 e, .int .i64 f] 56)))
  have HA2 : Hid (At2 w1.heap.size (.int .i64 e) (.int .i64 f) (w1.alloc (.cells #[.int .i64 e, .int .i64 f] 56))) := by unfold Hid At2; simp [go_sem]
  have HB := hide (balloc (bthen (below1 _ _) hbl) (.cells #[.int .i64 e, .int .i64 f] 56))
  clear hbl
  go_wp2_with fail
  refine (known_any e f _).mono ?_
  rintro _ w2 ⟨rfl, hbl⟩
  obtain ⟨p0, p1, p2, p3⟩ := (unhide HA4).below hbl
  obtain ⟨q0, q1⟩ := (unhide HA2).below hbl
  have HB := hide (bthen (unhide HB) hbl)
  clear hbl HA4 HA2
  go_wp2_with fail
  go_ret2
  exact ⟨rfl, unhide HB⟩

set_option maxHeartbeats 1000000 in
theorem close_e2 {w e f P Q b K X S : Int} {n : Bool} (W : World) (h : Wd w e f P Q b) (hf : (f != 0) = true) (k1 : (K == 1) = false) (z1 : (S != 0) = false) (z2 : (X != 0) = true) :
    Calls Tryd.prog 56 #[.int .i64 w, .agg #[.bool n, .int .i64 K, .int .i64 X, .int .u64 S]] W fun r W' => r = .returned (.tuple #[.int .u64 0, .int .i64 2]) ∧ Below W.heap.size W W' := by
  go_enter Tryd.func56, Tryd.ntmps56
  go_wp2_with fail
  refine (sizesOf_any h _).mono ?_
  rintro _ w1 ⟨rfl, hbl⟩
  have HA4 := hide (((at4_new W (.bool n) (.int .i64 K) (.int .i64 X) (.int .u64 S) 40).below hbl).below (below1 _ (.cells #[.int .i64 e, .int .i64 f] 56)))
  have HA2 : Hid (At2 w1.heap.size (.int .i64 e) (.int .i64 f) (w1.alloc (.cells #[.int .i64 e, .int .i64 f] 56))) := by unfold Hid At2; simp [go_sem]
  have HB := hide (balloc (bthen (below1 _ _) hbl) (.cells #[.int .i64 e, .int .i64 f] 56))
  clear hbl
  go_wp2_with fail
  refine (known_any e f _).mono ?_
  rintro _ w2 ⟨rfl, hbl⟩
  obtain ⟨p0, p1, p2, p3⟩ := (unhide HA4).below hbl
  obtain ⟨q0, q1⟩ := (unhide HA2).below hbl
  have HB := hide (bthen (unhide HB) hbl)
  clear hbl HA4 HA2
  go_wp2_with fail
  go_ret2
  exact ⟨rfl, unhide HB⟩

set_option maxHeartbeats 1000000 in
theorem close_zero {w e f P Q b K X S : Int} {n : Bool} (W : World) (h : Wd w e f P Q b) (hf : (f != 0) = true) (k1 : (K == 1) = false) (z1 : (S != 0) = false) (z2 : (X != 0) = false) (k0 : (K == 0) = true) {V : Int} (HC : Ct 50 #[.int .i64 w, .bool n] (.int .u64 V)) :
    Calls Tryd.prog 56 #[.int .i64 w, .agg #[.bool n, .int .i64 K, .int .i64 X, .int .u64 S]] W fun r W' => r = .returned (.tuple #[.int .u64 V, .int .i64 0]) ∧ Below W.heap.size W W' := by
  go_enter Tryd.func56, Tryd.ntmps56
  go_wp2_with fail
  refine (sizesOf_any h _).mono ?_
  rintro _ w1 ⟨rfl, hbl⟩
  have HA4 := hide (((at4_new W (.bool n) (.int .i64 K) (.int .i64 X) (.int .u64 S) 40).below hbl).below (below1 _ (.cells #[.int .i64 e, .int .i64 f] 56)))
  have HA2 : Hid (At2 w1.heap.size (.int .i64 e) (.int .i64 f) (w1.alloc (.cells #[.int .i64 e, .int .i64 f] 56))) := by unfold Hid At2; simp [go_sem]
  have HB := hide (balloc (bthen (below1 _ _) hbl) (.cells #[.int .i64 e, .int .i64 f] 56))
  clear hbl
  go_wp2_with fail
  refine (known_any e f _).mono ?_
  rintro _ w2 ⟨rfl, hbl⟩
  obtain ⟨p0, p1, p2, p3⟩ := (unhide HA4).below hbl
  obtain ⟨q0, q1⟩ := (unhide HA2).below hbl
  have HB := hide (bthen (unhide HB) hbl)
  clear hbl HA4 HA2
  go_wp2_with fail
  refine (unhide HC _).mono ?_
  rintro _ w3 ⟨rfl, hbl⟩
  have HB := hide (bthen (unhide HB) hbl)
  go_wp2_with fail
  go_ret2
  exact ⟨rfl, unhide HB⟩

set_option maxHeartbeats 1000000 in
theorem close_inf {w e f P Q b K X S : Int} {n : Bool} (W : World) (h : Wd w e f P Q b) (hf : (f != 0) = true) (k1 : (K == 1) = false) (z1 : (S != 0) = false) (z2 : (X != 0) = false) (k0 : (K == 0) = false) (k2 : (K == 2) = true) {V : Int} (HC : Ct 55 #[.int .i64 w, .bool n] (.int .u64 V)) :
    Calls Tryd.prog 56 #[.int .i64 w, .agg #[.bool n, .int .i64 K, .int .i64 X, .int .u64 S]] W fun r W' => r = .returned (.tuple #[.int .u64 V, .int .i64 0]) ∧ Below W.heap.size W W' := by
  go_enter Tryd.func56, Tryd.ntmps56
  go_wp2_with fail
  refine (sizesOf_any h _).mono ?_
  rintro _ w1 ⟨rfl, hbl⟩
  have HA4 := hide (((at4_new W (.bool n) (.int .i64 K) (.int .i64 X) (.int .u64 S) 40).below hbl).below (below1 _ (.cells #[.int .i64 e, .int .i64 f] 56)))
  have HA2 : Hid (At2 w1.heap.size (.int .i64 e) (.int .i64 f) (w1.alloc (.cells #[.int .i64 e, .int .i64 f] 56))) := by unfold Hid At2; simp [go_sem]
  have HB := hide (balloc (bthen (below1 _ _) hbl) (.cells #[.int .i64 e, .int .i64 f] 56))
  clear hbl
  go_wp2_with fail
  refine (known_any e f _).mono ?_
  rintro _ w2 ⟨rfl, hbl⟩
  obtain ⟨p0, p1, p2, p3⟩ := (unhide HA4).below hbl
  obtain ⟨q0, q1⟩ := (unhide HA2).below hbl
  have HB := hide (bthen (unhide HB) hbl)
  clear hbl HA4 HA2
  go_wp2_with fail
  refine (unhide HC _).mono ?_
  rintro _ w3 ⟨rfl, hbl⟩
  have HB := hide (bthen (unhide HB) hbl)
  go_wp2_with fail
  go_ret2
  exact ⟨rfl, unhide HB⟩

set_option maxHeartbeats 1000000 in
theorem close_nan {w e f P Q b K X S : Int} {n : Bool} (W : World) (h : Wd w e f P Q b) (hf : (f != 0) = true) (k1 : (K == 1) = false) (z1 : (S != 0) = false) (z2 : (X != 0) = false) (k0 : (K == 0) = false) (k2 : (K == 2) = false) (k3 : (K == 3) = true) {V : Int} (HC : Ct 58 #[.int .i64 w] (.int .u64 V)) :
    Calls Tryd.prog 56 #[.int .i64 w, .agg #[.bool n, .int .i64 K, .int .i64 X, .int .u64 S]] W fun r W' => r = .returned (.tuple #[.int .u64 V, .int .i64 0]) ∧ Below W.heap.size W W' := by
  go_enter Tryd.func56, Tryd.ntmps56
  go_wp2_with fail
  refine (sizesOf_any h _).mono ?_
  rintro _ w1 ⟨rfl, hbl⟩
  have HA4 := hide (((at4_new W (.bool n) (.int .i64 K) (.int .i64 X) (.int .u64 S) 40).below hbl).below (below1 _ (.cells #[.int .i64 e, .int .i64 f] 56)))
  have HA2 : Hid (At2 w1.heap.size (.int .i64 e) (.int .i64 f) (w1.alloc (.cells #[.int .i64 e, .int .i64 f] 56))) := by unfold Hid At2; simp [go_sem]
  have HB := hide (balloc (bthen (below1 _ _) hbl) (.cells #[.int .i64 e, .int .i64 f] 56))
  clear hbl
  go_wp2_with fail
  refine (known_any e f _).mono ?_
  rintro _ w2 ⟨rfl, hbl⟩
  obtain ⟨p0, p1, p2, p3⟩ := (unhide HA4).below hbl
  obtain ⟨q0, q1⟩ := (unhide HA2).below hbl
  have HB := hide (bthen (unhide HB) hbl)
  clear hbl HA4 HA2
  go_wp2_with fail
  refine (unhide HC _).mono ?_
  rintro _ w3 ⟨rfl, hbl⟩
  have HB := hide (bthen (unhide HB) hbl)
  go_wp2_with fail
  go_ret2
  exact ⟨rfl, unhide HB⟩

set_option maxHeartbeats 1000000 in
theorem close_oth {w e f P Q b K X S : Int} {n : Bool} (W : World) (h : Wd w e f P Q b) (hf : (f != 0) = true) (k1 : (K == 1) = false) (z1 : (S != 0) = false) (z2 : (X != 0) = false) (k0 : (K == 0) = false) (k2 : (K == 2) = false) (k3 : (K == 3) = false) :
    Calls Tryd.prog 56 #[.int .i64 w, .agg #[.bool n, .int .i64 K, .int .i64 X, .int .u64 S]] W fun r W' => r = .returned (.tuple #[.int .u64 0, .int .i64 2]) ∧ Below W.heap.size W W' := by
  go_enter Tryd.func56, Tryd.ntmps56
  go_wp2_with fail
  refine (sizesOf_any h _).mono ?_
  rintro _ w1 ⟨rfl, hbl⟩
  have HA4 := hide (((at4_new W (.bool n) (.int .i64 K) (.int .i64 X) (.int .u64 S) 40).below hbl).below (below1 _ (.cells #[.int .i64 e, .int .i64 f] 56)))
  have HA2 : Hid (At2 w1.heap.size (.int .i64 e) (.int .i64 f) (w1.alloc (.cells #[.int .i64 e, .int .i64 f] 56))) := by unfold Hid At2; simp [go_sem]
  have HB := hide (balloc (bthen (below1 _ _) hbl) (.cells #[.int .i64 e, .int .i64 f] 56))
  clear hbl
  go_wp2_with fail
  refine (known_any e f _).mono ?_
  rintro _ w2 ⟨rfl, hbl⟩
  obtain ⟨p0, p1, p2, p3⟩ := (unhide HA4).below hbl
  obtain ⟨q0, q1⟩ := (unhide HA2).below hbl
  have HB := hide (bthen (unhide HB) hbl)
  clear hbl HA4 HA2
  go_wp2_with fail
  go_ret2
  exact ⟨rfl, unhide HB⟩

/-- The float of parts, and the error. -/
def Closed (f P Q b : Int) (n : Bool) (K X S V c : Int) : Prop :=
  (K = 1 ∧ ClosedF f P Q b n X S V c) ∨
  (K = 0 ∧ S = 0 ∧ X = 0 ∧ V = put f P Q n 0 0 ∧ c = 0) ∨
  (K = 2 ∧ S = 0 ∧ X = 0 ∧ V = put f P Q n (Q - 1) 0 ∧ c = 0) ∨
  (K = 3 ∧ S = 0 ∧ X = 0 ∧ V = put f P Q false (Q - 1) (P / 2) ∧ c = 0) ∨
  (K ≠ 1 ∧ (S ≠ 0 ∨ X ≠ 0 ∨ (K ≠ 0 ∧ K ≠ 2 ∧ K ≠ 3)) ∧ V = 0 ∧ c = 2)
theorem close_any {w e f P Q b K X S V c : Int} {n : Bool} (W : World) (h : Kd w e f P Q b) (s0 : 0 ≤ S) (s1 : S < 18446744073709551616) (hc : Closed f P Q b n K X S V c) :
    Calls Tryd.prog 56 #[.int .i64 w, .agg #[.bool n, .int .i64 K, .int .i64 X, .int .u64 S]] W fun r W' => r = .returned (.tuple #[.int .u64 V, .int .i64 c]) ∧ Below W.heap.size W W' := by
  have hf := ne_t h.f0
  rcases hc with ⟨k, hc⟩ | ⟨rfl, rfl, rfl, rfl, rfl⟩ | ⟨rfl, rfl, rfl, rfl, rfl⟩ | ⟨rfl, rfl, rfl, rfl, rfl⟩ | ⟨k1, hz, rfl, rfl⟩
  · exact close_fin W h.wd hf (eq_t k) (hide (fun W => fin_any W h s0 s1 hc))
  · exact close_zero W h.wd hf rfl rfl rfl rfl (hide (fun W => zero_any n h.wd W))
  · exact close_inf W h.wd hf rfl rfl rfl rfl rfl (hide (fun W => inf_any n h.wd W))
  · exact close_nan W h.wd hf rfl rfl rfl rfl rfl rfl (hide (fun W => nan_any h.wd W))
  · by_cases z1 : S = 0
    · by_cases z2 : X = 0
      · exact close_oth W h.wd hf (eq_f k1) (ne_f z1) (ne_f z2) (eq_f (by omega)) (eq_f (by omega)) (eq_f (by omega))
      · exact close_e2 W h.wd hf (eq_f k1) (ne_f z1) (ne_t z2)
    · exact close_e1 W h.wd hf (eq_f k1) (ne_t z1)

end Go.Proofs.YtmbkpmcmhmldgaaDoor
namespace Go.Proofs.YtmbkpmcmhmldgaaDoor
open Go.RowKit

theorem at5_new (w : World) (x y z u v : Value) (t : TypeId) : At5 w.heap.size x y z u v (w.alloc (.cells #[x, y, z, u, v] t)) := by unfold At5; simp [go_sem]

set_option maxRecDepth 100000 in
set_option maxHeartbeats 1000000 in
theorem isNought_h {h l E : Int} {n m : Bool} (W : World) (h1 : (h == 0) = false) :
    Calls Tryd.prog 49 #[.agg #[.bool n, .int .u64 h, .int .u64 l, .int .i64 E, .bool m]] W fun r W' => r = .returned (.bool false) ∧ Below W.heap.size W W' := by
  go_enter Tryd.func49, Tryd.ntmps49
  go_wp2_with fail
  go_ret
  exact ⟨rfl, below1 _ _⟩
set_option maxRecDepth 100000 in
set_option maxHeartbeats 1000000 in
theorem isNought_l {h l E : Int} {n m : Bool} (W : World) (h1 : (h == 0) = true) (h2 : (l == 0) = false) :
    Calls Tryd.prog 49 #[.agg #[.bool n, .int .u64 h, .int .u64 l, .int .i64 E, .bool m]] W fun r W' => r = .returned (.bool false) ∧ Below W.heap.size W W' := by
  go_enter Tryd.func49, Tryd.ntmps49
  go_wp2_with fail
  go_ret
  exact ⟨rfl, below1 _ _⟩
set_option maxRecDepth 100000 in
set_option maxHeartbeats 1000000 in
theorem isNought_m {h l E : Int} {n : Bool} (W : World) (h1 : (h == 0) = true) (h2 : (l == 0) = true) :
    Calls Tryd.prog 49 #[.agg #[.bool n, .int .u64 h, .int .u64 l, .int .i64 E, .bool true]] W fun r W' => r = .returned (.bool false) ∧ Below W.heap.size W W' := by
  go_enter Tryd.func49, Tryd.ntmps49
  go_wp2_with fail
  go_ret
  exact ⟨rfl, below1 _ _⟩
set_option maxRecDepth 100000 in
set_option maxHeartbeats 1000000 in
theorem isNought_y {h l E : Int} {n : Bool} (W : World) (h1 : (h == 0) = true) (h2 : (l == 0) = true) :
    Calls Tryd.prog 49 #[.agg #[.bool n, .int .u64 h, .int .u64 l, .int .i64 E, .bool false]] W fun r W' => r = .returned (.bool true) ∧ Below W.heap.size W W' := by
  go_enter Tryd.func49, Tryd.ntmps49
  go_wp2_with fail
  go_ret
  exact ⟨rfl, below1 _ _⟩
/-- Is a number nought? -/
theorem isNought_any (v : Nat) (E : Int) (n m : Bool) (Wd : World) :
    Calls Tryd.prog 49 #[.agg #[.bool n, .int .u64 (W.hi v), .int .u64 (W.lo v), .int .i64 E, .bool m]] Wd fun r W' => r = .returned (.bool (decide (v = 0) && !m)) ∧ Below Wd.heap.size Wd W' := by
  by_cases h1 : W.hi v = 0
  · by_cases h2 : W.lo v = 0
    · have hv : v = 0 := by unfold W.hi at h1; unfold W.lo at h2; omega
      cases m
      · rw [decide_eq_true hv]; exact isNought_y Wd (eq_t h1) (eq_t h2)
      · rw [decide_eq_true hv]; exact isNought_m Wd (eq_t h1) (eq_t h2)
    · have hv : ¬ v = 0 := fun h0 => h2 (by rw [h0]; rfl)
      rw [decide_eq_false hv]; exact isNought_l Wd (eq_t h1) (eq_f h2)
  · have hv : ¬ v = 0 := fun h0 => h1 (by rw [h0]; rfl)
    rw [decide_eq_false hv]; exact isNought_h Wd (eq_f h1)

set_option maxRecDepth 100000 in
set_option maxHeartbeats 1000000 in
theorem top_l {h l E B : Int} {n m : Bool} (W : World) (HL : Ct 54 #[.agg #[.int .u64 h, .int .u64 l]] (.int .i64 B))
    (k1 : IntKind.i64.wrap (E + B) = E + B) (k2 : IntKind.i64.wrap (E + B - 1) = E + B - 1) :
    Calls Tryd.prog 51 #[.agg #[.bool n, .int .u64 h, .int .u64 l, .int .i64 E, .bool m]] W fun r W' => r = .returned (.int .i64 (E + B - 1)) ∧ Below W.heap.size W W' := by
  go_enter Tryd.func51, Tryd.ntmps51
  go_wp2_with fail
  refine wp_region_held_drew (S := fun w' => w'.cell? ⟨W.heap.size, 0, none⟩ = some (.bool n) ∧ w'.cell? ⟨W.heap.size, 1, none⟩ = some (.int .u64 h) ∧ w'.cell? ⟨W.heap.size, 2, none⟩ = some (.int .u64 l) ∧ w'.cell? ⟨W.heap.size, 3, none⟩ = some (.int .i64 E) ∧ w'.cell? ⟨W.heap.size, 4, none⟩ = some (.bool m)) (by kernel_rfl) ?_ (fun hHeld => ?_)
  · (try dsimp only)
    simp [go_sem]
  refine lst0 8 (by kernel_rfl) ?_
  refine tkA 0 3 1 ?_
  refine tkA 1 4 3 ?_
  refine tkA 2 5 7 ?_
  refine tkA 3 6 15 ?_
  refine rdA 4 31 (fun Kk hKk => ?_)
  go_simp
  refine (unhide HL _).mono ?_
  rintro _ w1 ⟨rfl, hbl⟩
  have HB := hide (bthen (below1 _ _).drew hbl)
  (try go_wp2_with fail)
  refine hKk.out _ _ ?_ (fun hHeld => ?_)
  · (try dsimp only)
    exact At5.below hHeld hbl
  clear hKk Kk
  (try simp only [List.setIfInBounds_toArray, List.set_cons_zero, List.set_cons_succ])
  refine tkA 5 8 63 ?_
  refine tkA 6 9 127 ?_
  refine tkA 7 2 255 ?_
  refine wpAnyH_done (by kernel_rfl) ?_ _
  go_wp2
  go_ret
  exact ⟨rfl, unhide HB⟩

set_option maxRecDepth 100000 in
set_option maxHeartbeats 1000000 in
theorem halves_gt {h l E U h' l' : Int} {n m : Bool} (W : World) (HR : Ct 40 #[.agg #[.int .u64 h, .int .u64 l], .int .i64 (U - E - 1)] (.tuple #[.agg #[.int .u64 h', .int .u64 l'], .bool true]))
    (g : E < U) (k1 : IntKind.i64.wrap (U - E) = U - E) (k2 : IntKind.i64.wrap (U - E - 1) = U - E - 1) :
    Calls Tryd.prog 52 #[.agg #[.bool n, .int .u64 h, .int .u64 l, .int .i64 E, .bool m], .int .i64 U] W fun r W' => r = .returned (.tuple #[.int .u64 l', .bool true]) ∧ Below W.heap.size W W' := by
  go_enter Tryd.func52, Tryd.ntmps52
  go_wp2_with fail
  refine (unhide HR _).mono ?_
  rintro _ w1 ⟨rfl, hb⟩
  have HA := hide (((at5_new W _ _ _ _ _ 74).below hb).below ((below1 _ (.cells #[.int .u64 h', .int .u64 l'] 45)).drew))
  have HB := hide ((balloc (bthen (below1 _ _) hb) (.cells #[.int .u64 h', .int .u64 l'] 45)).drew)
  have HZ : Hid (W.heap.size < w1.heap.size) := by have := hb.size; simp at this; unfold Hid; omega
  clear hb
  obtain ⟨a0, a1, a2, a3, a4⟩ := unhide HA
  clear HA
  go_wp2_with fail
  refine wp_region_held_drew (S := fun w' => (w'.cell? ⟨W.heap.size, 0, none⟩ = some (.bool n) ∧ w'.cell? ⟨W.heap.size, 1, none⟩ = some (.int .u64 h) ∧ w'.cell? ⟨W.heap.size, 2, none⟩ = some (.int .u64 l) ∧ w'.cell? ⟨W.heap.size, 3, none⟩ = some (.int .i64 E) ∧ w'.cell? ⟨W.heap.size, 4, none⟩ = some (.bool m)) ∧ (w'.cell? ⟨w1.heap.size, 0, none⟩ = some (.int .u64 h') ∧ w'.cell? ⟨w1.heap.size, 1, none⟩ = some (.int .u64 l'))) (by kernel_rfl) ?_ (fun hHeld => ?_)
  · (try dsimp only)
    exact ⟨⟨a0, a1, a2, a3, a4⟩, by simp [go_sem], by simp [go_sem]⟩
  refine lst0 9 (by kernel_rfl) ?_
  refine tkA 0 24 1 ?_
  refine tkA 1 25 3 ?_
  refine tkA 2 26 7 ?_
  refine tkA 3 27 15 ?_
  refine tkU 4 28 31 ?_
  refine tkU 5 29 63 ?_
  refine tkA 6 30 127 ?_
  refine tkA 7 4 255 ?_
  refine tkA 8 5 511 ?_
  refine wpAnyH_done (by kernel_rfl) ?_ _
  go_wp2
  exact bodyPost_ret (v := .tuple #[.int .u64 l', .bool true]) (by simp [results, Tryd.results52, go_sem]) rfl ⟨rfl, unhide HB⟩

set_option maxRecDepth 100000 in
set_option maxHeartbeats 1000000 in
theorem halves_gf {h l E U h' l' : Int} {n m : Bool} (W : World) (HR : Ct 40 #[.agg #[.int .u64 h, .int .u64 l], .int .i64 (U - E - 1)] (.tuple #[.agg #[.int .u64 h', .int .u64 l'], .bool false]))
    (g : E < U) (k1 : IntKind.i64.wrap (U - E) = U - E) (k2 : IntKind.i64.wrap (U - E - 1) = U - E - 1) :
    Calls Tryd.prog 52 #[.agg #[.bool n, .int .u64 h, .int .u64 l, .int .i64 E, .bool m], .int .i64 U] W fun r W' => r = .returned (.tuple #[.int .u64 l', .bool m]) ∧ Below W.heap.size W W' := by
  go_enter Tryd.func52, Tryd.ntmps52
  go_wp2_with fail
  refine (unhide HR _).mono ?_
  rintro _ w1 ⟨rfl, hb⟩
  have HA := hide (((at5_new W _ _ _ _ _ 74).below hb).below ((below1 _ (.cells #[.int .u64 h', .int .u64 l'] 45)).drew))
  have HB := hide ((balloc (bthen (below1 _ _) hb) (.cells #[.int .u64 h', .int .u64 l'] 45)).drew)
  have HZ : Hid (W.heap.size < w1.heap.size) := by have := hb.size; simp at this; unfold Hid; omega
  clear hb
  obtain ⟨a0, a1, a2, a3, a4⟩ := unhide HA
  clear HA
  go_wp2_with fail
  refine wp_region_held_drew (S := fun w' => (w'.cell? ⟨W.heap.size, 0, none⟩ = some (.bool n) ∧ w'.cell? ⟨W.heap.size, 1, none⟩ = some (.int .u64 h) ∧ w'.cell? ⟨W.heap.size, 2, none⟩ = some (.int .u64 l) ∧ w'.cell? ⟨W.heap.size, 3, none⟩ = some (.int .i64 E) ∧ w'.cell? ⟨W.heap.size, 4, none⟩ = some (.bool m)) ∧ (w'.cell? ⟨w1.heap.size, 0, none⟩ = some (.int .u64 h') ∧ w'.cell? ⟨w1.heap.size, 1, none⟩ = some (.int .u64 l'))) (by kernel_rfl) ?_ (fun hHeld => ?_)
  · (try dsimp only)
    exact ⟨⟨a0, a1, a2, a3, a4⟩, by simp [go_sem], by simp [go_sem]⟩
  refine lst0 9 (by kernel_rfl) ?_
  refine tkA 0 24 1 ?_
  refine tkA 1 25 3 ?_
  refine tkA 2 26 7 ?_
  refine tkA 3 27 15 ?_
  refine tkA 4 28 31 ?_
  refine tkA 5 29 63 ?_
  refine tkA 6 30 127 ?_
  refine tkA 7 4 255 ?_
  refine tkA 8 5 511 ?_
  refine wpAnyH_done (by kernel_rfl) ?_ _
  go_wp2
  exact bodyPost_ret (v := .tuple #[.int .u64 l', .bool m]) (by simp [results, Tryd.results52, go_sem]) rfl ⟨rfl, unhide HB⟩

set_option maxRecDepth 100000 in
set_option maxHeartbeats 1000000 in
theorem halves_lt {h l E U h1 l1 h2 l2 : Int} {n : Bool} (W : World) (H1 : Ct 39 #[.agg #[.int .u64 h, .int .u64 l], .int .i64 1] (.agg #[.int .u64 h1, .int .u64 l1]))
    (H2 : Ct 39 #[.agg #[.int .u64 h1, .int .u64 (l1 + 1)], .int .i64 (E - U)] (.agg #[.int .u64 h2, .int .u64 l2]))
    (g : ¬ E < U) (k1 : IntKind.i64.wrap (E - U) = E - U) (ko : bits .or .u64 l1 1 = l1 + 1) :
    Calls Tryd.prog 52 #[.agg #[.bool n, .int .u64 h, .int .u64 l, .int .i64 E, .bool true], .int .i64 U] W fun r W' => r = .returned (.tuple #[.int .u64 l2, .bool false]) ∧ Below W.heap.size W W' := by
  go_enter Tryd.func52, Tryd.ntmps52
  go_wp2_with fail
  refine (unhide H1 _).mono ?_
  rintro _ w1 ⟨rfl, hb⟩
  have HA := hide ((at5_new W _ _ _ _ _ 74).below hb)
  have HB := hide (balloc (bthen (below1 _ _) hb) (.cells #[.int .u64 h1, .int .u64 (l1 + 1)] 45))
  have hz : W.heap.size < w1.heap.size := by have := hb.size; simp at this; omega
  have hne : ¬ W.heap.size = w1.heap.size := by omega
  clear hb
  obtain ⟨a0, a1, a2, a3, a4⟩ := unhide HA
  clear HA
  go_wp2_with fail
  refine (unhide H2 _).mono ?_
  rintro _ w2 ⟨rfl, hb2⟩
  have HB := hide (bthen (unhide HB) hb2)
  clear hb2
  have ff : ∀ w : World, (Instr.field 45 (.agg #[.int .u64 h2, .int .u64 l2]) 1).run Tryd.prog w = .ok (.int .u64 l2) w := fun _ => by kernel_rfl
  go_wp2_with fail
  go_ret2
  exact ⟨rfl, unhide HB⟩
set_option maxRecDepth 100000 in
set_option maxHeartbeats 1000000 in
theorem halves_lf {h l E U h1 l1 h2 l2 : Int} {n : Bool} (W : World) (H1 : Ct 39 #[.agg #[.int .u64 h, .int .u64 l], .int .i64 1] (.agg #[.int .u64 h1, .int .u64 l1]))
    (H2 : Ct 39 #[.agg #[.int .u64 h1, .int .u64 l1], .int .i64 (E - U)] (.agg #[.int .u64 h2, .int .u64 l2]))
    (g : ¬ E < U) (k1 : IntKind.i64.wrap (E - U) = E - U) :
    Calls Tryd.prog 52 #[.agg #[.bool n, .int .u64 h, .int .u64 l, .int .i64 E, .bool false], .int .i64 U] W fun r W' => r = .returned (.tuple #[.int .u64 l2, .bool false]) ∧ Below W.heap.size W W' := by
  go_enter Tryd.func52, Tryd.ntmps52
  go_wp2_with fail
  refine (unhide H1 _).mono ?_
  rintro _ w1 ⟨rfl, hb⟩
  have HA := hide ((at5_new W _ _ _ _ _ 74).below hb)
  have HB := hide (balloc (bthen (below1 _ _) hb) (.cells #[.int .u64 h1, .int .u64 l1] 45))
  have hz : W.heap.size < w1.heap.size := by have := hb.size; simp at this; omega
  have hne : ¬ W.heap.size = w1.heap.size := by omega
  clear hb
  obtain ⟨a0, a1, a2, a3, a4⟩ := unhide HA
  clear HA
  go_wp2_with fail
  refine (unhide H2 _).mono ?_
  rintro _ w2 ⟨rfl, hb2⟩
  have HB := hide (bthen (unhide HB) hb2)
  clear hb2
  have ff : ∀ w : World, (Instr.field 45 (.agg #[.int .u64 h2, .int .u64 l2]) 1).run Tryd.prog w = .ok (.int .u64 l2) w := fun _ => by kernel_rfl
  go_wp2_with fail
  go_ret2
  exact ⟨rfl, unhide HB⟩

end Go.Proofs.YtmbkpmcmhmldgaaDoor
namespace Go.Proofs.YtmbkpmcmhmldgaaDoor
open Go.RowKit

/-- A block of nine values. -/
def At9 (b : Nat) (x0 x1 x2 x3 x4 x5 x6 x7 x8 : Value) (w : World) : Prop :=
  w.cell? ⟨b, 0, none⟩ = some x0 ∧ w.cell? ⟨b, 1, none⟩ = some x1 ∧ w.cell? ⟨b, 2, none⟩ = some x2 ∧ w.cell? ⟨b, 3, none⟩ = some x3 ∧ w.cell? ⟨b, 4, none⟩ = some x4 ∧
  w.cell? ⟨b, 5, none⟩ = some x5 ∧ w.cell? ⟨b, 6, none⟩ = some x6 ∧ w.cell? ⟨b, 7, none⟩ = some x7 ∧ w.cell? ⟨b, 8, none⟩ = some x8
theorem At9.below {b : Nat} {x0 x1 x2 x3 x4 x5 x6 x7 x8 : Value} {w w' : World} (h : At9 b x0 x1 x2 x3 x4 x5 x6 x7 x8 w) (hb : Below w.heap.size w w') : At9 b x0 x1 x2 x3 x4 x5 x6 x7 x8 w' :=
  have hz := lt_of_cell h.1
  ⟨keep1 hb hz h.1, keep1 hb hz h.2.1, keep1 hb hz h.2.2.1, keep1 hb hz h.2.2.2.1, keep1 hb hz h.2.2.2.2.1, keep1 hb hz h.2.2.2.2.2.1, keep1 hb hz h.2.2.2.2.2.2.1, keep1 hb hz h.2.2.2.2.2.2.2.1, keep1 hb hz h.2.2.2.2.2.2.2.2⟩
theorem at9_new (w : World) (x0 x1 x2 x3 x4 x5 x6 x7 x8 : Value) (t : TypeId) : At9 w.heap.size x0 x1 x2 x3 x4 x5 x6 x7 x8 (w.alloc (.cells #[x0, x1, x2, x3, x4, x5, x6, x7, x8] t)) := by unfold At9; simp [go_sem]

set_option maxRecDepth 100000 in
set_option maxHeartbeats 2000000 in
theorem float_sz {h l E w f L M S U D V : Int} {n m : Bool} (W : World) (g0 : 0 ≤ f) (g1 : f ≤ 63) (kd : S / 2 ^ f.toNat = D) (d : ¬ 1 < D)
    (z : (S == 0) = true) (HC : Ct 50 #[.int .i64 w, .bool n] (.int .u64 V)) :
    Calls Tryd.prog 53 #[.agg #[.bool n, .int .u64 h, .int .u64 l, .int .i64 E, .bool m, .int .i64 w, .int .i64 f, .int .i64 L, .int .i64 M], .int .u64 S, .int .i64 U] W fun r W' => r = .returned (.int .u64 V) ∧ Below W.heap.size W W' := by
  go_enter Tryd.func53, Tryd.ntmps53
  go_wp2_with fail
  refine (unhide HC _).mono ?_
  rintro _ w1 ⟨rfl, hb⟩
  have HB := hide (bthen (below1 _ _) hb)
  clear hb
  go_wp2_with fail
  go_ret
  exact ⟨rfl, unhide HB⟩
set_option maxRecDepth 100000 in
set_option maxHeartbeats 2000000 in
theorem float_si {h l E w f L M S U D V : Int} {n m : Bool} (W : World) (g0 : 0 ≤ f) (g1 : f ≤ 63) (kd : S / 2 ^ f.toNat = D) (d : ¬ 1 < D)
    (z : (S == 0) = false) (g : decide (M < U) = true) (HC : Ct 55 #[.int .i64 w, .bool n] (.int .u64 V)) :
    Calls Tryd.prog 53 #[.agg #[.bool n, .int .u64 h, .int .u64 l, .int .i64 E, .bool m, .int .i64 w, .int .i64 f, .int .i64 L, .int .i64 M], .int .u64 S, .int .i64 U] W fun r W' => r = .returned (.int .u64 V) ∧ Below W.heap.size W W' := by
  go_enter Tryd.func53, Tryd.ntmps53
  go_wp2_with fail
  refine (unhide HC _).mono ?_
  rintro _ w1 ⟨rfl, hb⟩
  have HB := hide (bthen (below1 _ _) hb)
  clear hb
  go_wp2_with fail
  go_ret
  exact ⟨rfl, unhide HB⟩
set_option maxRecDepth 100000 in
set_option maxHeartbeats 2000000 in
theorem float_sc {h l E w f L M S U D V c : Int} {n m : Bool} (W : World) (g0 : 0 ≤ f) (g1 : f ≤ 63) (kd : S / 2 ^ f.toNat = D) (d : ¬ 1 < D)
    (z : (S == 0) = false) (g : decide (M < U) = false) (HC : Ct 56 #[.int .i64 w, .agg #[.bool n, .int .i64 1, .int .i64 U, .int .u64 S]] (.tuple #[.int .u64 V, .int .i64 c])) :
    Calls Tryd.prog 53 #[.agg #[.bool n, .int .u64 h, .int .u64 l, .int .i64 E, .bool m, .int .i64 w, .int .i64 f, .int .i64 L, .int .i64 M], .int .u64 S, .int .i64 U] W fun r W' => r = .returned (.int .u64 V) ∧ Below W.heap.size W W' := by
  go_enter Tryd.func53, Tryd.ntmps53
  go_wp2_with fail
  refine (unhide HC _).mono ?_
  rintro _ w1 ⟨rfl, hb⟩
  have HB := hide (bthen (below1 _ _) hb)
  clear hb
  go_wp2_with fail
  go_ret
  exact ⟨rfl, unhide HB⟩
set_option maxRecDepth 100000 in
set_option maxHeartbeats 2000000 in
theorem float_bi {h l E w f L M S U D V S2 : Int} {n m : Bool} (W : World) (g0 : 0 ≤ f) (g1 : f ≤ 63) (kd : S / 2 ^ f.toNat = D) (d : 1 < D) (k2 : S / 2 = S2) (ku : IntKind.i64.wrap (U + 1) = U + 1)
    (z : (S2 == 0) = false) (g : decide (M < (U + 1)) = true) (HC : Ct 55 #[.int .i64 w, .bool n] (.int .u64 V)) :
    Calls Tryd.prog 53 #[.agg #[.bool n, .int .u64 h, .int .u64 l, .int .i64 E, .bool m, .int .i64 w, .int .i64 f, .int .i64 L, .int .i64 M], .int .u64 S, .int .i64 U] W fun r W' => r = .returned (.int .u64 V) ∧ Below W.heap.size W W' := by
  go_enter Tryd.func53, Tryd.ntmps53
  go_wp2_with fail
  refine (unhide HC _).mono ?_
  rintro _ w1 ⟨rfl, hb⟩
  have HB := hide (bthen (below1 _ _) hb)
  clear hb
  go_wp2_with fail
  go_ret
  exact ⟨rfl, unhide HB⟩
set_option maxRecDepth 100000 in
set_option maxHeartbeats 2000000 in
theorem float_bc {h l E w f L M S U D V S2 c : Int} {n m : Bool} (W : World) (g0 : 0 ≤ f) (g1 : f ≤ 63) (kd : S / 2 ^ f.toNat = D) (d : 1 < D) (k2 : S / 2 = S2) (ku : IntKind.i64.wrap (U + 1) = U + 1)
    (z : (S2 == 0) = false) (g : decide (M < (U + 1)) = false) (HC : Ct 56 #[.int .i64 w, .agg #[.bool n, .int .i64 1, .int .i64 (U + 1), .int .u64 S2]] (.tuple #[.int .u64 V, .int .i64 c])) :
    Calls Tryd.prog 53 #[.agg #[.bool n, .int .u64 h, .int .u64 l, .int .i64 E, .bool m, .int .i64 w, .int .i64 f, .int .i64 L, .int .i64 M], .int .u64 S, .int .i64 U] W fun r W' => r = .returned (.int .u64 V) ∧ Below W.heap.size W W' := by
  go_enter Tryd.func53, Tryd.ntmps53
  go_wp2_with fail
  refine (unhide HC _).mono ?_
  rintro _ w1 ⟨rfl, hb⟩
  have HB := hide (bthen (below1 _ _) hb)
  clear hb
  go_wp2_with fail
  go_ret
  exact ⟨rfl, unhide HB⟩

end Go.Proofs.YtmbkpmcmhmldgaaDoor
