/- Near, LawO. -/
import Derived.Test.YtmbkpmcmhmldgaaO01
import Derived.Laws.MathBits
namespace Go.Proofs.Ytmbkpmcmhmldgaa

/-- a by b to the nearest whole number, ties to even. -/
def near (a b : Nat) : Nat := if b < 2 * (a % b) ∨ (2 * (a % b) = b ∧ a / b % 2 = 1) then a / b + 1 else a / b

theorem near_scale (a b c : Nat) (hc : 0 < c) : near (a * c) (b * c) = near a b := by
  unfold near
  rw [Nat.mul_mod_mul_right, Nat.mul_div_mul_right _ _ hc]
  have e1 : (b * c < 2 * (a % b * c)) = (b < 2 * (a % b)) := by
    rw [← Nat.mul_assoc]
    exact propext (Nat.mul_lt_mul_right hc)
  have e2 : (2 * (a % b * c) = b * c) = (2 * (a % b) = b) := by
    rw [← Nat.mul_assoc]
    exact propext (Nat.mul_right_cancel_iff hc)
  simp only [e1, e2]
theorem near_ge {a b k : Nat} (hb : 0 < b) (h : k * b ≤ a) : k ≤ near a b := by
  have := (Nat.le_div_iff_mul_le hb).2 h
  unfold near
  split <;> omega
theorem near_le {a b k : Nat} (hb : 0 < b) (h : a ≤ k * b) : near a b ≤ k := by
  unfold near
  have h1 : a / b ≤ k := Nat.div_le_of_le_mul (by rw [Nat.mul_comm]; exact h)
  split
  · rename_i hc
    refine Decidable.byContradiction fun hn => ?_
    have he : a / b = k := by omega
    have h2 := Nat.div_add_mod a b
    rw [he, Nat.mul_comm b k] at h2
    omega
  · exact h1
theorem near_mono {a c b : Nat} (h : a ≤ c) : near a b ≤ near c b := by
  have h1 : a / b ≤ c / b := Nat.div_le_div_right h
  by_cases he : a / b = c / b
  · have ha := Nat.div_add_mod a b
    have hc := Nat.div_add_mod c b
    rw [← he] at hc
    have hr : a % b ≤ c % b := by omega
    unfold near
    rw [← he]
    split
    · rw [if_pos (by omega)]
      omega
    · split <;> omega
  · unfold near
    split <;> split <;> omega
theorem near_one (a : Nat) : near a 1 = a := by
  unfold near
  rw [Nat.mod_one, if_neg (by omega), Nat.div_one]
theorem near_zero (b : Nat) : near 0 b = 0 := by
  unfold near
  rw [Nat.zero_mod, Nat.zero_div, if_neg (by omega)]
theorem near_mul (a b : Nat) (hb : 0 < b) : near (a * b) b = a := by
  have := near_scale a 1 b hb
  rw [Nat.one_mul, near_one] at this
  exact this

theorem bl_lt {x k : Nat} (h : Go.bitLen x ≤ k) : x < 2 ^ k := Nat.lt_of_lt_of_le (Go.bitLen_spec x).1 (Nat.pow_le_pow_right (by omega) h)
theorem bl_ge {x k : Nat} (h : k < Go.bitLen x) : 2 ^ k ≤ x := by
  have hx : x ≠ 0 := fun h0 => by rw [h0] at h; exact absurd h (by rw [show Go.bitLen 0 = 0 from rfl]; omega)
  exact Nat.le_trans (Nat.pow_le_pow_right (by omega) (by omega)) ((Go.bitLen_spec x).2 hx)
theorem bl_mono {x y : Nat} (h : x ≤ y) : Go.bitLen x ≤ Go.bitLen y := by
  refine Decidable.byContradiction fun hn => ?_
  have h1 := bl_ge (x := x) (k := Go.bitLen y) (by omega)
  have h2 := (Go.bitLen_spec y).1
  omega
theorem bl_shl (x k : Nat) (h : x ≠ 0) : Go.bitLen (x * 2 ^ k) = k + Go.bitLen x := by
  have h1 := Nat.mul_div_cancel x (Nat.two_pow_pos k)
  rw [Go.bitLen_shift (x * 2 ^ k) k (by rw [h1]; exact h), h1]
/-- The place of the last bit of the float that is nearest to X. -/
def unitOf (f L X : Nat) : Nat := max (Go.bitLen X - (f + 1)) L
/-- That float's number among the floats. -/
def code (f L X : Nat) : Nat := (unitOf f L X - L) * 2 ^ f + near X (2 ^ unitOf f L X)

theorem unit_le (f L X : Nat) : L ≤ unitOf f L X := by unfold unitOf; omega
theorem unit_up (f L X : Nat) : near X (2 ^ unitOf f L X) ≤ 2 * 2 ^ f := by
  refine near_le (Nat.two_pow_pos _) ?_
  rw [show 2 * 2 ^ f = 2 ^ (f + 1) by rw [Nat.pow_succ]; omega, ← Nat.pow_add]
  exact Nat.le_of_lt (bl_lt (by unfold unitOf; omega))
theorem unit_dn {f L X : Nat} (h : L < unitOf f L X) : 2 ^ f ≤ near X (2 ^ unitOf f L X) := by
  refine near_ge (Nat.two_pow_pos _) ?_
  rw [← Nat.pow_add]
  exact bl_ge (by unfold unitOf at h ⊢; omega)

theorem code_mono (f L : Nat) {X Y : Nat} (h : X ≤ Y) : code f L X ≤ code f L Y := by
  have hu : unitOf f L X ≤ unitOf f L Y := by have := bl_mono h; unfold unitOf; omega
  unfold code
  by_cases he : unitOf f L X = unitOf f L Y
  · rw [he]
    exact Nat.add_le_add_left (near_mono h) _
  · have h1 := unit_up f L X
    have h2 := unit_dn (f := f) (L := L) (X := Y) (by have := unit_le f L X; omega)
    have h3 := unit_le f L X
    generalize unitOf f L X = u at *
    generalize unitOf f L Y = v at *
    generalize near X (2 ^ u) = s at *
    generalize near Y (2 ^ v) = t at *
    have h4 : (u - L + 1) * 2 ^ f ≤ (v - L) * 2 ^ f := Nat.mul_le_mul_right _ (by omega)
    rw [Nat.add_mul, Nat.one_mul] at h4
    omega
theorem code_zero (f L : Nat) : code f L 0 = 0 := by
  have : unitOf f L 0 = L := by unfold unitOf; rw [show Go.bitLen 0 = 0 from rfl]; omega
  unfold code
  rw [near_zero, this, Nat.sub_self, Nat.zero_mul]
/-- A number that has no more bits than a float is its own. -/
theorem code_exact (f L s k : Nat) (h1 : s < 2 ^ (f + 1)) (hk : L ≤ k) (h2 : L < k → 2 ^ f ≤ s) : code f L (s * 2 ^ k) = (k - L) * 2 ^ f + s := by
  by_cases hs : s = 0
  · subst hs
    have hL : ¬ L < k := fun h => by have := h2 h; have := Nat.two_pow_pos f; omega
    rw [Nat.zero_mul, code_zero f L, show k - L = 0 by omega, Nat.zero_mul]
  have hb1 : Go.bitLen s ≤ f + 1 := by
    refine Decidable.byContradiction fun hn => ?_
    have := bl_ge (x := s) (k := f + 1) (by omega)
    omega
  have hu : unitOf f L (s * 2 ^ k) = k := by
    unfold unitOf
    rw [bl_shl s k hs]
    by_cases hL : L < k
    · have h3 := h2 hL
      have : f < Go.bitLen s := Decidable.byContradiction fun hn => by
        have := bl_lt (x := s) (k := f) (by omega)
        omega
      omega
    · omega
  unfold code
  rw [hu, near_mul _ _ (Nat.two_pow_pos k)]

end Go.Proofs.Ytmbkpmcmhmldgaa
namespace Go.Proofs.Ytmbkpmcmhmldgaa
open Go.RowKit

set_option maxHeartbeats 4000000 in
set_option maxRecDepth 100000 in
theorem order_nw {w k x y : Int} {s : Bool} (W : World) (HA0 : Ct 5 #[] (.bool true)) (HW : Ct 9 #[.int .i64 w] (.bool false)) :
    Calls Try.prog 4 #[.agg #[.int .i64 w, .int .i64 k, .bool s], .int .u64 x, .int .u64 y] W fun r W' => r = .returned (.bool true) ∧ Below W.heap.size W W' := by
  go_enter Try.func4, Try.ntmps4
  go_wp2_with fail
  have HB := hide (below1 W (.cells #[.int .i64 w, .int .i64 k, .bool s] 23))
  have HA := hide (at3_new W (.int .i64 w) (.int .i64 k) (.bool s) 23)
  refine (unhide HA0 _).mono ?_
  rintro _ w1 ⟨rfl, hb⟩
  have HB := hide (bthen (unhide HB) hb)
  have HA := hide ((unhide HA).below hb)
  clear hb
  obtain ⟨c0, c1, c2⟩ := unhide HA
  go_wp2_with fail
  clear c0 c1 c2
  refine (unhide HW _).mono ?_
  rintro _ w2 ⟨rfl, hb⟩
  have HB := hide (bthen (unhide HB) hb)
  have HA := hide ((unhide HA).below hb)
  clear hb
  obtain ⟨c0, c1, c2⟩ := unhide HA
  go_wp2_with fail
  clear c0 c1 c2
  go_ret
  exact ⟨rfl, unhide HB⟩
set_option maxHeartbeats 4000000 in
set_option maxRecDepth 100000 in
theorem order_nk {w k x y : Int} {s : Bool} (W : World) (HA0 : Ct 5 #[] (.bool true)) (HW : Ct 9 #[.int .i64 w] (.bool true)) (HK : Ct 9 #[.int .i64 k] (.bool false)) :
    Calls Try.prog 4 #[.agg #[.int .i64 w, .int .i64 k, .bool s], .int .u64 x, .int .u64 y] W fun r W' => r = .returned (.bool true) ∧ Below W.heap.size W W' := by
  go_enter Try.func4, Try.ntmps4
  go_wp2_with fail
  have HB := hide (below1 W (.cells #[.int .i64 w, .int .i64 k, .bool s] 23))
  have HA := hide (at3_new W (.int .i64 w) (.int .i64 k) (.bool s) 23)
  refine (unhide HA0 _).mono ?_
  rintro _ w1 ⟨rfl, hb⟩
  have HB := hide (bthen (unhide HB) hb)
  have HA := hide ((unhide HA).below hb)
  clear hb
  obtain ⟨c0, c1, c2⟩ := unhide HA
  go_wp2_with fail
  clear c0 c1 c2
  refine (unhide HW _).mono ?_
  rintro _ w2 ⟨rfl, hb⟩
  have HB := hide (bthen (unhide HB) hb)
  have HA := hide ((unhide HA).below hb)
  clear hb
  obtain ⟨c0, c1, c2⟩ := unhide HA
  go_wp2_with fail
  clear c0 c1 c2
  refine (unhide HK _).mono ?_
  rintro _ w3 ⟨rfl, hb⟩
  have HB := hide (bthen (unhide HB) hb)
  have HA := hide ((unhide HA).below hb)
  clear hb
  obtain ⟨c0, c1, c2⟩ := unhide HA
  go_wp2_with fail
  clear c0 c1 c2
  go_ret
  exact ⟨rfl, unhide HB⟩
set_option maxHeartbeats 4000000 in
set_option maxRecDepth 100000 in
theorem order_gt {w k x y c : Int} {s : Bool} (W : World) (HA0 : Ct 5 #[] (.bool true)) (HW : Ct 9 #[.int .i64 w] (.bool true)) (HK : Ct 9 #[.int .i64 k] (.bool true)) (HC : Ct 13 #[.int .i64 w, .int .u64 x, .int .u64 y] (.int .i64 c)) (g : decide (0 < c) = true) :
    Calls Try.prog 4 #[.agg #[.int .i64 w, .int .i64 k, .bool s], .int .u64 x, .int .u64 y] W fun r W' => r = .returned (.bool true) ∧ Below W.heap.size W W' := by
  go_enter Try.func4, Try.ntmps4
  go_wp2_with fail
  have HB := hide (below1 W (.cells #[.int .i64 w, .int .i64 k, .bool s] 23))
  have HA := hide (at3_new W (.int .i64 w) (.int .i64 k) (.bool s) 23)
  refine (unhide HA0 _).mono ?_
  rintro _ w1 ⟨rfl, hb⟩
  have HB := hide (bthen (unhide HB) hb)
  have HA := hide ((unhide HA).below hb)
  clear hb
  obtain ⟨c0, c1, c2⟩ := unhide HA
  go_wp2_with fail
  clear c0 c1 c2
  refine (unhide HW _).mono ?_
  rintro _ w2 ⟨rfl, hb⟩
  have HB := hide (bthen (unhide HB) hb)
  have HA := hide ((unhide HA).below hb)
  clear hb
  obtain ⟨c0, c1, c2⟩ := unhide HA
  go_wp2_with fail
  clear c0 c1 c2
  refine (unhide HK _).mono ?_
  rintro _ w3 ⟨rfl, hb⟩
  have HB := hide (bthen (unhide HB) hb)
  have HA := hide ((unhide HA).below hb)
  clear hb
  obtain ⟨c0, c1, c2⟩ := unhide HA
  go_wp2_with fail
  clear c0 c1 c2
  refine (unhide HC _).mono ?_
  rintro _ w4 ⟨rfl, hb⟩
  have HB := hide (bthen (unhide HB) hb)
  have HA := hide ((unhide HA).below hb)
  clear hb
  obtain ⟨c0, c1, c2⟩ := unhide HA
  go_wp2_with fail
  clear c0 c1 c2
  go_ret
  exact ⟨rfl, unhide HB⟩
set_option maxHeartbeats 4000000 in
set_option maxRecDepth 100000 in
theorem order_f {w k x y c m n : Int} (W : World) (HA0 : Ct 5 #[] (.bool true)) (HW : Ct 9 #[.int .i64 w] (.bool true)) (HK : Ct 9 #[.int .i64 k] (.bool true)) (HC : Ct 13 #[.int .i64 w, .int .u64 x, .int .u64 y] (.int .i64 c)) (g : decide (0 < c) = false) (H1 : Ct 7 #[.int .i64 w, .int .i64 k, .int .u64 x, .bool false] (.int .u64 m)) (H2 : Ct 7 #[.int .i64 w, .int .i64 k, .int .u64 y, .bool false] (.int .u64 n)) (h : m ≤ n) :
    Calls Try.prog 4 #[.agg #[.int .i64 w, .int .i64 k, .bool false], .int .u64 x, .int .u64 y] W fun r W' => r = .returned (.bool true) ∧ Below W.heap.size W W' := by
  go_enter Try.func4, Try.ntmps4
  go_wp2_with fail
  have HB := hide (below1 W (.cells #[.int .i64 w, .int .i64 k, .bool false] 23))
  have HA := hide (at3_new W (.int .i64 w) (.int .i64 k) (.bool false) 23)
  refine (unhide HA0 _).mono ?_
  rintro _ w1 ⟨rfl, hb⟩
  have HB := hide (bthen (unhide HB) hb)
  have HA := hide ((unhide HA).below hb)
  clear hb
  obtain ⟨c0, c1, c2⟩ := unhide HA
  go_wp2_with fail
  clear c0 c1 c2
  refine (unhide HW _).mono ?_
  rintro _ w2 ⟨rfl, hb⟩
  have HB := hide (bthen (unhide HB) hb)
  have HA := hide ((unhide HA).below hb)
  clear hb
  obtain ⟨c0, c1, c2⟩ := unhide HA
  go_wp2_with fail
  clear c0 c1 c2
  refine (unhide HK _).mono ?_
  rintro _ w3 ⟨rfl, hb⟩
  have HB := hide (bthen (unhide HB) hb)
  have HA := hide ((unhide HA).below hb)
  clear hb
  obtain ⟨c0, c1, c2⟩ := unhide HA
  go_wp2_with fail
  clear c0 c1 c2
  refine (unhide HC _).mono ?_
  rintro _ w4 ⟨rfl, hb⟩
  have HB := hide (bthen (unhide HB) hb)
  have HA := hide ((unhide HA).below hb)
  clear hb
  obtain ⟨c0, c1, c2⟩ := unhide HA
  go_wp2_with fail
  clear c0 c1 c2
  have HB := hide ((unhide HB).drew)
  have HA := hide ((unhide HA).below ((Below.refl _ _).drew))
  refine wp_region_held_drew (S := fun w' => (w'.cell? ⟨W.heap.size, 0, none⟩ = some (.int .i64 w) ∧ w'.cell? ⟨W.heap.size, 1, none⟩ = some (.int .i64 k) ∧ w'.cell? ⟨W.heap.size, 2, none⟩ = some (.bool false))) (by kernel_rfl) ?_ (fun hHeld => ?_)
  · (try dsimp only)
    exact unhide HA
  refine lst0 18 (by kernel_rfl) ?_
  refine tkA 0 29 1 ?_
  refine tkA 1 30 3 ?_
  refine tkA 2 31 7 ?_
  refine tkA 3 32 15 ?_
  refine tkA 4 33 31 ?_
  refine tkA 5 34 63 ?_
  refine tkA 6 35 127 ?_
  refine tkA 8 37 383 ?_
  refine tkA 9 38 895 ?_
  refine tkA 10 39 1919 ?_
  refine tkA 11 40 3967 ?_
  refine tkA 12 41 8063 ?_
  refine tkA 13 42 16255 ?_
  refine tkA 14 43 32639 ?_
  refine rdA 7 32767 (fun Kk hKk => ?_)
  go_simp
  refine (unhide H1 _).mono ?_
  rintro _ w7 ⟨rfl, hb⟩
  have HB := hide (bthen (unhide HB) hb)
  have HA := hide ((unhide HA).below hb)
  clear hb
  (try go_wp2_with fail)
  refine hKk.out _ _ ?_ (fun hHeld => ?_)
  · (try dsimp only)
    exact unhide HA
  clear hKk Kk
  (try simp only [List.setIfInBounds_toArray, List.set_cons_zero, List.set_cons_succ])
  refine rdA 15 65535 (fun Kk hKk => ?_)
  go_simp
  refine (unhide H2 _).mono ?_
  rintro _ w8 ⟨rfl, hb⟩
  have HB := hide (bthen (unhide HB) hb)
  have HA := hide ((unhide HA).below hb)
  clear hb
  (try go_wp2_with fail)
  refine hKk.out _ _ ?_ (fun hHeld => ?_)
  · (try dsimp only)
    exact unhide HA
  clear hKk Kk
  (try simp only [List.setIfInBounds_toArray, List.set_cons_zero, List.set_cons_succ])
  refine tkA 16 7 131071 ?_
  refine tkA 17 8 262143 ?_
  refine wpAnyH_done (by kernel_rfl) ?_ _
  clear hHeld
  obtain ⟨c0, c1, c2⟩ := unhide HA
  go_wp2_with fail
  go_ret
  exact ⟨by simp, unhide HB⟩
set_option maxHeartbeats 4000000 in
set_option maxRecDepth 100000 in
theorem order_t32 {w x y c m n m1 m2 n1 n2 : Int} (W : World) (HA0 : Ct 5 #[] (.bool true)) (HW : Ct 9 #[.int .i64 w] (.bool true)) (HK : Ct 9 #[.int .i64 32] (.bool true)) (HC : Ct 13 #[.int .i64 w, .int .u64 x, .int .u64 y] (.int .i64 c)) (g : decide (0 < c) = false) (H1 : Ct 7 #[.int .i64 w, .int .i64 32, .int .u64 x, .bool true] (.int .u64 m)) (H2 : Ct 7 #[.int .i64 w, .int .i64 32, .int .u64 y, .bool true] (.int .u64 n)) (h1 : IntKind.u32.wrap m = m1) (h2 : IntKind.i32.wrap m1 = m2) (h3 : IntKind.u32.wrap n = n1) (h4 : IntKind.i32.wrap n1 = n2) (h : m2 ≤ n2) :
    Calls Try.prog 4 #[.agg #[.int .i64 w, .int .i64 32, .bool true], .int .u64 x, .int .u64 y] W fun r W' => r = .returned (.bool true) ∧ Below W.heap.size W W' := by
  go_enter Try.func4, Try.ntmps4
  go_wp2_with fail
  have HB := hide (below1 W (.cells #[.int .i64 w, .int .i64 32, .bool true] 23))
  have HA := hide (at3_new W (.int .i64 w) (.int .i64 32) (.bool true) 23)
  refine (unhide HA0 _).mono ?_
  rintro _ w1 ⟨rfl, hb⟩
  have HB := hide (bthen (unhide HB) hb)
  have HA := hide ((unhide HA).below hb)
  clear hb
  obtain ⟨c0, c1, c2⟩ := unhide HA
  go_wp2_with fail
  clear c0 c1 c2
  refine (unhide HW _).mono ?_
  rintro _ w2 ⟨rfl, hb⟩
  have HB := hide (bthen (unhide HB) hb)
  have HA := hide ((unhide HA).below hb)
  clear hb
  obtain ⟨c0, c1, c2⟩ := unhide HA
  go_wp2_with fail
  clear c0 c1 c2
  refine (unhide HK _).mono ?_
  rintro _ w3 ⟨rfl, hb⟩
  have HB := hide (bthen (unhide HB) hb)
  have HA := hide ((unhide HA).below hb)
  clear hb
  obtain ⟨c0, c1, c2⟩ := unhide HA
  go_wp2_with fail
  clear c0 c1 c2
  refine (unhide HC _).mono ?_
  rintro _ w4 ⟨rfl, hb⟩
  have HB := hide (bthen (unhide HB) hb)
  have HA := hide ((unhide HA).below hb)
  clear hb
  obtain ⟨c0, c1, c2⟩ := unhide HA
  go_wp2_with fail
  clear c0 c1 c2
  have HB := hide ((unhide HB).drew)
  have HA := hide ((unhide HA).below ((Below.refl _ _).drew))
  refine wp_region_held_drew (S := fun w' => (w'.cell? ⟨W.heap.size, 0, none⟩ = some (.int .i64 w) ∧ w'.cell? ⟨W.heap.size, 1, none⟩ = some (.int .i64 32) ∧ w'.cell? ⟨W.heap.size, 2, none⟩ = some (.bool true))) (by kernel_rfl) ?_ (fun hHeld => ?_)
  · (try dsimp only)
    exact unhide HA
  refine lst0 18 (by kernel_rfl) ?_
  refine tkA 0 29 1 ?_
  refine tkA 1 30 3 ?_
  refine tkA 2 31 7 ?_
  refine tkA 3 32 15 ?_
  refine tkA 4 33 31 ?_
  refine tkA 5 34 63 ?_
  refine tkA 6 35 127 ?_
  refine tkA 8 37 383 ?_
  refine tkA 9 38 895 ?_
  refine tkA 10 39 1919 ?_
  refine tkA 11 40 3967 ?_
  refine tkA 12 41 8063 ?_
  refine tkA 13 42 16255 ?_
  refine tkA 14 43 32639 ?_
  refine rdA 7 32767 (fun Kk hKk => ?_)
  go_simp
  refine (unhide H1 _).mono ?_
  rintro _ w7 ⟨rfl, hb⟩
  have HB := hide (bthen (unhide HB) hb)
  have HA := hide ((unhide HA).below hb)
  clear hb
  (try go_wp2_with fail)
  refine hKk.out _ _ ?_ (fun hHeld => ?_)
  · (try dsimp only)
    exact unhide HA
  clear hKk Kk
  (try simp only [List.setIfInBounds_toArray, List.set_cons_zero, List.set_cons_succ])
  refine rdA 15 65535 (fun Kk hKk => ?_)
  go_simp
  refine (unhide H2 _).mono ?_
  rintro _ w8 ⟨rfl, hb⟩
  have HB := hide (bthen (unhide HB) hb)
  have HA := hide ((unhide HA).below hb)
  clear hb
  (try go_wp2_with fail)
  refine hKk.out _ _ ?_ (fun hHeld => ?_)
  · (try dsimp only)
    exact unhide HA
  clear hKk Kk
  (try simp only [List.setIfInBounds_toArray, List.set_cons_zero, List.set_cons_succ])
  refine tkA 16 7 131071 ?_
  refine tkA 17 8 262143 ?_
  refine wpAnyH_done (by kernel_rfl) ?_ _
  clear hHeld
  obtain ⟨c0, c1, c2⟩ := unhide HA
  go_wp2_with fail
  go_ret
  exact ⟨by simp, unhide HB⟩
set_option maxHeartbeats 4000000 in
set_option maxRecDepth 100000 in
theorem order_t64 {w k x y c m n m2 n2 : Int} (W : World) (HA0 : Ct 5 #[] (.bool true)) (HW : Ct 9 #[.int .i64 w] (.bool true)) (HK : Ct 9 #[.int .i64 k] (.bool true)) (HC : Ct 13 #[.int .i64 w, .int .u64 x, .int .u64 y] (.int .i64 c)) (g : decide (0 < c) = false) (H1 : Ct 7 #[.int .i64 w, .int .i64 k, .int .u64 x, .bool true] (.int .u64 m)) (H2 : Ct 7 #[.int .i64 w, .int .i64 k, .int .u64 y, .bool true] (.int .u64 n)) (gk : (k == 32) = false) (h2 : IntKind.i64.wrap m = m2) (h4 : IntKind.i64.wrap n = n2) (h : m2 ≤ n2) :
    Calls Try.prog 4 #[.agg #[.int .i64 w, .int .i64 k, .bool true], .int .u64 x, .int .u64 y] W fun r W' => r = .returned (.bool true) ∧ Below W.heap.size W W' := by
  go_enter Try.func4, Try.ntmps4
  go_wp2_with fail
  have HB := hide (below1 W (.cells #[.int .i64 w, .int .i64 k, .bool true] 23))
  have HA := hide (at3_new W (.int .i64 w) (.int .i64 k) (.bool true) 23)
  refine (unhide HA0 _).mono ?_
  rintro _ w1 ⟨rfl, hb⟩
  have HB := hide (bthen (unhide HB) hb)
  have HA := hide ((unhide HA).below hb)
  clear hb
  obtain ⟨c0, c1, c2⟩ := unhide HA
  go_wp2_with fail
  clear c0 c1 c2
  refine (unhide HW _).mono ?_
  rintro _ w2 ⟨rfl, hb⟩
  have HB := hide (bthen (unhide HB) hb)
  have HA := hide ((unhide HA).below hb)
  clear hb
  obtain ⟨c0, c1, c2⟩ := unhide HA
  go_wp2_with fail
  clear c0 c1 c2
  refine (unhide HK _).mono ?_
  rintro _ w3 ⟨rfl, hb⟩
  have HB := hide (bthen (unhide HB) hb)
  have HA := hide ((unhide HA).below hb)
  clear hb
  obtain ⟨c0, c1, c2⟩ := unhide HA
  go_wp2_with fail
  clear c0 c1 c2
  refine (unhide HC _).mono ?_
  rintro _ w4 ⟨rfl, hb⟩
  have HB := hide (bthen (unhide HB) hb)
  have HA := hide ((unhide HA).below hb)
  clear hb
  obtain ⟨c0, c1, c2⟩ := unhide HA
  go_wp2_with fail
  clear c0 c1 c2
  have HB := hide ((unhide HB).drew)
  have HA := hide ((unhide HA).below ((Below.refl _ _).drew))
  refine wp_region_held_drew (S := fun w' => (w'.cell? ⟨W.heap.size, 0, none⟩ = some (.int .i64 w) ∧ w'.cell? ⟨W.heap.size, 1, none⟩ = some (.int .i64 k) ∧ w'.cell? ⟨W.heap.size, 2, none⟩ = some (.bool true))) (by kernel_rfl) ?_ (fun hHeld => ?_)
  · (try dsimp only)
    exact unhide HA
  refine lst0 18 (by kernel_rfl) ?_
  refine tkA 0 29 1 ?_
  refine tkA 1 30 3 ?_
  refine tkA 2 31 7 ?_
  refine tkA 3 32 15 ?_
  refine tkA 4 33 31 ?_
  refine tkA 5 34 63 ?_
  refine tkA 6 35 127 ?_
  refine tkA 8 37 383 ?_
  refine tkA 9 38 895 ?_
  refine tkA 10 39 1919 ?_
  refine tkA 11 40 3967 ?_
  refine tkA 12 41 8063 ?_
  refine tkA 13 42 16255 ?_
  refine tkA 14 43 32639 ?_
  refine rdA 7 32767 (fun Kk hKk => ?_)
  go_simp
  refine (unhide H1 _).mono ?_
  rintro _ w7 ⟨rfl, hb⟩
  have HB := hide (bthen (unhide HB) hb)
  have HA := hide ((unhide HA).below hb)
  clear hb
  (try go_wp2_with fail)
  refine hKk.out _ _ ?_ (fun hHeld => ?_)
  · (try dsimp only)
    exact unhide HA
  clear hKk Kk
  (try simp only [List.setIfInBounds_toArray, List.set_cons_zero, List.set_cons_succ])
  refine rdA 15 65535 (fun Kk hKk => ?_)
  go_simp
  refine (unhide H2 _).mono ?_
  rintro _ w8 ⟨rfl, hb⟩
  have HB := hide (bthen (unhide HB) hb)
  have HA := hide ((unhide HA).below hb)
  clear hb
  (try go_wp2_with fail)
  refine hKk.out _ _ ?_ (fun hHeld => ?_)
  · (try dsimp only)
    exact unhide HA
  clear hKk Kk
  (try simp only [List.setIfInBounds_toArray, List.set_cons_zero, List.set_cons_succ])
  refine tkA 16 7 131071 ?_
  refine tkA 17 8 262143 ?_
  refine wpAnyH_done (by kernel_rfl) ?_ _
  clear hHeld
  obtain ⟨c0, c1, c2⟩ := unhide HA
  go_wp2_with fail
  go_ret
  exact ⟨by simp, unhide HB⟩
end Go.Proofs.Ytmbkpmcmhmldgaa
