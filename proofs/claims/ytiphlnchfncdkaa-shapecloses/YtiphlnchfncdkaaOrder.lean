/- The statement ShapeOrder: its walk. -/
import Derived.Test.YtiphlnchfncdkaaEndsLaw
namespace Go.Proofs.Ytiphlnchfncdkaa
open Go.RowKit

def At4 (b : Nat) (x y z u : Value) (w : World) : Prop := w.cell? ⟨b, 0, none⟩ = some x ∧ w.cell? ⟨b, 1, none⟩ = some y ∧ w.cell? ⟨b, 2, none⟩ = some z ∧ w.cell? ⟨b, 3, none⟩ = some u
theorem At4.below {b : Nat} {x y z u : Value} {w w' : World} (h : At4 b x y z u w) (hb : Below w.heap.size w w') : At4 b x y z u w' :=
  have hz := lt_of_cell h.1
  ⟨keep1 hb hz h.1, keep1 hb hz h.2.1, keep1 hb hz h.2.2.1, keep1 hb hz h.2.2.2⟩
theorem at4_new (w : World) (x y z u : Value) (t : TypeId) : At4 w.heap.size x y z u (w.alloc (.cells #[x, y, z, u] t)) := by unfold At4; simp [go_sem]

set_option maxHeartbeats 1000000 in
theorem order_no (w x y : Int) (W : World) (hw : w ≠ 32 ∧ w ≠ 64) :
    Calls Try.prog 7 #[.int .i64 w, .int .u64 x, .int .u64 y] W fun r W' => r = .returned (.bool true) ∧ Below W.heap.size W W' := by
  have c1 := ne_t hw.1
  have c2 := ne_t hw.2
  clear hw
  go_enter Try.func7, Try.ntmps7
  go_wp2_with fail
  refine (awake_any _).mono ?_
  rintro _ w1 ⟨rfl, hb1⟩
  go_wp2_with fail
  go_ret
  exact ⟨rfl, hb1⟩

theorem kd_in {w e f P Q b : Int} (h : Kd w e f P Q b) : ((w != 32) = false) ∨ ((w != 32) = true ∧ (w != 64) = false) := by
  rcases h with h | h
  · exact Or.inl (ne_f h.1)
  · exact Or.inr ⟨ne_t (by omega), ne_f h.1⟩

set_option maxRecDepth 100000 in
set_option maxHeartbeats 4000000 in
theorem order_c1 {w x y A B K1 X1 S1 K2 X2 S2 : Int} {N2 : Bool} (W : World) (hk : ((w != 32) = false) ∨ ((w != 32) = true ∧ (w != 64) = false))
    (HO1 : Hid (∀ W, Calls Try.prog 9 #[.int .i64 w, .int .u64 x] W fun r W' => r = .returned (.agg #[.bool true, .int .i64 K1, .int .i64 X1, .int .u64 S1]) ∧ Below W.heap.size W W'))
    (HO2 : Hid (∀ W, Calls Try.prog 9 #[.int .i64 w, .int .u64 y] W fun r W' => r = .returned (.agg #[.bool N2, .int .i64 K2, .int .i64 X2, .int .u64 S2]) ∧ Below W.heap.size W W'))
    (_ : Hid (∀ W, Calls Try.prog 11 #[.int .i64 w, .int .u64 x] W fun r W' => r = .returned (.int .u64 A) ∧ Below W.heap.size W W'))
    (_ : Hid (∀ W, Calls Try.prog 11 #[.int .i64 w, .int .u64 y] W fun r W' => r = .returned (.int .u64 B) ∧ Below W.heap.size W W'))
     :
    Calls Try.prog 7 #[.int .i64 w, .int .u64 x, .int .u64 y] W fun r W' => r = .returned (.bool true) ∧ Below W.heap.size W W' := by
  rcases hk with k1 | ⟨k1, k2⟩
  all_goals
    go_enter Try.func7, Try.ntmps7
    go_wp2_with fail
    refine (awake_any _).mono ?_
    rintro _ w1 ⟨rfl, hb1⟩
    go_wp2_with fail
    refine (unhide HO1 _).mono ?_
    rintro _ w2 ⟨rfl, hb2⟩
    go_wp2_with fail
    refine (unhide HO2 _).mono ?_
    rintro _ w3 ⟨rfl, hb3⟩
    have HB := hide (balloc (balloc (bthen (bthen hb1 hb2) hb3) (.cells #[.bool true, .int .i64 K1, .int .i64 X1, .int .u64 S1] 25)) (.cells #[.bool N2, .int .i64 K2, .int .i64 X2, .int .u64 S2] 25))
    clear hb1 hb2 hb3
    go_wp2_with fail
    go_ret
    exact ⟨rfl, unhide HB⟩

set_option maxRecDepth 100000 in
set_option maxHeartbeats 4000000 in
theorem order_c2 {w x y A B K1 X1 S1 K2 X2 S2 : Int} (W : World) (hk : ((w != 32) = false) ∨ ((w != 32) = true ∧ (w != 64) = false))
    (HO1 : Hid (∀ W, Calls Try.prog 9 #[.int .i64 w, .int .u64 x] W fun r W' => r = .returned (.agg #[.bool false, .int .i64 K1, .int .i64 X1, .int .u64 S1]) ∧ Below W.heap.size W W'))
    (HO2 : Hid (∀ W, Calls Try.prog 9 #[.int .i64 w, .int .u64 y] W fun r W' => r = .returned (.agg #[.bool true, .int .i64 K2, .int .i64 X2, .int .u64 S2]) ∧ Below W.heap.size W W'))
    (_ : Hid (∀ W, Calls Try.prog 11 #[.int .i64 w, .int .u64 x] W fun r W' => r = .returned (.int .u64 A) ∧ Below W.heap.size W W'))
    (_ : Hid (∀ W, Calls Try.prog 11 #[.int .i64 w, .int .u64 y] W fun r W' => r = .returned (.int .u64 B) ∧ Below W.heap.size W W'))
     :
    Calls Try.prog 7 #[.int .i64 w, .int .u64 x, .int .u64 y] W fun r W' => r = .returned (.bool true) ∧ Below W.heap.size W W' := by
  rcases hk with k1 | ⟨k1, k2⟩
  all_goals
    go_enter Try.func7, Try.ntmps7
    go_wp2_with fail
    refine (awake_any _).mono ?_
    rintro _ w1 ⟨rfl, hb1⟩
    go_wp2_with fail
    refine (unhide HO1 _).mono ?_
    rintro _ w2 ⟨rfl, hb2⟩
    go_wp2_with fail
    refine (unhide HO2 _).mono ?_
    rintro _ w3 ⟨rfl, hb3⟩
    have HB := hide (balloc (balloc (bthen (bthen hb1 hb2) hb3) (.cells #[.bool false, .int .i64 K1, .int .i64 X1, .int .u64 S1] 25)) (.cells #[.bool true, .int .i64 K2, .int .i64 X2, .int .u64 S2] 25))
    clear hb1 hb2 hb3
    go_wp2_with fail
    go_ret
    exact ⟨rfl, unhide HB⟩

set_option maxRecDepth 100000 in
set_option maxHeartbeats 4000000 in
theorem order_c3 {w x y A B K1 X1 S1 K2 X2 S2 : Int} (W : World) (hk : ((w != 32) = false) ∨ ((w != 32) = true ∧ (w != 64) = false))
    (HO1 : Hid (∀ W, Calls Try.prog 9 #[.int .i64 w, .int .u64 x] W fun r W' => r = .returned (.agg #[.bool false, .int .i64 K1, .int .i64 X1, .int .u64 S1]) ∧ Below W.heap.size W W'))
    (HO2 : Hid (∀ W, Calls Try.prog 9 #[.int .i64 w, .int .u64 y] W fun r W' => r = .returned (.agg #[.bool false, .int .i64 K2, .int .i64 X2, .int .u64 S2]) ∧ Below W.heap.size W W'))
    (_ : Hid (∀ W, Calls Try.prog 11 #[.int .i64 w, .int .u64 x] W fun r W' => r = .returned (.int .u64 A) ∧ Below W.heap.size W W'))
    (_ : Hid (∀ W, Calls Try.prog 11 #[.int .i64 w, .int .u64 y] W fun r W' => r = .returned (.int .u64 B) ∧ Below W.heap.size W W'))
    (h3 : 1 < K1) :
    Calls Try.prog 7 #[.int .i64 w, .int .u64 x, .int .u64 y] W fun r W' => r = .returned (.bool true) ∧ Below W.heap.size W W' := by
  rcases hk with k1 | ⟨k1, k2⟩
  all_goals
    go_enter Try.func7, Try.ntmps7
    go_wp2_with fail
    refine (awake_any _).mono ?_
    rintro _ w1 ⟨rfl, hb1⟩
    go_wp2_with fail
    refine (unhide HO1 _).mono ?_
    rintro _ w2 ⟨rfl, hb2⟩
    go_wp2_with fail
    refine (unhide HO2 _).mono ?_
    rintro _ w3 ⟨rfl, hb3⟩
    have HB := hide (balloc (balloc (bthen (bthen hb1 hb2) hb3) (.cells #[.bool false, .int .i64 K1, .int .i64 X1, .int .u64 S1] 25)) (.cells #[.bool false, .int .i64 K2, .int .i64 X2, .int .u64 S2] 25))
    clear hb1 hb2 hb3
    go_wp2_with fail
    go_ret
    exact ⟨rfl, unhide HB⟩

set_option maxRecDepth 100000 in
set_option maxHeartbeats 4000000 in
theorem order_c4 {w x y A B K1 X1 S1 K2 X2 S2 : Int} (W : World) (hk : ((w != 32) = false) ∨ ((w != 32) = true ∧ (w != 64) = false))
    (HO1 : Hid (∀ W, Calls Try.prog 9 #[.int .i64 w, .int .u64 x] W fun r W' => r = .returned (.agg #[.bool false, .int .i64 K1, .int .i64 X1, .int .u64 S1]) ∧ Below W.heap.size W W'))
    (HO2 : Hid (∀ W, Calls Try.prog 9 #[.int .i64 w, .int .u64 y] W fun r W' => r = .returned (.agg #[.bool false, .int .i64 K2, .int .i64 X2, .int .u64 S2]) ∧ Below W.heap.size W W'))
    (_ : Hid (∀ W, Calls Try.prog 11 #[.int .i64 w, .int .u64 x] W fun r W' => r = .returned (.int .u64 A) ∧ Below W.heap.size W W'))
    (_ : Hid (∀ W, Calls Try.prog 11 #[.int .i64 w, .int .u64 y] W fun r W' => r = .returned (.int .u64 B) ∧ Below W.heap.size W W'))
    (h3 : ¬ 1 < K1) (h4 : 1 < K2) :
    Calls Try.prog 7 #[.int .i64 w, .int .u64 x, .int .u64 y] W fun r W' => r = .returned (.bool true) ∧ Below W.heap.size W W' := by
  rcases hk with k1 | ⟨k1, k2⟩
  all_goals
    go_enter Try.func7, Try.ntmps7
    go_wp2_with fail
    refine (awake_any _).mono ?_
    rintro _ w1 ⟨rfl, hb1⟩
    go_wp2_with fail
    refine (unhide HO1 _).mono ?_
    rintro _ w2 ⟨rfl, hb2⟩
    go_wp2_with fail
    refine (unhide HO2 _).mono ?_
    rintro _ w3 ⟨rfl, hb3⟩
    have HB := hide (balloc (balloc (bthen (bthen hb1 hb2) hb3) (.cells #[.bool false, .int .i64 K1, .int .i64 X1, .int .u64 S1] 25)) (.cells #[.bool false, .int .i64 K2, .int .i64 X2, .int .u64 S2] 25))
    clear hb1 hb2 hb3
    go_wp2_with fail
    go_ret
    exact ⟨rfl, unhide HB⟩

set_option maxRecDepth 100000 in
set_option maxHeartbeats 4000000 in
theorem order_c5 {w x y A B K1 X1 S1 K2 X2 S2 : Int} (W : World) (hk : ((w != 32) = false) ∨ ((w != 32) = true ∧ (w != 64) = false))
    (HO1 : Hid (∀ W, Calls Try.prog 9 #[.int .i64 w, .int .u64 x] W fun r W' => r = .returned (.agg #[.bool false, .int .i64 K1, .int .i64 X1, .int .u64 S1]) ∧ Below W.heap.size W W'))
    (HO2 : Hid (∀ W, Calls Try.prog 9 #[.int .i64 w, .int .u64 y] W fun r W' => r = .returned (.agg #[.bool false, .int .i64 K2, .int .i64 X2, .int .u64 S2]) ∧ Below W.heap.size W W'))
    (HC1 : Hid (∀ W, Calls Try.prog 11 #[.int .i64 w, .int .u64 x] W fun r W' => r = .returned (.int .u64 A) ∧ Below W.heap.size W W'))
    (HC2 : Hid (∀ W, Calls Try.prog 11 #[.int .i64 w, .int .u64 y] W fun r W' => r = .returned (.int .u64 B) ∧ Below W.heap.size W W'))
    (h3 : ¬ 1 < K1) (h4 : ¬ 1 < K2) (h5 : B ≤ A) :
    Calls Try.prog 7 #[.int .i64 w, .int .u64 x, .int .u64 y] W fun r W' => r = .returned (.bool true) ∧ Below W.heap.size W W' := by
  rcases hk with k1 | ⟨k1, k2⟩
  all_goals
    go_enter Try.func7, Try.ntmps7
    go_wp2_with fail
    refine (awake_any _).mono ?_
    rintro _ w1 ⟨rfl, hb1⟩
    go_wp2_with fail
    refine (unhide HO1 _).mono ?_
    rintro _ w2 ⟨rfl, hb2⟩
    go_wp2_with fail
    refine (unhide HO2 _).mono ?_
    rintro _ w3 ⟨rfl, hb3⟩
    have HA1 := hide ((at4_new w3 (.bool false) (.int .i64 K1) (.int .i64 X1) (.int .u64 S1) 25).below (below1 _ (.cells #[.bool false, .int .i64 K2, .int .i64 X2, .int .u64 S2] 25)))
    have HA2 := hide (at4_new (w3.alloc (.cells #[.bool false, .int .i64 K1, .int .i64 X1, .int .u64 S1] 25)) (.bool false) (.int .i64 K2) (.int .i64 X2) (.int .u64 S2) 25)
    have HB := hide (balloc (balloc (bthen (bthen hb1 hb2) hb3) (.cells #[.bool false, .int .i64 K1, .int .i64 X1, .int .u64 S1] 25)) (.cells #[.bool false, .int .i64 K2, .int .i64 X2, .int .u64 S2] 25))
    clear hb1 hb2 hb3
    go_wp2_with fail
    refine (unhide HC1 _).mono ?_
    rintro _ w4 ⟨rfl, hbl⟩
    have HA1 := hide ((unhide HA1).below hbl); have HA2 := hide ((unhide HA2).below hbl); have HB := hide (bthen (unhide HB) hbl)
    clear hbl
    go_wp2_with fail
    refine (unhide HC2 _).mono ?_
    rintro _ w5 ⟨rfl, hbl⟩
    obtain ⟨a0, a1, a2, a3⟩ := (unhide HA1).below hbl
    obtain ⟨b0, b1, b2, b3⟩ := (unhide HA2).below hbl
    simp only [World.size_alloc] at b0 b1 b2 b3
    have HB := hide (bthen (unhide HB) hbl)
    clear hbl HA1 HA2
    go_wp2_with fail
    go_ret
    exact ⟨rfl, unhide HB⟩

set_option maxRecDepth 100000 in
set_option maxHeartbeats 4000000 in
theorem order_c6 {w x y A B K1 X1 S1 K2 X2 S2 : Int} (W : World) (hk : ((w != 32) = false) ∨ ((w != 32) = true ∧ (w != 64) = false))
    (HO1 : Hid (∀ W, Calls Try.prog 9 #[.int .i64 w, .int .u64 x] W fun r W' => r = .returned (.agg #[.bool false, .int .i64 K1, .int .i64 X1, .int .u64 S1]) ∧ Below W.heap.size W W'))
    (HO2 : Hid (∀ W, Calls Try.prog 9 #[.int .i64 w, .int .u64 y] W fun r W' => r = .returned (.agg #[.bool false, .int .i64 K2, .int .i64 X2, .int .u64 S2]) ∧ Below W.heap.size W W'))
    (HC1 : Hid (∀ W, Calls Try.prog 11 #[.int .i64 w, .int .u64 x] W fun r W' => r = .returned (.int .u64 A) ∧ Below W.heap.size W W'))
    (HC2 : Hid (∀ W, Calls Try.prog 11 #[.int .i64 w, .int .u64 y] W fun r W' => r = .returned (.int .u64 B) ∧ Below W.heap.size W W'))
    (h3 : ¬ 1 < K1) (h4 : ¬ 1 < K2) (h5 : ¬ B ≤ A) (h6 : (K1 == 0) = true) :
    Calls Try.prog 7 #[.int .i64 w, .int .u64 x, .int .u64 y] W fun r W' => r = .returned (.bool true) ∧ Below W.heap.size W W' := by
  rcases hk with k1 | ⟨k1, k2⟩
  all_goals
    go_enter Try.func7, Try.ntmps7
    go_wp2_with fail
    refine (awake_any _).mono ?_
    rintro _ w1 ⟨rfl, hb1⟩
    go_wp2_with fail
    refine (unhide HO1 _).mono ?_
    rintro _ w2 ⟨rfl, hb2⟩
    go_wp2_with fail
    refine (unhide HO2 _).mono ?_
    rintro _ w3 ⟨rfl, hb3⟩
    have HA1 := hide ((at4_new w3 (.bool false) (.int .i64 K1) (.int .i64 X1) (.int .u64 S1) 25).below (below1 _ (.cells #[.bool false, .int .i64 K2, .int .i64 X2, .int .u64 S2] 25)))
    have HA2 := hide (at4_new (w3.alloc (.cells #[.bool false, .int .i64 K1, .int .i64 X1, .int .u64 S1] 25)) (.bool false) (.int .i64 K2) (.int .i64 X2) (.int .u64 S2) 25)
    have HB := hide (balloc (balloc (bthen (bthen hb1 hb2) hb3) (.cells #[.bool false, .int .i64 K1, .int .i64 X1, .int .u64 S1] 25)) (.cells #[.bool false, .int .i64 K2, .int .i64 X2, .int .u64 S2] 25))
    clear hb1 hb2 hb3
    go_wp2_with fail
    refine (unhide HC1 _).mono ?_
    rintro _ w4 ⟨rfl, hbl⟩
    have HA1 := hide ((unhide HA1).below hbl); have HA2 := hide ((unhide HA2).below hbl); have HB := hide (bthen (unhide HB) hbl)
    clear hbl
    go_wp2_with fail
    refine (unhide HC2 _).mono ?_
    rintro _ w5 ⟨rfl, hbl⟩
    obtain ⟨a0, a1, a2, a3⟩ := (unhide HA1).below hbl
    obtain ⟨b0, b1, b2, b3⟩ := (unhide HA2).below hbl
    simp only [World.size_alloc] at b0 b1 b2 b3
    have HB := hide (bthen (unhide HB) hbl)
    clear hbl HA1 HA2
    go_wp2_with fail
    go_ret
    exact ⟨rfl, unhide HB⟩

set_option maxRecDepth 100000 in
set_option maxHeartbeats 4000000 in
theorem order_c7 {w x y A B K1 X1 S1 K2 X2 S2 : Int} (W : World) (hk : ((w != 32) = false) ∨ ((w != 32) = true ∧ (w != 64) = false))
    (HO1 : Hid (∀ W, Calls Try.prog 9 #[.int .i64 w, .int .u64 x] W fun r W' => r = .returned (.agg #[.bool false, .int .i64 K1, .int .i64 X1, .int .u64 S1]) ∧ Below W.heap.size W W'))
    (HO2 : Hid (∀ W, Calls Try.prog 9 #[.int .i64 w, .int .u64 y] W fun r W' => r = .returned (.agg #[.bool false, .int .i64 K2, .int .i64 X2, .int .u64 S2]) ∧ Below W.heap.size W W'))
    (HC1 : Hid (∀ W, Calls Try.prog 11 #[.int .i64 w, .int .u64 x] W fun r W' => r = .returned (.int .u64 A) ∧ Below W.heap.size W W'))
    (HC2 : Hid (∀ W, Calls Try.prog 11 #[.int .i64 w, .int .u64 y] W fun r W' => r = .returned (.int .u64 B) ∧ Below W.heap.size W W'))
    (h3 : ¬ 1 < K1) (h4 : ¬ 1 < K2) (h5 : ¬ B ≤ A) (h6 : (K1 == 0) = false) (h7 : X1 < X2) :
    Calls Try.prog 7 #[.int .i64 w, .int .u64 x, .int .u64 y] W fun r W' => r = .returned (.bool true) ∧ Below W.heap.size W W' := by
  rcases hk with k1 | ⟨k1, k2⟩
  all_goals
    go_enter Try.func7, Try.ntmps7
    go_wp2_with fail
    refine (awake_any _).mono ?_
    rintro _ w1 ⟨rfl, hb1⟩
    go_wp2_with fail
    refine (unhide HO1 _).mono ?_
    rintro _ w2 ⟨rfl, hb2⟩
    go_wp2_with fail
    refine (unhide HO2 _).mono ?_
    rintro _ w3 ⟨rfl, hb3⟩
    have HA1 := hide ((at4_new w3 (.bool false) (.int .i64 K1) (.int .i64 X1) (.int .u64 S1) 25).below (below1 _ (.cells #[.bool false, .int .i64 K2, .int .i64 X2, .int .u64 S2] 25)))
    have HA2 := hide (at4_new (w3.alloc (.cells #[.bool false, .int .i64 K1, .int .i64 X1, .int .u64 S1] 25)) (.bool false) (.int .i64 K2) (.int .i64 X2) (.int .u64 S2) 25)
    have HB := hide (balloc (balloc (bthen (bthen hb1 hb2) hb3) (.cells #[.bool false, .int .i64 K1, .int .i64 X1, .int .u64 S1] 25)) (.cells #[.bool false, .int .i64 K2, .int .i64 X2, .int .u64 S2] 25))
    clear hb1 hb2 hb3
    go_wp2_with fail
    refine (unhide HC1 _).mono ?_
    rintro _ w4 ⟨rfl, hbl⟩
    have HA1 := hide ((unhide HA1).below hbl); have HA2 := hide ((unhide HA2).below hbl); have HB := hide (bthen (unhide HB) hbl)
    clear hbl
    go_wp2_with fail
    refine (unhide HC2 _).mono ?_
    rintro _ w5 ⟨rfl, hbl⟩
    obtain ⟨a0, a1, a2, a3⟩ := (unhide HA1).below hbl
    obtain ⟨b0, b1, b2, b3⟩ := (unhide HA2).below hbl
    simp only [World.size_alloc] at b0 b1 b2 b3
    have HB := hide (bthen (unhide HB) hbl)
    clear hbl HA1 HA2
    go_wp2_with fail
    go_ret
    exact ⟨rfl, unhide HB⟩

set_option maxRecDepth 100000 in
set_option maxHeartbeats 4000000 in
theorem order_c8 {w x y A B K1 X1 S1 K2 X2 S2 : Int} (W : World) (hk : ((w != 32) = false) ∨ ((w != 32) = true ∧ (w != 64) = false))
    (HO1 : Hid (∀ W, Calls Try.prog 9 #[.int .i64 w, .int .u64 x] W fun r W' => r = .returned (.agg #[.bool false, .int .i64 K1, .int .i64 X1, .int .u64 S1]) ∧ Below W.heap.size W W'))
    (HO2 : Hid (∀ W, Calls Try.prog 9 #[.int .i64 w, .int .u64 y] W fun r W' => r = .returned (.agg #[.bool false, .int .i64 K2, .int .i64 X2, .int .u64 S2]) ∧ Below W.heap.size W W'))
    (HC1 : Hid (∀ W, Calls Try.prog 11 #[.int .i64 w, .int .u64 x] W fun r W' => r = .returned (.int .u64 A) ∧ Below W.heap.size W W'))
    (HC2 : Hid (∀ W, Calls Try.prog 11 #[.int .i64 w, .int .u64 y] W fun r W' => r = .returned (.int .u64 B) ∧ Below W.heap.size W W'))
    (h3 : ¬ 1 < K1) (h4 : ¬ 1 < K2) (h5 : ¬ B ≤ A) (h6 : (K1 == 0) = false) (h7 : ¬ X1 < X2) (h8 : (X1 == X2) = true) (h9 : S1 < S2) :
    Calls Try.prog 7 #[.int .i64 w, .int .u64 x, .int .u64 y] W fun r W' => r = .returned (.bool true) ∧ Below W.heap.size W W' := by
  rcases hk with k1 | ⟨k1, k2⟩
  all_goals
    go_enter Try.func7, Try.ntmps7
    go_wp2_with fail
    refine (awake_any _).mono ?_
    rintro _ w1 ⟨rfl, hb1⟩
    go_wp2_with fail
    refine (unhide HO1 _).mono ?_
    rintro _ w2 ⟨rfl, hb2⟩
    go_wp2_with fail
    refine (unhide HO2 _).mono ?_
    rintro _ w3 ⟨rfl, hb3⟩
    have HA1 := hide ((at4_new w3 (.bool false) (.int .i64 K1) (.int .i64 X1) (.int .u64 S1) 25).below (below1 _ (.cells #[.bool false, .int .i64 K2, .int .i64 X2, .int .u64 S2] 25)))
    have HA2 := hide (at4_new (w3.alloc (.cells #[.bool false, .int .i64 K1, .int .i64 X1, .int .u64 S1] 25)) (.bool false) (.int .i64 K2) (.int .i64 X2) (.int .u64 S2) 25)
    have HB := hide (balloc (balloc (bthen (bthen hb1 hb2) hb3) (.cells #[.bool false, .int .i64 K1, .int .i64 X1, .int .u64 S1] 25)) (.cells #[.bool false, .int .i64 K2, .int .i64 X2, .int .u64 S2] 25))
    clear hb1 hb2 hb3
    go_wp2_with fail
    refine (unhide HC1 _).mono ?_
    rintro _ w4 ⟨rfl, hbl⟩
    have HA1 := hide ((unhide HA1).below hbl); have HA2 := hide ((unhide HA2).below hbl); have HB := hide (bthen (unhide HB) hbl)
    clear hbl
    go_wp2_with fail
    refine (unhide HC2 _).mono ?_
    rintro _ w5 ⟨rfl, hbl⟩
    obtain ⟨a0, a1, a2, a3⟩ := (unhide HA1).below hbl
    obtain ⟨b0, b1, b2, b3⟩ := (unhide HA2).below hbl
    simp only [World.size_alloc] at b0 b1 b2 b3
    have HB := hide (bthen (unhide HB) hbl)
    clear hbl HA1 HA2
    go_wp2_with fail
    go_ret
    exact ⟨rfl, unhide HB⟩

end Go.Proofs.Ytiphlnchfncdkaa
