/- CloseW, WLeaf, WLeafB, WPlain, WWide1, WWide2, WLensB. -/
import Derived.Test.YtcgnlpamfhdiiaaG05
import Derived.Test.YtcgnlpamfhdiiaaRows
import Derived.WalkKit
import Derived.WalkSpells
import Derived.WalkLawsBesides
import Derived.Laws.MathBits
import Derived.Laws.Pointers
import Derived.Deep.RegionHeld3
import Derived.RowKit3
import Derived.Lib.BitFns
import Derived.Laws.BitsAllLaws
import Derived.Deep.QuietTactic
import Derived.BigQuiet
import Derived.LoopTactic
namespace Go.Proofs.Ytcgnlpamfhdiiaa
open Go.RowKit

/-- The float of a finite one's parts, and the error: 0 or 2. -/
def ClosedF (f P Q b : Int) (n : Bool) (X S V c : Int) : Prop :=
  (S < P ∧ S ≠ 0 ∧ X = 1 - b - f ∧ V = put f P Q n 0 (S % P) ∧ c = 0) ∨
  (P ≤ S ∧ S < 2 * P ∧ 1 - b - f ≤ X ∧ X ≤ Q - 2 - b - f ∧ V = put f P Q n (X + b + f) (S % P) ∧ c = 0) ∨
  (¬ (S < P ∧ S ≠ 0 ∧ X = 1 - b - f) ∧ ¬ (P ≤ S ∧ S < 2 * P ∧ 1 - b - f ≤ X ∧ X ≤ Q - 2 - b - f) ∧ V = 0 ∧ c = 2)
theorem dt {p : Prop} [Decidable p] (h : p) : decide p = true := by simp [h]
theorem df {p : Prop} [Decidable p] (h : ¬ p) : decide p = false := by simp [h]

theorem fin_any {w e f P Q b K X S V c : Int} {n : Bool} (W : World) (h : Kd w e f P Q b) (s0 : 0 ≤ S) (s1 : S < 18446744073709551616) (hc : ClosedF f P Q b n X S V c) :
    Calls Try.prog 83 #[.agg #[.int .i64 e, .int .i64 f], .agg #[.bool n, .int .i64 K, .int .i64 X, .int .u64 S]] W fun r W' => r = .returned (.tuple #[.int .u64 V, .int .i64 c]) ∧ Below W.heap.size W W' := by
  have hs := h.wd.sz
  obtain ⟨p1, p2, q1, q2⟩ := h.pos
  obtain ⟨u', v'⟩ := exp_in S (show 1 ≤ P by omega)
  have g : 0 ≤ f ∧ f ≤ 63 ∧ 0 ≤ b ∧ b ≤ 2000 ∧ Q = 2 * b + 2 := by rcases h with h | h <;> omega
  obtain ⟨g0, g1, g2, g3, g4⟩ := g
  have kp : IntKind.u64.wrap (P - 1) = P - 1 := by rw [IntKind.wrap_u64]; omega
  have ka : bits .and .u64 S (P - 1) = S % P := by
    rcases h with ⟨_, _, rfl, rfl, _, _⟩ | ⟨_, _, rfl, rfl, _, _⟩
    · exact and_mask 23 _ _ (by omega) (by omega) rfl (by omega)
    · exact and_mask 52 _ _ (by omega) (by omega) rfl (by omega)
  have kd : S / 2 ^ f.toNat = S / P := by rcases h with ⟨_, _, rfl, rfl, _, _⟩ | ⟨_, _, rfl, rfl, _, _⟩ <;> rfl
  have D0 : (S / P = 0 ↔ S < P) ∧ (S / P = 1 ↔ P ≤ S ∧ S < 2 * P) := by
    rcases h with ⟨_, _, _, rfl, _, _⟩ | ⟨_, _, _, rfl, _, _⟩ <;> omega
  obtain ⟨D0, D1⟩ := D0
  rcases hc with ⟨c1, c2, c3, rfl, rfl⟩ | ⟨c1, c2, c3, c4, rfl, rfl⟩ | ⟨c1, c2, rfl, rfl⟩
  · exact fin_sub W hs g0 g1 kp ka kd (eq_t (D0.2 c1)) (eq_f c2) (ne_f c3) (hide (fun W => bits_any n 0 (S % P) hs W (by omega) (by omega) u' v'))
  · refine fin_nor (E := X + b + f) W hs g0 g1 kp ka kd (eq_f (fun hh => by have := D0.1 hh; omega)) (eq_t (D1.2 ⟨c1, c2⟩)) (df (by omega)) (df (by omega)) (hide (fun W => power_any 0 hs W (by omega) (by omega))) ?_ ?_
      (hide (fun W => bits_any n (X + b + f) (S % P) hs W (by omega) (by omega) u' v'))
    · rw [i64_id (by omega) (by omega)]; omega
    · rw [IntKind.wrap_u64]; omega
  · by_cases e0 : S < P
    · by_cases e1 : S = 0
      · exact fin_z W hs g0 g1 kp ka kd (eq_t (D0.2 e0)) (eq_t e1)
      · exact fin_x W hs g0 g1 kp ka kd (eq_t (D0.2 e0)) (eq_f e1) (ne_t (fun hh => c1 ⟨e0, e1, hh⟩))
    · have d0 := eq_f (fun hh => e0 (D0.1 hh))
      by_cases e1 : S < 2 * P
      · have d1 := eq_t (D1.2 ⟨by omega, e1⟩)
        by_cases e2 : X < 1 - b - f
        · exact fin_lo W hs g0 g1 kp ka kd d0 d1 (dt e2)
        · exact fin_hi W hs g0 g1 kp ka kd d0 d1 (df e2) (dt (by omega))
      · exact fin_big W hs g0 g1 kp ka kd d0 (eq_f (fun hh => e1 (D1.1 hh).2))

set_option maxHeartbeats 1000000 in
theorem close_no {w e f P Q b K X S : Int} {n : Bool} (W : World) (h : Wd w e f P Q b) (hf : (f != 0) = false) :
    Calls Try.prog 81 #[.int .i64 w, .agg #[.bool n, .int .i64 K, .int .i64 X, .int .u64 S]] W fun r W' => r = .returned (.tuple #[.int .u64 0, .int .i64 2]) ∧ Below W.heap.size W W' := by
  go_enter Try.func81, Try.ntmps81
  go_wp2_with fail
  refine (sizesOf_any h _).mono ?_
  rintro _ w1 ⟨rfl, hbl⟩
  have HA4 := hide (((at4_new W (.bool n) (.int .i64 K) (.int .i64 X) (.int .u64 S) 31).below hbl).below (below1 _ (.cells #[.int .i64 e, .int .i64 f] 53)))
  have HA2 : Hid (At2 w1.heap.size (.int .i64 e) (.int .i64 f) (w1.alloc (.cells #[.int .i64 e, .int .i64 f] 53))) := by unfold Hid At2; simp [go_sem]
  have HB := hide (balloc (bthen (below1 _ _) hbl) (.cells #[.int .i64 e, .int .i64 f] 53))
  clear hbl
  go_wp2_with fail
  refine (known_any e f _).mono ?_
  rintro _ w2 ⟨rfl, hbl⟩
  obtain ⟨p0, p1, p2, p3⟩ := (unhide HA4).below hbl
  obtain ⟨q0, q1⟩ := (unhide HA2).below hbl
  have HB := hide (bthen (unhide HB) hbl)
  clear hbl HA4 HA2
  go_wp2_with fail
  go_ret2
  exact ⟨rfl, unhide HB⟩

set_option maxHeartbeats 1000000 in
theorem close_fin {w e f P Q b K X S : Int} {n : Bool} (W : World) (h : Wd w e f P Q b) (hf : (f != 0) = true) (k1 : (K == 1) = true) {V c : Int} (HC : Hid (∀ W, Calls Try.prog 83 #[.agg #[.int .i64 e, .int .i64 f], .agg #[.bool n, .int .i64 K, .int .i64 X, .int .u64 S]] W fun r W' => r = .returned (.tuple #[.int .u64 V, .int .i64 c]) ∧ Below W.heap.size W W')) :
    Calls Try.prog 81 #[.int .i64 w, .agg #[.bool n, .int .i64 K, .int .i64 X, .int .u64 S]] W fun r W' => r = .returned (.tuple #[.int .u64 V, .int .i64 c]) ∧ Below W.heap.size W W' := by
  go_enter Try.func81, Try.ntmps81
  go_wp2_with fail
  refine (sizesOf_any h _).mono ?_
  rintro _ w1 ⟨rfl, hbl⟩
  have HA4 := hide (((at4_new W (.bool n) (.int .i64 K) (.int .i64 X) (.int .u64 S) 31).below hbl).below (below1 _ (.cells #[.int .i64 e, .int .i64 f] 53)))
  have HA2 : Hid (At2 w1.heap.size (.int .i64 e) (.int .i64 f) (w1.alloc (.cells #[.int .i64 e, .int .i64 f] 53))) := by unfold Hid At2; simp [go_sem]
  have HB := hide (balloc (bthen (below1 _ _) hbl) (.cells #[.int .i64 e, .int .i64 f] 53))
  clear hbl
  go_wp2_with fail
  refine (known_any e f _).mono ?_
  rintro _ w2 ⟨rfl, hbl⟩
  obtain ⟨p0, p1, p2, p3⟩ := (unhide HA4).below hbl
  obtain ⟨q0, q1⟩ := (unhide HA2).below hbl
  have HB := hide (bthen (unhide HB) hbl)
  clear hbl HA4 HA2
  go_wp2_with fail
  refine (unhide HC _).mono ?_
  rintro _ w3 ⟨rfl, hbl⟩
  have HB := hide (bthen (unhide HB) hbl)
  go_wp2_with fail
  go_ret2
  exact ⟨rfl, unhide HB⟩

set_option maxHeartbeats 1000000 in
theorem close_e1 {w e f P Q b K X S : Int} {n : Bool} (W : World) (h : Wd w e f P Q b) (hf : (f != 0) = true) (k1 : (K == 1) = false) (z1 : (S != 0) = true) :
    Calls Try.prog 81 #[.int .i64 w, .agg #[.bool n, .int .i64 K, .int .i64 X, .int .u64 S]] W fun r W' => r = .returned (.tuple #[.int .u64 0, .int .i64 2]) ∧ Below W.heap.size W W' := by
  go_enter Try.func81, Try.ntmps81
  go_wp2_with fail
  refine (sizesOf_any h _).mono ?_
  rintro _ w1 ⟨rfl, hbl⟩
  have HA4 := hide (((at4_new W (.bool n) (.int .i64 K) (.int .i64 X) (.int .u64 S) 31).below hbl).below (below1 _ (.cells #[.int .i64 e, .int .i64 f] 53)))
  have HA2 : Hid (At2 w1.heap.size (.int .i64 e) (.int .i64 f) (w1.alloc (.cells #[.int .i64 e, .int .i64 f] 53))) := by unfold Hid At2; simp [go_sem]
  have HB := hide (balloc (bthen (below1 _ _) hbl) (.cells #[.int .i64 e, .int .i64 f] 53))
  clear hbl
  go_wp2_with fail
  refine (known_any e f _).mono ?_
  rintro _ w2 ⟨rfl, hbl⟩
  obtain ⟨p0, p1, p2, p3⟩ := (unhide HA4).below hbl
  obtain ⟨q0, q1⟩ := (unhide HA2).below hbl
  have HB := hide (bthen (unhide HB) hbl)
  clear hbl HA4 HA2
  go_wp2_with fail
  go_ret2
  exact ⟨rfl, unhide HB⟩

set_option maxHeartbeats 1000000 in
theorem close_e2 {w e f P Q b K X S : Int} {n : Bool} (W : World) (h : Wd w e f P Q b) (hf : (f != 0) = true) (k1 : (K == 1) = false) (z1 : (S != 0) = false) (z2 : (X != 0) = true) :
    Calls Try.prog 81 #[.int .i64 w, .agg #[.bool n, .int .i64 K, .int .i64 X, .int .u64 S]] W fun r W' => r = .returned (.tuple #[.int .u64 0, .int .i64 2]) ∧ Below W.heap.size W W' := by
  go_enter Try.func81, Try.ntmps81
  go_wp2_with fail
  refine (sizesOf_any h _).mono ?_
  rintro _ w1 ⟨rfl, hbl⟩
  have HA4 := hide (((at4_new W (.bool n) (.int .i64 K) (.int .i64 X) (.int .u64 S) 31).below hbl).below (below1 _ (.cells #[.int .i64 e, .int .i64 f] 53)))
  have HA2 : Hid (At2 w1.heap.size (.int .i64 e) (.int .i64 f) (w1.alloc (.cells #[.int .i64 e, .int .i64 f] 53))) := by unfold Hid At2; simp [go_sem]
  have HB := hide (balloc (bthen (below1 _ _) hbl) (.cells #[.int .i64 e, .int .i64 f] 53))
  clear hbl
  go_wp2_with fail
  refine (known_any e f _).mono ?_
  rintro _ w2 ⟨rfl, hbl⟩
  obtain ⟨p0, p1, p2, p3⟩ := (unhide HA4).below hbl
  obtain ⟨q0, q1⟩ := (unhide HA2).below hbl
  have HB := hide (bthen (unhide HB) hbl)
  clear hbl HA4 HA2
  go_wp2_with fail
  go_ret2
  exact ⟨rfl, unhide HB⟩

set_option maxHeartbeats 1000000 in
theorem close_zero {w e f P Q b K X S : Int} {n : Bool} (W : World) (h : Wd w e f P Q b) (hf : (f != 0) = true) (k1 : (K == 1) = false) (z1 : (S != 0) = false) (z2 : (X != 0) = false) (k0 : (K == 0) = true) {V : Int} (HC : Hid (∀ W, Calls Try.prog 12 #[.int .i64 w, .bool n] W fun r W' => r = .returned (.int .u64 V) ∧ Below W.heap.size W W')) :
    Calls Try.prog 81 #[.int .i64 w, .agg #[.bool n, .int .i64 K, .int .i64 X, .int .u64 S]] W fun r W' => r = .returned (.tuple #[.int .u64 V, .int .i64 0]) ∧ Below W.heap.size W W' := by
  go_enter Try.func81, Try.ntmps81
  go_wp2_with fail
  refine (sizesOf_any h _).mono ?_
  rintro _ w1 ⟨rfl, hbl⟩
  have HA4 := hide (((at4_new W (.bool n) (.int .i64 K) (.int .i64 X) (.int .u64 S) 31).below hbl).below (below1 _ (.cells #[.int .i64 e, .int .i64 f] 53)))
  have HA2 : Hid (At2 w1.heap.size (.int .i64 e) (.int .i64 f) (w1.alloc (.cells #[.int .i64 e, .int .i64 f] 53))) := by unfold Hid At2; simp [go_sem]
  have HB := hide (balloc (bthen (below1 _ _) hbl) (.cells #[.int .i64 e, .int .i64 f] 53))
  clear hbl
  go_wp2_with fail
  refine (known_any e f _).mono ?_
  rintro _ w2 ⟨rfl, hbl⟩
  obtain ⟨p0, p1, p2, p3⟩ := (unhide HA4).below hbl
  obtain ⟨q0, q1⟩ := (unhide HA2).below hbl
  have HB := hide (bthen (unhide HB) hbl)
  clear hbl HA4 HA2
  go_wp2_with fail
  refine (unhide HC _).mono ?_
  rintro _ w3 ⟨rfl, hbl⟩
  have HB := hide (bthen (unhide HB) hbl)
  go_wp2_with fail
  go_ret2
  exact ⟨rfl, unhide HB⟩

set_option maxHeartbeats 1000000 in
theorem close_inf {w e f P Q b K X S : Int} {n : Bool} (W : World) (h : Wd w e f P Q b) (hf : (f != 0) = true) (k1 : (K == 1) = false) (z1 : (S != 0) = false) (z2 : (X != 0) = false) (k0 : (K == 0) = false) (k2 : (K == 2) = true) {V : Int} (HC : Hid (∀ W, Calls Try.prog 40 #[.int .i64 w, .bool n] W fun r W' => r = .returned (.int .u64 V) ∧ Below W.heap.size W W')) :
    Calls Try.prog 81 #[.int .i64 w, .agg #[.bool n, .int .i64 K, .int .i64 X, .int .u64 S]] W fun r W' => r = .returned (.tuple #[.int .u64 V, .int .i64 0]) ∧ Below W.heap.size W W' := by
  go_enter Try.func81, Try.ntmps81
  go_wp2_with fail
  refine (sizesOf_any h _).mono ?_
  rintro _ w1 ⟨rfl, hbl⟩
  have HA4 := hide (((at4_new W (.bool n) (.int .i64 K) (.int .i64 X) (.int .u64 S) 31).below hbl).below (below1 _ (.cells #[.int .i64 e, .int .i64 f] 53)))
  have HA2 : Hid (At2 w1.heap.size (.int .i64 e) (.int .i64 f) (w1.alloc (.cells #[.int .i64 e, .int .i64 f] 53))) := by unfold Hid At2; simp [go_sem]
  have HB := hide (balloc (bthen (below1 _ _) hbl) (.cells #[.int .i64 e, .int .i64 f] 53))
  clear hbl
  go_wp2_with fail
  refine (known_any e f _).mono ?_
  rintro _ w2 ⟨rfl, hbl⟩
  obtain ⟨p0, p1, p2, p3⟩ := (unhide HA4).below hbl
  obtain ⟨q0, q1⟩ := (unhide HA2).below hbl
  have HB := hide (bthen (unhide HB) hbl)
  clear hbl HA4 HA2
  go_wp2_with fail
  refine (unhide HC _).mono ?_
  rintro _ w3 ⟨rfl, hbl⟩
  have HB := hide (bthen (unhide HB) hbl)
  go_wp2_with fail
  go_ret2
  exact ⟨rfl, unhide HB⟩

set_option maxHeartbeats 1000000 in
theorem close_nan {w e f P Q b K X S : Int} {n : Bool} (W : World) (h : Wd w e f P Q b) (hf : (f != 0) = true) (k1 : (K == 1) = false) (z1 : (S != 0) = false) (z2 : (X != 0) = false) (k0 : (K == 0) = false) (k2 : (K == 2) = false) (k3 : (K == 3) = true) {V : Int} (HC : Hid (∀ W, Calls Try.prog 16 #[.int .i64 w] W fun r W' => r = .returned (.int .u64 V) ∧ Below W.heap.size W W')) :
    Calls Try.prog 81 #[.int .i64 w, .agg #[.bool n, .int .i64 K, .int .i64 X, .int .u64 S]] W fun r W' => r = .returned (.tuple #[.int .u64 V, .int .i64 0]) ∧ Below W.heap.size W W' := by
  go_enter Try.func81, Try.ntmps81
  go_wp2_with fail
  refine (sizesOf_any h _).mono ?_
  rintro _ w1 ⟨rfl, hbl⟩
  have HA4 := hide (((at4_new W (.bool n) (.int .i64 K) (.int .i64 X) (.int .u64 S) 31).below hbl).below (below1 _ (.cells #[.int .i64 e, .int .i64 f] 53)))
  have HA2 : Hid (At2 w1.heap.size (.int .i64 e) (.int .i64 f) (w1.alloc (.cells #[.int .i64 e, .int .i64 f] 53))) := by unfold Hid At2; simp [go_sem]
  have HB := hide (balloc (bthen (below1 _ _) hbl) (.cells #[.int .i64 e, .int .i64 f] 53))
  clear hbl
  go_wp2_with fail
  refine (known_any e f _).mono ?_
  rintro _ w2 ⟨rfl, hbl⟩
  obtain ⟨p0, p1, p2, p3⟩ := (unhide HA4).below hbl
  obtain ⟨q0, q1⟩ := (unhide HA2).below hbl
  have HB := hide (bthen (unhide HB) hbl)
  clear hbl HA4 HA2
  go_wp2_with fail
  refine (unhide HC _).mono ?_
  rintro _ w3 ⟨rfl, hbl⟩
  have HB := hide (bthen (unhide HB) hbl)
  go_wp2_with fail
  go_ret2
  exact ⟨rfl, unhide HB⟩

set_option maxHeartbeats 1000000 in
theorem close_oth {w e f P Q b K X S : Int} {n : Bool} (W : World) (h : Wd w e f P Q b) (hf : (f != 0) = true) (k1 : (K == 1) = false) (z1 : (S != 0) = false) (z2 : (X != 0) = false) (k0 : (K == 0) = false) (k2 : (K == 2) = false) (k3 : (K == 3) = false) :
    Calls Try.prog 81 #[.int .i64 w, .agg #[.bool n, .int .i64 K, .int .i64 X, .int .u64 S]] W fun r W' => r = .returned (.tuple #[.int .u64 0, .int .i64 2]) ∧ Below W.heap.size W W' := by
  go_enter Try.func81, Try.ntmps81
  go_wp2_with fail
  refine (sizesOf_any h _).mono ?_
  rintro _ w1 ⟨rfl, hbl⟩
  have HA4 := hide (((at4_new W (.bool n) (.int .i64 K) (.int .i64 X) (.int .u64 S) 31).below hbl).below (below1 _ (.cells #[.int .i64 e, .int .i64 f] 53)))
  have HA2 : Hid (At2 w1.heap.size (.int .i64 e) (.int .i64 f) (w1.alloc (.cells #[.int .i64 e, .int .i64 f] 53))) := by unfold Hid At2; simp [go_sem]
  have HB := hide (balloc (bthen (below1 _ _) hbl) (.cells #[.int .i64 e, .int .i64 f] 53))
  clear hbl
  go_wp2_with fail
  refine (known_any e f _).mono ?_
  rintro _ w2 ⟨rfl, hbl⟩
  obtain ⟨p0, p1, p2, p3⟩ := (unhide HA4).below hbl
  obtain ⟨q0, q1⟩ := (unhide HA2).below hbl
  have HB := hide (bthen (unhide HB) hbl)
  clear hbl HA4 HA2
  go_wp2_with fail
  go_ret2
  exact ⟨rfl, unhide HB⟩

/-- The float of parts, and the error. -/
def Closed (f P Q b : Int) (n : Bool) (K X S V c : Int) : Prop :=
  (K = 1 ∧ ClosedF f P Q b n X S V c) ∨
  (K = 0 ∧ S = 0 ∧ X = 0 ∧ V = put f P Q n 0 0 ∧ c = 0) ∨
  (K = 2 ∧ S = 0 ∧ X = 0 ∧ V = put f P Q n (Q - 1) 0 ∧ c = 0) ∨
  (K = 3 ∧ S = 0 ∧ X = 0 ∧ V = put f P Q false (Q - 1) (P / 2) ∧ c = 0) ∨
  (K ≠ 1 ∧ (S ≠ 0 ∨ X ≠ 0 ∨ (K ≠ 0 ∧ K ≠ 2 ∧ K ≠ 3)) ∧ V = 0 ∧ c = 2)
theorem close_any {w e f P Q b K X S V c : Int} {n : Bool} (W : World) (h : Kd w e f P Q b) (s0 : 0 ≤ S) (s1 : S < 18446744073709551616) (hc : Closed f P Q b n K X S V c) :
    Calls Try.prog 81 #[.int .i64 w, .agg #[.bool n, .int .i64 K, .int .i64 X, .int .u64 S]] W fun r W' => r = .returned (.tuple #[.int .u64 V, .int .i64 c]) ∧ Below W.heap.size W W' := by
  have hf := ne_t h.f0
  rcases hc with ⟨k, hc⟩ | ⟨rfl, rfl, rfl, rfl, rfl⟩ | ⟨rfl, rfl, rfl, rfl, rfl⟩ | ⟨rfl, rfl, rfl, rfl, rfl⟩ | ⟨k1, hz, rfl, rfl⟩
  · exact close_fin W h.wd hf (eq_t k) (hide (fun W => fin_any W h s0 s1 hc))
  · exact close_zero W h.wd hf rfl rfl rfl rfl (hide (fun W => zero_any n h.wd W))
  · exact close_inf W h.wd hf rfl rfl rfl rfl rfl (hide (fun W => inf_any n h.wd W))
  · exact close_nan W h.wd hf rfl rfl rfl rfl rfl rfl (hide (fun W => nan_any h.wd W))
  · by_cases z1 : S = 0
    · by_cases z2 : X = 0
      · exact close_oth W h.wd hf (eq_f k1) (ne_f z1) (ne_f z2) (eq_f (by omega)) (eq_f (by omega)) (eq_f (by omega))
      · exact close_e2 W h.wd hf (eq_f k1) (ne_f z1) (ne_t z2)
    · exact close_e1 W h.wd hf (eq_f k1) (ne_t z1)

end Go.Proofs.Ytcgnlpamfhdiiaa
namespace Go.Proofs.Ytcgnlpamfhdiiaa.W
open Go.RowKit

set_option maxHeartbeats 400000 in
theorem of_any (n : Int) (w : World) :
    Calls Try.prog 45 #[.int .u64 n] w fun e w' => e = .returned (.agg #[.int .u64 0, .int .u64 n]) ∧ Below w.heap.size w w' := by
  go_enter Try.func45, Try.ntmps45
  go_wp2
  exact bodyPost_ret (v := .agg #[.int .u64 0, .int .u64 n]) (by simp [results, Try.results45, go_sem]) rfl ⟨rfl, (Below.refl _ _).alloc (Nat.le_refl _) _⟩

end Go.Proofs.Ytcgnlpamfhdiiaa.W
namespace Go.Proofs.Ytcgnlpamfhdiiaa.W
open Go.RowKit

theorem ret1 {k : IntKind} {a c : Int} (h1 : a = c) : Ending.returned (.int k a) = .returned (.int k c) := by rw [h1]
theorem tab_len (i : Int) (h0 : 0 ≤ i) (h1 : i ≤ 255) (hh : i.toNat < Lib.len8tab.size) : ((Lib.len8tab[i.toNat].toNat : Nat) : Int) = (Lib.bitLen i.toNat : Int) := by
  have h := Lib.len8_of i h0 h1
  unfold Lib.len8 at h
  rw [getElem?_pos Lib.len8tab i.toNat hh] at h
  exact h

theorem bitLen_lib : ∀ n x : Nat, x < n → x < 18446744073709551616 → Lib.bitLen x = Go.bitLen x
  | 0, _, h, _ => by omega
  | n + 1, x, h, hx => by
    by_cases h0 : x = 0
    · subst h0; rfl
    · have ih := bitLen_lib n (x / 2) (by omega) (by omega)
      rw [Lib.bitLen_half x h0 hx, ih]
      by_cases h2 : x / 2 = 0
      · have : x = 1 := by omega
        subst this; rfl
      · have := Go.bitLen_shift x 1 (by simpa using h2)
        simp only [Nat.pow_one] at this
        omega

theorem bl_shift (x s p : Nat) (hp : 2 ^ s = p) (h : p ≤ x) : Go.bitLen x = s + Go.bitLen (x / p) := by
  subst hp
  refine Go.bitLen_shift x s ?_
  have := Nat.div_pos h (Nat.two_pow_pos s)
  omega

theorem len_close (c x i : Int) (s p : Nat) (hp : 2 ^ s = p) (hs : s ≤ 56) (hc : c = s) (h0 : 0 ≤ x) (hpx : (p : Int) ≤ x) (hi : i = x / p) (hi0 : 0 ≤ i) (hi1 : i < 256) (hh : i.toNat < Lib.len8tab.size) :
    wrap64 (c + wrap64 ((Lib.len8tab[i.toNat].toNat : Nat) : Int)) = (Go.bitLen x.toNat : Int) := by
  rw [tab_len i hi0 (by omega) hh, bitLen_lib 256 i.toNat (by omega) (by omega)]
  have hl := Go.bitLen_le8 i.toNat (by omega)
  have e := bl_shift x.toNat s p hp (by omega)
  have ei : i.toNat = x.toNat / p := by
    rw [hi]
    obtain ⟨X, rfl⟩ := Int.eq_ofNat_of_zero_le h0
    rw [Int.toNat_natCast, ← Int.natCast_ediv, Int.toNat_natCast]
  rw [e, ← ei]
  unfold wrap64
  omega

theorem len_close0 (x : Int) (hi0 : 0 ≤ x) (hi1 : x < 256) (hh : x.toNat < Lib.len8tab.size) :
    wrap64 (wrap64 ((Lib.len8tab[x.toNat].toNat : Nat) : Int)) = (Go.bitLen x.toNat : Int) := by
  rw [tab_len x hi0 (by omega) hh, bitLen_lib 256 x.toNat (by omega) (by omega)]
  have hl := Go.bitLen_le8 x.toNat (by omega)
  unfold wrap64
  omega

set_option maxHeartbeats 4000000 in
set_option maxRecDepth 100000 in
theorem len64_any (x : Int) (w : World) (h0 : 0 ≤ x) (h1 : x < 18446744073709551616) :
    Calls Try.prog 69 #[.int .u64 x] w fun e w' => e = .returned (.int .i64 (Go.bitLen x.toNat)) ∧ w' = w := by
  have hsz : Lib.len8tab.size = 256 := Lib.len8tab_size
  go_enter Try.func69, Try.ntmps69
  go_wp2
  all_goals (go_ret; refine ⟨ret1 ?_, rfl⟩)
  · exact len_close 56 x _ 56 72057594037927936 rfl (by omega) rfl h0 (by omega) (by omega) (by omega) (by omega) (by omega)
  · exact len_close 48 x _ 48 281474976710656 rfl (by omega) rfl h0 (by omega) (by omega) (by omega) (by omega) (by omega)
  · exact len_close 40 x _ 40 1099511627776 rfl (by omega) rfl h0 (by omega) (by omega) (by omega) (by omega) (by omega)
  · exact len_close 32 x _ 32 4294967296 rfl (by omega) rfl h0 (by omega) (by omega) (by omega) (by omega) (by omega)
  · exact len_close 24 x _ 24 16777216 rfl (by omega) rfl h0 (by omega) (by omega) (by omega) (by omega) (by omega)
  · exact len_close 16 x _ 16 65536 rfl (by omega) rfl h0 (by omega) (by omega) (by omega) (by omega) (by omega)
  · exact len_close 8 x _ 8 256 rfl (by omega) rfl h0 (by omega) (by omega) (by omega) (by omega) (by omega)
  · exact len_close0 x h0 (by omega) (by omega)

theorem below2 (w : World) (o1 o2 : Obj) : Below w.heap.size w ((w.alloc o1).alloc o2) := ((Below.refl _ _).alloc (Nat.le_refl _) _).alloc (by simp) _
theorem below1 (w : World) (o1 : Obj) : Below w.heap.size w (w.alloc o1) := (Below.refl _ _).alloc (Nat.le_refl _) _

/-- How many bits a number of two words has. -/
def len2 (h l : Int) : Int := if h = 0 then (Go.bitLen l.toNat : Int) else 64 + (Go.bitLen h.toNat : Int)

theorem bitLen_le64 (x : Nat) (h : x < 18446744073709551616) : Go.bitLen x ≤ 64 := by
  unfold Go.bitLen
  split
  · omega
  · rename_i h0
    have := (Nat.log2_lt h0).2 (show x < 2 ^ 64 from h)
    omega

set_option maxHeartbeats 400000 in
theorem len_any (h l : Int) (w : World) (h0 : 0 ≤ h) (h1 : h < 18446744073709551616) (l0 : 0 ≤ l) (l1 : l < 18446744073709551616) :
    Calls Try.prog 58 #[.agg #[.int .u64 h, .int .u64 l]] w fun e w' => e = .returned (.int .i64 (len2 h l)) ∧ Below w.heap.size w w' := by
  by_cases hz : h = 0
  · subst hz
    have HC : Hid ((Go.bitLen l.toNat : Int) = len2 0 l) := by unfold len2 Hid; rw [if_pos rfl]
    go_enter Try.func58, Try.ntmps58
    go_wp2_with (go_at_call 69; refine (len64_any l _ l0 l1).mono ?_; rintro e w' ⟨rfl, rfl⟩)
    go_ret
    exact ⟨ret1 HC.out, below1 _ _⟩
  · have hb : (h != 0) = true := by simp [hz]
    have b1 := bitLen_le64 h.toNat (by omega)
    have HC : Hid (64 + (Go.bitLen h.toNat : Int) = len2 h l) := by unfold len2 Hid; rw [if_neg hz]
    clear hz
    go_enter Try.func58, Try.ntmps58
    go_wp2_with (go_at_call 69; refine (len64_any h _ h0 h1).mono ?_; rintro e w' ⟨rfl, rfl⟩)
    go_ret
    exact ⟨ret1 HC.out, below1 _ _⟩

end Go.Proofs.Ytcgnlpamfhdiiaa.W
namespace Go.Proofs.Ytcgnlpamfhdiiaa.W

/-- The upper and the lower word of a number. -/
def hi (v : Nat) : Int := ((v / 18446744073709551616 : Nat) : Int)
def lo (v : Nat) : Int := ((v % 18446744073709551616 : Nat) : Int)
/-- A number of two words. -/
def W2 (v : Nat) : Prop := v < 340282366920938463463374607431768211456

theorem hi_0 (v : Nat) : 0 ≤ hi v := by unfold hi; omega
theorem lo_0 (v : Nat) : 0 ≤ lo v := by unfold lo; omega
theorem lo_1 (v : Nat) : lo v < 18446744073709551616 := by unfold lo; omega
theorem hi_1 {v : Nat} (h : W2 v) : hi v < 18446744073709551616 := by unfold W2 at h; unfold hi; omega
theorem words_inj {v u : Nat} (h : hi v = hi u) (l : lo v = lo u) : v = u := by unfold hi at h; unfold lo at l; omega
theorem hi_small {v : Nat} (h : v < 18446744073709551616) : hi v = 0 := by unfold hi; omega
theorem lo_small {v : Nat} (h : v < 18446744073709551616) : lo v = (v : Int) := by unfold lo; omega
theorem words_of (n : Int) (h0 : 0 ≤ n) (h1 : n < 18446744073709551616) : hi n.toNat = 0 ∧ lo n.toNat = n := by
  constructor
  · rw [hi_small (by omega)]
  · rw [lo_small (by omega)]; omega

/-- Held against each other. -/
def cmpN (v u : Nat) : Int := if v < u then -1 else if u < v then 1 else 0

theorem pow_split (n : Nat) (h : n ≤ 64) : 2 ^ n * 2 ^ (64 - n) = 18446744073709551616 := by
  rw [← Nat.pow_add, show n + (64 - n) = 64 by omega]

theorem or_join (n x y : Nat) (hx : x % 2 ^ n = 0) (hy : y < 2 ^ n) : x ||| y = x + y := Go.nat_join n x y hx hy

theorem mod_mod_p (x : Nat) : x % 340282366920938463463374607431768211456 % 18446744073709551616 = x % 18446744073709551616 := by omega

/-- A product by a power of two: its lower word. -/
theorem left_lo (v k : Nat) : (v % 18446744073709551616 * 2 ^ k) % 18446744073709551616 = v * 2 ^ k % 340282366920938463463374607431768211456 % 18446744073709551616 := by
  rw [mod_mod_p, Nat.mod_mul_mod]

theorem join_core (a b h l : Nat) (ha : 0 < a) (hb : 0 < b) (hs : a * b = 18446744073709551616) (hl : l < 18446744073709551616) :
    h * a % 18446744073709551616 = (h % b) * a ∧ l / b < a ∧ (h * 18446744073709551616 + l) * a % 340282366920938463463374607431768211456 / 18446744073709551616 = (h % b) * a + l / b := by
  have e1 : h * a % 18446744073709551616 = (h % b) * a := by rw [← hs, Nat.mul_comm a b, Nat.mul_mod_mul_right]
  have e2 : l / b < a := Nat.div_lt_of_lt_mul (by rw [Nat.mul_comm, hs]; exact hl)
  refine ⟨e1, e2, ?_⟩
  have e3 : (h * 18446744073709551616 + l) * a % 340282366920938463463374607431768211456 / 18446744073709551616 = (h * 18446744073709551616 + l) * a / 18446744073709551616 % 18446744073709551616 :=
    Nat.mod_mul_right_div_self _ 18446744073709551616 18446744073709551616
  have e4 : (h * 18446744073709551616 + l) * a / 18446744073709551616 = h * a + l / b := by
    have : (h * 18446744073709551616 + l) * a / 18446744073709551616 = (h * 18446744073709551616 + l) / b := by
      rw [show (18446744073709551616 : Nat) = b * a by rw [Nat.mul_comm]; exact hs.symm]
      exact Nat.mul_div_mul_right _ _ ha
    rw [this, show h * 18446744073709551616 = b * (h * a) by rw [← hs, ← Nat.mul_assoc, Nat.mul_comm b (h * a)], Nat.mul_add_div hb]
  rw [e3, e4, ← Nat.mod_add_mod, e1]
  refine Nat.mod_eq_of_lt ?_
  have h1 : h % b < b := Nat.mod_lt _ hb
  have h2 : (h % b + 1) * a ≤ b * a := Nat.mul_le_mul_right a h1
  rw [Nat.add_mul, Nat.one_mul, Nat.mul_comm b a, hs] at h2
  omega

theorem left_hi (v k : Nat) (hk' : k < 64) :
    (v / 18446744073709551616 * 2 ^ k % 18446744073709551616 ||| v % 18446744073709551616 / 2 ^ (64 - k)) = v * 2 ^ k % 340282366920938463463374607431768211456 / 18446744073709551616 := by
  obtain ⟨c1, c2, c3⟩ := join_core (2 ^ k) (2 ^ (64 - k)) (v / 18446744073709551616) (v % 18446744073709551616) (Nat.two_pow_pos _) (Nat.two_pow_pos _) (pow_split k (by omega)) (by omega)
  rw [c1, or_join k _ _ (Nat.mul_mod_left _ _) c2, ← c3]
  congr 3
  omega

theorem left_hi64 (v k : Nat) : (v % 18446744073709551616 * 2 ^ k) % 18446744073709551616 = v * 2 ^ (64 + k) % 340282366920938463463374607431768211456 / 18446744073709551616 := by
  have e3 : v * 2 ^ (64 + k) % 340282366920938463463374607431768211456 / 18446744073709551616 = v * 2 ^ (64 + k) / 18446744073709551616 % 18446744073709551616 :=
    Nat.mod_mul_right_div_self _ 18446744073709551616 18446744073709551616
  have e4 : v * 2 ^ (64 + k) = 18446744073709551616 * (v * 2 ^ k) := by rw [Nat.pow_add, show (2 : Nat) ^ 64 = 18446744073709551616 from rfl, Nat.mul_left_comm]
  rw [e3, e4, Nat.mul_div_cancel_left _ (by omega), Nat.mod_mul_mod]

theorem left_lo64 (v k : Nat) : v * 2 ^ (64 + k) % 340282366920938463463374607431768211456 % 18446744073709551616 = 0 := by
  rw [mod_mod_p, Nat.pow_add, show (2 : Nat) ^ 64 = 18446744073709551616 from rfl, Nat.mul_left_comm, Nat.mul_mod_right]

theorem left_128 (v k : Nat) : v * 2 ^ (128 + k) % 340282366920938463463374607431768211456 = 0 := by
  rw [Nat.pow_add, show (2 : Nat) ^ 128 = 340282366920938463463374607431768211456 from rfl, Nat.mul_left_comm, Nat.mul_mod_right]

/-- A number by a power of two: the lower word. -/
theorem right_lo (v k : Nat) (hk' : k < 64) :
    (v % 18446744073709551616 / 2 ^ k ||| v / 18446744073709551616 * 2 ^ (64 - k) % 18446744073709551616) = v / 2 ^ k % 18446744073709551616 := by
  have hs := pow_split k (by omega)
  obtain ⟨c1, c2, c3⟩ := join_core (2 ^ (64 - k)) (2 ^ k) (v / 18446744073709551616) (v % 18446744073709551616) (Nat.two_pow_pos _) (Nat.two_pow_pos _) (by rw [Nat.mul_comm]; exact hs) (by omega)
  rw [Nat.or_comm, c1, or_join (64 - k) _ _ (Nat.mul_mod_left _ _) c2, ← c3]
  have ev : v / 18446744073709551616 * 18446744073709551616 + v % 18446744073709551616 = v := by omega
  have e3 : v * 2 ^ (64 - k) % 340282366920938463463374607431768211456 / 18446744073709551616 = v * 2 ^ (64 - k) / 18446744073709551616 % 18446744073709551616 :=
    Nat.mod_mul_right_div_self _ 18446744073709551616 18446744073709551616
  rw [ev, e3]
  congr 1
  rw [← hs]
  exact Nat.mul_div_mul_right _ _ (Nat.two_pow_pos _)

theorem right_hi (v k : Nat) : v / 18446744073709551616 / 2 ^ k = v / 2 ^ k / 18446744073709551616 := by
  rw [Nat.div_div_eq_div_mul, Nat.div_div_eq_div_mul, Nat.mul_comm]

theorem right_64 (v k : Nat) : v / 18446744073709551616 / 2 ^ k = v / 2 ^ (64 + k) := by
  rw [Nat.div_div_eq_div_mul, Nat.pow_add]

theorem right_128 (v k : Nat) (hv : W2 v) : v / 2 ^ (128 + k) = 0 := by
  unfold W2 at hv
  rw [Nat.pow_add, ← Nat.div_div_eq_div_mul, Nat.div_eq_of_lt (show v < 2 ^ 128 from hv), Nat.zero_div]

theorem bitLen_2 (v : Nat) : (Go.bitLen v : Int) = if hi v = 0 then (Go.bitLen (lo v).toNat : Int) else 64 + (Go.bitLen (hi v).toNat : Int) := by
  unfold hi lo
  by_cases h : v / 18446744073709551616 = 0
  · rw [if_pos (by omega)]
    have e : v % 18446744073709551616 = v := by omega
    rw [Int.toNat_natCast, e]
  · rw [if_neg (by omega), Int.toNat_natCast]
    have := Go.bitLen_shift v 64 h
    rw [this]
    rw [show (2 : Nat) ^ 64 = 18446744073709551616 from rfl]
    omega

end Go.Proofs.Ytcgnlpamfhdiiaa.W
namespace Go.Proofs.Ytcgnlpamfhdiiaa.W
open Go.RowKit

theorem below2d (w : World) (o1 o2 : Obj) : Below w.heap.size w ((w.alloc o1).alloc o2).drew := (below2 w o1 o2).drew

theorem of_n (n : Int) (w : World) (h0 : 0 ≤ n) (h1 : n < 18446744073709551616) :
    Calls Try.prog 45 #[.int .u64 n] w fun e w' => e = .returned (.agg #[.int .u64 (hi n.toNat), .int .u64 (lo n.toNat)]) ∧ Below w.heap.size w w' := by
  obtain ⟨e1, e2⟩ := words_of n h0 h1
  rw [e1, e2]
  exact of_any n w

theorem len_n (v : Nat) (w : World) (hv : W2 v) :
    Calls Try.prog 58 #[.agg #[.int .u64 (hi v), .int .u64 (lo v)]] w fun e w' => e = .returned (.int .i64 (Go.bitLen v : Int)) ∧ Below w.heap.size w w' := by
  have h := len_any (hi v) (lo v) w (hi_0 v) (hi_1 hv) (lo_0 v) (lo_1 v)
  rw [bitLen_2]
  exact h

/-- A number times a power of two, modulo 2^128. -/
def shlN (v : Nat) (n : Int) : Nat := v * 2 ^ n.toNat % 340282366920938463463374607431768211456
theorem or_words (a b c : Nat) (ha : a < 18446744073709551616) (hb : b < 18446744073709551616) (h : a ||| b = c) : bits .or .u64 (a : Int) (b : Int) = (c : Int) := by
  rw [Go.u64_or_nat a b ha hb, h]

theorem shl_nat (x n : Nat) : IntKind.u64.wrap ((x : Int) * 2 ^ n) = ((x * 2 ^ n % 18446744073709551616 : Nat) : Int) := by
  rw [IntKind.wrap_u64]
  simp [Int.natCast_emod, Int.natCast_mul, Int.natCast_pow]
theorem shr_nat (x n : Nat) : (x : Int) / 2 ^ n = ((x / 2 ^ n : Nat) : Int) := by
  simp [Int.natCast_ediv, Int.natCast_pow]

set_option maxHeartbeats 1000000 in
theorem left_n (v : Nat) (n : Int) (w : World) (hv : W2 v) :
    Calls Try.prog 59 #[.agg #[.int .u64 (hi v), .int .u64 (lo v)], .int .i64 n] w fun e w' => e = .returned (.agg #[.int .u64 (hi (shlN v n)), .int .u64 (lo (shlN v n))]) ∧ Below w.heap.size w w' := by
  by_cases c1 : n ≤ 0
  · have HE : Hid (v = shlN v n) := by
      unfold Hid shlN; rw [show n.toNat = 0 by omega, Nat.pow_zero, Nat.mul_one]; exact (Nat.mod_eq_of_lt hv).symm
    go_enter Try.func59, Try.ntmps59
    go_wp2
    exact bodyPost_ret (v := .agg #[.int .u64 (hi v), .int .u64 (lo v)]) (by simp [results, Try.results59, go_sem]) rfl ⟨by rw [← HE.out], below2 _ _ _⟩
  by_cases c2 : n < 64
  · have HA : Hid (bits .or .u64 (IntKind.u64.wrap (hi v * 2 ^ n.toNat)) (lo v / 2 ^ (64 - n).toNat) = hi (shlN v n)) := by
      unfold Hid hi lo shlN
      rw [shl_nat, shr_nat, show (64 - n).toNat = 64 - n.toNat by omega]
      exact or_words _ _ _ (by omega) (Nat.lt_of_le_of_lt (Nat.div_le_self _ _) (by omega)) (left_hi v n.toNat (by omega))
    have HB : Hid (IntKind.u64.wrap (lo v * 2 ^ n.toNat) = lo (shlN v n)) := by
      unfold Hid lo shlN
      rw [shl_nat, left_lo]
    go_enter Try.func59, Try.ntmps59
    go_wp2
    go_region
    go_wp2
    exact bodyPost_ret (v := .agg #[.int .u64 (bits .or .u64 (IntKind.u64.wrap (hi v * 2 ^ n.toNat)) (lo v / 2 ^ (64 - n).toNat)), .int .u64 (IntKind.u64.wrap (lo v * 2 ^ n.toNat))]) (by simp [results, Try.results59, go_sem]) rfl ⟨by rw [HA.out, HB.out], below2d _ _ _⟩
  by_cases c3 : n < 128
  · have HA : Hid (IntKind.u64.wrap (lo v * 2 ^ (n - 64).toNat) = hi (shlN v n)) := by
      unfold Hid hi lo shlN
      rw [shl_nat, left_hi64, show 64 + (n - 64).toNat = n.toNat by omega]
    have HB : Hid (0 = lo (shlN v n)) := by
      unfold Hid lo shlN
      rw [show n.toNat = 64 + (n - 64).toNat by omega, left_lo64]
      rfl
    go_enter Try.func59, Try.ntmps59
    go_wp2
    exact bodyPost_ret (v := .agg #[.int .u64 (IntKind.u64.wrap (lo v * 2 ^ (n - 64).toNat)), .int .u64 0]) (by simp [results, Try.results59, go_sem]) rfl ⟨by rw [HA.out, HB.out], below2 _ _ _⟩
  · have HE : Hid (shlN v n = 0) := by
      unfold Hid shlN; rw [show n.toNat = 128 + (n - 128).toNat by omega, left_128]
    go_enter Try.func59, Try.ntmps59
    go_wp2
    exact bodyPost_ret (v := .agg #[.int .u64 0, .int .u64 0]) (by simp [results, Try.results59, go_sem]) rfl ⟨by rw [HE.out]; rfl, below2 _ _ _⟩

end Go.Proofs.Ytcgnlpamfhdiiaa.W
namespace Go.Proofs.Ytcgnlpamfhdiiaa.W
open Go.RowKit

theorem bcell {W w1 : World} (hb : Below W.heap.size W w1) : (∀ b o, b < W.heap.size → w1.cell? ⟨b, o, none⟩ = W.cell? ⟨b, o, none⟩) ∧ (∀ b o, b < W.heap.size → w1.frozen? ⟨b, o, none⟩ = W.frozen? ⟨b, o, none⟩) :=
  ⟨fun b o h => hb.cell (p := ⟨b, o, none⟩) h, fun b o h => hb.frozen (p := ⟨b, o, none⟩) h⟩

/-- A number by a power of two, down. -/
def shrN (v : Nat) (n : Int) : Nat := v / 2 ^ n.toNat
theorem shrN_w {v : Nat} (n : Int) (hv : W2 v) : W2 (shrN v n) := Nat.lt_of_le_of_lt (Nat.div_le_self _ _) hv

set_option maxHeartbeats 1000000 in
theorem down_n (v : Nat) (n : Int) (w : World) (hv : W2 v) :
    Calls Try.prog 82 #[.agg #[.int .u64 (hi v), .int .u64 (lo v)], .int .i64 n] w fun e w' => e = .returned (.agg #[.int .u64 (hi (shrN v n)), .int .u64 (lo (shrN v n))]) ∧ Below w.heap.size w w' := by
  by_cases c1 : n ≤ 0
  · have HE : Hid (v = shrN v n) := by
      unfold Hid shrN; rw [show n.toNat = 0 by omega, Nat.pow_zero, Nat.div_one]
    go_enter Try.func82, Try.ntmps82
    go_wp2
    exact bodyPost_ret (v := .agg #[.int .u64 (hi v), .int .u64 (lo v)]) (by simp [results, Try.results82, go_sem]) rfl ⟨by rw [← HE.out], below2 _ _ _⟩
  by_cases c2 : n < 64
  · have HA : Hid (hi v / 2 ^ n.toNat = hi (shrN v n)) := by
      unfold Hid hi shrN
      rw [shr_nat, right_hi]
    have HB : Hid (bits .or .u64 (lo v / 2 ^ n.toNat) (IntKind.u64.wrap (hi v * 2 ^ (64 - n).toNat)) = lo (shrN v n)) := by
      unfold Hid hi lo shrN
      rw [shl_nat, shr_nat, show (64 - n).toNat = 64 - n.toNat by omega]
      exact or_words _ _ _ (Nat.lt_of_le_of_lt (Nat.div_le_self _ _) (by omega)) (by omega) (right_lo v n.toNat (by omega))
    go_enter Try.func82, Try.ntmps82
    go_wp2
    go_region
    go_wp2
    exact bodyPost_ret (v := .agg #[.int .u64 (hi v / 2 ^ n.toNat), .int .u64 (bits .or .u64 (lo v / 2 ^ n.toNat) (IntKind.u64.wrap (hi v * 2 ^ (64 - n).toNat)))]) (by simp [results, Try.results82, go_sem]) rfl ⟨by rw [HA.out, HB.out], below2d _ _ _⟩
  by_cases c3 : n < 128
  · have HE : Hid ((hi v / 2 ^ (n - 64).toNat).toNat = shrN v n) := by
      unfold Hid hi shrN
      rw [shr_nat, Int.toNat_natCast, right_64, show 64 + (n - 64).toNat = n.toNat by omega]
    have k0 : 0 ≤ hi v / 2 ^ (n - 64).toNat := by unfold hi; rw [shr_nat]; exact Int.natCast_nonneg _
    have k1 : hi v / 2 ^ (n - 64).toNat < 18446744073709551616 := by
      have := hi_1 hv
      unfold hi at this ⊢; rw [shr_nat]
      exact Int.lt_of_le_of_lt (Int.ofNat_le.2 (Nat.div_le_self (v / 18446744073709551616) (2 ^ (n - 64).toNat))) this
    go_enter Try.func82, Try.ntmps82
    go_wp2_with fail
    refine (of_n _ _ k0 k1).mono ?_
    rintro e w1 ⟨rfl, hb⟩
    rw [HE.out]
    obtain ⟨hc, hf⟩ := bcell hb
    have hz : w.heap.size + 1 < w1.heap.size := by have := hb.size; simp at this; omega
    go_wp2
    exact bodyPost_ret (v := .agg #[.int .u64 (hi (shrN v n)), .int .u64 (lo (shrN v n))]) (by simp [results, Try.results82, go_sem, hc]) rfl ⟨rfl, (((below2 _ _ _).trans (hb.mono (by simp; omega))).setCell (by simp) _).setCell (by simp) _⟩
  · have HE : Hid (shrN v n = 0) := by
      unfold Hid shrN; rw [show n.toNat = 128 + (n - 128).toNat by omega, right_128 _ _ hv]
    go_enter Try.func82, Try.ntmps82
    go_wp2
    exact bodyPost_ret (v := .agg #[.int .u64 0, .int .u64 0]) (by simp [results, Try.results82, go_sem]) rfl ⟨by rw [HE.out]; rfl, below2 _ _ _⟩

/-- Whether something is lost by it. -/
def lostB (v : Nat) (n : Int) : Bool := decide (v % 2 ^ n.toNat ≠ 0)

theorem lost_iff (v : Nat) (n : Int) (hv : W2 v) : shlN (shrN v n) n = v ↔ lostB v n = false := by
  unfold shlN shrN lostB
  have h1 : v / 2 ^ n.toNat * 2 ^ n.toNat + v % 2 ^ n.toNat = v := Nat.div_add_mod' _ _
  unfold W2 at hv
  rw [Nat.mod_eq_of_lt (by omega)]
  simp
  omega

/-- Two cells of two words: what a store of the very same values leaves. -/
theorem keep_right {w' : World} {b : Nat} {x0 x1 y0 y1 : Value}
    (h : w'.cell? ⟨b, 0, none⟩ = some x0 ∧ w'.cell? ⟨b, 1, none⟩ = some x1 ∧ w'.cell? ⟨b + 1, 0, none⟩ = some y0 ∧ w'.cell? ⟨b + 1, 1, none⟩ = some y1) :
    ((w'.setCell ⟨b + 1, 0, none⟩ y0).setCell ⟨b + 1, 1, none⟩ y1).cell? ⟨b, 0, none⟩ = some x0 ∧ ((w'.setCell ⟨b + 1, 0, none⟩ y0).setCell ⟨b + 1, 1, none⟩ y1).cell? ⟨b, 1, none⟩ = some x1 ∧
      ((w'.setCell ⟨b + 1, 0, none⟩ y0).setCell ⟨b + 1, 1, none⟩ y1).cell? ⟨b + 1, 0, none⟩ = some y0 ∧ ((w'.setCell ⟨b + 1, 0, none⟩ y0).setCell ⟨b + 1, 1, none⟩ y1).cell? ⟨b + 1, 1, none⟩ = some y1 := by
  obtain ⟨h1, h2, h3, h4⟩ := h
  refine ⟨?_, ?_, ?_, ?_⟩
  · rw [World.cell?_setCell_other _ _ _ _ (by simp), World.cell?_setCell_other _ _ _ _ (by simp)]; exact h1
  · rw [World.cell?_setCell_other _ _ _ _ (by simp), World.cell?_setCell_other _ _ _ _ (by simp)]; exact h2
  · rw [World.cell?_setCell_other _ _ _ _ (by simp)]; exact World.cell?_setCell_same _ _ _ h3
  · exact World.cell?_setCell_same _ _ _ (u := y1) (by rw [World.cell?_setCell_other _ _ _ _ (by simp)]; exact h4)

theorem right_case (v : Nat) (n : Int) (w : World) (hv : W2 v) (b : Bool)
    (hq : (hi (shlN (shrN v n) n) == hi v) = true ∧ (lo (shlN (shrN v n) n) == lo v) = true ∧ b = false ∨ (hi (shlN (shrN v n) n) == hi v) = true ∧ (lo (shlN (shrN v n) n) == lo v) = false ∧ b = true ∨ (hi (shlN (shrN v n) n) == hi v) = false ∧ b = true) :
    Calls Try.prog 80 #[.agg #[.int .u64 (hi v), .int .u64 (lo v)], .int .i64 n] w fun e w' => e = .returned (.tuple #[.agg #[.int .u64 (hi (shrN v n)), .int .u64 (lo (shrN v n))], .bool b]) ∧ Below w.heap.size w w' := by
  rcases hq with ⟨q1, q2, rfl⟩ | ⟨q1, q2, rfl⟩ | ⟨q1, rfl⟩
  all_goals
    go_enter Try.func80, Try.ntmps80
    go_wp2_with fail
    refine (down_n v n _ hv).mono ?_
    rintro e w1 ⟨rfl, hb⟩
    obtain ⟨hc, hf⟩ := bcell hb
    have hz : w.heap.size + 1 < w1.heap.size := by have := hb.size; simp at this; omega
    have hz' : w.heap.size < w1.heap.size := by omega
    go_wp2_with fail
    go_region_held3 (fun w' => w'.cell? ⟨w.heap.size, 0, none⟩ = some (.int .u64 (hi v)) ∧ w'.cell? ⟨w.heap.size, 1, none⟩ = some (.int .u64 (lo v)) ∧ w'.cell? ⟨w.heap.size + 1, 0, none⟩ = some (.int .u64 (hi (shrN v n))) ∧ w'.cell? ⟨w.heap.size + 1, 1, none⟩ = some (.int .u64 (lo (shrN v n)))) (first | (simp [go_sem, *]; done) | exact keep_right ‹_›)
      (first | (go_at_call 59; refine (left_n (shrN v n) n _ (shrN_w n hv)).mono ?_; rintro e w2 ⟨rfl, hb2⟩; obtain ⟨hc2, hf2⟩ := bcell hb2))
    go_wp2
    refine bodyPost_ret (v := .tuple #[.agg #[.int .u64 (hi (shrN v n)), .int .u64 (lo (shrN v n))], .bool _]) ?_ rfl ⟨rfl, ?_⟩
    · simp [results, Try.results80, go_sem, *]
    · exact (((((((below2 _ _ _).trans (hb.mono (by simp; omega))).setCell (by simp) _).setCell (by simp) _).drew).trans (hb2.mono (by simp; omega))).setCell (by simp) _).setCell (by simp) _

theorem right_n (v : Nat) (n : Int) (w : World) (hv : W2 v) :
    Calls Try.prog 80 #[.agg #[.int .u64 (hi v), .int .u64 (lo v)], .int .i64 n] w fun e w' => e = .returned (.tuple #[.agg #[.int .u64 (hi (shrN v n)), .int .u64 (lo (shrN v n))], .bool (lostB v n)]) ∧ Below w.heap.size w w' := by
  refine right_case v n w hv (lostB v n) ?_
  have hl := lost_iff v n hv
  by_cases h1 : hi (shlN (shrN v n) n) = hi v
  · by_cases h2 : lo (shlN (shrN v n) n) = lo v
    · exact Or.inl ⟨by simp [h1], by simp [h2], hl.1 (words_inj h1 h2)⟩
    · refine Or.inr (Or.inl ⟨by simp [h1], by simp [h2], ?_⟩)
      cases hb : lostB v n with
      | true => rfl
      | false => exact absurd (by rw [hl.2 hb]) h2
  · refine Or.inr (Or.inr ⟨by simp [h1], ?_⟩)
    cases hb : lostB v n with
    | true => rfl
    | false => exact absurd (by rw [hl.2 hb]) h1

theorem hide {p : Prop} (h : p) : Hid p := h
theorem unhide {p : Prop} (h : Hid p) : p := h
theorem bthen {a b c : World} (h : Below a.heap.size a b) (k : Below b.heap.size b c) : Below a.heap.size a c := h.trans (k.mono h.size)
theorem balloc {a b : World} (h : Below a.heap.size a b) (o : Obj) : Below a.heap.size a (b.alloc o) := h.alloc h.size o

end Go.Proofs.Ytcgnlpamfhdiiaa.W
namespace Go.Proofs.Ytcgnlpamfhdiiaa.W
open Go.RowKit

theorem bitLen_of {v k : Nat} (h : v < 2 ^ k) : Go.bitLen v ≤ k := by
  unfold Go.bitLen
  split
  · omega
  · rename_i h0
    have := (Nat.log2_lt h0).2 h
    omega
theorem bitLen_128 {v : Nat} (hv : W2 v) : Go.bitLen v ≤ 128 := bitLen_of hv
theorem i64_id {x : Int} (h1 : -9223372036854775808 ≤ x) (h2 : x < 9223372036854775808) : IntKind.i64.wrap x = x := by
  simp only [IntKind.wrap, IntKind.bits, IntKind.signed]
  simp
  omega

end Go.Proofs.Ytcgnlpamfhdiiaa.W
