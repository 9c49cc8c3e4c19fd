/- The contract of package shape's Close. -/
import Derived.Test.YtpbgpdmffejdgaaGreatDoorClose
namespace Go.Proofs.YtpbgpdmffejdgaaGreatDoor
open Go.RowKit

/-- The float of a finite one's parts, and the error: 0 or 2. -/
def ClosedF (f P Q b : Int) (n : Bool) (X S V c : Int) : Prop :=
  (S < P ∧ S ≠ 0 ∧ X = 1 - b - f ∧ V = put f P Q n 0 (S % P) ∧ c = 0) ∨
  (P ≤ S ∧ S < 2 * P ∧ 1 - b - f ≤ X ∧ X ≤ Q - 2 - b - f ∧ V = put f P Q n (X + b + f) (S % P) ∧ c = 0) ∨
  (¬ (S < P ∧ S ≠ 0 ∧ X = 1 - b - f) ∧ ¬ (P ≤ S ∧ S < 2 * P ∧ 1 - b - f ≤ X ∧ X ≤ Q - 2 - b - f) ∧ V = 0 ∧ c = 2)
theorem closedF_ex (f P Q b : Int) (n : Bool) (X S : Int) : ∃ V c, ClosedF f P Q b n X S V c := by
  unfold ClosedF
  by_cases h1 : S < P ∧ S ≠ 0 ∧ X = 1 - b - f
  · exact ⟨_, _, Or.inl ⟨h1.1, h1.2.1, h1.2.2, rfl, rfl⟩⟩
  by_cases h2 : P ≤ S ∧ S < 2 * P ∧ 1 - b - f ≤ X ∧ X ≤ Q - 2 - b - f
  · exact ⟨_, _, Or.inr (Or.inl ⟨h2.1, h2.2.1, h2.2.2.1, h2.2.2.2, rfl, rfl⟩)⟩
  · exact ⟨_, _, Or.inr (Or.inr ⟨h1, h2, rfl, rfl⟩)⟩
theorem dt {p : Prop} [Decidable p] (h : p) : decide p = true := by simp [h]
theorem df {p : Prop} [Decidable p] (h : ¬ p) : decide p = false := by simp [h]

theorem fin_any {w e f P Q b K X S V c : Int} {n : Bool} (W : World) (h : Kd w e f P Q b) (s0 : 0 ≤ S) (s1 : S < 18446744073709551616) (hc : ClosedF f P Q b n X S V c) :
    Calls Tryz.prog 283 #[.agg #[.int .i64 e, .int .i64 f], .agg #[.bool n, .int .i64 K, .int .i64 X, .int .u64 S]] W fun r W' => r = .returned (.tuple #[.int .u64 V, .int .i64 c]) ∧ Below W.heap.size W W' := by
  have hs := h.wd.sz
  obtain ⟨p1, p2, q1, q2⟩ := h.pos
  obtain ⟨u', v'⟩ := exp_in S (show 1 ≤ P by omega)
  have g : 0 ≤ f ∧ f ≤ 63 ∧ 0 ≤ b ∧ b ≤ 2000 ∧ Q = 2 * b + 2 := by rcases h with h | h <;> omega
  obtain ⟨g0, g1, g2, g3, g4⟩ := g
  have kp : IntKind.u64.wrap (P - 1) = P - 1 := by rw [IntKind.wrap_u64]; omega
  have ka : bits .and .u64 S (P - 1) = S % P := by
    rcases h with ⟨_, _, rfl, rfl, _, _⟩ | ⟨_, _, rfl, rfl, _, _⟩
    · exact and_mask 23 _ _ (by omega) (by omega) rfl (by omega)
    · exact and_mask 52 _ _ (by omega) (by omega) rfl (by omega)
  have kd : S / 2 ^ f.toNat = S / P := by rcases h with ⟨_, _, rfl, rfl, _, _⟩ | ⟨_, _, rfl, rfl, _, _⟩ <;> rfl
  have D0 : (S / P = 0 ↔ S < P) ∧ (S / P = 1 ↔ P ≤ S ∧ S < 2 * P) := by
    rcases h with ⟨_, _, _, rfl, _, _⟩ | ⟨_, _, _, rfl, _, _⟩ <;> omega
  obtain ⟨D0, D1⟩ := D0
  rcases hc with ⟨c1, c2, c3, rfl, rfl⟩ | ⟨c1, c2, c3, c4, rfl, rfl⟩ | ⟨c1, c2, rfl, rfl⟩
  · exact fin_sub W hs g0 g1 kp ka kd (eq_t (D0.2 c1)) (eq_f c2) (ne_f c3) (hide (fun W => bits_any n 0 (S % P) hs W (by omega) (by omega) u' v'))
  · refine fin_nor (E := X + b + f) W hs g0 g1 kp ka kd (eq_f (fun hh => by have := D0.1 hh; omega)) (eq_t (D1.2 ⟨c1, c2⟩)) (df (by omega)) (df (by omega)) (hide (fun W => power_any 0 hs W (by omega) (by omega))) ?_ ?_
      (hide (fun W => bits_any n (X + b + f) (S % P) hs W (by omega) (by omega) u' v'))
    · rw [i64_id (by omega) (by omega)]; omega
    · rw [IntKind.wrap_u64]; omega
  · by_cases e0 : S < P
    · by_cases e1 : S = 0
      · exact fin_z W hs g0 g1 kp ka kd (eq_t (D0.2 e0)) (eq_t e1)
      · exact fin_x W hs g0 g1 kp ka kd (eq_t (D0.2 e0)) (eq_f e1) (ne_t (fun hh => c1 ⟨e0, e1, hh⟩))
    · have d0 := eq_f (fun hh => e0 (D0.1 hh))
      by_cases e1 : S < 2 * P
      · have d1 := eq_t (D1.2 ⟨by omega, e1⟩)
        by_cases e2 : X < 1 - b - f
        · exact fin_lo W hs g0 g1 kp ka kd d0 d1 (dt e2)
        · exact fin_hi W hs g0 g1 kp ka kd d0 d1 (df e2) (dt (by omega))
      · exact fin_big W hs g0 g1 kp ka kd d0 (eq_f (fun hh => e1 (D1.1 hh).2))

set_option maxHeartbeats 1000000 in
theorem close_no {w e f P Q b K X S : Int} {n : Bool} (W : World) (h : Wd w e f P Q b) (hf : (f != 0) = false) :
    Calls Tryz.prog 279 #[.int .i64 w, .agg #[.bool n, .int .i64 K, .int .i64 X, .int .u64 S]] W fun r W' => r = .returned (.tuple #[.int .u64 0, .int .i64 2]) ∧ Below W.heap.size W W' := by
  go_enter Tryz.func279, Tryz.ntmps279
  go_wp2_with fail
  refine (sizesOf_any h _).mono ?_
  rintro _ w1 ⟨rfl, hbl⟩
  have HA4 := hide (((at4_new W (.bool n) (.int .i64 K) (.int .i64 X) (.int .u64 S) 37).below hbl).below (below1 _ (.cells #[.int .i64 e, .int .i64 f] 80)))
  have HA2 : Hid (At2 w1.heap.size (.int .i64 e) (.int .i64 f) (w1.alloc (.cells #[.int .i64 e, .int .i64 f] 80))) := by unfold Hid At2; simp [go_sem]
  have HB := hide (balloc (bthen (below1 _ _) hbl) (.cells #[.int .i64 e, .int .i64 f] 80))
  clear hbl
  go_wp2_with fail
  refine (known_any e f _).mono ?_
  rintro _ w2 ⟨rfl, hbl⟩
  obtain ⟨p0, p1, p2, p3⟩ := (unhide HA4).below hbl
  obtain ⟨q0, q1⟩ := (unhide HA2).below hbl
  have HB := hide (bthen (unhide HB) hbl)
  clear hbl HA4 HA2
  go_wp2_with fail
  go_ret2
  exact ⟨rfl, unhide HB⟩

set_option maxHeartbeats 1000000 in
theorem close_fin {w e f P Q b K X S : Int} {n : Bool} (W : World) (h : Wd w e f P Q b) (hf : (f != 0) = true) (k1 : (K == 1) = true) {V c : Int} (HC : Ct 283 #[.agg #[.int .i64 e, .int .i64 f], .agg #[.bool n, .int .i64 K, .int .i64 X, .int .u64 S]] (.tuple #[.int .u64 V, .int .i64 c])) :
    Calls Tryz.prog 279 #[.int .i64 w, .agg #[.bool n, .int .i64 K, .int .i64 X, .int .u64 S]] W fun r W' => r = .returned (.tuple #[.int .u64 V, .int .i64 c]) ∧ Below W.heap.size W W' := by
  go_enter Tryz.func279, Tryz.ntmps279
  go_wp2_with fail
  refine (sizesOf_any h _).mono ?_
  rintro _ w1 ⟨rfl, hbl⟩
  have HA4 := hide (((at4_new W (.bool n) (.int .i64 K) (.int .i64 X) (.int .u64 S) 37).below hbl).below (below1 _ (.cells #[.int .i64 e, .int .i64 f] 80)))
  have HA2 : Hid (At2 w1.heap.size (.int .i64 e) (.int .i64 f) (w1.alloc (.cells #[.int .i64 e, .int .i64 f] 80))) := by unfold Hid At2; simp [go_sem]
  have HB := hide (balloc (bthen (below1 _ _) hbl) (.cells #[.int .i64 e, .int .i64 f] 80))
  clear hbl
  go_wp2_with fail
  refine (known_any e f _).mono ?_
  rintro _ w2 ⟨rfl, hbl⟩
  obtain ⟨p0, p1, p2, p3⟩ := (unhide HA4).below hbl
  obtain ⟨q0, q1⟩ := (unhide HA2).below hbl
  have HB := hide (bthen (unhide HB) hbl)
  clear hbl HA4 HA2
  go_wp2_with fail
  refine (unhide HC _).mono ?_
  rintro _ w3 ⟨rfl, hbl⟩
  have HB := hide (bthen (unhide HB) hbl)
  go_wp2_with fail
  go_ret2
  exact ⟨rfl, unhide HB⟩

set_option maxHeartbeats 1000000 in
theorem close_e1 {w e f P Q b K X S : Int} {n : Bool} (W : World) (h : Wd w e f P Q b) (hf : (f != 0) = true) (k1 : (K == 1) = false) (z1 : (S != 0) = true) :
    Calls Tryz.prog 279 #[.int .i64 w, .agg #[.bool n, .int .i64 K, .int .i64 X, .int .u64 S]] W fun r W' => r = .returned (.tuple #[.int .u64 0, .int .i64 2]) ∧ Below W.heap.size W W' := by
  go_enter Tryz.func279, Tryz.ntmps279
  go_wp2_with fail
  refine (sizesOf_any h _).mono ?_
  rintro _ w1 ⟨rfl, hbl⟩
  have HA4 := hide (((at4_new W (.bool n) (.int .i64 K) (.int .i64 X) (.int .u64 S) 37).below hbl).below (below1 _ (.cells #[.int .i64 e, .int .i64 f] 80)))
  have HA2 : Hid (At2 w1.heap.size (.int .i64 e) (.int .i64 f) (w1.alloc (.cells #[.int .i64 e, .int .i64 f] 80))) := by unfold Hid At2; simp [go_sem]
  have HB := hide (balloc (bthen (below1 _ _) hbl) (.cells #[.int .i64 e, .int .i64 f] 80))
  clear hbl
  go_wp2_with fail
  refine (known_any e f _).mono ?_
  rintro _ w2 ⟨rfl, hbl⟩
  obtain ⟨p0, p1, p2, p3⟩ := (unhide HA4).below hbl
  obtain ⟨q0, q1⟩ := (unhide HA2).below hbl
  have HB := hide (bthen (unhide HB) hbl)
  clear hbl HA4 HA2
  go_wp2_with fail
  go_ret2
  exact ⟨rfl, unhide HB⟩

set_option maxHeartbeats 1000000 in
theorem close_e2 {w e f P Q b K X S : Int} {n : Bool} (W : World) (h : Wd w e f P Q b) (hf : (f != 0) = true) (k1 : (K == 1) = false) (z1 : (S != 0) = false) (z2 : (X != 0) = true) :
    Calls Tryz.prog 279 #[.int .i64 w, .agg #[.bool n, .int .i64 K, .int .i64 X, .int .u64 S]] W fun r W' => r = .returned (.tuple #[.int .u64 0, .int .i64 2]) ∧ Below W.heap.size W W' := by
  go_enter Tryz.func279, Tryz.ntmps279
  go_wp2_with fail
  refine (sizesOf_any h _).mono ?_
  rintro _ w1 ⟨rfl, hbl⟩
  have HA4 := hide (((at4_new W (.bool n) (.int .i64 K) (.int .i64 X) (.int .u64 S) 37).below hbl).below (below1 _ (.cells #[.int .i64 e, .int .i64 f] 80)))
  have HA2 : Hid (At2 w1.heap.size (.int .i64 e) (.int .i64 f) (w1.alloc (.cells #[.int .i64 e, .int .i64 f] 80))) := by unfold Hid At2; simp [go_sem]
  have HB := hide (balloc (bthen (below1 _ _) hbl) (.cells #[.int .i64 e, .int .i64 f] 80))
  clear hbl
  go_wp2_with fail
  refine (known_any e f _).mono ?_
  rintro _ w2 ⟨rfl, hbl⟩
  obtain ⟨p0, p1, p2, p3⟩ := (unhide HA4).below hbl
  obtain ⟨q0, q1⟩ := (unhide HA2).below hbl
  have HB := hide (bthen (unhide HB) hbl)
  clear hbl HA4 HA2
  go_wp2_with fail
  go_ret2
  exact ⟨rfl, unhide HB⟩

set_option maxHeartbeats 1000000 in
theorem close_zero {w e f P Q b K X S : Int} {n : Bool} (W : World) (h : Wd w e f P Q b) (hf : (f != 0) = true) (k1 : (K == 1) = false) (z1 : (S != 0) = false) (z2 : (X != 0) = false) (k0 : (K == 0) = true) {V : Int} (HC : Ct 155 #[.int .i64 w, .bool n] (.int .u64 V)) :
    Calls Tryz.prog 279 #[.int .i64 w, .agg #[.bool n, .int .i64 K, .int .i64 X, .int .u64 S]] W fun r W' => r = .returned (.tuple #[.int .u64 V, .int .i64 0]) ∧ Below W.heap.size W W' := by
  go_enter Tryz.func279, Tryz.ntmps279
  go_wp2_with fail
  refine (sizesOf_any h _).mono ?_
  rintro _ w1 ⟨rfl, hbl⟩
  have HA4 := hide (((at4_new W (.bool n) (.int .i64 K) (.int .i64 X) (.int .u64 S) 37).below hbl).below (below1 _ (.cells #[.int .i64 e, .int .i64 f] 80)))
  have HA2 : Hid (At2 w1.heap.size (.int .i64 e) (.int .i64 f) (w1.alloc (.cells #[.int .i64 e, .int .i64 f] 80))) := by unfold Hid At2; simp [go_sem]
  have HB := hide (balloc (bthen (below1 _ _) hbl) (.cells #[.int .i64 e, .int .i64 f] 80))
  clear hbl
  go_wp2_with fail
  refine (known_any e f _).mono ?_
  rintro _ w2 ⟨rfl, hbl⟩
  obtain ⟨p0, p1, p2, p3⟩ := (unhide HA4).below hbl
  obtain ⟨q0, q1⟩ := (unhide HA2).below hbl
  have HB := hide (bthen (unhide HB) hbl)
  clear hbl HA4 HA2
  go_wp2_with fail
  refine (unhide HC _).mono ?_
  rintro _ w3 ⟨rfl, hbl⟩
  have HB := hide (bthen (unhide HB) hbl)
  go_wp2_with fail
  go_ret2
  exact ⟨rfl, unhide HB⟩

set_option maxHeartbeats 1000000 in
theorem close_inf {w e f P Q b K X S : Int} {n : Bool} (W : World) (h : Wd w e f P Q b) (hf : (f != 0) = true) (k1 : (K == 1) = false) (z1 : (S != 0) = false) (z2 : (X != 0) = false) (k0 : (K == 0) = false) (k2 : (K == 2) = true) {V : Int} (HC : Ct 157 #[.int .i64 w, .bool n] (.int .u64 V)) :
    Calls Tryz.prog 279 #[.int .i64 w, .agg #[.bool n, .int .i64 K, .int .i64 X, .int .u64 S]] W fun r W' => r = .returned (.tuple #[.int .u64 V, .int .i64 0]) ∧ Below W.heap.size W W' := by
  go_enter Tryz.func279, Tryz.ntmps279
  go_wp2_with fail
  refine (sizesOf_any h _).mono ?_
  rintro _ w1 ⟨rfl, hbl⟩
  have HA4 := hide (((at4_new W (.bool n) (.int .i64 K) (.int .i64 X) (.int .u64 S) 37).below hbl).below (below1 _ (.cells #[.int .i64 e, .int .i64 f] 80)))
  have HA2 : Hid (At2 w1.heap.size (.int .i64 e) (.int .i64 f) (w1.alloc (.cells #[.int .i64 e, .int .i64 f] 80))) := by unfold Hid At2; simp [go_sem]
  have HB := hide (balloc (bthen (below1 _ _) hbl) (.cells #[.int .i64 e, .int .i64 f] 80))
  clear hbl
  go_wp2_with fail
  refine (known_any e f _).mono ?_
  rintro _ w2 ⟨rfl, hbl⟩
  obtain ⟨p0, p1, p2, p3⟩ := (unhide HA4).below hbl
  obtain ⟨q0, q1⟩ := (unhide HA2).below hbl
  have HB := hide (bthen (unhide HB) hbl)
  clear hbl HA4 HA2
  go_wp2_with fail
  refine (unhide HC _).mono ?_
  rintro _ w3 ⟨rfl, hbl⟩
  have HB := hide (bthen (unhide HB) hbl)
  go_wp2_with fail
  go_ret2
  exact ⟨rfl, unhide HB⟩

set_option maxHeartbeats 1000000 in
theorem close_nan {w e f P Q b K X S : Int} {n : Bool} (W : World) (h : Wd w e f P Q b) (hf : (f != 0) = true) (k1 : (K == 1) = false) (z1 : (S != 0) = false) (z2 : (X != 0) = false) (k0 : (K == 0) = false) (k2 : (K == 2) = false) (k3 : (K == 3) = true) {V : Int} (HC : Ct 156 #[.int .i64 w] (.int .u64 V)) :
    Calls Tryz.prog 279 #[.int .i64 w, .agg #[.bool n, .int .i64 K, .int .i64 X, .int .u64 S]] W fun r W' => r = .returned (.tuple #[.int .u64 V, .int .i64 0]) ∧ Below W.heap.size W W' := by
  go_enter Tryz.func279, Tryz.ntmps279
  go_wp2_with fail
  refine (sizesOf_any h _).mono ?_
  rintro _ w1 ⟨rfl, hbl⟩
  have HA4 := hide (((at4_new W (.bool n) (.int .i64 K) (.int .i64 X) (.int .u64 S) 37).below hbl).below (below1 _ (.cells #[.int .i64 e, .int .i64 f] 80)))
  have HA2 : Hid (At2 w1.heap.size (.int .i64 e) (.int .i64 f) (w1.alloc (.cells #[.int .i64 e, .int .i64 f] 80))) := by unfold Hid At2; simp [go_sem]
  have HB := hide (balloc (bthen (below1 _ _) hbl) (.cells #[.int .i64 e, .int .i64 f] 80))
  clear hbl
  go_wp2_with fail
  refine (known_any e f _).mono ?_
  rintro _ w2 ⟨rfl, hbl⟩
  obtain ⟨p0, p1, p2, p3⟩ := (unhide HA4).below hbl
  obtain ⟨q0, q1⟩ := (unhide HA2).below hbl
  have HB := hide (bthen (unhide HB) hbl)
  clear hbl HA4 HA2
  go_wp2_with fail
  refine (unhide HC _).mono ?_
  rintro _ w3 ⟨rfl, hbl⟩
  have HB := hide (bthen (unhide HB) hbl)
  go_wp2_with fail
  go_ret2
  exact ⟨rfl, unhide HB⟩

set_option maxHeartbeats 1000000 in
theorem close_oth {w e f P Q b K X S : Int} {n : Bool} (W : World) (h : Wd w e f P Q b) (hf : (f != 0) = true) (k1 : (K == 1) = false) (z1 : (S != 0) = false) (z2 : (X != 0) = false) (k0 : (K == 0) = false) (k2 : (K == 2) = false) (k3 : (K == 3) = false) :
    Calls Tryz.prog 279 #[.int .i64 w, .agg #[.bool n, .int .i64 K, .int .i64 X, .int .u64 S]] W fun r W' => r = .returned (.tuple #[.int .u64 0, .int .i64 2]) ∧ Below W.heap.size W W' := by
  go_enter Tryz.func279, Tryz.ntmps279
  go_wp2_with fail
  refine (sizesOf_any h _).mono ?_
  rintro _ w1 ⟨rfl, hbl⟩
  have HA4 := hide (((at4_new W (.bool n) (.int .i64 K) (.int .i64 X) (.int .u64 S) 37).below hbl).below (below1 _ (.cells #[.int .i64 e, .int .i64 f] 80)))
  have HA2 : Hid (At2 w1.heap.size (.int .i64 e) (.int .i64 f) (w1.alloc (.cells #[.int .i64 e, .int .i64 f] 80))) := by unfold Hid At2; simp [go_sem]
  have HB := hide (balloc (bthen (below1 _ _) hbl) (.cells #[.int .i64 e, .int .i64 f] 80))
  clear hbl
  go_wp2_with fail
  refine (known_any e f _).mono ?_
  rintro _ w2 ⟨rfl, hbl⟩
  obtain ⟨p0, p1, p2, p3⟩ := (unhide HA4).below hbl
  obtain ⟨q0, q1⟩ := (unhide HA2).below hbl
  have HB := hide (bthen (unhide HB) hbl)
  clear hbl HA4 HA2
  go_wp2_with fail
  go_ret2
  exact ⟨rfl, unhide HB⟩

/-- The float of parts, and the error. -/
def Closed (f P Q b : Int) (n : Bool) (K X S V c : Int) : Prop :=
  (K = 1 ∧ ClosedF f P Q b n X S V c) ∨
  (K = 0 ∧ S = 0 ∧ X = 0 ∧ V = put f P Q n 0 0 ∧ c = 0) ∨
  (K = 2 ∧ S = 0 ∧ X = 0 ∧ V = put f P Q n (Q - 1) 0 ∧ c = 0) ∨
  (K = 3 ∧ S = 0 ∧ X = 0 ∧ V = put f P Q false (Q - 1) (P / 2) ∧ c = 0) ∨
  (K ≠ 1 ∧ (S ≠ 0 ∨ X ≠ 0 ∨ (K ≠ 0 ∧ K ≠ 2 ∧ K ≠ 3)) ∧ V = 0 ∧ c = 2)
theorem closed_ex (f P Q b : Int) (n : Bool) (K X S : Int) : ∃ V c, Closed f P Q b n K X S V c := by
  unfold Closed
  by_cases h1 : K = 1
  · obtain ⟨V, c, h⟩ := closedF_ex f P Q b n X S
    exact ⟨V, c, Or.inl ⟨h1, h⟩⟩
  by_cases h2 : S = 0 ∧ X = 0
  · by_cases k0 : K = 0
    · exact ⟨_, _, Or.inr (Or.inl ⟨k0, h2.1, h2.2, rfl, rfl⟩)⟩
    by_cases k2 : K = 2
    · exact ⟨_, _, Or.inr (Or.inr (Or.inl ⟨k2, h2.1, h2.2, rfl, rfl⟩))⟩
    by_cases k3 : K = 3
    · exact ⟨_, _, Or.inr (Or.inr (Or.inr (Or.inl ⟨k3, h2.1, h2.2, rfl, rfl⟩)))⟩
    · exact ⟨_, _, Or.inr (Or.inr (Or.inr (Or.inr ⟨h1, Or.inr (Or.inr ⟨k0, k2, k3⟩), rfl, rfl⟩)))⟩
  · exact ⟨_, _, Or.inr (Or.inr (Or.inr (Or.inr ⟨h1, by omega, rfl, rfl⟩)))⟩

theorem close_any {w e f P Q b K X S V c : Int} {n : Bool} (W : World) (h : Kd w e f P Q b) (s0 : 0 ≤ S) (s1 : S < 18446744073709551616) (hc : Closed f P Q b n K X S V c) :
    Calls Tryz.prog 279 #[.int .i64 w, .agg #[.bool n, .int .i64 K, .int .i64 X, .int .u64 S]] W fun r W' => r = .returned (.tuple #[.int .u64 V, .int .i64 c]) ∧ Below W.heap.size W W' := by
  have hf := ne_t h.f0
  rcases hc with ⟨k, hc⟩ | ⟨rfl, rfl, rfl, rfl, rfl⟩ | ⟨rfl, rfl, rfl, rfl, rfl⟩ | ⟨rfl, rfl, rfl, rfl, rfl⟩ | ⟨k1, hz, rfl, rfl⟩
  · exact close_fin W h.wd hf (eq_t k) (hide (fun W => fin_any W h s0 s1 hc))
  · exact close_zero W h.wd hf rfl rfl rfl rfl (hide (fun W => zero_any n h.wd W))
  · exact close_inf W h.wd hf rfl rfl rfl rfl rfl (hide (fun W => inf_any n h.wd W))
  · exact close_nan W h.wd hf rfl rfl rfl rfl rfl rfl (hide (fun W => nan_any h.wd W))
  · by_cases z1 : S = 0
    · by_cases z2 : X = 0
      · exact close_oth W h.wd hf (eq_f k1) (ne_f z1) (ne_f z2) (eq_f (by omega)) (eq_f (by omega)) (eq_f (by omega))
      · exact close_e2 W h.wd hf (eq_f k1) (ne_f z1) (ne_t z2)
    · exact close_e1 W h.wd hf (eq_f k1) (ne_t z1)

end Go.Proofs.YtpbgpdmffejdgaaGreatDoor
