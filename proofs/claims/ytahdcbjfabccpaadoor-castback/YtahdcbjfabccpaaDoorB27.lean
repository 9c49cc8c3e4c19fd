/- CloseW, Parts, Float. -/
import Derived.Test.YtahdcbjfabccpaaDoorB01
import Derived.Test.YtahdcbjfabccpaaDoorB08
import Derived.Test.YtahdcbjfabccpaaDoorB22
namespace Go.Proofs.YtahdcbjfabccpaaDoor
open Go.RowKit

/-- The float of a finite one's parts, and the error: 0 or 2. -/
def ClosedF (f P Q b : Int) (n : Bool) (X S V c : Int) : Prop :=
  (S < P ∧ S ≠ 0 ∧ X = 1 - b - f ∧ V = put f P Q n 0 (S % P) ∧ c = 0) ∨
  (P ≤ S ∧ S < 2 * P ∧ 1 - b - f ≤ X ∧ X ≤ Q - 2 - b - f ∧ V = put f P Q n (X + b + f) (S % P) ∧ c = 0) ∨
  (¬ (S < P ∧ S ≠ 0 ∧ X = 1 - b - f) ∧ ¬ (P ≤ S ∧ S < 2 * P ∧ 1 - b - f ≤ X ∧ X ≤ Q - 2 - b - f) ∧ V = 0 ∧ c = 2)
theorem dt {p : Prop} [Decidable p] (h : p) : decide p = true := by simp [h]
theorem df {p : Prop} [Decidable p] (h : ¬ p) : decide p = false := by simp [h]

theorem fin_any {w e f P Q b K X S V c : Int} {n : Bool} (W : World) (h : Kd w e f P Q b) (s0 : 0 ≤ S) (s1 : S < 18446744073709551616) (hc : ClosedF f P Q b n X S V c) :
    Calls Tryd.prog 86 #[.agg #[.int .i64 e, .int .i64 f], .agg #[.bool n, .int .i64 K, .int .i64 X, .int .u64 S]] W fun r W' => r = .returned (.tuple #[.int .u64 V, .int .i64 c]) ∧ Below W.heap.size W W' := by
  have hs := h.wd.sz
  obtain ⟨p1, p2, q1, q2⟩ := h.pos
  obtain ⟨u', v'⟩ := exp_in S (show 1 ≤ P by omega)
  have g : 0 ≤ f ∧ f ≤ 63 ∧ 0 ≤ b ∧ b ≤ 2000 ∧ Q = 2 * b + 2 := by rcases h with h | h <;> omega
  obtain ⟨g0, g1, g2, g3, g4⟩ := g
  have kp : IntKind.u64.wrap (P - 1) = P - 1 := by rw [IntKind.wrap_u64]; omega
  have ka : bits .and .u64 S (P - 1) = S % P := by
    rcases h with ⟨_, _, rfl, rfl, _, _⟩ | ⟨_, _, rfl, rfl, _, _⟩
    · exact and_mask 23 _ _ (by omega) (by omega) rfl (by omega)
    · exact and_mask 52 _ _ (by omega) (by omega) rfl (by omega)
  have kd : S / 2 ^ f.toNat = S / P := by rcases h with ⟨_, _, rfl, rfl, _, _⟩ | ⟨_, _, rfl, rfl, _, _⟩ <;> rfl
  have D0 : (S / P = 0 ↔ S < P) ∧ (S / P = 1 ↔ P ≤ S ∧ S < 2 * P) := by
    rcases h with ⟨_, _, _, rfl, _, _⟩ | ⟨_, _, _, rfl, _, _⟩ <;> omega
  obtain ⟨D0, D1⟩ := D0
  rcases hc with ⟨c1, c2, c3, rfl, rfl⟩ | ⟨c1, c2, c3, c4, rfl, rfl⟩ | ⟨c1, c2, rfl, rfl⟩
  · exact fin_sub W hs g0 g1 kp ka kd (eq_t (D0.2 c1)) (eq_f c2) (ne_f c3) (hide (fun W => bits_any n 0 (S % P) hs W (by omega) (by omega) u' v'))
  · refine fin_nor (E := X + b + f) W hs g0 g1 kp ka kd (eq_f (fun hh => by have := D0.1 hh; omega)) (eq_t (D1.2 ⟨c1, c2⟩)) (df (by omega)) (df (by omega)) (hide (fun W => power_any 0 hs W (by omega) (by omega))) ?_ ?_
      (hide (fun W => bits_any n (X + b + f) (S % P) hs W (by omega) (by omega) u' v'))
    · rw [i64_id (by omega) (by omega)]; omega
    · rw [IntKind.wrap_u64]; omega
  · by_cases e0 : S < P
    · by_cases e1 : S = 0
      · exact fin_z W hs g0 g1 kp ka kd (eq_t (D0.2 e0)) (eq_t e1)
      · exact fin_x W hs g0 g1 kp ka kd (eq_t (D0.2 e0)) (eq_f e1) (ne_t (fun hh => c1 ⟨e0, e1, hh⟩))
    · have d0 := eq_f (fun hh => e0 (D0.1 hh))
      by_cases e1 : S < 2 * P
      · have d1 := eq_t (D1.2 ⟨by omega, e1⟩)
        by_cases e2 : X < 1 - b - f
        · exact fin_lo W hs g0 g1 kp ka kd d0 d1 (dt e2)
        · exact fin_hi W hs g0 g1 kp ka kd d0 d1 (df e2) (dt (by omega))
      · exact fin_big W hs g0 g1 kp ka kd d0 (eq_f (fun hh => e1 (D1.1 hh).2))

set_option maxHeartbeats 1000000 in
theorem close_fin {w e f P Q b K X S : Int} {n : Bool} (W : World) (h : Wd w e f P Q b) (hf : (f != 0) = true) (k1 : (K == 1) = true) {V c : Int} (HC : Ct 86 #[.agg #[.int .i64 e, .int .i64 f], .agg #[.bool n, .int .i64 K, .int .i64 X, .int .u64 S]] (.tuple #[.int .u64 V, .int .i64 c])) :
    Calls Tryd.prog 84 #[.int .i64 w, .agg #[.bool n, .int .i64 K, .int .i64 X, .int .u64 S]] W fun r W' => r = .returned (.tuple #[.int .u64 V, .int .i64 c]) ∧ Below W.heap.size W W' := by
  go_enter Tryd.func84, Tryd.ntmps84
  go_wp2_with fail
  refine (sizesOf_any h _).mono ?_
  rintro _ w1 ⟨rfl, hbl⟩
  have HA4 := hide (((at4_new W (.bool n) (.int .i64 K) (.int .i64 X) (.int .u64 S) 52).below hbl).below (below1 _ (.cells #[.int .i64 e, .int .i64 f] 55)))
  have HA2 : Hid (At2 w1.heap.size (.int .i64 e) (.int .i64 f) (w1.alloc (.cells #[.int .i64 e, .int .i64 f] 55))) := by unfold Hid At2; simp [go_sem]
  have HB := hide (balloc (bthen (below1 _ _) hbl) (.cells #[.int .i64 e, .int .i64 f] 55))
  clear hbl
  go_wp2_with fail
  refine (known_any e f _).mono ?_
  rintro _ w2 ⟨rfl, hbl⟩
  obtain ⟨p0, p1, p2, p3⟩ := (unhide HA4).below hbl
  obtain ⟨q0, q1⟩ := (unhide HA2).below hbl
  have HB := hide (bthen (unhide HB) hbl)
  clear hbl HA4 HA2
  go_wp2_with fail
  refine (unhide HC _).mono ?_
  rintro _ w3 ⟨rfl, hbl⟩
  have HB := hide (bthen (unhide HB) hbl)
  go_wp2_with fail
  go_ret2
  exact ⟨rfl, unhide HB⟩

set_option maxHeartbeats 1000000 in
theorem close_e1 {w e f P Q b K X S : Int} {n : Bool} (W : World) (h : Wd w e f P Q b) (hf : (f != 0) = true) (k1 : (K == 1) = false) (z1 : (S != 0) = true) :
    Calls Tryd.prog 84 #[.int .i64 w, .agg #[.bool n, .int .i64 K, .int .i64 X, .int .u64 S]] W fun r W' => r = .returned (.tuple #[.int .u64 0, .int .i64 2]) ∧ Below W.heap.size W W' := by
  go_enter Tryd.func84, Tryd.ntmps84
  go_wp2_with fail
  refine (sizesOf_any h _).mono ?_
  rintro _ w1 ⟨rfl, hbl⟩
  have HA4 := hide (((at4_new W (.bool n) (.int .i64 K) (.int .i64 X) (.int .u64 S) 52).below hbl).below (below1 _ (.cells #[.int .i64 e, .int .i64 f] 55)))
  have HA2 : Hid (At2 w1.heap.size (.int .i64 e) (.int .i64 f) (w1.alloc (.cells #[.int .i64 e, .int .i64 f] 55))) := by unfold Hid At2; simp [go_sem]
  have HB := hide (balloc (bthen (below1 _ _) hbl) (.cells #[.int .i64 e, .int .i64 f] 55))
  clear hbl
  go_wp2_with fail
  refine (known_any e f _).mono ?_
  rintro _ w2 ⟨rfl, hbl⟩
  obtain ⟨p0, p1, p2, p3⟩ := (unhide HA4).below hbl
  obtain ⟨q0, q1⟩ := (unhide HA2).below hbl
  have HB := hide (bthen (unhide HB) hbl)
  clear hbl HA4 HA2
  go_wp2_with fail
  go_ret2
  exact ⟨rfl, unhide HB⟩

set_option maxHeartbeats 1000000 in
theorem close_e2 {w e f P Q b K X S : Int} {n : Bool} (W : World) (h : Wd w e f P Q b) (hf : (f != 0) = true) (k1 : (K == 1) = false) (z1 : (S != 0) = false) (z2 : (X != 0) = true) :
    Calls Tryd.prog 84 #[.int .i64 w, .agg #[.bool n, .int .i64 K, .int .i64 X, .int .u64 S]] W fun r W' => r = .returned (.tuple #[.int .u64 0, .int .i64 2]) ∧ Below W.heap.size W W' := by
  go_enter Tryd.func84, Tryd.ntmps84
  go_wp2_with fail
  refine (sizesOf_any h _).mono ?_
  rintro _ w1 ⟨rfl, hbl⟩
  have HA4 := hide (((at4_new W (.bool n) (.int .i64 K) (.int .i64 X) (.int .u64 S) 52).below hbl).below (below1 _ (.cells #[.int .i64 e, .int .i64 f] 55)))
  have HA2 : Hid (At2 w1.heap.size (.int .i64 e) (.int .i64 f) (w1.alloc (.cells #[.int .i64 e, .int .i64 f] 55))) := by unfold Hid At2; simp [go_sem]
  have HB := hide (balloc (bthen (below1 _ _) hbl) (.cells #[.int .i64 e, .int .i64 f] 55))
  clear hbl
  go_wp2_with fail
  refine (known_any e f _).mono ?_
  rintro _ w2 ⟨rfl, hbl⟩
  obtain ⟨p0, p1, p2, p3⟩ := (unhide HA4).below hbl
  obtain ⟨q0, q1⟩ := (unhide HA2).below hbl
  have HB := hide (bthen (unhide HB) hbl)
  clear hbl HA4 HA2
  go_wp2_with fail
  go_ret2
  exact ⟨rfl, unhide HB⟩

set_option maxHeartbeats 1000000 in
theorem close_zero {w e f P Q b K X S : Int} {n : Bool} (W : World) (h : Wd w e f P Q b) (hf : (f != 0) = true) (k1 : (K == 1) = false) (z1 : (S != 0) = false) (z2 : (X != 0) = false) (k0 : (K == 0) = true) {V : Int} (HC : Ct 56 #[.int .i64 w, .bool n] (.int .u64 V)) :
    Calls Tryd.prog 84 #[.int .i64 w, .agg #[.bool n, .int .i64 K, .int .i64 X, .int .u64 S]] W fun r W' => r = .returned (.tuple #[.int .u64 V, .int .i64 0]) ∧ Below W.heap.size W W' := by
  go_enter Tryd.func84, Tryd.ntmps84
  go_wp2_with fail
  refine (sizesOf_any h _).mono ?_
  rintro _ w1 ⟨rfl, hbl⟩
  have HA4 := hide (((at4_new W (.bool n) (.int .i64 K) (.int .i64 X) (.int .u64 S) 52).below hbl).below (below1 _ (.cells #[.int .i64 e, .int .i64 f] 55)))
  have HA2 : Hid (At2 w1.heap.size (.int .i64 e) (.int .i64 f) (w1.alloc (.cells #[.int .i64 e, .int .i64 f] 55))) := by unfold Hid At2; simp [go_sem]
  have HB := hide (balloc (bthen (below1 _ _) hbl) (.cells #[.int .i64 e, .int .i64 f] 55))
  clear hbl
  go_wp2_with fail
  refine (known_any e f _).mono ?_
  rintro _ w2 ⟨rfl, hbl⟩
  obtain ⟨p0, p1, p2, p3⟩ := (unhide HA4).below hbl
  obtain ⟨q0, q1⟩ := (unhide HA2).below hbl
  have HB := hide (bthen (unhide HB) hbl)
  clear hbl HA4 HA2
  go_wp2_with fail
  refine (unhide HC _).mono ?_
  rintro _ w3 ⟨rfl, hbl⟩
  have HB := hide (bthen (unhide HB) hbl)
  go_wp2_with fail
  go_ret2
  exact ⟨rfl, unhide HB⟩

set_option maxHeartbeats 1000000 in
theorem close_inf {w e f P Q b K X S : Int} {n : Bool} (W : World) (h : Wd w e f P Q b) (hf : (f != 0) = true) (k1 : (K == 1) = false) (z1 : (S != 0) = false) (z2 : (X != 0) = false) (k0 : (K == 0) = false) (k2 : (K == 2) = true) {V : Int} (HC : Ct 59 #[.int .i64 w, .bool n] (.int .u64 V)) :
    Calls Tryd.prog 84 #[.int .i64 w, .agg #[.bool n, .int .i64 K, .int .i64 X, .int .u64 S]] W fun r W' => r = .returned (.tuple #[.int .u64 V, .int .i64 0]) ∧ Below W.heap.size W W' := by
  go_enter Tryd.func84, Tryd.ntmps84
  go_wp2_with fail
  refine (sizesOf_any h _).mono ?_
  rintro _ w1 ⟨rfl, hbl⟩
  have HA4 := hide (((at4_new W (.bool n) (.int .i64 K) (.int .i64 X) (.int .u64 S) 52).below hbl).below (below1 _ (.cells #[.int .i64 e, .int .i64 f] 55)))
  have HA2 : Hid (At2 w1.heap.size (.int .i64 e) (.int .i64 f) (w1.alloc (.cells #[.int .i64 e, .int .i64 f] 55))) := by unfold Hid At2; simp [go_sem]
  have HB := hide (balloc (bthen (below1 _ _) hbl) (.cells #[.int .i64 e, .int .i64 f] 55))
  clear hbl
  go_wp2_with fail
  refine (known_any e f _).mono ?_
  rintro _ w2 ⟨rfl, hbl⟩
  obtain ⟨p0, p1, p2, p3⟩ := (unhide HA4).below hbl
  obtain ⟨q0, q1⟩ := (unhide HA2).below hbl
  have HB := hide (bthen (unhide HB) hbl)
  clear hbl HA4 HA2
  go_wp2_with fail
  refine (unhide HC _).mono ?_
  rintro _ w3 ⟨rfl, hbl⟩
  have HB := hide (bthen (unhide HB) hbl)
  go_wp2_with fail
  go_ret2
  exact ⟨rfl, unhide HB⟩

set_option maxHeartbeats 1000000 in
theorem close_nan {w e f P Q b K X S : Int} {n : Bool} (W : World) (h : Wd w e f P Q b) (hf : (f != 0) = true) (k1 : (K == 1) = false) (z1 : (S != 0) = false) (z2 : (X != 0) = false) (k0 : (K == 0) = false) (k2 : (K == 2) = false) (k3 : (K == 3) = true) {V : Int} (HC : Ct 15 #[.int .i64 w] (.int .u64 V)) :
    Calls Tryd.prog 84 #[.int .i64 w, .agg #[.bool n, .int .i64 K, .int .i64 X, .int .u64 S]] W fun r W' => r = .returned (.tuple #[.int .u64 V, .int .i64 0]) ∧ Below W.heap.size W W' := by
  go_enter Tryd.func84, Tryd.ntmps84
  go_wp2_with fail
  refine (sizesOf_any h _).mono ?_
  rintro _ w1 ⟨rfl, hbl⟩
  have HA4 := hide (((at4_new W (.bool n) (.int .i64 K) (.int .i64 X) (.int .u64 S) 52).below hbl).below (below1 _ (.cells #[.int .i64 e, .int .i64 f] 55)))
  have HA2 : Hid (At2 w1.heap.size (.int .i64 e) (.int .i64 f) (w1.alloc (.cells #[.int .i64 e, .int .i64 f] 55))) := by unfold Hid At2; simp [go_sem]
  have HB := hide (balloc (bthen (below1 _ _) hbl) (.cells #[.int .i64 e, .int .i64 f] 55))
  clear hbl
  go_wp2_with fail
  refine (known_any e f _).mono ?_
  rintro _ w2 ⟨rfl, hbl⟩
  obtain ⟨p0, p1, p2, p3⟩ := (unhide HA4).below hbl
  obtain ⟨q0, q1⟩ := (unhide HA2).below hbl
  have HB := hide (bthen (unhide HB) hbl)
  clear hbl HA4 HA2
  go_wp2_with fail
  refine (unhide HC _).mono ?_
  rintro _ w3 ⟨rfl, hbl⟩
  have HB := hide (bthen (unhide HB) hbl)
  go_wp2_with fail
  go_ret2
  exact ⟨rfl, unhide HB⟩

set_option maxHeartbeats 1000000 in
theorem close_oth {w e f P Q b K X S : Int} {n : Bool} (W : World) (h : Wd w e f P Q b) (hf : (f != 0) = true) (k1 : (K == 1) = false) (z1 : (S != 0) = false) (z2 : (X != 0) = false) (k0 : (K == 0) = false) (k2 : (K == 2) = false) (k3 : (K == 3) = false) :
    Calls Tryd.prog 84 #[.int .i64 w, .agg #[.bool n, .int .i64 K, .int .i64 X, .int .u64 S]] W fun r W' => r = .returned (.tuple #[.int .u64 0, .int .i64 2]) ∧ Below W.heap.size W W' := by
  go_enter Tryd.func84, Tryd.ntmps84
  go_wp2_with fail
  refine (sizesOf_any h _).mono ?_
  rintro _ w1 ⟨rfl, hbl⟩
  have HA4 := hide (((at4_new W (.bool n) (.int .i64 K) (.int .i64 X) (.int .u64 S) 52).below hbl).below (below1 _ (.cells #[.int .i64 e, .int .i64 f] 55)))
  have HA2 : Hid (At2 w1.heap.size (.int .i64 e) (.int .i64 f) (w1.alloc (.cells #[.int .i64 e, .int .i64 f] 55))) := by unfold Hid At2; simp [go_sem]
  have HB := hide (balloc (bthen (below1 _ _) hbl) (.cells #[.int .i64 e, .int .i64 f] 55))
  clear hbl
  go_wp2_with fail
  refine (known_any e f _).mono ?_
  rintro _ w2 ⟨rfl, hbl⟩
  obtain ⟨p0, p1, p2, p3⟩ := (unhide HA4).below hbl
  obtain ⟨q0, q1⟩ := (unhide HA2).below hbl
  have HB := hide (bthen (unhide HB) hbl)
  clear hbl HA4 HA2
  go_wp2_with fail
  go_ret2
  exact ⟨rfl, unhide HB⟩

/-- The float of parts, and the error. -/
def Closed (f P Q b : Int) (n : Bool) (K X S V c : Int) : Prop :=
  (K = 1 ∧ ClosedF f P Q b n X S V c) ∨
  (K = 0 ∧ S = 0 ∧ X = 0 ∧ V = put f P Q n 0 0 ∧ c = 0) ∨
  (K = 2 ∧ S = 0 ∧ X = 0 ∧ V = put f P Q n (Q - 1) 0 ∧ c = 0) ∨
  (K = 3 ∧ S = 0 ∧ X = 0 ∧ V = put f P Q false (Q - 1) (P / 2) ∧ c = 0) ∨
  (K ≠ 1 ∧ (S ≠ 0 ∨ X ≠ 0 ∨ (K ≠ 0 ∧ K ≠ 2 ∧ K ≠ 3)) ∧ V = 0 ∧ c = 2)
theorem close_any {w e f P Q b K X S V c : Int} {n : Bool} (W : World) (h : Kd w e f P Q b) (s0 : 0 ≤ S) (s1 : S < 18446744073709551616) (hc : Closed f P Q b n K X S V c) :
    Calls Tryd.prog 84 #[.int .i64 w, .agg #[.bool n, .int .i64 K, .int .i64 X, .int .u64 S]] W fun r W' => r = .returned (.tuple #[.int .u64 V, .int .i64 c]) ∧ Below W.heap.size W W' := by
  have hf := ne_t h.f0
  rcases hc with ⟨k, hc⟩ | ⟨rfl, rfl, rfl, rfl, rfl⟩ | ⟨rfl, rfl, rfl, rfl, rfl⟩ | ⟨rfl, rfl, rfl, rfl, rfl⟩ | ⟨k1, hz, rfl, rfl⟩
  · exact close_fin W h.wd hf (eq_t k) (hide (fun W => fin_any W h s0 s1 hc))
  · exact close_zero W h.wd hf rfl rfl rfl rfl (hide (fun W => zero_any n h.wd W))
  · exact close_inf W h.wd hf rfl rfl rfl rfl rfl (hide (fun W => inf_any n h.wd W))
  · exact close_nan W h.wd hf rfl rfl rfl rfl rfl rfl (hide (fun W => nan_any h.wd W))
  · by_cases z1 : S = 0
    · by_cases z2 : X = 0
      · exact close_oth W h.wd hf (eq_f k1) (ne_f z1) (ne_f z2) (eq_f (by omega)) (eq_f (by omega)) (eq_f (by omega))
      · exact close_e2 W h.wd hf (eq_f k1) (ne_f z1) (ne_t z2)
    · exact close_e1 W h.wd hf (eq_f k1) (ne_t z1)

end Go.Proofs.YtahdcbjfabccpaaDoor
namespace Go.Proofs.YtahdcbjfabccpaaDoor
open Go.RowKit

theorem at5_new (w : World) (x y z u v : Value) (t : TypeId) : At5 w.heap.size x y z u v (w.alloc (.cells #[x, y, z, u, v] t)) := by unfold At5; simp [go_sem]

set_option maxRecDepth 100000 in
set_option maxHeartbeats 1000000 in
theorem isNought_h {h l E : Int} {n m : Bool} (W : World) (h1 : (h == 0) = false) :
    Calls Tryd.prog 75 #[.agg #[.bool n, .int .u64 h, .int .u64 l, .int .i64 E, .bool m]] W fun r W' => r = .returned (.bool false) ∧ Below W.heap.size W W' := by
  go_enter Tryd.func75, Tryd.ntmps75
  go_wp2_with fail
  go_ret
  exact ⟨rfl, below1 _ _⟩
set_option maxRecDepth 100000 in
set_option maxHeartbeats 1000000 in
theorem isNought_l {h l E : Int} {n m : Bool} (W : World) (h1 : (h == 0) = true) (h2 : (l == 0) = false) :
    Calls Tryd.prog 75 #[.agg #[.bool n, .int .u64 h, .int .u64 l, .int .i64 E, .bool m]] W fun r W' => r = .returned (.bool false) ∧ Below W.heap.size W W' := by
  go_enter Tryd.func75, Tryd.ntmps75
  go_wp2_with fail
  go_ret
  exact ⟨rfl, below1 _ _⟩
set_option maxRecDepth 100000 in
set_option maxHeartbeats 1000000 in
theorem isNought_m {h l E : Int} {n : Bool} (W : World) (h1 : (h == 0) = true) (h2 : (l == 0) = true) :
    Calls Tryd.prog 75 #[.agg #[.bool n, .int .u64 h, .int .u64 l, .int .i64 E, .bool true]] W fun r W' => r = .returned (.bool false) ∧ Below W.heap.size W W' := by
  go_enter Tryd.func75, Tryd.ntmps75
  go_wp2_with fail
  go_ret
  exact ⟨rfl, below1 _ _⟩
set_option maxRecDepth 100000 in
set_option maxHeartbeats 1000000 in
theorem isNought_y {h l E : Int} {n : Bool} (W : World) (h1 : (h == 0) = true) (h2 : (l == 0) = true) :
    Calls Tryd.prog 75 #[.agg #[.bool n, .int .u64 h, .int .u64 l, .int .i64 E, .bool false]] W fun r W' => r = .returned (.bool true) ∧ Below W.heap.size W W' := by
  go_enter Tryd.func75, Tryd.ntmps75
  go_wp2_with fail
  go_ret
  exact ⟨rfl, below1 _ _⟩
/-- Is a number nought? -/
theorem isNought_any (v : Nat) (E : Int) (n m : Bool) (Wd : World) :
    Calls Tryd.prog 75 #[.agg #[.bool n, .int .u64 (W.hi v), .int .u64 (W.lo v), .int .i64 E, .bool m]] Wd fun r W' => r = .returned (.bool (decide (v = 0) && !m)) ∧ Below Wd.heap.size Wd W' := by
  by_cases h1 : W.hi v = 0
  · by_cases h2 : W.lo v = 0
    · have hv : v = 0 := by unfold W.hi at h1; unfold W.lo at h2; omega
      cases m
      · rw [decide_eq_true hv]; exact isNought_y Wd (eq_t h1) (eq_t h2)
      · rw [decide_eq_true hv]; exact isNought_m Wd (eq_t h1) (eq_t h2)
    · have hv : ¬ v = 0 := fun h0 => h2 (by rw [h0]; rfl)
      rw [decide_eq_false hv]; exact isNought_l Wd (eq_t h1) (eq_f h2)
  · have hv : ¬ v = 0 := fun h0 => h1 (by rw [h0]; rfl)
    rw [decide_eq_false hv]; exact isNought_h Wd (eq_f h1)

set_option maxRecDepth 100000 in
set_option maxHeartbeats 1000000 in
theorem top_l {h l E B : Int} {n m : Bool} (W : World) (HL : Ct 81 #[.agg #[.int .u64 h, .int .u64 l]] (.int .i64 B))
    (k1 : IntKind.i64.wrap (E + B) = E + B) (k2 : IntKind.i64.wrap (E + B - 1) = E + B - 1) :
    Calls Tryd.prog 76 #[.agg #[.bool n, .int .u64 h, .int .u64 l, .int .i64 E, .bool m]] W fun r W' => r = .returned (.int .i64 (E + B - 1)) ∧ Below W.heap.size W W' := by
  go_enter Tryd.func76, Tryd.ntmps76
  go_wp2_with fail
  refine wp_region_held_drew (S := fun w' => w'.cell? ⟨W.heap.size, 0, none⟩ = some (.bool n) ∧ w'.cell? ⟨W.heap.size, 1, none⟩ = some (.int .u64 h) ∧ w'.cell? ⟨W.heap.size, 2, none⟩ = some (.int .u64 l) ∧ w'.cell? ⟨W.heap.size, 3, none⟩ = some (.int .i64 E) ∧ w'.cell? ⟨W.heap.size, 4, none⟩ = some (.bool m)) (by kernel_rfl) ?_ (fun hHeld => ?_)
  · (try dsimp only)
    simp [go_sem]
  refine lst0 8 (by kernel_rfl) ?_
  refine tkA 0 3 1 ?_
  refine tkA 1 4 3 ?_
  refine tkA 2 5 7 ?_
  refine tkA 3 6 15 ?_
  refine rdA 4 31 (fun Kk hKk => ?_)
  go_simp
  refine (unhide HL _).mono ?_
  rintro _ w1 ⟨rfl, hbl⟩
  have HB := hide (bthen (below1 _ _).drew hbl)
  (try go_wp2_with fail)
  refine hKk.out _ _ ?_ (fun hHeld => ?_)
  · (try dsimp only)
    exact At5.below hHeld hbl
  clear hKk Kk
  (try simp only [List.setIfInBounds_toArray, List.set_cons_zero, List.set_cons_succ])
  refine tkA 5 8 63 ?_
  refine tkA 6 9 127 ?_
  refine tkA 7 2 255 ?_
  refine wpAnyH_done (by kernel_rfl) ?_ _
  go_wp2
  go_ret
  exact ⟨rfl, unhide HB⟩

set_option maxRecDepth 100000 in
set_option maxHeartbeats 1000000 in
theorem halves_gt {h l E U h' l' : Int} {n m : Bool} (W : World) (HR : Ct 82 #[.agg #[.int .u64 h, .int .u64 l], .int .i64 (U - E - 1)] (.tuple #[.agg #[.int .u64 h', .int .u64 l'], .bool true]))
    (g : E < U) (k1 : IntKind.i64.wrap (U - E) = U - E) (k2 : IntKind.i64.wrap (U - E - 1) = U - E - 1) :
    Calls Tryd.prog 77 #[.agg #[.bool n, .int .u64 h, .int .u64 l, .int .i64 E, .bool m], .int .i64 U] W fun r W' => r = .returned (.tuple #[.int .u64 l', .bool true]) ∧ Below W.heap.size W W' := by
  go_enter Tryd.func77, Tryd.ntmps77
  go_wp2_with fail
  refine (unhide HR _).mono ?_
  rintro _ w1 ⟨rfl, hb⟩
  have HA := hide (((at5_new W _ _ _ _ _ 87).below hb).below ((below1 _ (.cells #[.int .u64 h', .int .u64 l'] 76)).drew))
  have HB := hide ((balloc (bthen (below1 _ _) hb) (.cells #[.int .u64 h', .int .u64 l'] 76)).drew)
  have HZ : Hid (W.heap.size < w1.heap.size) := by have := hb.size; simp at this; unfold Hid; omega
  clear hb
  obtain ⟨a0, a1, a2, a3, a4⟩ := unhide HA
  clear HA
  go_wp2_with fail
  refine wp_region_held_drew (S := fun w' => (w'.cell? ⟨W.heap.size, 0, none⟩ = some (.bool n) ∧ w'.cell? ⟨W.heap.size, 1, none⟩ = some (.int .u64 h) ∧ w'.cell? ⟨W.heap.size, 2, none⟩ = some (.int .u64 l) ∧ w'.cell? ⟨W.heap.size, 3, none⟩ = some (.int .i64 E) ∧ w'.cell? ⟨W.heap.size, 4, none⟩ = some (.bool m)) ∧ (w'.cell? ⟨w1.heap.size, 0, none⟩ = some (.int .u64 h') ∧ w'.cell? ⟨w1.heap.size, 1, none⟩ = some (.int .u64 l'))) (by kernel_rfl) ?_ (fun hHeld => ?_)
  · (try dsimp only)
    exact ⟨⟨a0, a1, a2, a3, a4⟩, by simp [go_sem], by simp [go_sem]⟩
  refine lst0 9 (by kernel_rfl) ?_
  refine tkA 0 24 1 ?_
  refine tkA 1 25 3 ?_
  refine tkA 2 26 7 ?_
  refine tkA 3 27 15 ?_
  refine tkU 4 28 31 ?_
  refine tkU 5 29 63 ?_
  refine tkA 6 30 127 ?_
  refine tkA 7 4 255 ?_
  refine tkA 8 5 511 ?_
  refine wpAnyH_done (by kernel_rfl) ?_ _
  go_wp2
  exact bodyPost_ret (v := .tuple #[.int .u64 l', .bool true]) (by simp [results, Tryd.results77, go_sem]) rfl ⟨rfl, unhide HB⟩

set_option maxRecDepth 100000 in
set_option maxHeartbeats 1000000 in
theorem halves_gf {h l E U h' l' : Int} {n m : Bool} (W : World) (HR : Ct 82 #[.agg #[.int .u64 h, .int .u64 l], .int .i64 (U - E - 1)] (.tuple #[.agg #[.int .u64 h', .int .u64 l'], .bool false]))
    (g : E < U) (k1 : IntKind.i64.wrap (U - E) = U - E) (k2 : IntKind.i64.wrap (U - E - 1) = U - E - 1) :
    Calls Tryd.prog 77 #[.agg #[.bool n, .int .u64 h, .int .u64 l, .int .i64 E, .bool m], .int .i64 U] W fun r W' => r = .returned (.tuple #[.int .u64 l', .bool m]) ∧ Below W.heap.size W W' := by
  go_enter Tryd.func77, Tryd.ntmps77
  go_wp2_with fail
  refine (unhide HR _).mono ?_
  rintro _ w1 ⟨rfl, hb⟩
  have HA := hide (((at5_new W _ _ _ _ _ 87).below hb).below ((below1 _ (.cells #[.int .u64 h', .int .u64 l'] 76)).drew))
  have HB := hide ((balloc (bthen (below1 _ _) hb) (.cells #[.int .u64 h', .int .u64 l'] 76)).drew)
  have HZ : Hid (W.heap.size < w1.heap.size) := by have := hb.size; simp at this; unfold Hid; omega
  clear hb
  obtain ⟨a0, a1, a2, a3, a4⟩ := unhide HA
  clear HA
  go_wp2_with fail
  refine wp_region_held_drew (S := fun w' => (w'.cell? ⟨W.heap.size, 0, none⟩ = some (.bool n) ∧ w'.cell? ⟨W.heap.size, 1, none⟩ = some (.int .u64 h) ∧ w'.cell? ⟨W.heap.size, 2, none⟩ = some (.int .u64 l) ∧ w'.cell? ⟨W.heap.size, 3, none⟩ = some (.int .i64 E) ∧ w'.cell? ⟨W.heap.size, 4, none⟩ = some (.bool m)) ∧ (w'.cell? ⟨w1.heap.size, 0, none⟩ = some (.int .u64 h') ∧ w'.cell? ⟨w1.heap.size, 1, none⟩ = some (.int .u64 l'))) (by kernel_rfl) ?_ (fun hHeld => ?_)
  · (try dsimp only)
    exact ⟨⟨a0, a1, a2, a3, a4⟩, by simp [go_sem], by simp [go_sem]⟩
  refine lst0 9 (by kernel_rfl) ?_
  refine tkA 0 24 1 ?_
  refine tkA 1 25 3 ?_
  refine tkA 2 26 7 ?_
  refine tkA 3 27 15 ?_
  refine tkA 4 28 31 ?_
  refine tkA 5 29 63 ?_
  refine tkA 6 30 127 ?_
  refine tkA 7 4 255 ?_
  refine tkA 8 5 511 ?_
  refine wpAnyH_done (by kernel_rfl) ?_ _
  go_wp2
  exact bodyPost_ret (v := .tuple #[.int .u64 l', .bool m]) (by simp [results, Tryd.results77, go_sem]) rfl ⟨rfl, unhide HB⟩

set_option maxRecDepth 100000 in
set_option maxHeartbeats 1000000 in
theorem halves_lt {h l E U h1 l1 h2 l2 : Int} {n : Bool} (W : World) (H1 : Ct 83 #[.agg #[.int .u64 h, .int .u64 l], .int .i64 1] (.agg #[.int .u64 h1, .int .u64 l1]))
    (H2 : Ct 83 #[.agg #[.int .u64 h1, .int .u64 (l1 + 1)], .int .i64 (E - U)] (.agg #[.int .u64 h2, .int .u64 l2]))
    (g : ¬ E < U) (k1 : IntKind.i64.wrap (E - U) = E - U) (ko : bits .or .u64 l1 1 = l1 + 1) :
    Calls Tryd.prog 77 #[.agg #[.bool n, .int .u64 h, .int .u64 l, .int .i64 E, .bool true], .int .i64 U] W fun r W' => r = .returned (.tuple #[.int .u64 l2, .bool false]) ∧ Below W.heap.size W W' := by
  go_enter Tryd.func77, Tryd.ntmps77
  go_wp2_with fail
  refine (unhide H1 _).mono ?_
  rintro _ w1 ⟨rfl, hb⟩
  have HA := hide ((at5_new W _ _ _ _ _ 87).below hb)
  have HB := hide (balloc (bthen (below1 _ _) hb) (.cells #[.int .u64 h1, .int .u64 (l1 + 1)] 76))
  have hz : W.heap.size < w1.heap.size := by have := hb.size; simp at this; omega
  have hne : ¬ W.heap.size = w1.heap.size := by omega
  clear hb
  obtain ⟨a0, a1, a2, a3, a4⟩ := unhide HA
  clear HA
  go_wp2_with fail
  refine (unhide H2 _).mono ?_
  rintro _ w2 ⟨rfl, hb2⟩
  have HB := hide (bthen (unhide HB) hb2)
  clear hb2
  have ff : ∀ w : World, (Instr.field 76 (.agg #[.int .u64 h2, .int .u64 l2]) 1).run Tryd.prog w = .ok (.int .u64 l2) w := fun _ => by kernel_rfl
  go_wp2_with fail
  go_ret2
  exact ⟨rfl, unhide HB⟩
set_option maxRecDepth 100000 in
set_option maxHeartbeats 1000000 in
theorem halves_lf {h l E U h1 l1 h2 l2 : Int} {n : Bool} (W : World) (H1 : Ct 83 #[.agg #[.int .u64 h, .int .u64 l], .int .i64 1] (.agg #[.int .u64 h1, .int .u64 l1]))
    (H2 : Ct 83 #[.agg #[.int .u64 h1, .int .u64 l1], .int .i64 (E - U)] (.agg #[.int .u64 h2, .int .u64 l2]))
    (g : ¬ E < U) (k1 : IntKind.i64.wrap (E - U) = E - U) :
    Calls Tryd.prog 77 #[.agg #[.bool n, .int .u64 h, .int .u64 l, .int .i64 E, .bool false], .int .i64 U] W fun r W' => r = .returned (.tuple #[.int .u64 l2, .bool false]) ∧ Below W.heap.size W W' := by
  go_enter Tryd.func77, Tryd.ntmps77
  go_wp2_with fail
  refine (unhide H1 _).mono ?_
  rintro _ w1 ⟨rfl, hb⟩
  have HA := hide ((at5_new W _ _ _ _ _ 87).below hb)
  have HB := hide (balloc (bthen (below1 _ _) hb) (.cells #[.int .u64 h1, .int .u64 l1] 76))
  have hz : W.heap.size < w1.heap.size := by have := hb.size; simp at this; omega
  have hne : ¬ W.heap.size = w1.heap.size := by omega
  clear hb
  obtain ⟨a0, a1, a2, a3, a4⟩ := unhide HA
  clear HA
  go_wp2_with fail
  refine (unhide H2 _).mono ?_
  rintro _ w2 ⟨rfl, hb2⟩
  have HB := hide (bthen (unhide HB) hb2)
  clear hb2
  have ff : ∀ w : World, (Instr.field 76 (.agg #[.int .u64 h2, .int .u64 l2]) 1).run Tryd.prog w = .ok (.int .u64 l2) w := fun _ => by kernel_rfl
  go_wp2_with fail
  go_ret2
  exact ⟨rfl, unhide HB⟩

end Go.Proofs.YtahdcbjfabccpaaDoor
namespace Go.Proofs.YtahdcbjfabccpaaDoor
open Go.RowKit

/-- A block of nine values. -/
def At9 (b : Nat) (x0 x1 x2 x3 x4 x5 x6 x7 x8 : Value) (w : World) : Prop :=
  w.cell? ⟨b, 0, none⟩ = some x0 ∧ w.cell? ⟨b, 1, none⟩ = some x1 ∧ w.cell? ⟨b, 2, none⟩ = some x2 ∧ w.cell? ⟨b, 3, none⟩ = some x3 ∧ w.cell? ⟨b, 4, none⟩ = some x4 ∧
  w.cell? ⟨b, 5, none⟩ = some x5 ∧ w.cell? ⟨b, 6, none⟩ = some x6 ∧ w.cell? ⟨b, 7, none⟩ = some x7 ∧ w.cell? ⟨b, 8, none⟩ = some x8
theorem At9.below {b : Nat} {x0 x1 x2 x3 x4 x5 x6 x7 x8 : Value} {w w' : World} (h : At9 b x0 x1 x2 x3 x4 x5 x6 x7 x8 w) (hb : Below w.heap.size w w') : At9 b x0 x1 x2 x3 x4 x5 x6 x7 x8 w' :=
  have hz := lt_of_cell h.1
  ⟨keep1 hb hz h.1, keep1 hb hz h.2.1, keep1 hb hz h.2.2.1, keep1 hb hz h.2.2.2.1, keep1 hb hz h.2.2.2.2.1, keep1 hb hz h.2.2.2.2.2.1, keep1 hb hz h.2.2.2.2.2.2.1, keep1 hb hz h.2.2.2.2.2.2.2.1, keep1 hb hz h.2.2.2.2.2.2.2.2⟩
theorem at9_new (w : World) (x0 x1 x2 x3 x4 x5 x6 x7 x8 : Value) (t : TypeId) : At9 w.heap.size x0 x1 x2 x3 x4 x5 x6 x7 x8 (w.alloc (.cells #[x0, x1, x2, x3, x4, x5, x6, x7, x8] t)) := by unfold At9; simp [go_sem]

set_option maxRecDepth 100000 in
set_option maxHeartbeats 2000000 in
theorem float_sz {h l E w f L M S U D V : Int} {n m : Bool} (W : World) (g0 : 0 ≤ f) (g1 : f ≤ 63) (kd : S / 2 ^ f.toNat = D) (d : ¬ 1 < D)
    (z : (S == 0) = true) (HC : Ct 56 #[.int .i64 w, .bool n] (.int .u64 V)) :
    Calls Tryd.prog 78 #[.agg #[.bool n, .int .u64 h, .int .u64 l, .int .i64 E, .bool m, .int .i64 w, .int .i64 f, .int .i64 L, .int .i64 M], .int .u64 S, .int .i64 U] W fun r W' => r = .returned (.int .u64 V) ∧ Below W.heap.size W W' := by
  go_enter Tryd.func78, Tryd.ntmps78
  go_wp2_with fail
  refine (unhide HC _).mono ?_
  rintro _ w1 ⟨rfl, hb⟩
  have HB := hide (bthen (below1 _ _) hb)
  clear hb
  go_wp2_with fail
  go_ret
  exact ⟨rfl, unhide HB⟩
set_option maxRecDepth 100000 in
set_option maxHeartbeats 2000000 in
theorem float_si {h l E w f L M S U D V : Int} {n m : Bool} (W : World) (g0 : 0 ≤ f) (g1 : f ≤ 63) (kd : S / 2 ^ f.toNat = D) (d : ¬ 1 < D)
    (z : (S == 0) = false) (g : decide (M < U) = true) (HC : Ct 59 #[.int .i64 w, .bool n] (.int .u64 V)) :
    Calls Tryd.prog 78 #[.agg #[.bool n, .int .u64 h, .int .u64 l, .int .i64 E, .bool m, .int .i64 w, .int .i64 f, .int .i64 L, .int .i64 M], .int .u64 S, .int .i64 U] W fun r W' => r = .returned (.int .u64 V) ∧ Below W.heap.size W W' := by
  go_enter Tryd.func78, Tryd.ntmps78
  go_wp2_with fail
  refine (unhide HC _).mono ?_
  rintro _ w1 ⟨rfl, hb⟩
  have HB := hide (bthen (below1 _ _) hb)
  clear hb
  go_wp2_with fail
  go_ret
  exact ⟨rfl, unhide HB⟩
set_option maxRecDepth 100000 in
set_option maxHeartbeats 2000000 in
theorem float_sc {h l E w f L M S U D V c : Int} {n m : Bool} (W : World) (g0 : 0 ≤ f) (g1 : f ≤ 63) (kd : S / 2 ^ f.toNat = D) (d : ¬ 1 < D)
    (z : (S == 0) = false) (g : decide (M < U) = false) (HC : Ct 84 #[.int .i64 w, .agg #[.bool n, .int .i64 1, .int .i64 U, .int .u64 S]] (.tuple #[.int .u64 V, .int .i64 c])) :
    Calls Tryd.prog 78 #[.agg #[.bool n, .int .u64 h, .int .u64 l, .int .i64 E, .bool m, .int .i64 w, .int .i64 f, .int .i64 L, .int .i64 M], .int .u64 S, .int .i64 U] W fun r W' => r = .returned (.int .u64 V) ∧ Below W.heap.size W W' := by
  go_enter Tryd.func78, Tryd.ntmps78
  go_wp2_with fail
  refine (unhide HC _).mono ?_
  rintro _ w1 ⟨rfl, hb⟩
  have HB := hide (bthen (below1 _ _) hb)
  clear hb
  go_wp2_with fail
  go_ret
  exact ⟨rfl, unhide HB⟩
set_option maxRecDepth 100000 in
set_option maxHeartbeats 2000000 in
theorem float_bi {h l E w f L M S U D V S2 : Int} {n m : Bool} (W : World) (g0 : 0 ≤ f) (g1 : f ≤ 63) (kd : S / 2 ^ f.toNat = D) (d : 1 < D) (k2 : S / 2 = S2) (ku : IntKind.i64.wrap (U + 1) = U + 1)
    (z : (S2 == 0) = false) (g : decide (M < (U + 1)) = true) (HC : Ct 59 #[.int .i64 w, .bool n] (.int .u64 V)) :
    Calls Tryd.prog 78 #[.agg #[.bool n, .int .u64 h, .int .u64 l, .int .i64 E, .bool m, .int .i64 w, .int .i64 f, .int .i64 L, .int .i64 M], .int .u64 S, .int .i64 U] W fun r W' => r = .returned (.int .u64 V) ∧ Below W.heap.size W W' := by
  go_enter Tryd.func78, Tryd.ntmps78
  go_wp2_with fail
  refine (unhide HC _).mono ?_
  rintro _ w1 ⟨rfl, hb⟩
  have HB := hide (bthen (below1 _ _) hb)
  clear hb
  go_wp2_with fail
  go_ret
  exact ⟨rfl, unhide HB⟩
set_option maxRecDepth 100000 in
set_option maxHeartbeats 2000000 in
theorem float_bc {h l E w f L M S U D V S2 c : Int} {n m : Bool} (W : World) (g0 : 0 ≤ f) (g1 : f ≤ 63) (kd : S / 2 ^ f.toNat = D) (d : 1 < D) (k2 : S / 2 = S2) (ku : IntKind.i64.wrap (U + 1) = U + 1)
    (z : (S2 == 0) = false) (g : decide (M < (U + 1)) = false) (HC : Ct 84 #[.int .i64 w, .agg #[.bool n, .int .i64 1, .int .i64 (U + 1), .int .u64 S2]] (.tuple #[.int .u64 V, .int .i64 c])) :
    Calls Tryd.prog 78 #[.agg #[.bool n, .int .u64 h, .int .u64 l, .int .i64 E, .bool m, .int .i64 w, .int .i64 f, .int .i64 L, .int .i64 M], .int .u64 S, .int .i64 U] W fun r W' => r = .returned (.int .u64 V) ∧ Below W.heap.size W W' := by
  go_enter Tryd.func78, Tryd.ntmps78
  go_wp2_with fail
  refine (unhide HC _).mono ?_
  rintro _ w1 ⟨rfl, hb⟩
  have HB := hide (bthen (below1 _ _) hb)
  clear hb
  go_wp2_with fail
  go_ret
  exact ⟨rfl, unhide HB⟩

end Go.Proofs.YtahdcbjfabccpaaDoor
