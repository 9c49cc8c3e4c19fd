/- The statement ShapeBack: its walk. -/
import Derived.Test.YtiphlnchfncdkaaCloseW
namespace Go.Proofs.Ytiphlnchfncdkaa
open Go.RowKit

set_option maxHeartbeats 1000000 in
theorem back_no (w x : Int) (W : World) (hw : w ≠ 32 ∧ w ≠ 64) :
    Calls Try.prog 6 #[.int .i64 w, .int .u64 x] W fun r W' => r = .returned (.bool true) ∧ Below W.heap.size W W' := by
  have c1 := ne_t hw.1
  have c2 := ne_t hw.2
  clear hw
  go_enter Try.func6, Try.ntmps6
  go_wp2_with fail
  refine (awake_any _).mono ?_
  rintro _ w1 ⟨rfl, hb1⟩
  go_wp2_with fail
  go_ret
  exact ⟨rfl, hb1⟩

set_option maxRecDepth 100000 in
set_option maxHeartbeats 4000000 in
theorem back_nan {w x K X S V : Int} {N : Bool} (W : World) (hk : ((w != 32) = false) ∨ ((w != 32) = true ∧ (w != 64) = false))
    (HO : Hid (∀ W, Calls Try.prog 9 #[.int .i64 w, .int .u64 x] W fun r W' => r = .returned (.agg #[.bool N, .int .i64 K, .int .i64 X, .int .u64 S]) ∧ Below W.heap.size W W'))
    (HC : Hid (∀ W, Calls Try.prog 27 #[.int .i64 w, .agg #[.bool N, .int .i64 K, .int .i64 X, .int .u64 S]] W fun r W' => r = .returned (.tuple #[.int .u64 V, .int .i64 0]) ∧ Below W.heap.size W W'))
    (HV : Hid (∀ W, Calls Try.prog 11 #[.int .i64 w, .int .u64 V] W fun r W' => r = .returned (.int .u64 V) ∧ Below W.heap.size W W'))
    (HN : Hid (∀ W, Calls Try.prog 16 #[.int .i64 w] W fun r W' => r = .returned (.int .u64 V) ∧ Below W.heap.size W W'))
    (HI : Hid (∀ W, Calls Try.prog 12 #[.int .i64 w, .int .u64 V] W fun r W' => r = .returned (.bool true) ∧ Below W.heap.size W W')) (k3 : (K == 3) = true) :
    Calls Try.prog 6 #[.int .i64 w, .int .u64 x] W fun r W' => r = .returned (.bool true) ∧ Below W.heap.size W W' := by
  rcases hk with k1 | ⟨k1, k2⟩
  all_goals
    go_enter Try.func6, Try.ntmps6
    go_wp2_with fail
    refine (awake_any _).mono ?_
    rintro _ w1 ⟨rfl, hb1⟩
    go_wp2_with fail
    refine (unhide HO _).mono ?_
    rintro _ w2 ⟨rfl, hb2⟩
    have HB := hide (balloc (bthen hb1 hb2) (.cells #[.bool N, .int .i64 K, .int .i64 X, .int .u64 S] 25))
    have HA := hide (at4_new w2 (.bool N) (.int .i64 K) (.int .i64 X) (.int .u64 S) 25)
    clear hb1 hb2
    go_wp2_with fail
    refine (unhide HC _).mono ?_
    rintro _ w3 ⟨rfl, hbl⟩
    have HB := hide (bthen (unhide HB) hbl); have HA := hide ((unhide HA).below hbl)
    clear hbl
    go_wp2_with fail
    refine (unhide HV _).mono ?_
    rintro _ w4 ⟨rfl, hbl⟩
    have HB := hide (bthen (unhide HB) hbl); have HA := hide ((unhide HA).below hbl)
    clear hbl
    obtain ⟨a0, a1, a2, a3⟩ := unhide HA
    go_wp2_with fail
    clear a0 a1 a2 a3
    refine (unhide HN _).mono ?_
    rintro _ wn ⟨rfl, hbl⟩
    have HB := hide (bthen (unhide HB) hbl); have HA := hide ((unhide HA).below hbl)
    clear hbl
    obtain ⟨a0, a1, a2, a3⟩ := unhide HA
    go_wp2_with fail
    clear a0 a1 a2 a3
    refine (unhide HI _).mono ?_
    rintro _ wn ⟨rfl, hbl⟩
    have HB := hide (bthen (unhide HB) hbl); have HA := hide ((unhide HA).below hbl)
    clear hbl
    obtain ⟨a0, a1, a2, a3⟩ := unhide HA
    go_wp2_with fail
    go_ret
    exact ⟨rfl, unhide HB⟩

set_option maxRecDepth 100000 in
set_option maxHeartbeats 4000000 in
theorem back_oth {w x K X S V e f : Int} {N : Bool} (W : World) (hk : ((w != 32) = false) ∨ ((w != 32) = true ∧ (w != 64) = false))
    (HO : Hid (∀ W, Calls Try.prog 9 #[.int .i64 w, .int .u64 x] W fun r W' => r = .returned (.agg #[.bool N, .int .i64 K, .int .i64 X, .int .u64 S]) ∧ Below W.heap.size W W'))
    (HC : Hid (∀ W, Calls Try.prog 27 #[.int .i64 w, .agg #[.bool N, .int .i64 K, .int .i64 X, .int .u64 S]] W fun r W' => r = .returned (.tuple #[.int .u64 V, .int .i64 0]) ∧ Below W.heap.size W W'))
    (HV : Hid (∀ W, Calls Try.prog 11 #[.int .i64 w, .int .u64 V] W fun r W' => r = .returned (.int .u64 V) ∧ Below W.heap.size W W'))
    (HF : Hid (∀ W, Calls Try.prog 15 #[.int .i64 w] W fun r W' => r = .returned (.tuple #[.int .i64 e, .int .i64 f]) ∧ Below W.heap.size W W'))
    (HX : Hid (∀ W, Calls Try.prog 11 #[.int .i64 w, .int .u64 x] W fun r W' => r = .returned (.int .u64 V) ∧ Below W.heap.size W W')) (k3 : (K == 3) = false) (k4 : (K != 1) = true) :
    Calls Try.prog 6 #[.int .i64 w, .int .u64 x] W fun r W' => r = .returned (.bool true) ∧ Below W.heap.size W W' := by
  rcases hk with k1 | ⟨k1, k2⟩
  all_goals
    go_enter Try.func6, Try.ntmps6
    go_wp2_with fail
    refine (awake_any _).mono ?_
    rintro _ w1 ⟨rfl, hb1⟩
    go_wp2_with fail
    refine (unhide HO _).mono ?_
    rintro _ w2 ⟨rfl, hb2⟩
    have HB := hide (balloc (bthen hb1 hb2) (.cells #[.bool N, .int .i64 K, .int .i64 X, .int .u64 S] 25))
    have HA := hide (at4_new w2 (.bool N) (.int .i64 K) (.int .i64 X) (.int .u64 S) 25)
    clear hb1 hb2
    go_wp2_with fail
    refine (unhide HC _).mono ?_
    rintro _ w3 ⟨rfl, hbl⟩
    have HB := hide (bthen (unhide HB) hbl); have HA := hide ((unhide HA).below hbl)
    clear hbl
    go_wp2_with fail
    refine (unhide HV _).mono ?_
    rintro _ w4 ⟨rfl, hbl⟩
    have HB := hide (bthen (unhide HB) hbl); have HA := hide ((unhide HA).below hbl)
    clear hbl
    obtain ⟨a0, a1, a2, a3⟩ := unhide HA
    go_wp2_with fail
    clear a0 a1 a2 a3
    refine (unhide HF _).mono ?_
    rintro _ wn ⟨rfl, hbl⟩
    have HB := hide (bthen (unhide HB) hbl); have HA := hide ((unhide HA).below hbl)
    clear hbl
    obtain ⟨a0, a1, a2, a3⟩ := unhide HA
    go_wp2_with fail
    clear a0 a1 a2 a3
    refine (unhide HX _).mono ?_
    rintro _ wn ⟨rfl, hbl⟩
    have HB := hide (bthen (unhide HB) hbl); have HA := hide ((unhide HA).below hbl)
    clear hbl
    obtain ⟨a0, a1, a2, a3⟩ := unhide HA
    go_wp2_with fail
    go_ret
    exact ⟨rfl, unhide HB⟩

set_option maxRecDepth 100000 in
set_option maxHeartbeats 4000000 in
theorem back_fin {w x K X S V e f : Int} {N : Bool} (W : World) (hk : ((w != 32) = false) ∨ ((w != 32) = true ∧ (w != 64) = false))
    (HO : Hid (∀ W, Calls Try.prog 9 #[.int .i64 w, .int .u64 x] W fun r W' => r = .returned (.agg #[.bool N, .int .i64 K, .int .i64 X, .int .u64 S]) ∧ Below W.heap.size W W'))
    (HC : Hid (∀ W, Calls Try.prog 27 #[.int .i64 w, .agg #[.bool N, .int .i64 K, .int .i64 X, .int .u64 S]] W fun r W' => r = .returned (.tuple #[.int .u64 V, .int .i64 0]) ∧ Below W.heap.size W W'))
    (HV : Hid (∀ W, Calls Try.prog 11 #[.int .i64 w, .int .u64 V] W fun r W' => r = .returned (.int .u64 V) ∧ Below W.heap.size W W'))
    (HF : Hid (∀ W, Calls Try.prog 15 #[.int .i64 w] W fun r W' => r = .returned (.tuple #[.int .i64 e, .int .i64 f]) ∧ Below W.heap.size W W'))
    (HX : Hid (∀ W, Calls Try.prog 11 #[.int .i64 w, .int .u64 x] W fun r W' => r = .returned (.int .u64 V) ∧ Below W.heap.size W W')) (k3 : (K == 3) = false) (k4 : (K != 1) = false) (s1 : 1 ≤ S) (g0 : 0 ≤ f) (g1 : f ≤ 60) (kd : S / 2 ^ (f + 1).toNat = 0) :
    Calls Try.prog 6 #[.int .i64 w, .int .u64 x] W fun r W' => r = .returned (.bool true) ∧ Below W.heap.size W W' := by
  rcases hk with k1 | ⟨k1, k2⟩
  all_goals
    go_enter Try.func6, Try.ntmps6
    go_wp2_with fail
    refine (awake_any _).mono ?_
    rintro _ w1 ⟨rfl, hb1⟩
    go_wp2_with fail
    refine (unhide HO _).mono ?_
    rintro _ w2 ⟨rfl, hb2⟩
    have HB := hide (balloc (bthen hb1 hb2) (.cells #[.bool N, .int .i64 K, .int .i64 X, .int .u64 S] 25))
    have HA := hide (at4_new w2 (.bool N) (.int .i64 K) (.int .i64 X) (.int .u64 S) 25)
    clear hb1 hb2
    go_wp2_with fail
    refine (unhide HC _).mono ?_
    rintro _ w3 ⟨rfl, hbl⟩
    have HB := hide (bthen (unhide HB) hbl); have HA := hide ((unhide HA).below hbl)
    clear hbl
    go_wp2_with fail
    refine (unhide HV _).mono ?_
    rintro _ w4 ⟨rfl, hbl⟩
    have HB := hide (bthen (unhide HB) hbl); have HA := hide ((unhide HA).below hbl)
    clear hbl
    obtain ⟨a0, a1, a2, a3⟩ := unhide HA
    go_wp2_with fail
    clear a0 a1 a2 a3
    refine (unhide HF _).mono ?_
    rintro _ wn ⟨rfl, hbl⟩
    have HB := hide (bthen (unhide HB) hbl); have HA := hide ((unhide HA).below hbl)
    clear hbl
    obtain ⟨a0, a1, a2, a3⟩ := unhide HA
    go_wp2_with fail
    clear a0 a1 a2 a3
    refine (unhide HX _).mono ?_
    rintro _ wn ⟨rfl, hbl⟩
    have HB := hide (bthen (unhide HB) hbl); have HA := hide ((unhide HA).below hbl)
    clear hbl
    obtain ⟨a0, a1, a2, a3⟩ := unhide HA
    go_wp2_with fail
    go_ret
    exact ⟨rfl, unhide HB⟩

end Go.Proofs.Ytiphlnchfncdkaa
