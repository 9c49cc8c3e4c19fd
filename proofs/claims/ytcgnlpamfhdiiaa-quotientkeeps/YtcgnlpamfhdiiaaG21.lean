/- Keeps. -/
import Derived.Test.YtcgnlpamfhdiiaaG19
namespace Go.Proofs.Ytcgnlpamfhdiiaa
open Go.RowKit
open Go.Proofs.Ytcgnlpamfhdiiaa.W

set_option maxRecDepth 100000 in
set_option maxHeartbeats 2000000 in
theorem keeps_no {w x y : Int} (W : World) (g1 : (w != 32) = true) (g2 : (w != 64) = true) (HW : Hid (∀ W, Calls Try.prog 6 #[] W fun r W' => r = .returned (.bool true) ∧ Below W.heap.size W W')) :
    Calls Try.prog 4 #[.int .i64 w, .int .u64 x, .int .u64 y] W fun r W' => r = .returned (.bool true) ∧ Below W.heap.size W W' := by
  go_enter Try.func4, Try.ntmps4
  go_wp2_with fail
  refine (unhide HW _).mono ?_
  rintro _ w1 ⟨rfl, hb⟩
  have HB := hide hb
  clear hb
  go_wp2_with fail
  go_ret
  exact ⟨rfl, unhide HB⟩
set_option maxRecDepth 100000 in
set_option maxHeartbeats 2000000 in
theorem keeps_n32 {w x y s Z x' o K X S : Int} {n : Bool} (W : World) (g1 : (w != 32) = false) (HW : Hid (∀ W, Calls Try.prog 6 #[] W fun r W' => r = .returned (.bool true) ∧ Below W.heap.size W W')) (HO : Hid (∀ W, Calls Try.prog 11 #[.int .i64 w] W fun r W' => r = .returned (.int .u64 o) ∧ Below W.heap.size W W')) (HI : Hid (∀ W, Calls Try.prog 8 #[.int .i64 w, .int .u64 o] W fun r W' => r = .returned (.int .u64 o) ∧ Below W.heap.size W W')) (HZ : Hid (∀ W, Calls Try.prog 12 #[.int .i64 w, .bool true] W fun r W' => r = .returned (.int .u64 Z) ∧ Below W.heap.size W W')) (HD : Hid (∀ W, Calls Try.prog 7 #[.int .i64 w, .int .u64 x, .int .u64 y] W fun r W' => r = .returned (.int .u64 s) ∧ Below W.heap.size W W')) (HP : Hid (∀ W, Calls Try.prog 13 #[.int .i64 w, .int .u64 x] W fun r W' => r = .returned (.agg #[.bool n, .int .i64 K, .int .i64 X, .int .u64 S]) ∧ Below W.heap.size W W')) (HC : Hid (∀ W, Calls Try.prog 14 #[.int .i64 w, .int .u64 s] W fun r W' => r = .returned (.int .u64 s) ∧ Below W.heap.size W W')) (kx : bits .xor .u64 x Z = x') (HT : Hid (∀ W, Calls Try.prog 15 #[.int .i64 w, .int .u64 s] W fun r W' => r = .returned (.bool true) ∧ Below W.heap.size W W')) (HN : Hid (∀ W, Calls Try.prog 16 #[.int .i64 w] W fun r W' => r = .returned (.int .u64 s) ∧ Below W.heap.size W W')) (HD2 : Hid (∀ W, Calls Try.prog 7 #[.int .i64 w, .int .u64 x', .int .u64 y] W fun r W' => r = .returned (.int .u64 s) ∧ Below W.heap.size W W')) :
    Calls Try.prog 4 #[.int .i64 w, .int .u64 x, .int .u64 y] W fun r W' => r = .returned (.bool true) ∧ Below W.heap.size W W' := by
  go_enter Try.func4, Try.ntmps4
  go_wp2_with fail
  refine (unhide HW _).mono ?_
  rintro _ w1 ⟨rfl, hb⟩
  have HB := hide hb
  clear hb
  go_wp2_with fail
  refine (unhide HO _).mono ?_
  rintro _ w2 ⟨rfl, hb⟩
  have HB := hide (bthen (unhide HB) hb)
  clear hb
  go_wp2_with fail
  refine (unhide HI _).mono ?_
  rintro _ w3 ⟨rfl, hb⟩
  have HB := hide (bthen (unhide HB) hb)
  clear hb
  go_wp2_with fail
  refine (unhide HZ _).mono ?_
  rintro _ w4 ⟨rfl, hb⟩
  have HB := hide (bthen (unhide HB) hb)
  clear hb
  go_wp2_with fail
  refine (unhide HD _).mono ?_
  rintro _ w5 ⟨rfl, hb⟩
  have HB := hide (bthen (unhide HB) hb)
  clear hb
  go_wp2_with fail
  refine (unhide HP _).mono ?_
  rintro _ w6 ⟨rfl, hb⟩
  have HB := hide (bthen (unhide HB) hb)
  have HB := hide (balloc (unhide HB) (.cells #[.bool n, .int .i64 K, .int .i64 X, .int .u64 S] 31))
  have HA := hide (at4_new w6 (.bool n) (.int .i64 K) (.int .i64 X) (.int .u64 S) 31)
  clear hb
  go_wp2_with fail
  refine (unhide HO _).mono ?_
  rintro _ w7 ⟨rfl, hb⟩
  have HB := hide (bthen (unhide HB) hb)
  have HA := hide ((unhide HA).below hb)
  clear hb
  go_wp2_with fail
  refine (unhide HC _).mono ?_
  rintro _ w8 ⟨rfl, hb⟩
  have HB := hide (bthen (unhide HB) hb)
  have HA := hide ((unhide HA).below hb)
  clear hb
  go_wp2_with fail
  refine (unhide HT _).mono ?_
  rintro _ w9 ⟨rfl, hb⟩
  have HB := hide (bthen (unhide HB) hb)
  have HA := hide ((unhide HA).below hb)
  clear hb
  go_wp2_with fail
  refine (unhide HN _).mono ?_
  rintro _ w10 ⟨rfl, hb⟩
  have HB := hide (bthen (unhide HB) hb)
  have HA := hide ((unhide HA).below hb)
  clear hb
  obtain ⟨c0, c1, c2, c3⟩ := unhide HA
  go_wp2_with fail
  clear c0 c1 c2 c3
  refine (unhide HD2 _).mono ?_
  rintro _ w11 ⟨rfl, hb⟩
  have HB := hide (bthen (unhide HB) hb)
  have HA := hide ((unhide HA).below hb)
  clear hb
  obtain ⟨c0, c1, c2, c3⟩ := unhide HA
  go_wp2_with fail
  go_ret
  exact ⟨by simp, unhide HB⟩
set_option maxRecDepth 100000 in
set_option maxHeartbeats 2000000 in
theorem keeps_o32 {w x y s Z x' y' s' c o K X S : Int} {n : Bool} (W : World) (g1 : (w != 32) = false) (HW : Hid (∀ W, Calls Try.prog 6 #[] W fun r W' => r = .returned (.bool true) ∧ Below W.heap.size W W')) (HO : Hid (∀ W, Calls Try.prog 11 #[.int .i64 w] W fun r W' => r = .returned (.int .u64 o) ∧ Below W.heap.size W W')) (HI : Hid (∀ W, Calls Try.prog 8 #[.int .i64 w, .int .u64 o] W fun r W' => r = .returned (.int .u64 o) ∧ Below W.heap.size W W')) (HZ : Hid (∀ W, Calls Try.prog 12 #[.int .i64 w, .bool true] W fun r W' => r = .returned (.int .u64 Z) ∧ Below W.heap.size W W')) (HD : Hid (∀ W, Calls Try.prog 7 #[.int .i64 w, .int .u64 x, .int .u64 y] W fun r W' => r = .returned (.int .u64 s) ∧ Below W.heap.size W W')) (HP : Hid (∀ W, Calls Try.prog 13 #[.int .i64 w, .int .u64 x] W fun r W' => r = .returned (.agg #[.bool n, .int .i64 K, .int .i64 X, .int .u64 S]) ∧ Below W.heap.size W W')) (HC : Hid (∀ W, Calls Try.prog 14 #[.int .i64 w, .int .u64 s] W fun r W' => r = .returned (.int .u64 s) ∧ Below W.heap.size W W')) (kx : bits .xor .u64 x Z = x') (HT : Hid (∀ W, Calls Try.prog 15 #[.int .i64 w, .int .u64 s] W fun r W' => r = .returned (.bool false) ∧ Below W.heap.size W W')) (ky : bits .xor .u64 y Z = y') (ks : bits .xor .u64 s Z = s') (HD2 : Hid (∀ W, Calls Try.prog 7 #[.int .i64 w, .int .u64 x', .int .u64 y] W fun r W' => r = .returned (.int .u64 s') ∧ Below W.heap.size W W')) (HD3 : Hid (∀ W, Calls Try.prog 7 #[.int .i64 w, .int .u64 x, .int .u64 y'] W fun r W' => r = .returned (.int .u64 s') ∧ Below W.heap.size W W')) (HD4 : Hid (∀ W, Calls Try.prog 7 #[.int .i64 w, .int .u64 x, .int .u64 o] W fun r W' => r = .returned (.int .u64 c) ∧ Below W.heap.size W W')) (HC2 : Hid (∀ W, Calls Try.prog 14 #[.int .i64 w, .int .u64 x] W fun r W' => r = .returned (.int .u64 c) ∧ Below W.heap.size W W')) (hk : (K != 1) = true) :
    Calls Try.prog 4 #[.int .i64 w, .int .u64 x, .int .u64 y] W fun r W' => r = .returned (.bool true) ∧ Below W.heap.size W W' := by
  go_enter Try.func4, Try.ntmps4
  go_wp2_with fail
  refine (unhide HW _).mono ?_
  rintro _ w1 ⟨rfl, hb⟩
  have HB := hide hb
  clear hb
  go_wp2_with fail
  refine (unhide HO _).mono ?_
  rintro _ w2 ⟨rfl, hb⟩
  have HB := hide (bthen (unhide HB) hb)
  clear hb
  go_wp2_with fail
  refine (unhide HI _).mono ?_
  rintro _ w3 ⟨rfl, hb⟩
  have HB := hide (bthen (unhide HB) hb)
  clear hb
  go_wp2_with fail
  refine (unhide HZ _).mono ?_
  rintro _ w4 ⟨rfl, hb⟩
  have HB := hide (bthen (unhide HB) hb)
  clear hb
  go_wp2_with fail
  refine (unhide HD _).mono ?_
  rintro _ w5 ⟨rfl, hb⟩
  have HB := hide (bthen (unhide HB) hb)
  clear hb
  go_wp2_with fail
  refine (unhide HP _).mono ?_
  rintro _ w6 ⟨rfl, hb⟩
  have HB := hide (bthen (unhide HB) hb)
  have HB := hide (balloc (unhide HB) (.cells #[.bool n, .int .i64 K, .int .i64 X, .int .u64 S] 31))
  have HA := hide (at4_new w6 (.bool n) (.int .i64 K) (.int .i64 X) (.int .u64 S) 31)
  clear hb
  go_wp2_with fail
  refine (unhide HO _).mono ?_
  rintro _ w7 ⟨rfl, hb⟩
  have HB := hide (bthen (unhide HB) hb)
  have HA := hide ((unhide HA).below hb)
  clear hb
  go_wp2_with fail
  refine (unhide HC _).mono ?_
  rintro _ w8 ⟨rfl, hb⟩
  have HB := hide (bthen (unhide HB) hb)
  have HA := hide ((unhide HA).below hb)
  clear hb
  go_wp2_with fail
  refine (unhide HT _).mono ?_
  rintro _ w9 ⟨rfl, hb⟩
  have HB := hide (bthen (unhide HB) hb)
  have HA := hide ((unhide HA).below hb)
  clear hb
  go_wp2_with fail
  refine (unhide HD2 _).mono ?_
  rintro _ w10 ⟨rfl, hb⟩
  have HB := hide (bthen (unhide HB) hb)
  have HA := hide ((unhide HA).below hb)
  clear hb
  go_wp2_with fail
  refine (unhide HD3 _).mono ?_
  rintro _ w11 ⟨rfl, hb⟩
  have HB := hide (bthen (unhide HB) hb)
  have HA := hide ((unhide HA).below hb)
  clear hb
  go_wp2_with fail
  refine (unhide HD4 _).mono ?_
  rintro _ w12 ⟨rfl, hb⟩
  have HB := hide (bthen (unhide HB) hb)
  have HA := hide ((unhide HA).below hb)
  clear hb
  obtain ⟨c0, c1, c2, c3⟩ := unhide HA
  go_wp2_with fail
  clear c0 c1 c2 c3
  refine (unhide HC2 _).mono ?_
  rintro _ w13 ⟨rfl, hb⟩
  have HB := hide (bthen (unhide HB) hb)
  have HA := hide ((unhide HA).below hb)
  clear hb
  obtain ⟨c0, c1, c2, c3⟩ := unhide HA
  go_wp2_with fail
  go_ret
  exact ⟨by simp, unhide HB⟩
set_option maxRecDepth 100000 in
set_option maxHeartbeats 2000000 in
theorem keeps_f32 {w x y s Z x' y' s' c o X S : Int} {n : Bool} (W : World) (g1 : (w != 32) = false) (HW : Hid (∀ W, Calls Try.prog 6 #[] W fun r W' => r = .returned (.bool true) ∧ Below W.heap.size W W')) (HO : Hid (∀ W, Calls Try.prog 11 #[.int .i64 w] W fun r W' => r = .returned (.int .u64 o) ∧ Below W.heap.size W W')) (HI : Hid (∀ W, Calls Try.prog 8 #[.int .i64 w, .int .u64 o] W fun r W' => r = .returned (.int .u64 o) ∧ Below W.heap.size W W')) (HZ : Hid (∀ W, Calls Try.prog 12 #[.int .i64 w, .bool true] W fun r W' => r = .returned (.int .u64 Z) ∧ Below W.heap.size W W')) (HD : Hid (∀ W, Calls Try.prog 7 #[.int .i64 w, .int .u64 x, .int .u64 y] W fun r W' => r = .returned (.int .u64 s) ∧ Below W.heap.size W W')) (HP : Hid (∀ W, Calls Try.prog 13 #[.int .i64 w, .int .u64 x] W fun r W' => r = .returned (.agg #[.bool n, .int .i64 1, .int .i64 X, .int .u64 S]) ∧ Below W.heap.size W W')) (HC : Hid (∀ W, Calls Try.prog 14 #[.int .i64 w, .int .u64 s] W fun r W' => r = .returned (.int .u64 s) ∧ Below W.heap.size W W')) (kx : bits .xor .u64 x Z = x') (HT : Hid (∀ W, Calls Try.prog 15 #[.int .i64 w, .int .u64 s] W fun r W' => r = .returned (.bool false) ∧ Below W.heap.size W W')) (ky : bits .xor .u64 y Z = y') (ks : bits .xor .u64 s Z = s') (HD2 : Hid (∀ W, Calls Try.prog 7 #[.int .i64 w, .int .u64 x', .int .u64 y] W fun r W' => r = .returned (.int .u64 s') ∧ Below W.heap.size W W')) (HD3 : Hid (∀ W, Calls Try.prog 7 #[.int .i64 w, .int .u64 x, .int .u64 y'] W fun r W' => r = .returned (.int .u64 s') ∧ Below W.heap.size W W')) (HD4 : Hid (∀ W, Calls Try.prog 7 #[.int .i64 w, .int .u64 x, .int .u64 o] W fun r W' => r = .returned (.int .u64 c) ∧ Below W.heap.size W W')) (HC2 : Hid (∀ W, Calls Try.prog 14 #[.int .i64 w, .int .u64 x] W fun r W' => r = .returned (.int .u64 c) ∧ Below W.heap.size W W')) (HD5 : Hid (∀ W, Calls Try.prog 7 #[.int .i64 w, .int .u64 x, .int .u64 x] W fun r W' => r = .returned (.int .u64 o) ∧ Below W.heap.size W W')) :
    Calls Try.prog 4 #[.int .i64 w, .int .u64 x, .int .u64 y] W fun r W' => r = .returned (.bool true) ∧ Below W.heap.size W W' := by
  go_enter Try.func4, Try.ntmps4
  go_wp2_with fail
  refine (unhide HW _).mono ?_
  rintro _ w1 ⟨rfl, hb⟩
  have HB := hide hb
  clear hb
  go_wp2_with fail
  refine (unhide HO _).mono ?_
  rintro _ w2 ⟨rfl, hb⟩
  have HB := hide (bthen (unhide HB) hb)
  clear hb
  go_wp2_with fail
  refine (unhide HI _).mono ?_
  rintro _ w3 ⟨rfl, hb⟩
  have HB := hide (bthen (unhide HB) hb)
  clear hb
  go_wp2_with fail
  refine (unhide HZ _).mono ?_
  rintro _ w4 ⟨rfl, hb⟩
  have HB := hide (bthen (unhide HB) hb)
  clear hb
  go_wp2_with fail
  refine (unhide HD _).mono ?_
  rintro _ w5 ⟨rfl, hb⟩
  have HB := hide (bthen (unhide HB) hb)
  clear hb
  go_wp2_with fail
  refine (unhide HP _).mono ?_
  rintro _ w6 ⟨rfl, hb⟩
  have HB := hide (bthen (unhide HB) hb)
  have HB := hide (balloc (unhide HB) (.cells #[.bool n, .int .i64 1, .int .i64 X, .int .u64 S] 31))
  have HA := hide (at4_new w6 (.bool n) (.int .i64 1) (.int .i64 X) (.int .u64 S) 31)
  clear hb
  go_wp2_with fail
  refine (unhide HO _).mono ?_
  rintro _ w7 ⟨rfl, hb⟩
  have HB := hide (bthen (unhide HB) hb)
  have HA := hide ((unhide HA).below hb)
  clear hb
  go_wp2_with fail
  refine (unhide HC _).mono ?_
  rintro _ w8 ⟨rfl, hb⟩
  have HB := hide (bthen (unhide HB) hb)
  have HA := hide ((unhide HA).below hb)
  clear hb
  go_wp2_with fail
  refine (unhide HT _).mono ?_
  rintro _ w9 ⟨rfl, hb⟩
  have HB := hide (bthen (unhide HB) hb)
  have HA := hide ((unhide HA).below hb)
  clear hb
  go_wp2_with fail
  refine (unhide HD2 _).mono ?_
  rintro _ w10 ⟨rfl, hb⟩
  have HB := hide (bthen (unhide HB) hb)
  have HA := hide ((unhide HA).below hb)
  clear hb
  go_wp2_with fail
  refine (unhide HD3 _).mono ?_
  rintro _ w11 ⟨rfl, hb⟩
  have HB := hide (bthen (unhide HB) hb)
  have HA := hide ((unhide HA).below hb)
  clear hb
  go_wp2_with fail
  refine (unhide HD4 _).mono ?_
  rintro _ w12 ⟨rfl, hb⟩
  have HB := hide (bthen (unhide HB) hb)
  have HA := hide ((unhide HA).below hb)
  clear hb
  go_wp2_with fail
  refine (unhide HC2 _).mono ?_
  rintro _ w13 ⟨rfl, hb⟩
  have HB := hide (bthen (unhide HB) hb)
  have HA := hide ((unhide HA).below hb)
  clear hb
  obtain ⟨c0, c1, c2, c3⟩ := unhide HA
  go_wp2_with fail
  clear c0 c1 c2 c3
  refine (unhide HD5 _).mono ?_
  rintro _ w14 ⟨rfl, hb⟩
  have HB := hide (bthen (unhide HB) hb)
  have HA := hide ((unhide HA).below hb)
  clear hb
  obtain ⟨c0, c1, c2, c3⟩ := unhide HA
  go_wp2_with fail
  go_ret
  exact ⟨by simp, unhide HB⟩
set_option maxRecDepth 100000 in
set_option maxHeartbeats 2000000 in
theorem keeps_n64 {w x y s Z x' o K X S : Int} {n : Bool} (W : World) (g1 : (w != 32) = true) (g2 : (w != 64) = false) (HW : Hid (∀ W, Calls Try.prog 6 #[] W fun r W' => r = .returned (.bool true) ∧ Below W.heap.size W W')) (HO : Hid (∀ W, Calls Try.prog 11 #[.int .i64 w] W fun r W' => r = .returned (.int .u64 o) ∧ Below W.heap.size W W')) (HI : Hid (∀ W, Calls Try.prog 8 #[.int .i64 w, .int .u64 o] W fun r W' => r = .returned (.int .u64 o) ∧ Below W.heap.size W W')) (HZ : Hid (∀ W, Calls Try.prog 12 #[.int .i64 w, .bool true] W fun r W' => r = .returned (.int .u64 Z) ∧ Below W.heap.size W W')) (HD : Hid (∀ W, Calls Try.prog 7 #[.int .i64 w, .int .u64 x, .int .u64 y] W fun r W' => r = .returned (.int .u64 s) ∧ Below W.heap.size W W')) (HP : Hid (∀ W, Calls Try.prog 13 #[.int .i64 w, .int .u64 x] W fun r W' => r = .returned (.agg #[.bool n, .int .i64 K, .int .i64 X, .int .u64 S]) ∧ Below W.heap.size W W')) (HC : Hid (∀ W, Calls Try.prog 14 #[.int .i64 w, .int .u64 s] W fun r W' => r = .returned (.int .u64 s) ∧ Below W.heap.size W W')) (kx : bits .xor .u64 x Z = x') (HT : Hid (∀ W, Calls Try.prog 15 #[.int .i64 w, .int .u64 s] W fun r W' => r = .returned (.bool true) ∧ Below W.heap.size W W')) (HN : Hid (∀ W, Calls Try.prog 16 #[.int .i64 w] W fun r W' => r = .returned (.int .u64 s) ∧ Below W.heap.size W W')) (HD2 : Hid (∀ W, Calls Try.prog 7 #[.int .i64 w, .int .u64 x', .int .u64 y] W fun r W' => r = .returned (.int .u64 s) ∧ Below W.heap.size W W')) :
    Calls Try.prog 4 #[.int .i64 w, .int .u64 x, .int .u64 y] W fun r W' => r = .returned (.bool true) ∧ Below W.heap.size W W' := by
  go_enter Try.func4, Try.ntmps4
  go_wp2_with fail
  refine (unhide HW _).mono ?_
  rintro _ w1 ⟨rfl, hb⟩
  have HB := hide hb
  clear hb
  go_wp2_with fail
  refine (unhide HO _).mono ?_
  rintro _ w2 ⟨rfl, hb⟩
  have HB := hide (bthen (unhide HB) hb)
  clear hb
  go_wp2_with fail
  refine (unhide HI _).mono ?_
  rintro _ w3 ⟨rfl, hb⟩
  have HB := hide (bthen (unhide HB) hb)
  clear hb
  go_wp2_with fail
  refine (unhide HZ _).mono ?_
  rintro _ w4 ⟨rfl, hb⟩
  have HB := hide (bthen (unhide HB) hb)
  clear hb
  go_wp2_with fail
  refine (unhide HD _).mono ?_
  rintro _ w5 ⟨rfl, hb⟩
  have HB := hide (bthen (unhide HB) hb)
  clear hb
  go_wp2_with fail
  refine (unhide HP _).mono ?_
  rintro _ w6 ⟨rfl, hb⟩
  have HB := hide (bthen (unhide HB) hb)
  have HB := hide (balloc (unhide HB) (.cells #[.bool n, .int .i64 K, .int .i64 X, .int .u64 S] 31))
  have HA := hide (at4_new w6 (.bool n) (.int .i64 K) (.int .i64 X) (.int .u64 S) 31)
  clear hb
  go_wp2_with fail
  refine (unhide HO _).mono ?_
  rintro _ w7 ⟨rfl, hb⟩
  have HB := hide (bthen (unhide HB) hb)
  have HA := hide ((unhide HA).below hb)
  clear hb
  go_wp2_with fail
  refine (unhide HC _).mono ?_
  rintro _ w8 ⟨rfl, hb⟩
  have HB := hide (bthen (unhide HB) hb)
  have HA := hide ((unhide HA).below hb)
  clear hb
  go_wp2_with fail
  refine (unhide HT _).mono ?_
  rintro _ w9 ⟨rfl, hb⟩
  have HB := hide (bthen (unhide HB) hb)
  have HA := hide ((unhide HA).below hb)
  clear hb
  go_wp2_with fail
  refine (unhide HN _).mono ?_
  rintro _ w10 ⟨rfl, hb⟩
  have HB := hide (bthen (unhide HB) hb)
  have HA := hide ((unhide HA).below hb)
  clear hb
  obtain ⟨c0, c1, c2, c3⟩ := unhide HA
  go_wp2_with fail
  clear c0 c1 c2 c3
  refine (unhide HD2 _).mono ?_
  rintro _ w11 ⟨rfl, hb⟩
  have HB := hide (bthen (unhide HB) hb)
  have HA := hide ((unhide HA).below hb)
  clear hb
  obtain ⟨c0, c1, c2, c3⟩ := unhide HA
  go_wp2_with fail
  go_ret
  exact ⟨by simp, unhide HB⟩
set_option maxRecDepth 100000 in
set_option maxHeartbeats 2000000 in
theorem keeps_o64 {w x y s Z x' y' s' c o K X S : Int} {n : Bool} (W : World) (g1 : (w != 32) = true) (g2 : (w != 64) = false) (HW : Hid (∀ W, Calls Try.prog 6 #[] W fun r W' => r = .returned (.bool true) ∧ Below W.heap.size W W')) (HO : Hid (∀ W, Calls Try.prog 11 #[.int .i64 w] W fun r W' => r = .returned (.int .u64 o) ∧ Below W.heap.size W W')) (HI : Hid (∀ W, Calls Try.prog 8 #[.int .i64 w, .int .u64 o] W fun r W' => r = .returned (.int .u64 o) ∧ Below W.heap.size W W')) (HZ : Hid (∀ W, Calls Try.prog 12 #[.int .i64 w, .bool true] W fun r W' => r = .returned (.int .u64 Z) ∧ Below W.heap.size W W')) (HD : Hid (∀ W, Calls Try.prog 7 #[.int .i64 w, .int .u64 x, .int .u64 y] W fun r W' => r = .returned (.int .u64 s) ∧ Below W.heap.size W W')) (HP : Hid (∀ W, Calls Try.prog 13 #[.int .i64 w, .int .u64 x] W fun r W' => r = .returned (.agg #[.bool n, .int .i64 K, .int .i64 X, .int .u64 S]) ∧ Below W.heap.size W W')) (HC : Hid (∀ W, Calls Try.prog 14 #[.int .i64 w, .int .u64 s] W fun r W' => r = .returned (.int .u64 s) ∧ Below W.heap.size W W')) (kx : bits .xor .u64 x Z = x') (HT : Hid (∀ W, Calls Try.prog 15 #[.int .i64 w, .int .u64 s] W fun r W' => r = .returned (.bool false) ∧ Below W.heap.size W W')) (ky : bits .xor .u64 y Z = y') (ks : bits .xor .u64 s Z = s') (HD2 : Hid (∀ W, Calls Try.prog 7 #[.int .i64 w, .int .u64 x', .int .u64 y] W fun r W' => r = .returned (.int .u64 s') ∧ Below W.heap.size W W')) (HD3 : Hid (∀ W, Calls Try.prog 7 #[.int .i64 w, .int .u64 x, .int .u64 y'] W fun r W' => r = .returned (.int .u64 s') ∧ Below W.heap.size W W')) (HD4 : Hid (∀ W, Calls Try.prog 7 #[.int .i64 w, .int .u64 x, .int .u64 o] W fun r W' => r = .returned (.int .u64 c) ∧ Below W.heap.size W W')) (HC2 : Hid (∀ W, Calls Try.prog 14 #[.int .i64 w, .int .u64 x] W fun r W' => r = .returned (.int .u64 c) ∧ Below W.heap.size W W')) (hk : (K != 1) = true) :
    Calls Try.prog 4 #[.int .i64 w, .int .u64 x, .int .u64 y] W fun r W' => r = .returned (.bool true) ∧ Below W.heap.size W W' := by
  go_enter Try.func4, Try.ntmps4
  go_wp2_with fail
  refine (unhide HW _).mono ?_
  rintro _ w1 ⟨rfl, hb⟩
  have HB := hide hb
  clear hb
  go_wp2_with fail
  refine (unhide HO _).mono ?_
  rintro _ w2 ⟨rfl, hb⟩
  have HB := hide (bthen (unhide HB) hb)
  clear hb
  go_wp2_with fail
  refine (unhide HI _).mono ?_
  rintro _ w3 ⟨rfl, hb⟩
  have HB := hide (bthen (unhide HB) hb)
  clear hb
  go_wp2_with fail
  refine (unhide HZ _).mono ?_
  rintro _ w4 ⟨rfl, hb⟩
  have HB := hide (bthen (unhide HB) hb)
  clear hb
  go_wp2_with fail
  refine (unhide HD _).mono ?_
  rintro _ w5 ⟨rfl, hb⟩
  have HB := hide (bthen (unhide HB) hb)
  clear hb
  go_wp2_with fail
  refine (unhide HP _).mono ?_
  rintro _ w6 ⟨rfl, hb⟩
  have HB := hide (bthen (unhide HB) hb)
  have HB := hide (balloc (unhide HB) (.cells #[.bool n, .int .i64 K, .int .i64 X, .int .u64 S] 31))
  have HA := hide (at4_new w6 (.bool n) (.int .i64 K) (.int .i64 X) (.int .u64 S) 31)
  clear hb
  go_wp2_with fail
  refine (unhide HO _).mono ?_
  rintro _ w7 ⟨rfl, hb⟩
  have HB := hide (bthen (unhide HB) hb)
  have HA := hide ((unhide HA).below hb)
  clear hb
  go_wp2_with fail
  refine (unhide HC _).mono ?_
  rintro _ w8 ⟨rfl, hb⟩
  have HB := hide (bthen (unhide HB) hb)
  have HA := hide ((unhide HA).below hb)
  clear hb
  go_wp2_with fail
  refine (unhide HT _).mono ?_
  rintro _ w9 ⟨rfl, hb⟩
  have HB := hide (bthen (unhide HB) hb)
  have HA := hide ((unhide HA).below hb)
  clear hb
  go_wp2_with fail
  refine (unhide HD2 _).mono ?_
  rintro _ w10 ⟨rfl, hb⟩
  have HB := hide (bthen (unhide HB) hb)
  have HA := hide ((unhide HA).below hb)
  clear hb
  go_wp2_with fail
  refine (unhide HD3 _).mono ?_
  rintro _ w11 ⟨rfl, hb⟩
  have HB := hide (bthen (unhide HB) hb)
  have HA := hide ((unhide HA).below hb)
  clear hb
  go_wp2_with fail
  refine (unhide HD4 _).mono ?_
  rintro _ w12 ⟨rfl, hb⟩
  have HB := hide (bthen (unhide HB) hb)
  have HA := hide ((unhide HA).below hb)
  clear hb
  obtain ⟨c0, c1, c2, c3⟩ := unhide HA
  go_wp2_with fail
  clear c0 c1 c2 c3
  refine (unhide HC2 _).mono ?_
  rintro _ w13 ⟨rfl, hb⟩
  have HB := hide (bthen (unhide HB) hb)
  have HA := hide ((unhide HA).below hb)
  clear hb
  obtain ⟨c0, c1, c2, c3⟩ := unhide HA
  go_wp2_with fail
  go_ret
  exact ⟨by simp, unhide HB⟩
set_option maxRecDepth 100000 in
set_option maxHeartbeats 2000000 in
theorem keeps_f64 {w x y s Z x' y' s' c o X S : Int} {n : Bool} (W : World) (g1 : (w != 32) = true) (g2 : (w != 64) = false) (HW : Hid (∀ W, Calls Try.prog 6 #[] W fun r W' => r = .returned (.bool true) ∧ Below W.heap.size W W')) (HO : Hid (∀ W, Calls Try.prog 11 #[.int .i64 w] W fun r W' => r = .returned (.int .u64 o) ∧ Below W.heap.size W W')) (HI : Hid (∀ W, Calls Try.prog 8 #[.int .i64 w, .int .u64 o] W fun r W' => r = .returned (.int .u64 o) ∧ Below W.heap.size W W')) (HZ : Hid (∀ W, Calls Try.prog 12 #[.int .i64 w, .bool true] W fun r W' => r = .returned (.int .u64 Z) ∧ Below W.heap.size W W')) (HD : Hid (∀ W, Calls Try.prog 7 #[.int .i64 w, .int .u64 x, .int .u64 y] W fun r W' => r = .returned (.int .u64 s) ∧ Below W.heap.size W W')) (HP : Hid (∀ W, Calls Try.prog 13 #[.int .i64 w, .int .u64 x] W fun r W' => r = .returned (.agg #[.bool n, .int .i64 1, .int .i64 X, .int .u64 S]) ∧ Below W.heap.size W W')) (HC : Hid (∀ W, Calls Try.prog 14 #[.int .i64 w, .int .u64 s] W fun r W' => r = .returned (.int .u64 s) ∧ Below W.heap.size W W')) (kx : bits .xor .u64 x Z = x') (HT : Hid (∀ W, Calls Try.prog 15 #[.int .i64 w, .int .u64 s] W fun r W' => r = .returned (.bool false) ∧ Below W.heap.size W W')) (ky : bits .xor .u64 y Z = y') (ks : bits .xor .u64 s Z = s') (HD2 : Hid (∀ W, Calls Try.prog 7 #[.int .i64 w, .int .u64 x', .int .u64 y] W fun r W' => r = .returned (.int .u64 s') ∧ Below W.heap.size W W')) (HD3 : Hid (∀ W, Calls Try.prog 7 #[.int .i64 w, .int .u64 x, .int .u64 y'] W fun r W' => r = .returned (.int .u64 s') ∧ Below W.heap.size W W')) (HD4 : Hid (∀ W, Calls Try.prog 7 #[.int .i64 w, .int .u64 x, .int .u64 o] W fun r W' => r = .returned (.int .u64 c) ∧ Below W.heap.size W W')) (HC2 : Hid (∀ W, Calls Try.prog 14 #[.int .i64 w, .int .u64 x] W fun r W' => r = .returned (.int .u64 c) ∧ Below W.heap.size W W')) (HD5 : Hid (∀ W, Calls Try.prog 7 #[.int .i64 w, .int .u64 x, .int .u64 x] W fun r W' => r = .returned (.int .u64 o) ∧ Below W.heap.size W W')) :
    Calls Try.prog 4 #[.int .i64 w, .int .u64 x, .int .u64 y] W fun r W' => r = .returned (.bool true) ∧ Below W.heap.size W W' := by
  go_enter Try.func4, Try.ntmps4
  go_wp2_with fail
  refine (unhide HW _).mono ?_
  rintro _ w1 ⟨rfl, hb⟩
  have HB := hide hb
  clear hb
  go_wp2_with fail
  refine (unhide HO _).mono ?_
  rintro _ w2 ⟨rfl, hb⟩
  have HB := hide (bthen (unhide HB) hb)
  clear hb
  go_wp2_with fail
  refine (unhide HI _).mono ?_
  rintro _ w3 ⟨rfl, hb⟩
  have HB := hide (bthen (unhide HB) hb)
  clear hb
  go_wp2_with fail
  refine (unhide HZ _).mono ?_
  rintro _ w4 ⟨rfl, hb⟩
  have HB := hide (bthen (unhide HB) hb)
  clear hb
  go_wp2_with fail
  refine (unhide HD _).mono ?_
  rintro _ w5 ⟨rfl, hb⟩
  have HB := hide (bthen (unhide HB) hb)
  clear hb
  go_wp2_with fail
  refine (unhide HP _).mono ?_
  rintro _ w6 ⟨rfl, hb⟩
  have HB := hide (bthen (unhide HB) hb)
  have HB := hide (balloc (unhide HB) (.cells #[.bool n, .int .i64 1, .int .i64 X, .int .u64 S] 31))
  have HA := hide (at4_new w6 (.bool n) (.int .i64 1) (.int .i64 X) (.int .u64 S) 31)
  clear hb
  go_wp2_with fail
  refine (unhide HO _).mono ?_
  rintro _ w7 ⟨rfl, hb⟩
  have HB := hide (bthen (unhide HB) hb)
  have HA := hide ((unhide HA).below hb)
  clear hb
  go_wp2_with fail
  refine (unhide HC _).mono ?_
  rintro _ w8 ⟨rfl, hb⟩
  have HB := hide (bthen (unhide HB) hb)
  have HA := hide ((unhide HA).below hb)
  clear hb
  go_wp2_with fail
  refine (unhide HT _).mono ?_
  rintro _ w9 ⟨rfl, hb⟩
  have HB := hide (bthen (unhide HB) hb)
  have HA := hide ((unhide HA).below hb)
  clear hb
  go_wp2_with fail
  refine (unhide HD2 _).mono ?_
  rintro _ w10 ⟨rfl, hb⟩
  have HB := hide (bthen (unhide HB) hb)
  have HA := hide ((unhide HA).below hb)
  clear hb
  go_wp2_with fail
  refine (unhide HD3 _).mono ?_
  rintro _ w11 ⟨rfl, hb⟩
  have HB := hide (bthen (unhide HB) hb)
  have HA := hide ((unhide HA).below hb)
  clear hb
  go_wp2_with fail
  refine (unhide HD4 _).mono ?_
  rintro _ w12 ⟨rfl, hb⟩
  have HB := hide (bthen (unhide HB) hb)
  have HA := hide ((unhide HA).below hb)
  clear hb
  go_wp2_with fail
  refine (unhide HC2 _).mono ?_
  rintro _ w13 ⟨rfl, hb⟩
  have HB := hide (bthen (unhide HB) hb)
  have HA := hide ((unhide HA).below hb)
  clear hb
  obtain ⟨c0, c1, c2, c3⟩ := unhide HA
  go_wp2_with fail
  clear c0 c1 c2 c3
  refine (unhide HD5 _).mono ?_
  rintro _ w14 ⟨rfl, hb⟩
  have HB := hide (bthen (unhide HB) hb)
  have HA := hide ((unhide HA).below hb)
  clear hb
  obtain ⟨c0, c1, c2, c3⟩ := unhide HA
  go_wp2_with fail
  go_ret
  exact ⟨by simp, unhide HB⟩

end Go.Proofs.Ytcgnlpamfhdiiaa
