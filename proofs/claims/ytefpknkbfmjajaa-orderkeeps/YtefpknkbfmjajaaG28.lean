/- OrdP. -/
import Derived.Test.YtefpknkbfmjajaaG27
namespace Go.Proofs.Ytefpknkbfmjajaa
open Go.RowKit
open Go.Proofs.Ytefpknkbfmjajaa.W

set_option maxRecDepth 100000 in
set_option maxHeartbeats 2000000 in
theorem rpick_n {w x y t a b c V : Int} {n : Bool} (W : World) (H1 : Hid (∀ W, Calls Try.prog 39 #[.int .i64 w, .int .u64 x] W fun r W' => r = .returned (.int .u64 a) ∧ Below W.heap.size W W')) (H2 : Hid (∀ W, Calls Try.prog 39 #[.int .i64 w, .int .u64 y] W fun r W' => r = .returned (.int .u64 b) ∧ Below W.heap.size W W')) (H3 : Hid (∀ W, Calls Try.prog 15 #[.int .i64 w, .int .u64 a, .int .u64 b] W fun r W' => r = .returned (.int .i64 c) ∧ Below W.heap.size W W')) (e2 : (c == 2) = true) (HN : Hid (∀ W, Calls Try.prog 40 #[.int .i64 w] W fun r W' => r = .returned (.int .u64 V) ∧ Below W.heap.size W W')) :
    Calls Try.prog 19 #[.int .i64 w, .int .u64 x, .int .u64 y, .int .i64 t, .bool n] W fun r W' => r = .returned (.int .u64 V) ∧ Below W.heap.size W W' := by
  go_enter Try.func19, Try.ntmps19
  go_wp2_with fail
  refine (unhide H1 _).mono ?_
  rintro _ w1 ⟨rfl, hb⟩
  have HB := hide hb
  clear hb
  go_wp2_with fail
  refine (unhide H2 _).mono ?_
  rintro _ w2 ⟨rfl, hb⟩
  have HB := hide (bthen (unhide HB) hb)
  clear hb
  go_wp2_with fail
  refine (unhide H3 _).mono ?_
  rintro _ w3 ⟨rfl, hb⟩
  have HB := hide (bthen (unhide HB) hb)
  clear hb
  go_wp2_with fail
  refine (unhide HN _).mono ?_
  rintro _ w4 ⟨rfl, hb⟩
  have HB := hide (bthen (unhide HB) hb)
  clear hb
  go_wp2_with fail
  go_ret
  exact ⟨rfl, unhide HB⟩
set_option maxRecDepth 100000 in
set_option maxHeartbeats 2000000 in
theorem rpick_w {w x y t a b c : Int} {n : Bool} (W : World) (H1 : Hid (∀ W, Calls Try.prog 39 #[.int .i64 w, .int .u64 x] W fun r W' => r = .returned (.int .u64 a) ∧ Below W.heap.size W W')) (H2 : Hid (∀ W, Calls Try.prog 39 #[.int .i64 w, .int .u64 y] W fun r W' => r = .returned (.int .u64 b) ∧ Below W.heap.size W W')) (H3 : Hid (∀ W, Calls Try.prog 15 #[.int .i64 w, .int .u64 a, .int .u64 b] W fun r W' => r = .returned (.int .i64 c) ∧ Below W.heap.size W W')) (e2 : (c == 2) = false) (e3 : (c == t) = true) :
    Calls Try.prog 19 #[.int .i64 w, .int .u64 x, .int .u64 y, .int .i64 t, .bool n] W fun r W' => r = .returned (.int .u64 a) ∧ Below W.heap.size W W' := by
  go_enter Try.func19, Try.ntmps19
  go_wp2_with fail
  refine (unhide H1 _).mono ?_
  rintro _ w1 ⟨rfl, hb⟩
  have HB := hide hb
  clear hb
  go_wp2_with fail
  refine (unhide H2 _).mono ?_
  rintro _ w2 ⟨rfl, hb⟩
  have HB := hide (bthen (unhide HB) hb)
  clear hb
  go_wp2_with fail
  refine (unhide H3 _).mono ?_
  rintro _ w3 ⟨rfl, hb⟩
  have HB := hide (bthen (unhide HB) hb)
  clear hb
  go_wp2_with fail
  go_ret
  exact ⟨rfl, unhide HB⟩
set_option maxRecDepth 100000 in
set_option maxHeartbeats 2000000 in
theorem rpick_o {w x y t a b c : Int} {n : Bool} (W : World) (H1 : Hid (∀ W, Calls Try.prog 39 #[.int .i64 w, .int .u64 x] W fun r W' => r = .returned (.int .u64 a) ∧ Below W.heap.size W W')) (H2 : Hid (∀ W, Calls Try.prog 39 #[.int .i64 w, .int .u64 y] W fun r W' => r = .returned (.int .u64 b) ∧ Below W.heap.size W W')) (H3 : Hid (∀ W, Calls Try.prog 15 #[.int .i64 w, .int .u64 a, .int .u64 b] W fun r W' => r = .returned (.int .i64 c) ∧ Below W.heap.size W W')) (e2 : (c == 2) = false) (e3 : (c == t) = false) (e0 : (c == 0) = false) :
    Calls Try.prog 19 #[.int .i64 w, .int .u64 x, .int .u64 y, .int .i64 t, .bool n] W fun r W' => r = .returned (.int .u64 b) ∧ Below W.heap.size W W' := by
  go_enter Try.func19, Try.ntmps19
  go_wp2_with fail
  refine (unhide H1 _).mono ?_
  rintro _ w1 ⟨rfl, hb⟩
  have HB := hide hb
  clear hb
  go_wp2_with fail
  refine (unhide H2 _).mono ?_
  rintro _ w2 ⟨rfl, hb⟩
  have HB := hide (bthen (unhide HB) hb)
  clear hb
  go_wp2_with fail
  refine (unhide H3 _).mono ?_
  rintro _ w3 ⟨rfl, hb⟩
  have HB := hide (bthen (unhide HB) hb)
  clear hb
  go_wp2_with fail
  go_ret
  exact ⟨rfl, unhide HB⟩
set_option maxRecDepth 100000 in
set_option maxHeartbeats 2000000 in
theorem rpick_e {w x y t a b c : Int} {n g : Bool} (W : World) (H1 : Hid (∀ W, Calls Try.prog 39 #[.int .i64 w, .int .u64 x] W fun r W' => r = .returned (.int .u64 a) ∧ Below W.heap.size W W')) (H2 : Hid (∀ W, Calls Try.prog 39 #[.int .i64 w, .int .u64 y] W fun r W' => r = .returned (.int .u64 b) ∧ Below W.heap.size W W')) (H3 : Hid (∀ W, Calls Try.prog 15 #[.int .i64 w, .int .u64 a, .int .u64 b] W fun r W' => r = .returned (.int .i64 c) ∧ Below W.heap.size W W')) (H4 : Hid (∀ W, Calls Try.prog 41 #[.int .i64 w, .int .u64 a] W fun r W' => r = .returned (.bool g) ∧ Below W.heap.size W W')) (e2 : (c == 2) = false) (e3 : (c == t) = false) (e0 : (c == 0) = true) (e4 : (g == n) = true) :
    Calls Try.prog 19 #[.int .i64 w, .int .u64 x, .int .u64 y, .int .i64 t, .bool n] W fun r W' => r = .returned (.int .u64 a) ∧ Below W.heap.size W W' := by
  go_enter Try.func19, Try.ntmps19
  go_wp2_with fail
  refine (unhide H1 _).mono ?_
  rintro _ w1 ⟨rfl, hb⟩
  have HB := hide hb
  clear hb
  go_wp2_with fail
  refine (unhide H2 _).mono ?_
  rintro _ w2 ⟨rfl, hb⟩
  have HB := hide (bthen (unhide HB) hb)
  clear hb
  go_wp2_with fail
  refine (unhide H3 _).mono ?_
  rintro _ w3 ⟨rfl, hb⟩
  have HB := hide (bthen (unhide HB) hb)
  clear hb
  go_wp2_with fail
  refine (unhide H4 _).mono ?_
  rintro _ w4 ⟨rfl, hb⟩
  have HB := hide (bthen (unhide HB) hb)
  clear hb
  go_wp2_with fail
  go_ret
  exact ⟨rfl, unhide HB⟩
set_option maxRecDepth 100000 in
set_option maxHeartbeats 2000000 in
theorem rpick_f {w x y t a b c : Int} {n g : Bool} (W : World) (H1 : Hid (∀ W, Calls Try.prog 39 #[.int .i64 w, .int .u64 x] W fun r W' => r = .returned (.int .u64 a) ∧ Below W.heap.size W W')) (H2 : Hid (∀ W, Calls Try.prog 39 #[.int .i64 w, .int .u64 y] W fun r W' => r = .returned (.int .u64 b) ∧ Below W.heap.size W W')) (H3 : Hid (∀ W, Calls Try.prog 15 #[.int .i64 w, .int .u64 a, .int .u64 b] W fun r W' => r = .returned (.int .i64 c) ∧ Below W.heap.size W W')) (H4 : Hid (∀ W, Calls Try.prog 41 #[.int .i64 w, .int .u64 a] W fun r W' => r = .returned (.bool g) ∧ Below W.heap.size W W')) (e2 : (c == 2) = false) (e3 : (c == t) = false) (e0 : (c == 0) = true) (e4 : (g == n) = false) :
    Calls Try.prog 19 #[.int .i64 w, .int .u64 x, .int .u64 y, .int .i64 t, .bool n] W fun r W' => r = .returned (.int .u64 b) ∧ Below W.heap.size W W' := by
  go_enter Try.func19, Try.ntmps19
  go_wp2_with fail
  refine (unhide H1 _).mono ?_
  rintro _ w1 ⟨rfl, hb⟩
  have HB := hide hb
  clear hb
  go_wp2_with fail
  refine (unhide H2 _).mono ?_
  rintro _ w2 ⟨rfl, hb⟩
  have HB := hide (bthen (unhide HB) hb)
  clear hb
  go_wp2_with fail
  refine (unhide H3 _).mono ?_
  rintro _ w3 ⟨rfl, hb⟩
  have HB := hide (bthen (unhide HB) hb)
  clear hb
  go_wp2_with fail
  refine (unhide H4 _).mono ?_
  rintro _ w4 ⟨rfl, hb⟩
  have HB := hide (bthen (unhide HB) hb)
  clear hb
  go_wp2_with fail
  go_ret
  exact ⟨rfl, unhide HB⟩

end Go.Proofs.Ytefpknkbfmjajaa
