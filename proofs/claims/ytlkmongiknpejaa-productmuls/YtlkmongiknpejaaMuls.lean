/- The statements ProductMuls and ProductTwice: their walks. -/
import Derived.Test.YtlkmongiknpejaaProdA
namespace Go.Proofs.Ytlkmongiknpejaa
open Go.RowKit
open Go.Proofs.Ytlkmongiknpejaa.W

set_option maxRecDepth 100000 in
set_option maxHeartbeats 2000000 in
theorem muls_t {w x y U : Int} (W : World) (HW : Hid (∀ W, Calls Try.prog 7 #[] W fun r W' => r = .returned (.bool true) ∧ Below W.heap.size W W')) (HA : Hid (∀ W, Calls Try.prog 8 #[.int .i64 w, .int .u64 x, .int .u64 y] W fun r W' => r = .returned (.int .u64 U) ∧ Below W.heap.size W W')) (HK : Hid (∀ W, Calls Try.prog 9 #[.int .i64 w] W fun r W' => r = .returned (.bool true) ∧ Below W.heap.size W W')) (HA2 : Hid (∀ W, Calls Try.prog 10 #[.int .i64 w, .int .u64 x, .int .u64 y] W fun r W' => r = .returned (.int .u64 U) ∧ Below W.heap.size W W')) :
    Calls Try.prog 3 #[.int .i64 w, .int .u64 x, .int .u64 y] W fun r W' => r = .returned (.bool true) ∧ Below W.heap.size W W' := by
  go_enter Try.func3, Try.ntmps3
  go_wp2_with fail
  refine (unhide HW _).mono ?_
  rintro _ w1 ⟨rfl, hb⟩
  have HB := hide hb
  clear hb
  go_wp2_with fail
  refine (unhide HA _).mono ?_
  rintro _ w2 ⟨rfl, hb⟩
  have HB := hide (bthen (unhide HB) hb)
  clear hb
  go_wp2_with fail
  refine (unhide HK _).mono ?_
  rintro _ w3 ⟨rfl, hb⟩
  have HB := hide (bthen (unhide HB) hb)
  clear hb
  go_wp2_with fail
  refine (unhide HA2 _).mono ?_
  rintro _ w4 ⟨rfl, hb⟩
  have HB := hide (bthen (unhide HB) hb)
  clear hb
  go_wp2_with fail
  go_ret
  exact ⟨by simp, unhide HB⟩
set_option maxRecDepth 100000 in
set_option maxHeartbeats 2000000 in
theorem muls_f {w x y : Int} (W : World) (HW : Hid (∀ W, Calls Try.prog 7 #[] W fun r W' => r = .returned (.bool true) ∧ Below W.heap.size W W')) (HA : Hid (∀ W, Calls Try.prog 8 #[.int .i64 w, .int .u64 x, .int .u64 y] W fun r W' => r = .returned (.int .u64 0) ∧ Below W.heap.size W W')) (HK : Hid (∀ W, Calls Try.prog 9 #[.int .i64 w] W fun r W' => r = .returned (.bool false) ∧ Below W.heap.size W W')) :
    Calls Try.prog 3 #[.int .i64 w, .int .u64 x, .int .u64 y] W fun r W' => r = .returned (.bool true) ∧ Below W.heap.size W W' := by
  go_enter Try.func3, Try.ntmps3
  go_wp2_with fail
  refine (unhide HW _).mono ?_
  rintro _ w1 ⟨rfl, hb⟩
  have HB := hide hb
  clear hb
  go_wp2_with fail
  refine (unhide HA _).mono ?_
  rintro _ w2 ⟨rfl, hb⟩
  have HB := hide (bthen (unhide HB) hb)
  clear hb
  go_wp2_with fail
  refine (unhide HK _).mono ?_
  rintro _ w3 ⟨rfl, hb⟩
  have HB := hide (bthen (unhide HB) hb)
  clear hb
  go_wp2_with fail
  go_ret
  exact ⟨rfl, unhide HB⟩
set_option maxRecDepth 100000 in
set_option maxHeartbeats 2000000 in
theorem twice_t {w x B B1 T U : Int} (W : World) (HW : Hid (∀ W, Calls Try.prog 7 #[] W fun r W' => r = .returned (.bool true) ∧ Below W.heap.size W W')) (HK : Hid (∀ W, Calls Try.prog 9 #[.int .i64 w] W fun r W' => r = .returned (.bool true) ∧ Below W.heap.size W W')) (HB0 : Hid (∀ W, Calls Try.prog 20 #[.int .i64 w] W fun r W' => r = .returned (.int .i64 B) ∧ Below W.heap.size W W')) (kb : IntKind.i64.wrap (B + 1) = B1) (HM : Hid (∀ W, Calls Try.prog 19 #[.int .i64 w, .bool false, .int .i64 B1, .int .u64 0] W fun r W' => r = .returned (.int .u64 T) ∧ Below W.heap.size W W')) (HA : Hid (∀ W, Calls Try.prog 8 #[.int .i64 w, .int .u64 x, .int .u64 T] W fun r W' => r = .returned (.int .u64 U) ∧ Below W.heap.size W W')) (HS : Hid (∀ W, Calls Try.prog 21 #[.int .i64 w, .int .u64 x, .int .u64 x] W fun r W' => r = .returned (.int .u64 U) ∧ Below W.heap.size W W')) (HC : Hid (∀ W, Calls Try.prog 12 #[.int .i64 w, .int .u64 x, .int .i64 1] W fun r W' => r = .returned (.int .u64 U) ∧ Below W.heap.size W W')) :
    Calls Try.prog 6 #[.int .i64 w, .int .u64 x] W fun r W' => r = .returned (.bool true) ∧ Below W.heap.size W W' := by
  go_enter Try.func6, Try.ntmps6
  go_wp2_with fail
  refine (unhide HW _).mono ?_
  rintro _ w1 ⟨rfl, hb⟩
  have HB := hide hb
  clear hb
  go_wp2_with fail
  refine (unhide HK _).mono ?_
  rintro _ w2 ⟨rfl, hb⟩
  have HB := hide (bthen (unhide HB) hb)
  clear hb
  go_wp2_with fail
  refine (unhide HB0 _).mono ?_
  rintro _ w3 ⟨rfl, hb⟩
  have HB := hide (bthen (unhide HB) hb)
  clear hb
  go_wp2_with fail
  refine (unhide HM _).mono ?_
  rintro _ w4 ⟨rfl, hb⟩
  have HB := hide (bthen (unhide HB) hb)
  clear hb
  go_wp2_with fail
  refine (unhide HA _).mono ?_
  rintro _ w5 ⟨rfl, hb⟩
  have HB := hide (bthen (unhide HB) hb)
  clear hb
  go_wp2_with fail
  refine (unhide HS _).mono ?_
  rintro _ w6 ⟨rfl, hb⟩
  have HB := hide (bthen (unhide HB) hb)
  clear hb
  go_wp2_with fail
  refine (unhide HC _).mono ?_
  rintro _ w7 ⟨rfl, hb⟩
  have HB := hide (bthen (unhide HB) hb)
  clear hb
  go_wp2_with fail
  refine (unhide HS _).mono ?_
  rintro _ w8 ⟨rfl, hb⟩
  have HB := hide (bthen (unhide HB) hb)
  clear hb
  go_wp2_with fail
  go_ret
  exact ⟨by simp, unhide HB⟩
set_option maxRecDepth 100000 in
set_option maxHeartbeats 2000000 in
theorem twice_f {w x : Int} (W : World) (HW : Hid (∀ W, Calls Try.prog 7 #[] W fun r W' => r = .returned (.bool true) ∧ Below W.heap.size W W')) (HK : Hid (∀ W, Calls Try.prog 9 #[.int .i64 w] W fun r W' => r = .returned (.bool false) ∧ Below W.heap.size W W')) :
    Calls Try.prog 6 #[.int .i64 w, .int .u64 x] W fun r W' => r = .returned (.bool true) ∧ Below W.heap.size W W' := by
  go_enter Try.func6, Try.ntmps6
  go_wp2_with fail
  refine (unhide HW _).mono ?_
  rintro _ w1 ⟨rfl, hb⟩
  have HB := hide hb
  clear hb
  go_wp2_with fail
  refine (unhide HK _).mono ?_
  rintro _ w2 ⟨rfl, hb⟩
  have HB := hide (bthen (unhide HB) hb)
  clear hb
  go_wp2_with fail
  go_ret
  exact ⟨rfl, unhide HB⟩

end Go.Proofs.Ytlkmongiknpejaa
