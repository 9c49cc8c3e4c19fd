/- OrdC. -/
import Derived.Test.YtefpknkbfmjajaaG21
namespace Go.Proofs.Ytefpknkbfmjajaa
open Go.RowKit
open Go.Proofs.Ytefpknkbfmjajaa.W

set_option maxRecDepth 100000 in
set_option maxHeartbeats 2000000 in
theorem or_c {x y z : Int} (W : World) (h : bits .or .u64 x y = z) :
    Calls Try.prog 36 #[.int .u64 x, .int .u64 y] W fun r W' => r = .returned (.int .u64 z) ∧ Below W.heap.size W W' := by
  go_enter Try.func36, Try.ntmps36
  go_wp2_with fail
  go_ret
  exact ⟨rfl, Below.refl _ _⟩
set_option maxRecDepth 100000 in
set_option maxHeartbeats 2000000 in
theorem and_c {x y z : Int} (W : World) (h : bits .and .u64 x y = z) :
    Calls Try.prog 37 #[.int .u64 x, .int .u64 y] W fun r W' => r = .returned (.int .u64 z) ∧ Below W.heap.size W W' := by
  go_enter Try.func37, Try.ntmps37
  go_wp2_with fail
  go_ret
  exact ⟨rfl, Below.refl _ _⟩
set_option maxRecDepth 100000 in
set_option maxHeartbeats 2000000 in
theorem pick_min_a {w x y V : Int} (W : World) (H1 : Hid (∀ W, Calls Try.prog 10 #[.int .i64 w, .int .u64 x, .int .u64 y] W fun r W' => r = .returned (.bool true) ∧ Below W.heap.size W W')) (HC : Hid (∀ W, Calls Try.prog 23 #[.int .i64 w, .int .u64 x] W fun r W' => r = .returned (.int .u64 V) ∧ Below W.heap.size W W')) :
    Calls Try.prog 35 #[.int .i64 w, .int .u64 x, .int .u64 y, .func (.func 10) #[] #[], .func (.func 36) #[] #[]] W fun r W' => r = .returned (.int .u64 V) ∧ Below W.heap.size W W' := by
  go_enter Try.func35, Try.ntmps35
  go_wp2_with fail
  refine (unhide H1 _).mono ?_
  rintro _ w1 ⟨rfl, hb⟩
  have HB := hide hb
  clear hb
  go_wp2_with fail
  refine (unhide HC _).mono ?_
  rintro _ w2 ⟨rfl, hb⟩
  have HB := hide (bthen (unhide HB) hb)
  clear hb
  go_wp2_with fail
  go_ret
  exact ⟨rfl, unhide HB⟩
set_option maxRecDepth 100000 in
set_option maxHeartbeats 2000000 in
theorem pick_min_b {w x y V : Int} (W : World) (H1 : Hid (∀ W, Calls Try.prog 10 #[.int .i64 w, .int .u64 x, .int .u64 y] W fun r W' => r = .returned (.bool false) ∧ Below W.heap.size W W')) (H2 : Hid (∀ W, Calls Try.prog 10 #[.int .i64 w, .int .u64 y, .int .u64 x] W fun r W' => r = .returned (.bool true) ∧ Below W.heap.size W W')) (HC : Hid (∀ W, Calls Try.prog 23 #[.int .i64 w, .int .u64 y] W fun r W' => r = .returned (.int .u64 V) ∧ Below W.heap.size W W')) :
    Calls Try.prog 35 #[.int .i64 w, .int .u64 x, .int .u64 y, .func (.func 10) #[] #[], .func (.func 36) #[] #[]] W fun r W' => r = .returned (.int .u64 V) ∧ Below W.heap.size W W' := by
  go_enter Try.func35, Try.ntmps35
  go_wp2_with fail
  refine (unhide H1 _).mono ?_
  rintro _ w1 ⟨rfl, hb⟩
  have HB := hide hb
  clear hb
  go_wp2_with fail
  refine (unhide H2 _).mono ?_
  rintro _ w2 ⟨rfl, hb⟩
  have HB := hide (bthen (unhide HB) hb)
  clear hb
  go_wp2_with fail
  refine (unhide HC _).mono ?_
  rintro _ w3 ⟨rfl, hb⟩
  have HB := hide (bthen (unhide HB) hb)
  clear hb
  go_wp2_with fail
  go_ret
  exact ⟨rfl, unhide HB⟩
set_option maxRecDepth 100000 in
set_option maxHeartbeats 2000000 in
theorem pick_min_e {w x y z V : Int} (W : World) (H1 : Hid (∀ W, Calls Try.prog 10 #[.int .i64 w, .int .u64 x, .int .u64 y] W fun r W' => r = .returned (.bool false) ∧ Below W.heap.size W W')) (H2 : Hid (∀ W, Calls Try.prog 10 #[.int .i64 w, .int .u64 y, .int .u64 x] W fun r W' => r = .returned (.bool false) ∧ Below W.heap.size W W')) (H3 : Hid (∀ W, Calls Try.prog 8 #[.int .i64 w, .int .u64 x, .int .u64 y] W fun r W' => r = .returned (.bool true) ∧ Below W.heap.size W W')) (HO : Hid (∀ W, Calls Try.prog 36 #[.int .u64 x, .int .u64 y] W fun r W' => r = .returned (.int .u64 z) ∧ Below W.heap.size W W')) (HC : Hid (∀ W, Calls Try.prog 23 #[.int .i64 w, .int .u64 z] W fun r W' => r = .returned (.int .u64 V) ∧ Below W.heap.size W W')) :
    Calls Try.prog 35 #[.int .i64 w, .int .u64 x, .int .u64 y, .func (.func 10) #[] #[], .func (.func 36) #[] #[]] W fun r W' => r = .returned (.int .u64 V) ∧ Below W.heap.size W W' := by
  go_enter Try.func35, Try.ntmps35
  go_wp2_with fail
  refine (unhide H1 _).mono ?_
  rintro _ w1 ⟨rfl, hb⟩
  have HB := hide hb
  clear hb
  go_wp2_with fail
  refine (unhide H2 _).mono ?_
  rintro _ w2 ⟨rfl, hb⟩
  have HB := hide (bthen (unhide HB) hb)
  clear hb
  go_wp2_with fail
  refine (unhide H3 _).mono ?_
  rintro _ w3 ⟨rfl, hb⟩
  have HB := hide (bthen (unhide HB) hb)
  clear hb
  go_wp2_with fail
  refine (unhide HO _).mono ?_
  rintro _ w4 ⟨rfl, hb⟩
  have HB := hide (bthen (unhide HB) hb)
  clear hb
  go_wp2_with fail
  refine (unhide HC _).mono ?_
  rintro _ w5 ⟨rfl, hb⟩
  have HB := hide (bthen (unhide HB) hb)
  clear hb
  go_wp2_with fail
  go_ret
  exact ⟨rfl, unhide HB⟩
set_option maxRecDepth 100000 in
set_option maxHeartbeats 2000000 in
theorem pick_min_n {w x y V : Int} (W : World) (H1 : Hid (∀ W, Calls Try.prog 10 #[.int .i64 w, .int .u64 x, .int .u64 y] W fun r W' => r = .returned (.bool false) ∧ Below W.heap.size W W')) (H2 : Hid (∀ W, Calls Try.prog 10 #[.int .i64 w, .int .u64 y, .int .u64 x] W fun r W' => r = .returned (.bool false) ∧ Below W.heap.size W W')) (H3 : Hid (∀ W, Calls Try.prog 8 #[.int .i64 w, .int .u64 x, .int .u64 y] W fun r W' => r = .returned (.bool false) ∧ Below W.heap.size W W')) (HN : Hid (∀ W, Calls Try.prog 22 #[.int .i64 w] W fun r W' => r = .returned (.int .u64 V) ∧ Below W.heap.size W W')) :
    Calls Try.prog 35 #[.int .i64 w, .int .u64 x, .int .u64 y, .func (.func 10) #[] #[], .func (.func 36) #[] #[]] W fun r W' => r = .returned (.int .u64 V) ∧ Below W.heap.size W W' := by
  go_enter Try.func35, Try.ntmps35
  go_wp2_with fail
  refine (unhide H1 _).mono ?_
  rintro _ w1 ⟨rfl, hb⟩
  have HB := hide hb
  clear hb
  go_wp2_with fail
  refine (unhide H2 _).mono ?_
  rintro _ w2 ⟨rfl, hb⟩
  have HB := hide (bthen (unhide HB) hb)
  clear hb
  go_wp2_with fail
  refine (unhide H3 _).mono ?_
  rintro _ w3 ⟨rfl, hb⟩
  have HB := hide (bthen (unhide HB) hb)
  clear hb
  go_wp2_with fail
  refine (unhide HN _).mono ?_
  rintro _ w4 ⟨rfl, hb⟩
  have HB := hide (bthen (unhide HB) hb)
  clear hb
  go_wp2_with fail
  go_ret
  exact ⟨rfl, unhide HB⟩
set_option maxRecDepth 100000 in
set_option maxHeartbeats 2000000 in
theorem min_l {w x y V : Int} (W : World) (H : Hid (∀ W, Calls Try.prog 35 #[.int .i64 w, .int .u64 x, .int .u64 y, .func (.func 10) #[] #[], .func (.func 36) #[] #[]] W fun r W' => r = .returned (.int .u64 V) ∧ Below W.heap.size W W')) :
    Calls Try.prog 16 #[.int .i64 w, .int .u64 x, .int .u64 y] W fun r W' => r = .returned (.int .u64 V) ∧ Below W.heap.size W W' := by
  go_enter Try.func16, Try.ntmps16
  go_wp2_with fail
  refine (unhide H _).mono ?_
  rintro _ w1 ⟨rfl, hb⟩
  have HB := hide hb
  clear hb
  go_wp2_with fail
  go_ret
  exact ⟨rfl, unhide HB⟩
set_option maxRecDepth 100000 in
set_option maxHeartbeats 2000000 in
theorem pick_max_a {w x y V : Int} (W : World) (H1 : Hid (∀ W, Calls Try.prog 11 #[.int .i64 w, .int .u64 x, .int .u64 y] W fun r W' => r = .returned (.bool true) ∧ Below W.heap.size W W')) (HC : Hid (∀ W, Calls Try.prog 23 #[.int .i64 w, .int .u64 x] W fun r W' => r = .returned (.int .u64 V) ∧ Below W.heap.size W W')) :
    Calls Try.prog 35 #[.int .i64 w, .int .u64 x, .int .u64 y, .func (.func 11) #[] #[], .func (.func 37) #[] #[]] W fun r W' => r = .returned (.int .u64 V) ∧ Below W.heap.size W W' := by
  go_enter Try.func35, Try.ntmps35
  go_wp2_with fail
  refine (unhide H1 _).mono ?_
  rintro _ w1 ⟨rfl, hb⟩
  have HB := hide hb
  clear hb
  go_wp2_with fail
  refine (unhide HC _).mono ?_
  rintro _ w2 ⟨rfl, hb⟩
  have HB := hide (bthen (unhide HB) hb)
  clear hb
  go_wp2_with fail
  go_ret
  exact ⟨rfl, unhide HB⟩
set_option maxRecDepth 100000 in
set_option maxHeartbeats 2000000 in
theorem pick_max_b {w x y V : Int} (W : World) (H1 : Hid (∀ W, Calls Try.prog 11 #[.int .i64 w, .int .u64 x, .int .u64 y] W fun r W' => r = .returned (.bool false) ∧ Below W.heap.size W W')) (H2 : Hid (∀ W, Calls Try.prog 11 #[.int .i64 w, .int .u64 y, .int .u64 x] W fun r W' => r = .returned (.bool true) ∧ Below W.heap.size W W')) (HC : Hid (∀ W, Calls Try.prog 23 #[.int .i64 w, .int .u64 y] W fun r W' => r = .returned (.int .u64 V) ∧ Below W.heap.size W W')) :
    Calls Try.prog 35 #[.int .i64 w, .int .u64 x, .int .u64 y, .func (.func 11) #[] #[], .func (.func 37) #[] #[]] W fun r W' => r = .returned (.int .u64 V) ∧ Below W.heap.size W W' := by
  go_enter Try.func35, Try.ntmps35
  go_wp2_with fail
  refine (unhide H1 _).mono ?_
  rintro _ w1 ⟨rfl, hb⟩
  have HB := hide hb
  clear hb
  go_wp2_with fail
  refine (unhide H2 _).mono ?_
  rintro _ w2 ⟨rfl, hb⟩
  have HB := hide (bthen (unhide HB) hb)
  clear hb
  go_wp2_with fail
  refine (unhide HC _).mono ?_
  rintro _ w3 ⟨rfl, hb⟩
  have HB := hide (bthen (unhide HB) hb)
  clear hb
  go_wp2_with fail
  go_ret
  exact ⟨rfl, unhide HB⟩
set_option maxRecDepth 100000 in
set_option maxHeartbeats 2000000 in
theorem pick_max_e {w x y z V : Int} (W : World) (H1 : Hid (∀ W, Calls Try.prog 11 #[.int .i64 w, .int .u64 x, .int .u64 y] W fun r W' => r = .returned (.bool false) ∧ Below W.heap.size W W')) (H2 : Hid (∀ W, Calls Try.prog 11 #[.int .i64 w, .int .u64 y, .int .u64 x] W fun r W' => r = .returned (.bool false) ∧ Below W.heap.size W W')) (H3 : Hid (∀ W, Calls Try.prog 8 #[.int .i64 w, .int .u64 x, .int .u64 y] W fun r W' => r = .returned (.bool true) ∧ Below W.heap.size W W')) (HO : Hid (∀ W, Calls Try.prog 37 #[.int .u64 x, .int .u64 y] W fun r W' => r = .returned (.int .u64 z) ∧ Below W.heap.size W W')) (HC : Hid (∀ W, Calls Try.prog 23 #[.int .i64 w, .int .u64 z] W fun r W' => r = .returned (.int .u64 V) ∧ Below W.heap.size W W')) :
    Calls Try.prog 35 #[.int .i64 w, .int .u64 x, .int .u64 y, .func (.func 11) #[] #[], .func (.func 37) #[] #[]] W fun r W' => r = .returned (.int .u64 V) ∧ Below W.heap.size W W' := by
  go_enter Try.func35, Try.ntmps35
  go_wp2_with fail
  refine (unhide H1 _).mono ?_
  rintro _ w1 ⟨rfl, hb⟩
  have HB := hide hb
  clear hb
  go_wp2_with fail
  refine (unhide H2 _).mono ?_
  rintro _ w2 ⟨rfl, hb⟩
  have HB := hide (bthen (unhide HB) hb)
  clear hb
  go_wp2_with fail
  refine (unhide H3 _).mono ?_
  rintro _ w3 ⟨rfl, hb⟩
  have HB := hide (bthen (unhide HB) hb)
  clear hb
  go_wp2_with fail
  refine (unhide HO _).mono ?_
  rintro _ w4 ⟨rfl, hb⟩
  have HB := hide (bthen (unhide HB) hb)
  clear hb
  go_wp2_with fail
  refine (unhide HC _).mono ?_
  rintro _ w5 ⟨rfl, hb⟩
  have HB := hide (bthen (unhide HB) hb)
  clear hb
  go_wp2_with fail
  go_ret
  exact ⟨rfl, unhide HB⟩
set_option maxRecDepth 100000 in
set_option maxHeartbeats 2000000 in
theorem pick_max_n {w x y V : Int} (W : World) (H1 : Hid (∀ W, Calls Try.prog 11 #[.int .i64 w, .int .u64 x, .int .u64 y] W fun r W' => r = .returned (.bool false) ∧ Below W.heap.size W W')) (H2 : Hid (∀ W, Calls Try.prog 11 #[.int .i64 w, .int .u64 y, .int .u64 x] W fun r W' => r = .returned (.bool false) ∧ Below W.heap.size W W')) (H3 : Hid (∀ W, Calls Try.prog 8 #[.int .i64 w, .int .u64 x, .int .u64 y] W fun r W' => r = .returned (.bool false) ∧ Below W.heap.size W W')) (HN : Hid (∀ W, Calls Try.prog 22 #[.int .i64 w] W fun r W' => r = .returned (.int .u64 V) ∧ Below W.heap.size W W')) :
    Calls Try.prog 35 #[.int .i64 w, .int .u64 x, .int .u64 y, .func (.func 11) #[] #[], .func (.func 37) #[] #[]] W fun r W' => r = .returned (.int .u64 V) ∧ Below W.heap.size W W' := by
  go_enter Try.func35, Try.ntmps35
  go_wp2_with fail
  refine (unhide H1 _).mono ?_
  rintro _ w1 ⟨rfl, hb⟩
  have HB := hide hb
  clear hb
  go_wp2_with fail
  refine (unhide H2 _).mono ?_
  rintro _ w2 ⟨rfl, hb⟩
  have HB := hide (bthen (unhide HB) hb)
  clear hb
  go_wp2_with fail
  refine (unhide H3 _).mono ?_
  rintro _ w3 ⟨rfl, hb⟩
  have HB := hide (bthen (unhide HB) hb)
  clear hb
  go_wp2_with fail
  refine (unhide HN _).mono ?_
  rintro _ w4 ⟨rfl, hb⟩
  have HB := hide (bthen (unhide HB) hb)
  clear hb
  go_wp2_with fail
  go_ret
  exact ⟨rfl, unhide HB⟩
set_option maxRecDepth 100000 in
set_option maxHeartbeats 2000000 in
theorem max_l {w x y V : Int} (W : World) (H : Hid (∀ W, Calls Try.prog 35 #[.int .i64 w, .int .u64 x, .int .u64 y, .func (.func 11) #[] #[], .func (.func 37) #[] #[]] W fun r W' => r = .returned (.int .u64 V) ∧ Below W.heap.size W W')) :
    Calls Try.prog 17 #[.int .i64 w, .int .u64 x, .int .u64 y] W fun r W' => r = .returned (.int .u64 V) ∧ Below W.heap.size W W' := by
  go_enter Try.func17, Try.ntmps17
  go_wp2_with fail
  refine (unhide H _).mono ?_
  rintro _ w1 ⟨rfl, hb⟩
  have HB := hide hb
  clear hb
  go_wp2_with fail
  go_ret
  exact ⟨rfl, unhide HB⟩

end Go.Proofs.Ytefpknkbfmjajaa
