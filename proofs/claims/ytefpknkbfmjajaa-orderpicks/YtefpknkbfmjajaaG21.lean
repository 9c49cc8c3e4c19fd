/- OrdB. -/
import Derived.Test.YtefpknkbfmjajaaG20
namespace Go.Proofs.Ytefpknkbfmjajaa
open Go.RowKit
open Go.Proofs.Ytefpknkbfmjajaa.W

set_option maxRecDepth 100000 in
set_option maxHeartbeats 2000000 in
theorem eq_c {x y : Int} (W : World)  :
    Calls Try.prog 25 #[.int .i64 x, .int .i64 y] W fun r W' => r = .returned (.bool (x == y)) ∧ Below W.heap.size W W' := by
  go_enter Try.func25, Try.ntmps25
  go_wp2_with fail
  go_ret
  exact ⟨by simp, Below.refl _ _⟩
set_option maxRecDepth 100000 in
set_option maxHeartbeats 2000000 in
theorem lt_c {x y : Int} (W : World)  :
    Calls Try.prog 27 #[.int .i64 x, .int .i64 y] W fun r W' => r = .returned (.bool (decide (x < y))) ∧ Below W.heap.size W W' := by
  go_enter Try.func27, Try.ntmps27
  go_wp2_with fail
  go_ret
  exact ⟨by simp, Below.refl _ _⟩
set_option maxRecDepth 100000 in
set_option maxHeartbeats 2000000 in
theorem gt_c {x y : Int} (W : World)  :
    Calls Try.prog 28 #[.int .i64 x, .int .i64 y] W fun r W' => r = .returned (.bool (decide (y < x))) ∧ Below W.heap.size W W' := by
  go_enter Try.func28, Try.ntmps28
  go_wp2_with fail
  go_ret
  exact ⟨by simp, Below.refl _ _⟩
set_option maxRecDepth 100000 in
set_option maxHeartbeats 2000000 in
theorem le_c {x y : Int} (W : World)  :
    Calls Try.prog 29 #[.int .i64 x, .int .i64 y] W fun r W' => r = .returned (.bool (decide (x ≤ y))) ∧ Below W.heap.size W W' := by
  go_enter Try.func29, Try.ntmps29
  go_wp2_with fail
  go_ret
  exact ⟨by simp, Below.refl _ _⟩
set_option maxRecDepth 100000 in
set_option maxHeartbeats 2000000 in
theorem ge_c {x y : Int} (W : World)  :
    Calls Try.prog 30 #[.int .i64 x, .int .i64 y] W fun r W' => r = .returned (.bool (decide (y ≤ x))) ∧ Below W.heap.size W W' := by
  go_enter Try.func30, Try.ntmps30
  go_wp2_with fail
  go_ret
  exact ⟨by simp, Below.refl _ _⟩
set_option maxRecDepth 100000 in
set_option maxHeartbeats 2000000 in
theorem ask_t_eq {w x y a b : Int} {t : Bool} (W : World) (H1 : Hid (∀ W, Calls Try.prog 18 #[.int .i64 w, .int .u64 x] W fun r W' => r = .returned (.tuple #[.int .i64 a, .bool true]) ∧ Below W.heap.size W W')) (H2 : Hid (∀ W, Calls Try.prog 18 #[.int .i64 w, .int .u64 y] W fun r W' => r = .returned (.tuple #[.int .i64 b, .bool true]) ∧ Below W.heap.size W W')) (H3 : Hid (∀ W, Calls Try.prog 25 #[.int .i64 a, .int .i64 b] W fun r W' => r = .returned (.bool t) ∧ Below W.heap.size W W')) :
    Calls Try.prog 24 #[.int .i64 w, .int .u64 x, .int .u64 y, .func (.func 25) #[] #[]] W fun r W' => r = .returned (.bool t) ∧ Below W.heap.size W W' := by
  go_enter Try.func24, Try.ntmps24
  go_wp2_with fail
  refine (unhide H1 _).mono ?_
  rintro _ w1 ⟨rfl, hb⟩
  have HB := hide hb
  clear hb
  go_wp2_with fail
  refine (unhide H2 _).mono ?_
  rintro _ w2 ⟨rfl, hb⟩
  have HB := hide (bthen (unhide HB) hb)
  clear hb
  go_wp2_with fail
  refine (unhide H3 _).mono ?_
  rintro _ w3 ⟨rfl, hb⟩
  have HB := hide (bthen (unhide HB) hb)
  clear hb
  go_wp2_with fail
  go_ret
  exact ⟨rfl, unhide HB⟩
set_option maxRecDepth 100000 in
set_option maxHeartbeats 2000000 in
theorem ask_t_lt {w x y a b : Int} {t : Bool} (W : World) (H1 : Hid (∀ W, Calls Try.prog 18 #[.int .i64 w, .int .u64 x] W fun r W' => r = .returned (.tuple #[.int .i64 a, .bool true]) ∧ Below W.heap.size W W')) (H2 : Hid (∀ W, Calls Try.prog 18 #[.int .i64 w, .int .u64 y] W fun r W' => r = .returned (.tuple #[.int .i64 b, .bool true]) ∧ Below W.heap.size W W')) (H3 : Hid (∀ W, Calls Try.prog 27 #[.int .i64 a, .int .i64 b] W fun r W' => r = .returned (.bool t) ∧ Below W.heap.size W W')) :
    Calls Try.prog 24 #[.int .i64 w, .int .u64 x, .int .u64 y, .func (.func 27) #[] #[]] W fun r W' => r = .returned (.bool t) ∧ Below W.heap.size W W' := by
  go_enter Try.func24, Try.ntmps24
  go_wp2_with fail
  refine (unhide H1 _).mono ?_
  rintro _ w1 ⟨rfl, hb⟩
  have HB := hide hb
  clear hb
  go_wp2_with fail
  refine (unhide H2 _).mono ?_
  rintro _ w2 ⟨rfl, hb⟩
  have HB := hide (bthen (unhide HB) hb)
  clear hb
  go_wp2_with fail
  refine (unhide H3 _).mono ?_
  rintro _ w3 ⟨rfl, hb⟩
  have HB := hide (bthen (unhide HB) hb)
  clear hb
  go_wp2_with fail
  go_ret
  exact ⟨rfl, unhide HB⟩
set_option maxRecDepth 100000 in
set_option maxHeartbeats 2000000 in
theorem ask_t_gt {w x y a b : Int} {t : Bool} (W : World) (H1 : Hid (∀ W, Calls Try.prog 18 #[.int .i64 w, .int .u64 x] W fun r W' => r = .returned (.tuple #[.int .i64 a, .bool true]) ∧ Below W.heap.size W W')) (H2 : Hid (∀ W, Calls Try.prog 18 #[.int .i64 w, .int .u64 y] W fun r W' => r = .returned (.tuple #[.int .i64 b, .bool true]) ∧ Below W.heap.size W W')) (H3 : Hid (∀ W, Calls Try.prog 28 #[.int .i64 a, .int .i64 b] W fun r W' => r = .returned (.bool t) ∧ Below W.heap.size W W')) :
    Calls Try.prog 24 #[.int .i64 w, .int .u64 x, .int .u64 y, .func (.func 28) #[] #[]] W fun r W' => r = .returned (.bool t) ∧ Below W.heap.size W W' := by
  go_enter Try.func24, Try.ntmps24
  go_wp2_with fail
  refine (unhide H1 _).mono ?_
  rintro _ w1 ⟨rfl, hb⟩
  have HB := hide hb
  clear hb
  go_wp2_with fail
  refine (unhide H2 _).mono ?_
  rintro _ w2 ⟨rfl, hb⟩
  have HB := hide (bthen (unhide HB) hb)
  clear hb
  go_wp2_with fail
  refine (unhide H3 _).mono ?_
  rintro _ w3 ⟨rfl, hb⟩
  have HB := hide (bthen (unhide HB) hb)
  clear hb
  go_wp2_with fail
  go_ret
  exact ⟨rfl, unhide HB⟩
set_option maxRecDepth 100000 in
set_option maxHeartbeats 2000000 in
theorem ask_t_le {w x y a b : Int} {t : Bool} (W : World) (H1 : Hid (∀ W, Calls Try.prog 18 #[.int .i64 w, .int .u64 x] W fun r W' => r = .returned (.tuple #[.int .i64 a, .bool true]) ∧ Below W.heap.size W W')) (H2 : Hid (∀ W, Calls Try.prog 18 #[.int .i64 w, .int .u64 y] W fun r W' => r = .returned (.tuple #[.int .i64 b, .bool true]) ∧ Below W.heap.size W W')) (H3 : Hid (∀ W, Calls Try.prog 29 #[.int .i64 a, .int .i64 b] W fun r W' => r = .returned (.bool t) ∧ Below W.heap.size W W')) :
    Calls Try.prog 24 #[.int .i64 w, .int .u64 x, .int .u64 y, .func (.func 29) #[] #[]] W fun r W' => r = .returned (.bool t) ∧ Below W.heap.size W W' := by
  go_enter Try.func24, Try.ntmps24
  go_wp2_with fail
  refine (unhide H1 _).mono ?_
  rintro _ w1 ⟨rfl, hb⟩
  have HB := hide hb
  clear hb
  go_wp2_with fail
  refine (unhide H2 _).mono ?_
  rintro _ w2 ⟨rfl, hb⟩
  have HB := hide (bthen (unhide HB) hb)
  clear hb
  go_wp2_with fail
  refine (unhide H3 _).mono ?_
  rintro _ w3 ⟨rfl, hb⟩
  have HB := hide (bthen (unhide HB) hb)
  clear hb
  go_wp2_with fail
  go_ret
  exact ⟨rfl, unhide HB⟩
set_option maxRecDepth 100000 in
set_option maxHeartbeats 2000000 in
theorem ask_t_ge {w x y a b : Int} {t : Bool} (W : World) (H1 : Hid (∀ W, Calls Try.prog 18 #[.int .i64 w, .int .u64 x] W fun r W' => r = .returned (.tuple #[.int .i64 a, .bool true]) ∧ Below W.heap.size W W')) (H2 : Hid (∀ W, Calls Try.prog 18 #[.int .i64 w, .int .u64 y] W fun r W' => r = .returned (.tuple #[.int .i64 b, .bool true]) ∧ Below W.heap.size W W')) (H3 : Hid (∀ W, Calls Try.prog 30 #[.int .i64 a, .int .i64 b] W fun r W' => r = .returned (.bool t) ∧ Below W.heap.size W W')) :
    Calls Try.prog 24 #[.int .i64 w, .int .u64 x, .int .u64 y, .func (.func 30) #[] #[]] W fun r W' => r = .returned (.bool t) ∧ Below W.heap.size W W' := by
  go_enter Try.func24, Try.ntmps24
  go_wp2_with fail
  refine (unhide H1 _).mono ?_
  rintro _ w1 ⟨rfl, hb⟩
  have HB := hide hb
  clear hb
  go_wp2_with fail
  refine (unhide H2 _).mono ?_
  rintro _ w2 ⟨rfl, hb⟩
  have HB := hide (bthen (unhide HB) hb)
  clear hb
  go_wp2_with fail
  refine (unhide H3 _).mono ?_
  rintro _ w3 ⟨rfl, hb⟩
  have HB := hide (bthen (unhide HB) hb)
  clear hb
  go_wp2_with fail
  go_ret
  exact ⟨rfl, unhide HB⟩
set_option maxRecDepth 100000 in
set_option maxHeartbeats 2000000 in
theorem ask_f1 {w x y a b : Int} {v : Value} {t : Bool} (W : World) (H1 : Hid (∀ W, Calls Try.prog 18 #[.int .i64 w, .int .u64 x] W fun r W' => r = .returned (.tuple #[.int .i64 a, .bool false]) ∧ Below W.heap.size W W')) (H2 : Hid (∀ W, Calls Try.prog 18 #[.int .i64 w, .int .u64 y] W fun r W' => r = .returned (.tuple #[.int .i64 b, .bool t]) ∧ Below W.heap.size W W')) :
    Calls Try.prog 24 #[.int .i64 w, .int .u64 x, .int .u64 y, v] W fun r W' => r = .returned (.bool false) ∧ Below W.heap.size W W' := by
  go_enter Try.func24, Try.ntmps24
  go_wp2_with fail
  refine (unhide H1 _).mono ?_
  rintro _ w1 ⟨rfl, hb⟩
  have HB := hide hb
  clear hb
  go_wp2_with fail
  refine (unhide H2 _).mono ?_
  rintro _ w2 ⟨rfl, hb⟩
  have HB := hide (bthen (unhide HB) hb)
  clear hb
  go_wp2_with fail
  go_ret
  exact ⟨rfl, unhide HB⟩
set_option maxRecDepth 100000 in
set_option maxHeartbeats 2000000 in
theorem ask_f2 {w x y a b : Int} {v : Value} (W : World) (H1 : Hid (∀ W, Calls Try.prog 18 #[.int .i64 w, .int .u64 x] W fun r W' => r = .returned (.tuple #[.int .i64 a, .bool true]) ∧ Below W.heap.size W W')) (H2 : Hid (∀ W, Calls Try.prog 18 #[.int .i64 w, .int .u64 y] W fun r W' => r = .returned (.tuple #[.int .i64 b, .bool false]) ∧ Below W.heap.size W W')) :
    Calls Try.prog 24 #[.int .i64 w, .int .u64 x, .int .u64 y, v] W fun r W' => r = .returned (.bool false) ∧ Below W.heap.size W W' := by
  go_enter Try.func24, Try.ntmps24
  go_wp2_with fail
  refine (unhide H1 _).mono ?_
  rintro _ w1 ⟨rfl, hb⟩
  have HB := hide hb
  clear hb
  go_wp2_with fail
  refine (unhide H2 _).mono ?_
  rintro _ w2 ⟨rfl, hb⟩
  have HB := hide (bthen (unhide HB) hb)
  clear hb
  go_wp2_with fail
  go_ret
  exact ⟨rfl, unhide HB⟩
set_option maxRecDepth 100000 in
set_option maxHeartbeats 2000000 in
theorem eq_l {w x y : Int} {t : Bool} (W : World) (H : Hid (∀ W, Calls Try.prog 24 #[.int .i64 w, .int .u64 x, .int .u64 y, .func (.func 25) #[] #[]] W fun r W' => r = .returned (.bool t) ∧ Below W.heap.size W W')) :
    Calls Try.prog 8 #[.int .i64 w, .int .u64 x, .int .u64 y] W fun r W' => r = .returned (.bool t) ∧ Below W.heap.size W W' := by
  go_enter Try.func8, Try.ntmps8
  go_wp2_with fail
  refine (unhide H _).mono ?_
  rintro _ w1 ⟨rfl, hb⟩
  have HB := hide hb
  clear hb
  go_wp2_with fail
  go_ret
  exact ⟨rfl, unhide HB⟩
set_option maxRecDepth 100000 in
set_option maxHeartbeats 2000000 in
theorem lt_l {w x y : Int} {t : Bool} (W : World) (H : Hid (∀ W, Calls Try.prog 24 #[.int .i64 w, .int .u64 x, .int .u64 y, .func (.func 27) #[] #[]] W fun r W' => r = .returned (.bool t) ∧ Below W.heap.size W W')) :
    Calls Try.prog 10 #[.int .i64 w, .int .u64 x, .int .u64 y] W fun r W' => r = .returned (.bool t) ∧ Below W.heap.size W W' := by
  go_enter Try.func10, Try.ntmps10
  go_wp2_with fail
  refine (unhide H _).mono ?_
  rintro _ w1 ⟨rfl, hb⟩
  have HB := hide hb
  clear hb
  go_wp2_with fail
  go_ret
  exact ⟨rfl, unhide HB⟩
set_option maxRecDepth 100000 in
set_option maxHeartbeats 2000000 in
theorem gt_l {w x y : Int} {t : Bool} (W : World) (H : Hid (∀ W, Calls Try.prog 24 #[.int .i64 w, .int .u64 x, .int .u64 y, .func (.func 28) #[] #[]] W fun r W' => r = .returned (.bool t) ∧ Below W.heap.size W W')) :
    Calls Try.prog 11 #[.int .i64 w, .int .u64 x, .int .u64 y] W fun r W' => r = .returned (.bool t) ∧ Below W.heap.size W W' := by
  go_enter Try.func11, Try.ntmps11
  go_wp2_with fail
  refine (unhide H _).mono ?_
  rintro _ w1 ⟨rfl, hb⟩
  have HB := hide hb
  clear hb
  go_wp2_with fail
  go_ret
  exact ⟨rfl, unhide HB⟩
set_option maxRecDepth 100000 in
set_option maxHeartbeats 2000000 in
theorem le_l {w x y : Int} {t : Bool} (W : World) (H : Hid (∀ W, Calls Try.prog 24 #[.int .i64 w, .int .u64 x, .int .u64 y, .func (.func 29) #[] #[]] W fun r W' => r = .returned (.bool t) ∧ Below W.heap.size W W')) :
    Calls Try.prog 12 #[.int .i64 w, .int .u64 x, .int .u64 y] W fun r W' => r = .returned (.bool t) ∧ Below W.heap.size W W' := by
  go_enter Try.func12, Try.ntmps12
  go_wp2_with fail
  refine (unhide H _).mono ?_
  rintro _ w1 ⟨rfl, hb⟩
  have HB := hide hb
  clear hb
  go_wp2_with fail
  go_ret
  exact ⟨rfl, unhide HB⟩
set_option maxRecDepth 100000 in
set_option maxHeartbeats 2000000 in
theorem ge_l {w x y : Int} {t : Bool} (W : World) (H : Hid (∀ W, Calls Try.prog 24 #[.int .i64 w, .int .u64 x, .int .u64 y, .func (.func 30) #[] #[]] W fun r W' => r = .returned (.bool t) ∧ Below W.heap.size W W')) :
    Calls Try.prog 13 #[.int .i64 w, .int .u64 x, .int .u64 y] W fun r W' => r = .returned (.bool t) ∧ Below W.heap.size W W' := by
  go_enter Try.func13, Try.ntmps13
  go_wp2_with fail
  refine (unhide H _).mono ?_
  rintro _ w1 ⟨rfl, hb⟩
  have HB := hide hb
  clear hb
  go_wp2_with fail
  go_ret
  exact ⟨rfl, unhide HB⟩
set_option maxRecDepth 100000 in
set_option maxHeartbeats 2000000 in
theorem ne_wf {w x y : Int} (W : World) (HKN : Hid (∀ W, Calls Try.prog 26 #[.int .i64 w] W fun r W' => r = .returned (.bool false) ∧ Below W.heap.size W W')) :
    Calls Try.prog 9 #[.int .i64 w, .int .u64 x, .int .u64 y] W fun r W' => r = .returned (.bool false) ∧ Below W.heap.size W W' := by
  go_enter Try.func9, Try.ntmps9
  go_wp2_with fail
  refine (unhide HKN _).mono ?_
  rintro _ w1 ⟨rfl, hb⟩
  have HB := hide hb
  clear hb
  go_wp2_with fail
  go_ret
  exact ⟨rfl, unhide HB⟩
set_option maxRecDepth 100000 in
set_option maxHeartbeats 2000000 in
theorem ne_wt {w x y : Int} {t : Bool} (W : World) (HKN : Hid (∀ W, Calls Try.prog 26 #[.int .i64 w] W fun r W' => r = .returned (.bool true) ∧ Below W.heap.size W W')) (H : Hid (∀ W, Calls Try.prog 8 #[.int .i64 w, .int .u64 x, .int .u64 y] W fun r W' => r = .returned (.bool t) ∧ Below W.heap.size W W')) :
    Calls Try.prog 9 #[.int .i64 w, .int .u64 x, .int .u64 y] W fun r W' => r = .returned (.bool (!t)) ∧ Below W.heap.size W W' := by
  go_enter Try.func9, Try.ntmps9
  go_wp2_with fail
  refine (unhide HKN _).mono ?_
  rintro _ w1 ⟨rfl, hb⟩
  have HB := hide hb
  clear hb
  go_wp2_with fail
  refine (unhide H _).mono ?_
  rintro _ w2 ⟨rfl, hb⟩
  have HB := hide (bthen (unhide HB) hb)
  clear hb
  go_wp2_with fail
  go_ret
  exact ⟨rfl, unhide HB⟩

end Go.Proofs.Ytefpknkbfmjajaa
